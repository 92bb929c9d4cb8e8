import PyProof.Rows.All
import Wide.All
import OpenK.KCall
import OpenK.KWalk
import OpenK.KOwn
import Open.Pieces
import KE.KTryMore
import KE.KIsAll
import KE.KItem
import KE.KRevIter
import KE.KxBytes
import Wide.FinOn
import PyProof.EqAt
import PyProof.EqKinds
import PyProof.TupleCall
import PyProof.ExcArgsOwn
import PySem.Challenge.RW_doughhours_k25_order_book
local macro_rules | `(tactic| walk_at "v0") => `(tactic| (first | exact Or.inl rfl | exact Or.inr (Or.inl rfl) | exact Or.inr (Or.inr rfl)))
local macro_rules | `(tactic| walk_at "v1") => `(tactic| (first | exact Or.inr (by decide) | exact Or.inl (by assumption)))
local macro_rules | `(tactic| walk_at "v2") => `(tactic| (first | exact .inl rfl | exact .inr rfl | assumption))
local macro_rules | `(tactic| walk_at "v3") => `(tactic| (first | exact Or.inl rfl | exact Or.inr rfl))
set_option Elab.async false
set_option linter.all false
set_option maxRecDepth 100000
set_option maxHeartbeats 4000000
namespace L2
open PySem PySem.Spec PyProof.Rows
noncomputable def q01 (s:Stmt) (j:Nat):Stmt:=match s with
 | .ClassDef _ _ _ body _ _ _ _ _ _ _=>body.getD j (.Pass ⟨0,0,0,0⟩)
 | _=>.Pass ⟨0,0,0,0⟩
noncomputable def q08 (s:Stmt):Arguments:=match s with
 | .FunctionDef _ a _ _ _ _ _ _ _ _=>a
 | _=>{ posonlyargs:=[],args:=[],vararg:=none,kwonlyargs:=[],kw_defaults:=[],kwarg:=none,defaults:=[] }
noncomputable def q0Q (s:Stmt):List Stmt:=match s with
 | .FunctionDef _ _ b _ _ _ _ _ _ _=>b
 | _=>[]
noncomputable def q0g (s:Stmt):Scope:=match s with
 | .FunctionDef _ _ _ _ _ _ sc _ _ _=>sc
 | _=>{ kind:=.function,names:=[],isGenerator:=false,isCoroutine:=false }
end L2
set_option autoImplicit false
namespace L3
open PySem
namespace Tp
open PySem.W
structure TS where
 t:BT
 n:Nat
 k:Nat
 md:Value
 ns:List DictEntry
 cl:List Value
noncomputable def marks (k:Nat):List Str->List Value
 | []=>[]
 | x::l=>.str x k::marks (k+1) l
noncomputable def q0w (l:List Value):Obj:=⟨.type "tuple",none,.seq ⟨l⟩ 0,#[]⟩
noncomputable def fldO (c:Value) (l:List Value):Obj:=⟨c,none,.fields ⟨l⟩,#[]⟩
noncomputable def dicO (l:List DictEntry) (e:Nat):Obj:=⟨.type "dict",none,.dict ⟨l⟩ e,#[]⟩
noncomputable def file:Str:="/claim/cut.py"
noncomputable def j4T (n k:Nat) (name qual:Str) (line argc fl:Nat) (isF:Bool) (tab:List Value) (loc:Option (List Str×List Str)) (tpl:Option FuncData):List Obj×Nat×Nat:=
 let a:=match loc with
  | some (x,y)=>([q0w (marks (k+3) x),q0w (marks (k+3+x.length) y)],k+3+x.length+y.length,n+4,Value.ref (n+2),Value.ref (n+3))
  | none=>([],k+3,n+2,Value.none,Value.none)
 let b:=match tpl with
  | some f=>([Obj.mk .none none (.func f) #[]],a.2.2.1+1,Value.ref a.2.2.1)
  | none=>([],a.2.2.1,Value.none)
 (q0w []::fldO .none tab::a.1++b.1++[fldO (.type "code") [.str name k,.str qual (k+1),.str file (k+2),.int line 0,.int argc 0,.int 0 0,.int 0 0,.int fl 0,.ref n,.bool isF,.int 181 0,.ref (n+1),.none,a.2.2.2.1,a.2.2.2.2,b.2.2,.int a.2.1 0,.int line 0,.str file (a.2.1+1)]],a.2.1+2,b.2.1)
noncomputable def q52 (k:Nat):Expr->Value
 | .Constant (.int i) _ _=>.int i k
 | .Constant (.str x) _ _=>.str x k
 | .Constant (.bool b) _ _=>.bool b
 | _=>.none
noncomputable def consts (k:Nat):List Expr->List Value
 | []=>[]
 | e::l=>q52 k e::consts (k+1) l
noncomputable def j7T (n k:Nat) (md:Value) (pre:Str) (name:Str) (p:Arguments) (body:List Stmt) (sc:Scope) (pos:Pos):List Obj×Nat×Nat×List Value:=
 let d:=p.defaults.length
 let n1:=match d with | 0=>n | _=>n+1
 let qual:=pre++name
 let c:=j4T n1 (k+d) name qual pos.line p.args.length 3 true [] (localNames p sc (.stmts body)) (some { name,qualname:=qual,params:=p,body:=.stmts body,scope:=sc,globals:=builtinsNs,closure:=[],defaults:=.none,kwdefaults:=.none })
 ((match d with | 0=>[] | _=>[q0w (consts k p.defaults)])++c.1++[⟨.type "function",none,.func { name,qualname:=qual,params:=p,body:=.stmts body,scope:=sc,globals:=mainNs,closure:=[],defaults:=match d with | 0=>.none | _=>.ref n,kwdefaults:=.none,pyModule:=md,code:=.ref c.2.2 },#[]⟩],
  c.2.1,c.2.2+2,[.int pos.line 0,.int pos.col 0,.ref c.2.2])
noncomputable def ent (P:Params) (x:Str) (k:Nat) (v:Value):DictEntry:=⟨PyData.keyHash P x,.str x k,v⟩
noncomputable def j3Z (P:Params) (md:Value) (pre:Str):Nat->Nat->List Stmt->List Obj×Nat×Nat×List Value×List DictEntry
 | n,k,.FunctionDef name p body _ _ _ sc _ _ pos::l=>
  let a:=j7T n k md pre name p body sc pos
  let r:=j3Z P md pre a.2.2.1 (a.2.1+1) l
  (a.1++r.1,r.2.1,r.2.2.1,a.2.2.2++r.2.2.2.1,ent P name a.2.1 (.ref (a.2.2.1-1))::r.2.2.2.2)
 | n,k,_=>([],k,n,[],[])
noncomputable def lookN (x:Str):List DictEntry->Option Value
 | []=>none
 | e::l=>match e.key.isStr x with
  | true=>some e.val
  | false=>lookN x l
noncomputable def j1w (s:TS):List Expr->Option (Value×Bool×List Value)
 | [.Name x _]=>match lookN x s.ns with
  | some (.ref a)=>match s.t.get a with
   | some ⟨_,_,.cls c,_⟩=>some (.ref a,true,c.mro)
   | _=>none
  | _=>some (.type "ValueError",false,[.type "ValueError",.type "Exception",.type "BaseException",.type "object"])
 | _=>none
noncomputable def q6l:BT->Nat->List Obj->BT
 | t,_,[]=>t
 | t,n,o::l=>q6l (t.ins n o) (n+1) l
noncomputable def j5l (P:Params) (s:TS) (name:Str) (bases:List Expr) (body:List Stmt) (st:List Str) (pos:Pos):List Obj×Nat×Value×List Value:=
 let n:=s.n
 let k:=s.k
 let b:=j1w s bases
 let exc:=b.isSome
 let f:=j3Z P s.md (name++Str.ofString ".") (n+7) (k+12) body
 let k1:=f.2.1
 let n1:=f.2.2.1
 let c:=j4T (n+3) (k+2) name name pos.line 0 0 false f.2.2.2.1 none none
 let m:=ent P "__module__" (k+7) s.md
 let line:=ent P "__firstlineno__" (k+11) (.int pos.line (k+10))
 let sa:=ent P "__static_attributes__" (k1+st.length) (.ref n1)
 let k2:=k1+st.length+1
 let T:=n1+2
 let dd:=match exc with
  | true=>(([]:List Obj),([]:List DictEntry),k2,n1+3)
  | false=>([fldO (.type "getset_descriptor") [.str "__dict__" k2,.ref T,.builtin "function.__dict__",.builtin "function.__dict__#set"]],[ent P "__dict__" (k2+1) (.ref (n1+3))],k2+2,n1+4)
 let own:=match b with | some (_,o,_)=>o | none=>false
 let ww:=match own with
  | true=>(([]:List Obj),([]:List DictEntry),dd.2.2.1)
  | false=>([fldO (.type "getset_descriptor") [.str "__weakref__" dd.2.2.1,.ref T,.builtin "ExceptionGroup.__weakref__",.none]],[ent P "__weakref__" (dd.2.2.1+1) (.ref dd.2.2.2)],dd.2.2.1+2)
 let k3:=ww.2.2
 let bv:=match b with | some (v,_,_)=>[v] | none=>[]
 let mro:=match b with | some (_,_,r)=>r | none=>[.type "object"]
 ([q0w bv,fldO (.type "builtin_function_or_method") [.builtin "type.__prepare__",.type "type"],dicO ([m,ent P "__qualname__" (k+9) (.str name (k+8)),line]++f.2.2.2.2++[sa]) (4+f.2.2.2.2.length)]++c.1
  ++ [⟨.type "frame",none,.plain,#[some (.ref (n+5)),some (.ref 3),some (.ref (n+2)),none,some s.md,none,some (.ref 0)]⟩]++f.1
  ++ [q0w (marks k1 st),dicO ([m,line]++f.2.2.2.2++[sa]++dd.2.1++ww.2.1++[ent P "__doc__" k3 .none]) (2+dd.1.length+ww.1.length),
   ⟨.type "type",none,.cls { name,bases:=(match bv with | []=>[.type "object"] | _=>bv),mro:=.ref T::mro,ns:=n1+1,qualname:=name },#[match bv with | []=>none | _=>some (.ref n),none,some (.str name k),some (.str name (k+8)),some (.builtin (match exc with | true=>"ValueError.__new__" | false=>"object.__new__")),some (.bool true)]⟩]
  ++ dd.1++ww.1++[fldO (.type "super") [.ref T,.ref T,.ref T],fldO (.type "builtin_function_or_method") [.builtin "object.__init_subclass__",.ref T]],
  k3+2,.ref T,[.int pos.line 0,.int pos.col 0,.ref (n+5)])
noncomputable def j5D (v:Value):Obj->Obj
 | ⟨c,d,.cls k,z⟩=>⟨c,d,.cls { k with subclasses:=k.subclasses++[v] },z⟩
 | o=>o
noncomputable def j7K (P:Params) (x:Str) (k:Nat) (v:Value):List DictEntry->List DictEntry
 | []=>[ent P x k v]
 | e::l=>match e.key.isStr x with
  | true=>⟨e.hash,e.key,v⟩::l
  | false=>e::j7K P x k v l
noncomputable def step (P:Params) (s:TS):Stmt->TS
 | .FunctionDef name p body _ _ _ sc _ _ pos=>
  let a:=j7T s.n s.k s.md Str.empty name p body sc pos
  { s with t:=q6l s.t s.n a.1,n:=a.2.2.1,k:=a.2.1+1,ns:=s.ns++[ent P name a.2.1 (.ref (a.2.2.1-1))],cl:=s.cl++a.2.2.2 }
 | .ClassDef name bases _ body _ _ _ _ _ st pos=>
  let a:=j5l P s name bases body st pos
  { s with t:=(match j1w s bases with | some (.ref b,_,_)=>(q6l s.t s.n a.1).set b (j5D a.2.2.1) | _=>q6l s.t s.n a.1),n:=s.n+a.1.length,k:=a.2.1+1,ns:=s.ns++[ent P name a.2.1 a.2.2.1],cl:=s.cl++a.2.2.2 }
 | .Assign [.Name x _] (.Tuple es _ _) _=>{ s with t:=s.t.ins s.n (q0w (consts s.k es)),n:=s.n+1,k:=s.k+es.length+1,ns:=s.ns++[ent P x (s.k+es.length) (.ref s.n)] }
 | .Assign [.Name x _] (.UnaryOp _ (.Constant (.int i) _ _) _) _=>{ s with k:=s.k+3,ns:=s.ns++[ent P x (s.k+2) (.int (-i) (s.k+1))] }
 | .Assign [.Name x _] e _=>match x==Str.ofString "__name__" with
  | true=>{ s with k:=s.k+2,md:=q52 s.k e,ns:=j7K P x (s.k+1) (q52 s.k e) s.ns }
  | false=>{ s with k:=s.k+2,ns:=s.ns++[ent P x (s.k+1) (q52 s.k e)] }
 | _=>s
end Tp
end L3
namespace L3
open PySem
namespace Hd
open PyProof.Rows
open PySem.W
noncomputable def j7F:List Obj->Nat->BT->BT
 | [],_,t=>t
 | o::l,n,t=>j7F l (n+1) (t.ins n o)
noncomputable def toT (s:Shared):SharedT:=⟨j7F s.heap.objs.toList 0 .nil,s.heap.objs.size,s.heap.life,s.gens,s.drawn,s.toks,s.os⟩
noncomputable def s0 (w:World) (os:OsState):Shared:=⟨boot_heap w.params,Array.mk [],boot_drawn,boot_toks,os⟩
noncomputable def pre (p:Program) (w:World) (os:OsState) (k0:Nat):Option (Shared×Thread):=topGo treeTable p w 11 (some (.ref 6)) k0 (s0 w os) (topStub p)
noncomputable def sa (p:Program) (w:World) (os:OsState) (k0:Nat):Shared:=match pre p w os k0 with
 | some (s,_)=>s
 | none=>s0 w os
noncomputable def env (p:Program):Env:={ scope:=p.main.scope,locals:=mainNs,globals:=mainNs,cells:=[],code:=.ref 13,frame:=some 14 }
noncomputable def cd (p:Program):Code:=.body (behindTheImports p) (env p)
noncomputable def z0:Pos:=⟨0,0,0,0⟩
noncomputable def blk (p:Program) (w:World) (os:OsState) (k0 kb:Nat):Option (Flow×Shared×Code×Pos):=segRun treeTable p w 11 (some (.ref 6)) 1 kb (sa p w os k0) (blockOf (behindTheImports p) (env p) (cd p) z0 [topFrame z0])
noncomputable def tb (p:Program) (w:World) (os:OsState) (k0 kb:Nat):SharedT:=match blk p w os k0 kb with
 | some (_,s,_,_)=>toT s
 | none=>toT (s0 w os)
noncomputable def ini (b:SharedT):Tp.TS:=
 let ns:=match b.tree.get 3 with
  | some ⟨_,_,.dict es _,_⟩=>es.toList
  | _=>[]
 ⟨b.tree,b.n,b.toks,match Tp.lookN "__name__" ns with | some v=>v | none=>.none,ns,[]⟩
noncomputable def sh (os:OsState) (b:SharedT) (s:Tp.TS):SharedT:=⟨(s.t.ins 3 (Tp.dicO s.ns s.ns.length)).ins 12 (Tp.fldO .none s.cl),s.n,b.life,b.gens,b.drawn,s.k,os⟩
noncomputable def stt (p:Program) (w:World) (os:OsState) (k0 kb j:Nat):SharedT:=sh os (tb p w os k0 kb) (((behindTheImports p).take j).foldl (Tp.step w.params) (ini (tb p w os k0 kb)))
noncomputable def run1 (p:Program) (w:World) (n:Nat) (s:SharedT) (l:List Stmt) (pos:Pos):Option (Flow×SharedT×Code×Pos):=PySem.W.Fast.tw10110043849684766642 PySem.W.Fast.tw14364793385576792824 p w 11 (some (.ref 6)) 1 n s (piecesOf l (env p) (cd p) pos [topFrame z0])
noncomputable def Ch (p:Program) (k0 kb j m n:Nat) (pa pz:Pos):Prop:=∀(w:World) (os:OsState),run1 p w n (stt p w os k0 kb j) (((behindTheImports p).drop j).take m) pa=some (.next,stt p w os k0 kb (j+m),cd p,pz)
theorem j2o {p:Program} {w:World} {n:Nat} {s:SharedT} {l:List Stmt} {pos:Pos}:segRunT treeTable p w 11 (some (.ref 6)) 1 n s (piecesOf l (env p) (cd p) pos [topFrame z0])=run1 p w n s l pos:=by
 unfold run1
 rw [PySem.W.Fast.te10110043849684766642,PySem.W.Fast.te14364793385576792824]
noncomputable def To (p:Program) (k0 kb j N:Nat) (pa:Pos) (J:Nat):Prop:=∀(w:World) (os:OsState),topRun treeTable p w 11 (some (.ref 6)) N (stt p w os k0 kb j).abs (restOf ((behindTheImports p).drop j) (env p) (cd p) pa [topFrame z0])=some (stt p w os k0 kb J).abs
theorem To.of {p:Program} {k0 kb j m n N J:Nat} {pa pz:Pos} (h:Ch p k0 kb j m n pa pz) (t:To p k0 kb (j+m) N pz J):To p k0 kb j (n+N) pa J:=λw os=>by
 have h3:=segRun_of (j2o.trans (h w os))
 have:=piece_app (rest:=(behindTheImports p).drop (j+m)) h3 (t w os)
 rwa [<-List.drop_drop,List.take_append_drop] at this
theorem To.fin {p:Program} {k0 kb J:Nat} {pz:Pos} (h:(behindTheImports p).drop J=[]):To p k0 kb J 4 pz J:=λw os=>by
 rw [h]
 exact piece_nil rfl
noncomputable def E1 (p:Program) (k0:Nat):Prop:=∀(w:World) (os:OsState),(pre p w os k0).map Prod.snd=some ⟨denote treeTable (cd p),cd p,z0,[topFrame z0]⟩
noncomputable def E2 (p:Program) (k0 kb:Nat):Prop:=∀(w:World) (os:OsState),blk p w os k0 kb=some (.next,(tb p w os k0 kb).abs,cd p,z0)
noncomputable def lkA (p q:Program) (Xt:Shared->Bool) (w:World) (s:Shared):List Bool:=
 [staticsOk (importedModules p.main.body) (boot_heap w.params) s.heap,namesBound p s.heap,gensDone s,laidKept (boot_heap w.params) s.heap,s.heap.isNs mainGlobals && s.heap.isNs builtinsNs && tablesOk q s.heap,Xt s && (s.gens.size==0)]
noncomputable def lk3 (p q:Program) (loose:List Str) (s:Shared):Bool:=s.heap.keysOk (looseW q loose) ((PyProof.Rows.recsOf q).map (·.name)) ((litsOf q).map (·.1)) ((clssOf q (looseW q loose)).map (·.name)) && s.heap.accountedOkI (importedModules p.main.body)
noncomputable def sfn (p:Program) (w:World) (os:OsState) (k0 kb J:Nat):Shared:=(stt p w os k0 kb J).abs
noncomputable def E3 (p q:Program) (Xt:Shared->Bool) (k0 kb J:Nat):Prop:=∀(w:World) (os:OsState),lkA p q Xt w (sfn p w os k0 kb J)=[true,true,true,true,true,true]
noncomputable def E4 {α:Type} (p:Program) (Yf:World->Shared->α) (Ya:World->α) (k0 kb J:Nat):Prop:=∀(w:World) (os:OsState),Yf w (sfn p w os k0 kb J)=Ya w
theorem left_whole {p q:Program} {loose:List Str} {Xt:Shared->Bool} {α β γ:Type} {Yf:Shared->α×β×γ} {Ya:World->α×β×γ} {N k0 kb kp J:Nat}
 (e:opening p=plainProg p.main.scope.names) (hN:Nat.ble 600 N=true) (f:∀s,fenceModules? p s=some s) (le:Nat.ble (k0+(kb+kp)) N=true)
 (size:∀w:World,((boot_heap w.params).isNs mainGlobals && (Array.mk []:Array GenState).size==0,(boot_heap w.params).objs.size,(boot_heap w.params).nsMap mainGlobals "__annotations__")=(true,11,some (.ref 6)))
 (e1:E1 p k0) (e2:E2 p k0 kb) (ei:∀(w:World) (os:OsState),stt p w os k0 kb 0=tb p w os k0 kb) (et:To p k0 kb 0 kp z0 J) (e3:E3 p q Xt k0 kb J)
 (e5:E4 p (λ_ s=>PyProof.Rows.seen ((PyProof.Rows.recsOf q).map (·.name)) (ownsOf q) [] { s with gens:=#[] }) (λ_=>PyProof.Rows.expectedOf q) k0 kb J)
 (e6:E4 p (λ_ s=>(s.heap.bltView,tabsOk q s,pinSeenD q (drecsOf q) s)) (λ_=>(bltViewBooted,true,pinGoodD (drecsOf q))) k0 kb J)
 (e7:E4 p (λ_ s=>lk3 p q loose s) (λ_=>true) k0 kb J)
 (e8:E4 p (λ_ s=>(plainSeenE q (looseW q loose) s,plainSeenD q loose s,wideSeen q s,clsSeenW q loose s)) (λ_=>(plainGoodE q (looseW q loose),plainGoodD q loose,wideGood q,clsGoodW q loose)) k0 kb J)
 (e4:E4 p (λ_ s=>(Yf s).1) (λw=>(Ya w).1) k0 kb J) (e9:E4 p (λ_ s=>(Yf s).2.1) (λw=>(Ya w).2.1) k0 kb J) (e10:E4 p (λ_ s=>(Yf s).2.2) (λw=>(Ya w).2.2) k0 kb J):LeftO p q loose Xt Yf Ya N:=λw=>by
 obtain ⟨⟨h,gs,d,k,os⟩,ho,e'⟩:=Option.map_eq_some_iff.mp (boot_open (N:=N) e hN f w)
 obtain ⟨rfl,rfl,rfl,rfl⟩:h=boot_heap w.params/\gs=Array.mk []/\d=boot_drawn/\k=boot_toks:=by simpa using e'
 obtain ⟨z1,z2,z3⟩:_/\_/\_:=by simpa only [Prod.mk.injEq] using size w
 have hA:=e3 w os
 generalize hsf:sfn p w os k0 kb J=sf at hA
 simp only [lkA,List.cons.injEq,and_true] at hA
 obtain ⟨a1,a2,a3,a4,a5,a6⟩:=hA
 have one:∀{β:Type} {Y:World->Shared->β} {v:World->β},E4 p Y v k0 kb J->Y w sf=v w:=λ{β Y v} h4=>by
  have h4:=h4 w os
  rw [hsf] at h4
  exact h4
 have l1:(staticsOk (importedModules p.main.body) (boot_heap w.params) sf.heap && namesBound p sf.heap && gensDone sf && laidKept (boot_heap w.params) sf.heap)=true:=by
  rw [a1,a2,a3,a4];rfl
 have b5:=one e5
 have b6:(sf.heap.bltView,tabsOk q sf,pinSeenD q (drecsOf q) sf)=(bltViewBooted,true,pinGoodD (drecsOf q)):=one e6
 have b7:lk3 p q loose sf=true:=one e7
 have b8:(plainSeenE q (looseW q loose) sf,plainSeenD q loose sf,wideSeen q sf,clsSeenW q loose sf)=(plainGoodE q (looseW q loose),plainGoodD q loose,wideGood q,clsGoodW q loose):=one e8
 have l2:openSeen q loose (importedModules p.main.body) Xt true sf=openGood q loose:=by
  obtain ⟨b61,b62⟩:=Prod.mk.inj b6
  obtain ⟨b62,b63⟩:=Prod.mk.inj b62
  obtain ⟨b81,b82⟩:=Prod.mk.inj b8
  obtain ⟨b82,b83⟩:=Prod.mk.inj b82
  obtain ⟨b83,b84⟩:=Prod.mk.inj b83
  obtain ⟨b71,b72⟩:=Bool.and_eq_true_iff.mp b7
  obtain ⟨a5,a53⟩:=Bool.and_eq_true_iff.mp a5
  obtain ⟨a51,a52⟩:=Bool.and_eq_true_iff.mp a5
  obtain ⟨a61,a62⟩:=Bool.and_eq_true_iff.mp a6
  unfold openSeen openGood
  rw [b71,b72,a51,a52,a53,a61,b61,b62,b63,b81,b82,b83,b84]
  refine Prod.ext b5 (Prod.ext rfl (Prod.ext ?_ rfl))
  simpa using a62
 have l3:Yf sf=Ya w:=Prod.ext (one e4) (Prod.ext (one e9) (one e10))
 obtain ⟨⟨s1,t1⟩,h1,ht⟩:=Option.map_eq_some_iff.mp (e1 w os)
 have ht':t1=_:=ht
 subst ht'
 have hsa:sa p w os k0=s1:=by unfold sa;rw [h1]
 have h2:=e2 w os
 unfold blk at h2
 rw [hsa] at h2
 have r1:topRun treeTable p w 11 (some (.ref 6)) kp (tb p w os k0 kb).abs (restOf (behindTheImports p) (env p) (cd p) z0 [topFrame z0])=some sf:=by
  have:=et w os
  rw [ei w os] at this
  exact this.trans (congrArg some hsf)
 have r:topRun treeTable p w 11 (some (.ref 6)) (k0+(kb+kp)) ⟨boot_heap w.params,Array.mk [],boot_drawn,boot_toks,os⟩ (topStub p)=some sf:=
  go_top h1 (piece_block h2 r1)
 have r:=topRun_mono (N-(k0+(kb+kp))) _ _ _ _ r
 rw [show k0+(kb+kp)+(N-(k0+(kb+kp)))=N by have:=Nat.le_of_ble_eq_true le;omega] at r
 have t:topFrom treeTable p w N ⟨boot_heap w.params,Array.mk [],boot_drawn,boot_toks,os⟩=some sf:=by
  unfold topFrom
  dsimp only
  rw [z1,z2,z3,r]
  show (match staticsOk (importedModules p.main.body) (boot_heap w.params) sf.heap && namesBound p sf.heap && gensDone sf && laidKept (boot_heap w.params) sf.heap with | true=>_ | false=>_)=_
  rw [l1]
 unfold openEnds
 rw [ho]
 show (topFrom treeTable p w N _).map _=_
 rw [t]
 exact congrArg some (Prod.ext l2 l3)
noncomputable def kOf (as:List Addr) (h:Heap):Frag:=as.filterMap λa=>(h.get? a).map λo=>(a,o)
theorem j5A (as:List Addr) (h:Heap):(kOf as h).In h:=by
 intro a o e
 induction as with
 | nil=>cases e
 | cons b l ih=>
  unfold kOf at e
  rw [List.filterMap_cons] at e
  cases hb:h.get? b with
  | none=>rw [hb] at e;exact ih e
  | some ob=>
   rw [hb] at e
   dsimp only [Option.map_some] at e
   rw [List.lookup_cons] at e
   by_cases q:(a==b)=true
   ·rw [q] at e
    cases e
    rw [beq_iff_eq.mp q]
    exact hb
   ·rw [Bool.eq_false_iff.mpr q] at e
    exact ih e
noncomputable def says {α:Type} (look:Frag->α) (v:α) (h:Heap):Prop:=∃K:Frag,K.In h/\look K=v
theorem says_of {α:Type} {look:Frag->α} {v:α} (as:List Addr) (s:Shared) (e:look (kOf as s.heap)=v):says look v s.heap:=⟨_,j5A as s.heap,e⟩
theorem says_keeps {α:Type} {look:Frag->α} {v:α} {h h':Heap} (e:says look v h) (k:∀b o,h.get? b=some o->h'.get? b=some o):says look v h':=by
 obtain ⟨K,i,e⟩:=e
 exact ⟨K,λa o q=>k _ _ (i a o q),e⟩
theorem row {α:Type} {l m:List α} (h:l=m) (i:Nat) {a b:α} (ha:l[i]?=some a) (hb:m[i]?=some b):a=b:=by
 subst h
 rw [ha] at hb
 exact Option.some.inj hb
end Hd
end L3
namespace Lw
open PySem L2
noncomputable def top (i:Nat):Stmt:=PySem.Challenge.pw_doughhours_k25_order_book.main.body.getD i (.Pass ⟨0,0,0,0⟩)
noncomputable abbrev s_1:Stmt:=top 19
noncomputable abbrev s_2:Stmt:=top 20
noncomputable abbrev s_3:Stmt:=top 21
noncomputable abbrev s_4:Stmt:=q01 (top 25) 0
noncomputable abbrev s_6:Stmt:=q01 (top 31) 0
noncomputable abbrev s_7:Stmt:=q01 (top 32) 0
noncomputable abbrev s_8:Stmt:=top 33
noncomputable abbrev s_9:Stmt:=top 34
noncomputable abbrev j6m:Stmt:=top 35
noncomputable abbrev j5Y:Stmt:=top 36
noncomputable abbrev j6x:Stmt:=q01 (top 39) 0
noncomputable abbrev j6E:Stmt:=q01 (top 40) 0
noncomputable abbrev j6f:Stmt:=q01 (top 79) 0
noncomputable abbrev j56:Stmt:=q01 (top 79) 1
noncomputable abbrev j6e:Stmt:=q01 (top 79) 2
noncomputable abbrev j5N:Stmt:=q01 (top 85) 0
noncomputable abbrev j5Z:Stmt:=q01 (top 85) 1
noncomputable abbrev j5O:Stmt:=top 86
noncomputable abbrev j53:Stmt:=q01 (top 90) 0
noncomputable abbrev j5Q:Stmt:=q01 (top 91) 0
noncomputable abbrev j52:Stmt:=top 93
noncomputable abbrev j5R:Stmt:=top 94
noncomputable abbrev j6a:Stmt:=top 95
noncomputable abbrev j6l:Stmt:=top 96
noncomputable abbrev j5S:Stmt:=top 97
noncomputable abbrev j6d:Stmt:=top 98
noncomputable abbrev j6c:Stmt:=top 99
noncomputable abbrev j54:Stmt:=top 100
noncomputable abbrev j6i:Stmt:=top 101
noncomputable abbrev j6h:Stmt:=top 102
end Lw
namespace Lw
open PySem PySem.W PyProof.Rows L2 L3
noncomputable def hAs:List Addr:=[2,3,15,17,18,20,21,22,29,30,31,32,35,42,43,44,47,54,55,56,59,66,67,68,71,78,79,80,83,90,91,92,95,102,103,104,107,114,115,116,119,126,127,128,131,138,139,140,143,150,151,152,155,162,163,164,167,174,175,176,179,182,183,184,186,187,189,190,191,193,194,196,197,205,207,208,210,211,212,213,214,215,216,219,221,222,224,225,233,235,236,238,239,240,241,242,243,244,254,256,257,259,260,261,262,263,264,265,268,271,272,273,275,276,278,279,280,282,283,285,286,287,289,290,292,293,294,296,297,299,300,308,309,311,312,314,315,316,318,319,321,322,323,325,326,328,329,330,331,332,333,334,344,346,347,349,350,351,352,353,354,355,358,360,361,363,364,365,367,368,370,371,372,374,375,377,378,379,381,382,384,385,386,389,390,391,394,395,396,399,400,401,402,404,405,407,408,409,411,412,414,415,416,418,419,421,422,423,425,426,428,429,430,433,434,435,437,438,440,441,442,445,446,447,450,451,452,455,456,457,459,460,462,463,464,467,468,469,472,473,474,477,478,479,481,482,484,485,486,489,490,491,494,495,496,498,499,501,502,503,506,507,508,510,511,513,514,515,517,518,520,521,522,525,526,534,536,537,539,540,541,543,544,546,547,548,550,551,553,554,555,557,558,560,561,562,564,565,567,568,569,570,571,572,573,583,586,587,588,590,591,593,594,595,596,597,598,599,602,604,605,607,608,609,617,618,620,621,623,624,625,626,627,628,629,639,641,642,644,645,646,648,649,651,652,653,655,656,658,659,660,663,664,665,666,667,668,669,672,674,675,677,678,679,681,682,684,685,686,689,690,691,693,694,696,697,698,700,701,703,704,705,708,709,710,712,713,715,716,717,719,720,722,723,724,726,727,729,730,731,734,735]
noncomputable abbrev nI (K:Frag) (x:Str):=nsIn K mainGlobals x
noncomputable abbrev mFd (n q:Str) (s:Stmt) (d m:Value) (c:Addr):FuncData:=fnOf n q (q08 s) (q0Q s) (q0g s) d .none .none m none (.ref c) .none
noncomputable abbrev fo (d:FuncData):Obj:=⟨.type "function",none,.func d,#[]⟩
noncomputable def q1S (K:Frag) (f c:Addr) (q:Str) (a:Option (Option Value)):=(K.lookup f,codeIn K (.ref c) q,keepIn K (.ref f),isFn K (.ref f),a)
noncomputable def q1T (f:Addr) (d:FuncData):Option Obj×Bool×Bool×Bool×Option (Option Value):=(some (fo d),true,true,true,some (some (.ref f)))
noncomputable abbrev p_0:Value:=Value.str "doughhours.checks" 406
noncomputable abbrev p_1:Value:=Value.str "doughhours.ovens" 438
noncomputable abbrev p_2:Value:=Value.str "doughhours.orders" 486
noncomputable abbrev p_3:Value:=Value.str "doughhours.plans" 605
noncomputable abbrev p_4:Value:=Value.str "doughhours.night" 950
noncomputable abbrev p_5:Value:=Value.str "doughhours.bakery" 1016
noncomputable abbrev p_6:Value:=Value.str "doughhours.breads" 1073
noncomputable abbrev p_7:Value:=Value.str "law_doughhours_k25_order_book" 1171
noncomputable abbrev d_1:FuncData:=mFd "check_name" "check_name" s_1 .none p_0 182
noncomputable abbrev d_2:FuncData:=mFd "check_number" "check_number" s_2 .none p_0 189
noncomputable abbrev d_3:FuncData:=mFd "check_count" "check_count" s_3 .none p_0 196
noncomputable abbrev d_4:FuncData:=mFd "__init__" "Oven.__init__" s_4 .none p_1 210
noncomputable abbrev d_6:FuncData:=mFd "__init__" "Order.__init__" s_6 .none p_2 238
noncomputable abbrev d_7:FuncData:=mFd "__init__" "Batch.__init__" s_7 .none p_2 259
noncomputable abbrev d_8:FuncData:=mFd "greatest" "greatest" s_8 .none p_2 271
noncomputable abbrev d_9:FuncData:=mFd "check_due" "check_due" s_9 .none p_2 278
noncomputable abbrev j7N:FuncData:=mFd "accept" "accept" j6m .none p_2 285
noncomputable abbrev j7Q:FuncData:=mFd "batches_of" "batches_of" j5Y .none p_2 292
noncomputable abbrev j7R:FuncData:=mFd "__init__" "Run.__init__" j6x (.ref 308) p_3 314
noncomputable abbrev j7U:FuncData:=mFd "__init__" "Part.__init__" j6E .none p_3 349
noncomputable abbrev j7M:FuncData:=mFd "__init__" "Night.__init__" j6f .none p_4 539
noncomputable abbrev j7G:FuncData:=mFd "put" "Night.put" j56 .none p_4 546
noncomputable abbrev j7S:FuncData:=mFd "strike" "Night.strike" j6e .none p_4 553
noncomputable abbrev j7L:FuncData:=mFd "__init__" "Bakery.__init__" j5N .none p_5 586
noncomputable abbrev j7E:FuncData:=mFd "bread_of" "Bakery.bread_of" j5Z .none p_5 593
noncomputable abbrev j71:FuncData:=mFd "check_names_apart" "check_names_apart" j5O .none p_5 607
noncomputable abbrev j74:FuncData:=mFd "__init__" "Stage.__init__" j53 (.ref 617) p_6 623
noncomputable abbrev j7A:FuncData:=mFd "__init__" "Bread.__init__" j5Q .none p_6 644
noncomputable abbrev j7y:FuncData:=mFd "_law_at" "_law_at" j52 .none p_7 677
noncomputable abbrev j70:FuncData:=mFd "_law_is" "_law_is" j5R .none p_7 684
noncomputable abbrev j7B:FuncData:=mFd "_law_names" "_law_names" j6a .none p_7 689
noncomputable abbrev j7O:FuncData:=mFd "_law_put" "_law_put" j6l .none p_7 696
noncomputable abbrev j7J:FuncData:=mFd "_law_strike" "_law_strike" j5S .none p_7 703
noncomputable abbrev j7X:FuncData:=mFd "_law_due" "_law_due" j6d .none p_7 708
noncomputable abbrev j7z:FuncData:=mFd "_law_same" "_law_same" j6c .none p_7 715
noncomputable abbrev j72:FuncData:=mFd "_law_row" "_law_row" j54 .none p_7 722
noncomputable abbrev j7Y:FuncData:=mFd "_law_deed" "_law_deed" j6i .none p_7 729
noncomputable abbrev q1l:FuncData:=mFd "law" "law" j6h .none p_7 734
noncomputable def q8I (K:Frag) (C:Addr) (n:Str) (fs:List Str):=(nI K n,[plainGet K C Str.empty,hasDictIn K C,plainOver K C,makesIn K C,keepIn K (.ref C)],findIn K (.ref C) "__setattr__",fs.map λx=>findIn K (.ref C) x)
noncomputable def q8F (C:Addr) (fs:List Str):Option (Option Value)×List Bool×Option (Option Value)×List (Option (Option Value)):=(some (some (.ref C)),[true,true,true,true,true],some (some (.builtin "object.__setattr__")),fs.map λ_=>some none)
noncomputable def q4O (K:Frag) (C:Addr) (n:Str):=(nI K n,excIn K C [.type "ValueError",.type "Exception",.type "BaseException",.type "object"] "ValueError.__new__")
noncomputable def q4U (C:Addr):Option (Option Value)×Bool:=(some (some (.ref C)),true)
noncomputable def hLF (K:Frag):=
 [q1S K 183 182 "check_name" (nI K "check_name"),
 q1S K 190 189 "check_number" (nI K "check_number"),
 q1S K 197 196 "check_count" (nI K "check_count"),
 q1S K 211 210 "Oven.__init__" (findIn K (.ref 214) "__init__"),
 q1S K 239 238 "Order.__init__" (findIn K (.ref 242) "__init__"),
 q1S K 260 259 "Batch.__init__" (findIn K (.ref 263) "__init__"),
 q1S K 272 271 "greatest" (nI K "greatest"),
 q1S K 279 278 "check_due" (nI K "check_due"),
 q1S K 286 285 "accept" (nI K "accept"),
 q1S K 293 292 "batches_of" (nI K "batches_of"),
 q1S K 315 314 "Run.__init__" (findIn K (.ref 332) "__init__"),
 q1S K 350 349 "Part.__init__" (findIn K (.ref 353) "__init__"),
 q1S K 540 539 "Night.__init__" (findIn K (.ref 571) "__init__"),
 q1S K 547 546 "Night.put" (findIn K (.ref 571) "put"),
 q1S K 554 553 "Night.strike" (findIn K (.ref 571) "strike")]
noncomputable def hRF:=
 [q1T 183 d_1,
 q1T 190 d_2,
 q1T 197 d_3,
 q1T 211 d_4,
 q1T 239 d_6,
 q1T 260 d_7,
 q1T 272 d_8,
 q1T 279 d_9,
 q1T 286 j7N,
 q1T 293 j7Q,
 q1T 315 j7R,
 q1T 350 j7U,
 q1T 540 j7M,
 q1T 547 j7G,
 q1T 554 j7S]
noncomputable def hLG (K:Frag):=
 [q1S K 587 586 "Bakery.__init__" (findIn K (.ref 597) "__init__"),
 q1S K 594 593 "Bakery.bread_of" (findIn K (.ref 597) "bread_of"),
 q1S K 608 607 "check_names_apart" (nI K "check_names_apart"),
 q1S K 624 623 "Stage.__init__" (findIn K (.ref 627) "__init__"),
 q1S K 645 644 "Bread.__init__" (findIn K (.ref 667) "__init__"),
 q1S K 678 677 "_law_at" (nI K "_law_at"),
 q1S K 685 684 "_law_is" (nI K "_law_is"),
 q1S K 690 689 "_law_names" (nI K "_law_names"),
 q1S K 697 696 "_law_put" (nI K "_law_put"),
 q1S K 704 703 "_law_strike" (nI K "_law_strike"),
 q1S K 709 708 "_law_due" (nI K "_law_due"),
 q1S K 716 715 "_law_same" (nI K "_law_same"),
 q1S K 723 722 "_law_row" (nI K "_law_row"),
 q1S K 730 729 "_law_deed" (nI K "_law_deed"),
 q1S K 735 734 "law" (nI K "law")]
noncomputable def hRG:=
 [q1T 587 j7L,
 q1T 594 j7E,
 q1T 608 j71,
 q1T 624 j74,
 q1T 645 j7A,
 q1T 678 j7y,
 q1T 685 j70,
 q1T 690 j7B,
 q1T 697 j7O,
 q1T 704 j7J,
 q1T 709 j7X,
 q1T 716 j7z,
 q1T 723 j72,
 q1T 730 j7Y,
 q1T 735 q1l]
noncomputable def hLC (K:Frag):=
 [q8I K 214 "Oven" ["room","rate","heat"],
 q8I K 242 "Order" ["bread","loaves","due"],
 q8I K 263 "Batch" ["order","first","loaves"],
 q8I K 332 "Run" ["begin","lengths","oven"],
 q8I K 353 "Part" ["batch","stage","begin","until","loaves","oven"],
 q8I K 571 "Night" ["bakery","orders"],
 q8I K 597 "Bakery" ["night","hands","benches","ovens","breads"],
 q8I K 627 "Stage" ["name","least","most","want","heat"],
 q8I K 667 "Bread" ["name","stages"]]
noncomputable def hRC:=
 [q8F 214 ["room","rate","heat"],
 q8F 242 ["bread","loaves","due"],
 q8F 263 ["order","first","loaves"],
 q8F 332 ["begin","lengths","oven"],
 q8F 353 ["batch","stage","begin","until","loaves","oven"],
 q8F 571 ["bakery","orders"],
 q8F 597 ["night","hands","benches","ovens","breads"],
 q8F 627 ["name","least","most","want","heat"],
 q8F 667 ["name","stages"]]
noncomputable def hLE (K:Frag):=
 [q4O K 31 "DoughError",
 q4O K 44 "BadName",
 q4O K 56 "BadWant",
 q4O K 68 "BadNumber",
 q4O K 80 "BadCount",
 q4O K 92 "TwiceNamed",
 q4O K 104 "NoBread",
 q4O K 116 "BeyondNight",
 q4O K 128 "TooMany",
 q4O K 140 "BadPlan",
 q4O K 152 "NoOrder",
 q4O K 164 "TooWide",
 q4O K 176 "NoPlan"]
noncomputable def hRE:=
 [q4U 31,
 q4U 44,
 q4U 56,
 q4U 68,
 q4U 80,
 q4U 92,
 q4U 104,
 q4U 116,
 q4U 128,
 q4U 140,
 q4U 152,
 q4U 164,
 q4U 176]
noncomputable def hZ:List Str:=["all","bool","enumerate","int","isinstance","len","list","max","min","range","set","sum","tuple"]
noncomputable def hLV (K:Frag):List (Option (Option Value)):=
 [findIn K (.ref 242) "__class__",
 specialIn K (.builtin "object.__class__") "__get__",
 nsIn K mainGlobals "FASTEST",
 nsIn K mainGlobals "HOTTEST",
 nsIn K mainGlobals "LETTERS",
 nsIn K mainGlobals "LONGEST_NAME",
 nsIn K mainGlobals "MOST_BATCHES",
 nsIn K mainGlobals "MOST_BENCHES",
 nsIn K mainGlobals "MOST_BREADS",
 nsIn K mainGlobals "MOST_HANDS",
 nsIn K mainGlobals "MOST_LOAVES",
 nsIn K mainGlobals "MOST_ORDERS",
 nsIn K mainGlobals "MOST_OVENS",
 nsIn K mainGlobals "MOST_ROOM",
 nsIn K mainGlobals "MOST_STAGES",
 nsIn K mainGlobals "NIGHT",
 nsIn K mainGlobals "WANTS"]
noncomputable def hRV:List (Option (Option Value)):=
 [some (some (.builtin "object.__class__")),some (some (.builtin "getset_descriptor.__get__")),some (some (.int 300 442)),some (some (.int 300 412)),some (some (.str "abcdefghijklmnopqrstuvwxyz" 408)),some (some (.int 12 410)),some (some (.int 24 492)),some (some (.int 6 1020)),some (some (.int 8 1024)),some (some (.int 6 1018)),some (some (.int 60 488)),some (some (.int 12 490)),some (some (.int 3 1022)),some (some (.int 30 440)),some (some (.int 6 1080)),some (some (.int 720 761)),some (some (.ref 609))]
noncomputable def hLB (K:Frag):List Bool:=
 []
noncomputable def hRB:List Bool:=
 []
noncomputable def hLO (K:Frag):List (Option Obj):=
 [K.lookup 308,
 K.lookup 617,
 K.lookup 609]
noncomputable def hRO:List (Option Obj):=
 [some ⟨(Value.type "tuple"),(none),.seq #[.int 0 619] 0,(#[])⟩,some ⟨(Value.type "tuple"),(none),.seq #[.int 0 1094] 0,(#[])⟩,some ⟨.type "tuple",(none),.seq #[(.str "nothing" 1075),(.str "hands" 1076),(.str "bench" 1077),(.str "oven" 1078)] 0,(#[])⟩]
noncomputable def hLX (K:Frag):List (Option Bool):=
 [takesIn K (.builtin "object.__class__"),
 mroIn K 242 (.type "object"),
 exmOne K (.ref 31) (.ref 68),
 exmOne K (.ref 31) (.ref 80),
 exmOne K (.ref 31) (.ref 104),
 exmOne K (.ref 31) (.ref 116),
 exmOne K (.ref 31) (.ref 128),
 exmOne K (.ref 31) (.ref 152),
 exmOne K (.ref 44) (.ref 68),
 exmOne K (.ref 44) (.ref 80),
 exmOne K (.ref 44) (.ref 104),
 exmOne K (.ref 44) (.ref 116),
 exmOne K (.ref 44) (.ref 128),
 exmOne K (.ref 44) (.ref 152),
 exmOne K (.ref 56) (.ref 68),
 exmOne K (.ref 56) (.ref 80),
 exmOne K (.ref 56) (.ref 104),
 exmOne K (.ref 56) (.ref 116),
 exmOne K (.ref 56) (.ref 128),
 exmOne K (.ref 56) (.ref 152),
 exmOne K (.ref 68) (.ref 68),
 exmOne K (.ref 68) (.ref 80),
 exmOne K (.ref 68) (.ref 104),
 exmOne K (.ref 68) (.ref 116),
 exmOne K (.ref 68) (.ref 128),
 exmOne K (.ref 68) (.ref 152),
 exmOne K (.ref 80) (.ref 68),
 exmOne K (.ref 80) (.ref 80),
 exmOne K (.ref 80) (.ref 104),
 exmOne K (.ref 80) (.ref 116),
 exmOne K (.ref 80) (.ref 128),
 exmOne K (.ref 80) (.ref 152),
 exmOne K (.ref 92) (.ref 68),
 exmOne K (.ref 92) (.ref 80),
 exmOne K (.ref 92) (.ref 104),
 exmOne K (.ref 92) (.ref 116),
 exmOne K (.ref 92) (.ref 128),
 exmOne K (.ref 92) (.ref 152),
 exmOne K (.ref 104) (.ref 68),
 exmOne K (.ref 104) (.ref 80),
 exmOne K (.ref 104) (.ref 104),
 exmOne K (.ref 104) (.ref 116),
 exmOne K (.ref 104) (.ref 128),
 exmOne K (.ref 104) (.ref 152),
 exmOne K (.ref 116) (.ref 68),
 exmOne K (.ref 116) (.ref 80),
 exmOne K (.ref 116) (.ref 104),
 exmOne K (.ref 116) (.ref 116),
 exmOne K (.ref 116) (.ref 128),
 exmOne K (.ref 116) (.ref 152),
 exmOne K (.ref 128) (.ref 68),
 exmOne K (.ref 128) (.ref 80),
 exmOne K (.ref 128) (.ref 104),
 exmOne K (.ref 128) (.ref 116),
 exmOne K (.ref 128) (.ref 128),
 exmOne K (.ref 128) (.ref 152),
 exmOne K (.ref 140) (.ref 68),
 exmOne K (.ref 140) (.ref 80),
 exmOne K (.ref 140) (.ref 104),
 exmOne K (.ref 140) (.ref 116),
 exmOne K (.ref 140) (.ref 128),
 exmOne K (.ref 140) (.ref 152),
 exmOne K (.ref 152) (.ref 68),
 exmOne K (.ref 152) (.ref 80),
 exmOne K (.ref 152) (.ref 104),
 exmOne K (.ref 152) (.ref 116),
 exmOne K (.ref 152) (.ref 128),
 exmOne K (.ref 152) (.ref 152),
 exmOne K (.ref 164) (.ref 68),
 exmOne K (.ref 164) (.ref 80),
 exmOne K (.ref 164) (.ref 104),
 exmOne K (.ref 164) (.ref 116),
 exmOne K (.ref 164) (.ref 128),
 exmOne K (.ref 164) (.ref 152),
 exmOne K (.ref 176) (.ref 68),
 exmOne K (.ref 176) (.ref 80),
 exmOne K (.ref 176) (.ref 104),
 exmOne K (.ref 176) (.ref 116),
 exmOne K (.ref 176) (.ref 128),
 exmOne K (.ref 176) (.ref 152)]
noncomputable def hRX:List (Option Bool):=
 [some true,some true,some false,some false,some false,some false,some false,some false,some false,some false,some false,some false,some false,some false,some false,some false,some false,some false,some false,some false,some true,some false,some false,some false,some false,some false,some false,some true,some false,some false,some false,some false,some false,some false,some false,some false,some false,some false,some false,some false,some true,some false,some false,some false,some false,some false,some false,some true,some false,some false,some false,some false,some false,some false,some true,some false,some false,some false,some false,some false,some false,some false,some false,some false,some false,some false,some false,some true,some false,some false,some false,some false,some false,some false,some false,some false,some false,some false,some false,some false]
noncomputable def hLI (K:Frag):List Bool:=[]
noncomputable def hRI:List Bool:=[]
noncomputable def q5g (K:Frag):=(hLF K,hLG K,hLC K,hLE K,hZ.map (λx=>nI K x),hLI K,hLV K,hLB K,hLO K,hLX K)
noncomputable def j2p:=(hRF,hRG,hRC,hRE,hZ.map (λ_=>(some none:Option (Option Value))),hRI,hRV,hRB,hRO,hRX)
noncomputable def vw:Program:={ PySem.Challenge.pw_doughhours_k25_order_book with main:={ (PySem.Challenge.pw_doughhours_k25_order_book).main with body:=[0,2,3,4,5,6,7,8,9,10,11,12,13,14,16,17,18,19,20,21,23,24,25,26,28,29,30,31,32,33,34,35,36,37,39,40,41,42,43,44,45,46,47,48,49,50,51,53,54,55,56,57,58,59,60,61,63,64,65,66,67,68,69,70,71,72,73,74,75,76,77,79,81,82,83,84,85,86,88,89,90,91,93,94,95,96,97,98,99,100,101,102].map top } }
noncomputable abbrev Xv (s:Shared):Bool:=xlAt vw [] s && recOk (RowW.records (OpenRow.toRowW (OpenLaw.row PySem.Challenge.rw_doughhours_k25_order_book))) s
theorem j5L:PySem.Challenge.rw_doughhours_k25_order_book.wellSaid=true:=by kernel_rfl
theorem j4H:Hd.E1 PySem.Challenge.pw_doughhours_k25_order_book 12:=λw os=>by kernel_rfl
theorem j43:Hd.E2 PySem.Challenge.pw_doughhours_k25_order_book 12 2:=λw os=>by kernel_rfl
theorem j8b:Hd.Ch PySem.Challenge.pw_doughhours_k25_order_book 12 2 0 8 1307 ⟨0,0,0,0⟩ ⟨15,0,16,8⟩:=λw os=>by kernel_rfl
theorem j8n:Hd.Ch PySem.Challenge.pw_doughhours_k25_order_book 12 2 8 6 1294 ⟨15,0,16,8⟩ ⟨27,0,28,8⟩:=λw os=>by kernel_rfl
theorem j8f:Hd.Ch PySem.Challenge.pw_doughhours_k25_order_book 12 2 14 25 1306 ⟨27,0,28,8⟩ ⟨99,0,99,8⟩:=λw os=>by kernel_rfl
theorem j8u:Hd.Ch PySem.Challenge.pw_doughhours_k25_order_book 12 2 39 37 1422 ⟨99,0,99,8⟩ ⟨275,0,278,35⟩:=λw os=>by kernel_rfl
theorem j8y:Hd.Ch PySem.Challenge.pw_doughhours_k25_order_book 12 2 76 19 1423 ⟨275,0,278,35⟩ ⟨384,0,385,111⟩:=λw os=>by kernel_rfl
theorem j8F:Hd.Ch PySem.Challenge.pw_doughhours_k25_order_book 12 2 95 8 265 ⟨384,0,385,111⟩ ⟨461,0,478,49⟩:=λw os=>by kernel_rfl
theorem j35:Hd.E3 PySem.Challenge.pw_doughhours_k25_order_book vw Xv 12 2 103:=λw os=>by kernel_rfl
theorem j37:Hd.E4 PySem.Challenge.pw_doughhours_k25_order_book (λ_ s=>PyProof.Rows.seen ((PyProof.Rows.recsOf vw).map (·.name)) (ownsOf vw) [] { s with gens:=#[] }) (λ_=>PyProof.Rows.expectedOf vw) 12 2 103:=λw os=>by kernel_rfl
theorem j4m:Hd.E4 PySem.Challenge.pw_doughhours_k25_order_book (λ_ s=>(s.heap.bltView,tabsOk vw s,pinSeenD vw (drecsOf vw) s)) (λ_=>(bltViewBooted,true,pinGoodD (drecsOf vw))) 12 2 103:=λw os=>by kernel_rfl
theorem j4w:Hd.E4 PySem.Challenge.pw_doughhours_k25_order_book (λ_ s=>Hd.lk3 PySem.Challenge.pw_doughhours_k25_order_book vw [] s) (λ_=>true) 12 2 103:=λw os=>by kernel_rfl
theorem j4c:Hd.E4 PySem.Challenge.pw_doughhours_k25_order_book (λ_ s=>(plainSeenE vw (looseW vw []) s,plainSeenD vw [] s,wideSeen vw s,clsSeenW vw [] s)) (λ_=>(plainGoodE vw (looseW vw []),plainGoodD vw [],wideGood vw,clsGoodW vw [])) 12 2 103:=λw os=>by kernel_rfl
theorem j46:Hd.E4 PySem.Challenge.pw_doughhours_k25_order_book (λ_ s=>(q5g (Hd.kOf hAs s.heap)).1) (λ_=>j2p.1) 12 2 103:=λw os=>by kernel_rfl
theorem j4l:Hd.E4 PySem.Challenge.pw_doughhours_k25_order_book (λ_ s=>(q5g (Hd.kOf hAs s.heap)).2.1) (λ_=>j2p.2.1) 12 2 103:=λw os=>by kernel_rfl
theorem j3u:Hd.E4 PySem.Challenge.pw_doughhours_k25_order_book (λ_ s=>(q5g (Hd.kOf hAs s.heap)).2.2) (λ_=>j2p.2.2) 12 2 103:=λw os=>by kernel_rfl
theorem j8W:Hd.To PySem.Challenge.pw_doughhours_k25_order_book 12 2 103 4 ⟨461,0,478,49⟩ 103:=Hd.To.fin (by kernel_rfl)
theorem j8j:Hd.To PySem.Challenge.pw_doughhours_k25_order_book 12 2 95 269 ⟨384,0,385,111⟩ 103:=Hd.To.of (j:=95) (m:=8) (n:=265) (N:=4) j8F j8W
theorem j8R:Hd.To PySem.Challenge.pw_doughhours_k25_order_book 12 2 76 1692 ⟨275,0,278,35⟩ 103:=Hd.To.of (j:=76) (m:=19) (n:=1423) (N:=269) j8y j8j
theorem j8B:Hd.To PySem.Challenge.pw_doughhours_k25_order_book 12 2 39 3114 ⟨99,0,99,8⟩ 103:=Hd.To.of (j:=39) (m:=37) (n:=1422) (N:=1692) j8u j8R
theorem j8S:Hd.To PySem.Challenge.pw_doughhours_k25_order_book 12 2 14 4420 ⟨27,0,28,8⟩ 103:=Hd.To.of (j:=14) (m:=25) (n:=1306) (N:=3114) j8f j8B
theorem j8I:Hd.To PySem.Challenge.pw_doughhours_k25_order_book 12 2 8 5714 ⟨15,0,16,8⟩ 103:=Hd.To.of (j:=8) (m:=6) (n:=1294) (N:=4420) j8n j8S
theorem j8l:Hd.To PySem.Challenge.pw_doughhours_k25_order_book 12 2 0 7021 ⟨0,0,0,0⟩ 103:=Hd.To.of (j:=0) (m:=8) (n:=1307) (N:=5714) j8b j8I
theorem q7G:LeftO (OpenLaw.row PySem.Challenge.rw_doughhours_k25_order_book).prog vw [] Xv (λs=>q5g (Hd.kOf hAs s.heap)) (λ_=>j2p) 15042:=
 Hd.left_whole (p:=PySem.Challenge.pw_doughhours_k25_order_book) (kp:=7021) (by kernel_rfl) (by decide) (λs=>by kernel_rfl) (by decide) (λw=>by kernel_rfl) j4H j43 (λw os=>by kernel_rfl) j8l j35 j37 j4m j4w j4c j46 j4l j3u
end Lw
namespace L2
open PySem PySem.Spec PyProof.Rows
noncomputable abbrev Key:=Sum Int Str
noncomputable def j4n:Key->Value->Bool
 | .inl k,v=>Value.isInt k v
 | .inr x,v=>Value.isStrOf x v
noncomputable def j8w (w:World):Key->Int
 | .inl k=>hashInt k
 | .inr x=>hashStr w x
theorem q0F:∀{k:Key} {v:Value},j4n k v=true->(∃i t,k=Sum.inl i/\v=Value.int i t)∨(∃x t,k=Sum.inr x/\v=Value.str x t)
 | .inl i,v,h=>by
  obtain ⟨t,e⟩:=Value.isInt_shape (k:=i) (v:=v) h
  exact .inl ⟨i,t,rfl,e⟩
 | .inr x,v,h=>by
  obtain ⟨t,e⟩:=Value.isStrOf_shape (x:=x) (v:=v) h
  exact .inr ⟨x,t,rfl,e⟩
theorem j4F (a b:Int):decide ((Sum.inl a:Key)=Sum.inl b)=(a==b):=by
 by_cases e:a=b
 ·subst e;simp
 ·have h:¬(Sum.inl a:Key)=Sum.inl b:=λq=>e (Sum.inl.inj q)
  rw [decide_eq_false h]
  exact (beq_eq_false_iff_ne.mpr e).symm
theorem j5J (a b:Str):decide ((Sum.inr a:Key)=Sum.inr b)=decide (a=b):=by
 by_cases e:a=b
 ·subst e;simp
 ·have h:¬(Sum.inr a:Key)=Sum.inr b:=λq=>e (Sum.inr.inj q)
  rw [decide_eq_false h,decide_eq_false e]
theorem j5n (a:Int) (b:Str):decide ((Sum.inl a:Key)=Sum.inr b)=false:=decide_eq_false (λq=>nomatch q)
theorem j4i (a:Str) (b:Int):decide ((Sum.inr a:Key)=Sum.inl b)=false:=decide_eq_false (λq=>nomatch q)
noncomputable def q5f (prog:Program) (w:World):PySem.KeyKind prog w Key where
 is:=j4n
 hash:=j8w w
 inj:=λv a b ha hb=>by
  rcases q0F ha with ⟨i,t,rfl,rfl⟩ | ⟨x,t,rfl,rfl⟩
  ·rcases q0F hb with ⟨j,u,rfl,e⟩ | ⟨y,u,rfl,e⟩
   ·injection e with e1 _;rw [e1]
   ·exact nomatch e
  ·rcases q0F hb with ⟨j,u,rfl,e⟩ | ⟨y,u,rfl,e⟩
   ·exact nomatch e
   ·injection e with e1 _;rw [e1]
 byValue:=λk v h=>by
  rcases q0F h with ⟨i,t,rfl,rfl⟩ | ⟨x,t,rfl,rfl⟩<;>rfl
 pyHash:=λhv h=>by
  rcases q0F hv with ⟨i,t,rfl,rfl⟩ | ⟨x,t,rfl,rfl⟩
  ·exact wpAny_pyHash_int h
  ·exact wpAny_pyHash_str h
 eqBool:=λhu hv h=>by
  rcases q0F hu with ⟨i,t,rfl,rfl⟩ | ⟨x,t,rfl,rfl⟩
  ·rcases q0F hv with ⟨j,u,rfl,rfl⟩ | ⟨y,u,rfl,rfl⟩
   ·rw [j4F] at h;exact wpAny_eqBool_int h
   ·rw [j5n] at h;exact SeqAt.EqAt.int_str i t y u _ _ _ _ h
  ·rcases q0F hv with ⟨j,u,rfl,rfl⟩ | ⟨y,u,rfl,rfl⟩
   ·rw [j4i] at h;exact SeqAt.EqAt.str_int x t j u _ _ _ _ h
   ·rw [j5J] at h;exact wpAny_eqBool_str h
 «strs»:=λk x t v h=>by
  rcases q0F h with ⟨i,u,rfl,e⟩ | ⟨y,u,rfl,e⟩
  ·exact nomatch e
  ·injection e with e1 _
   subst e1
   cases v<;>rfl
inductive V where
 | non | bl (b:Bool) | int (i:Int) | str (x:Str) | byt (b:Array UInt8) | flt (b:UInt64) | ref (a:Addr) | ty (n:String)
 deriving DecidableEq
noncomputable def RelV:V->Value->Prop
 | .non,u=>u=Value.none
 | .bl b,u=>u=Value.bool b
 | .int i,u=>∃t,u=Value.int i t
 | .str x,u=>∃t,u=Value.str x t
 | .byt b,u=>∃t,u=Value.bytes b t
 | .flt b,u=>∃t,u=Value.float b t
 | .ref a,u=>u=Value.ref a
 | .ty n,u=>u=Value.type n
noncomputable abbrev Vals:List V->List Value->Prop:=Paired RelV
theorem Vals.length {xs:List V} {us:List Value} (r:Vals xs us):xs.length=us.length:=Paired.length r
theorem Vals.get:∀{xs:List V} {us:List Value} {i:Nat} {x:V},Vals xs us->xs[i]?=some x->∃u,us[i]?=some u/\RelV x u
 | _,_,_,_,.nil,e=>by simp at e
 | _,_,0,_,.cons r _,e=>by simp at e;subst e;exact ⟨_,rfl,r⟩
 | _,_,i+1,x,.cons _ t,e=>by
  obtain ⟨u,h1,h2⟩:=Vals.get (i:=i) (x:=x) t (by simpa using e)
  exact ⟨u,by simpa using h1,h2⟩
theorem Vals.append:∀{xs ys:List V} {us ws:List Value},Vals xs us->Vals ys ws->Vals (xs++ys) (us++ws)
 | _,_,_,_,.nil,s=>s
 | _,_,_,_,.cons r t,s=>.cons r (Vals.append t s)
theorem Vals.take:∀{xs:List V} {us:List Value} (n:Nat),Vals xs us->Vals (xs.take n) (us.take n)
 | _,_,0,_=>.nil
 | _,_,_+1,.nil=>.nil
 | _,_,n+1,.cons r t=>.cons r (Vals.take n t)
theorem Vals.drop:∀{xs:List V} {us:List Value} (n:Nat),Vals xs us->Vals (xs.drop n) (us.drop n)
 | _,_,0,r=>r
 | _,_,_+1,.nil=>.nil
 | _,_,n+1,.cons _ t=>Vals.drop n t
noncomputable def RelO:Option V->Option Value->Prop
 | some v,some u=>RelV v u
 | none,none=>True
 | _,_=>False
noncomputable def KV {κ:Type}:List (κ×V)->List (κ×Value)->Prop:=Paired λ(p:κ×V) (q:κ×Value)=>p.1=q.1/\RelV p.2 q.2
noncomputable def kV:Key->V
 | .inl i=>.int i
 | .inr x=>.str x
inductive HO where
 | lst (xs:List V)
 | tup (xs:List V)
 | dK (kvs:List (Key×V)) | dT (kvs:List (List Key×V))
 | set (S:Int->Bool) (n:Nat)
 | ins (C dx:Addr) (fs:List (Str×V))
 | own (x:Addr)
 | xd (fs:List (Str×V))
 | met (f x:Addr)
 | rng (lo hi:Int)
 | frz (o:Obj) (u:HO)
 | tbl (ps:Array Value)
 | ext (φ:Heap->Prop)
noncomputable abbrev Hp:=Addr->Option HO
noncomputable def upd (H:Hp) (a:Addr) (o:HO):Hp:=λb=>if b=a then some o else H b
theorem q0j {H:Hp} {a:Addr} {o:HO}:upd H a o a=some o:=by unfold upd;rw [if_pos rfl]
theorem q0d {H:Hp} {a b:Addr} {o:HO} (h:b≠a):upd H a o b=H b:=by unfold upd;rw [if_neg h]
theorem q1o {H:Hp} {a b:Addr} {o:HO} (h:H a=some o) (h':H b=none):a≠b:=by
 intro e;subst e;rw [h] at h';cases h'
section
variable (P:Program) (w:World)
noncomputable def ObjOk (H:Hp) (h:Heap) (a:Addr):HO->Prop
 | .lst xs=>xs.length<=sizeLine/\∃(its:List Value) (n:Nat),Vals xs its/\h.get? a=some { cls:=.type "list",data:=.seq its.toArray n }
 | .tup xs=>xs.length<=sizeLine/\∃its:List Value,Vals xs its/\IsTup h a its.toArray
 | .dK kvs=>kvs.length<=sizeLine/\(a==sysModules)=false/\∃vs,KV kvs vs/\h.DictOf (q5f P w) a vs
 | .dT kvs=>kvs.length<=sizeLine/\(a==sysModules)=false/\∃xs:List (List Key×Addr×Value),
  Paired (λ(p:List Key×V) (q:List Key×Addr×Value)=>p.1=q.1/\H q.2.1=some (.tup (p.1.map kV))/\RelV p.2 q.2.2) kvs xs /\
  ∃o es ep,h.get? a=some o/\o.ExactDict/\o.data=.dict es ep/\es.toList=xs.map (entryOfKey (tupleKind (q5f P w)))/\(xs.map (·.1)).Nodup
 | .set S n=>h.SetOf (intKind P w) a S n
 | .ins C dx fs=>H dx=some (.own a)/\fs.length<=1000/\dx≠a/\h.get? a=some (PySem.W.instObj C dx) /\
  ∃mA,h.Ns1 dx mA/\(∀f,RelO (fs.lookup f) (mA f))/\PySem.Within mA (fs.map (·.1))
 | .own _=>∃o,h.get? a=some o
 | .xd fs=>∃mA,h.Ns1 a mA/\∀f,RelO (fs.lookup f) (mA f)
 | .rng lo hi=>∃t u v,h.get? a=some { cls:=.type "range",data:=.fields #[.int lo t,.int hi u,.int 1 v] }
 | .frz o u=>h.get? a=some o/\ObjOk H h a u
 | .tbl ps=>h.get? a=some { cls:=.none,data:=.fields ps }
 | .met f x=>h.get? a=some (PySem.W.methodObj (.ref f) (.ref x))
 | .ext φ=>φ h/\(∃o,h.get? a=some o)/\∀h1 h2:Heap,φ h1->(∀o,h1.get? a=some o->h2.get? a=some o)->φ h2
noncomputable def HOk (H:Hp) (h:Heap):Prop:=∀a o,H a=some o->ObjOk P w H h a o
end
section
variable {P:Program} {w:World} {H H':Hp} {h h':Heap} {a:Addr} {o:HO}
theorem ObjOk.lt (x:ObjOk P w H h a o):a < h.objs.size:=by
 cases o with
 | lst xs=>obtain ⟨_,_,_,_,e⟩:=x;exact Heap.lt_size e
 | tup xs=>obtain ⟨_,_,_,p⟩:=x;exact p.lt
 | dK kvs=>obtain ⟨_,_,_,_,o,_,_,e,_⟩:=x;exact Heap.lt_size e
 | dT kvs=>obtain ⟨_,_,_,_,o,_,_,e,_⟩:=x;exact Heap.lt_size e
 | set S n=>obtain ⟨o,_,_,_,e,_⟩:=x;exact Heap.lt_size e
 | ins C dx fs=>obtain ⟨_,_,_,e,_⟩:=x;exact Heap.lt_size e
 | own y=>obtain ⟨_,e⟩:=x;exact Heap.lt_size e
 | xd fs=>obtain ⟨_,⟨_,_,_,e,_⟩,_⟩:=x;exact Heap.lt_size e
 | rng lo hi=>obtain ⟨_,_,_,e⟩:=x;exact Heap.lt_size e
 | frz ob u=>obtain ⟨e,_⟩:=x;exact Heap.lt_size e
 | tbl ps=>exact Heap.lt_size (show h.get? a=some _ from x)
 | met f y=>exact Heap.lt_size (show h.get? a=some _ from x)
 | ext φ=>obtain ⟨_,⟨_,e⟩,_⟩:=x;exact Heap.lt_size e
theorem Paired.mapP {α β:Type} {F G:α->β->Prop}:∀{l₁:List α} {l₂:List β},Paired F l₁ l₂->(∀a b,F a b->G a b)->Paired G l₁ l₂
 | _,_,.nil,_=>.nil
 | _,_,.cons r t,f=>.cons (f _ _ r) (Paired.mapP t f)
theorem ObjOk.stay (x:ObjOk P w H h a o) (k:∀b u,(b=a∨H b=some (.own a))->h.get? b=some u->h'.get? b=some u)
 (ho:∀b,H b=some (.own a)->H' b=some (.own a)) (ht:∀b xs,H b=some (.tup xs)->H' b=some (.tup xs)):ObjOk P w H' h' a o:=by
 induction o with
 | lst xs=>obtain ⟨z,its,n,r,e⟩:=x;exact ⟨z,its,n,r,k _ _ (.inl rfl) e⟩
 | tup xs=>obtain ⟨z,its,r,ob,e,c⟩:=x;exact ⟨z,its,r,ob,k _ _ (.inl rfl) e,c⟩
 | dK kvs=>obtain ⟨z,y,vs,r,ob,es,ep,e,c⟩:=x;exact ⟨z,y,vs,r,ob,es,ep,k _ _ (.inl rfl) e,c⟩
 | dT kvs=>
  obtain ⟨z,y,xs,r,ob,es,ep,e,c⟩:=x
  exact ⟨z,y,xs,Paired.mapP r λp q z=>⟨z.1,ht _ _ z.2.1,z.2.2⟩,ob,es,ep,k _ _ (.inl rfl) e,c⟩
 | set S n=>obtain ⟨ob,es,ep,t,e,c⟩:=x;exact ⟨ob,es,ep,t,k _ _ (.inl rfl) e,c⟩
 | ins C dx fs=>
  obtain ⟨d,z,ne,e,mA,⟨od,es,ep,e2,c⟩,r⟩:=x
  exact ⟨ho _ d,z,ne,k _ _ (.inl rfl) e,mA,⟨od,es,ep,k _ _ (.inr d) e2,c⟩,r⟩
 | own y=>obtain ⟨ob,e⟩:=x;exact ⟨ob,k _ _ (.inl rfl) e⟩
 | xd fs=>obtain ⟨mA,⟨od,es,ep,e,c⟩,r⟩:=x;exact ⟨mA,⟨od,es,ep,k _ _ (.inl rfl) e,c⟩,r⟩
 | rng lo hi=>obtain ⟨t,u,v,e⟩:=x;exact ⟨t,u,v,k _ _ (.inl rfl) e⟩
 | frz ob u ih=>obtain ⟨e,q⟩:=x;exact ⟨k _ _ (.inl rfl) e,ih q⟩
 | tbl ps=>
  have e:h.get? a=some { cls:=.none,data:=.fields ps }:=x
  show h'.get? a=some { cls:=.none,data:=.fields ps }
  exact k a _ (.inl rfl) e
 | met f y=>
  have e:h.get? a=some (PySem.W.methodObj (.ref f) (.ref y)):=x
  show h'.get? a=some (PySem.W.methodObj (.ref f) (.ref y))
  exact k a _ (.inl rfl) e
 | ext φ=>obtain ⟨p,⟨o,e⟩,st⟩:=x;exact ⟨st _ _ p λo q=>k _ _ (.inl rfl) q,⟨o,k _ _ (.inl rfl) e⟩,st⟩
theorem HOk.lt (x:HOk P w H h) (e:H a=some o):a < h.objs.size:=(x a o e).lt
theorem HOk.fresh (x:HOk P w H h) (e:h.objs.size<=a):H a=none:=by
 cases q:H a with
 | none=>rfl
 | some u=>exact absurd (Nat.lt_of_lt_of_le (x.lt q) e) (Nat.lt_irrefl _)
theorem HOk.kept (x:HOk P w H h) (k:∀b u,h.get? b=some u->h'.get? b=some u):HOk P w H h':=λa o e=>
 (x a o e).stay (λb u _ q=>k b u q) (λ_ q=>q) λ_ _ q=>q
theorem HOk.laid (x:HOk P w H h) (k:∀b u,h.get? b=some u->h'.get? b=some u) (hp:h.objs.size<=a) (new:ObjOk P w (upd H a o) h' a o):HOk P w (upd H a o) h':=λb u e=>by
 have hn:=x.fresh hp
 by_cases hb:b=a
 ·subst hb;rw [q0j] at e;cases e;exact new
 ·rw [q0d hb] at e
  exact (x b u e).stay (λc v _ q=>k c v q) (λc q=>by rw [q0d (q1o q hn)];exact q) λc xs q=>by rw [q0d (q1o q hn)];exact q
end
noncomputable def Rd (H:Hp) (a:Addr) (u:HO):Prop:=H a=some u∨∃o,H a=some (.frz o u)
theorem Rd.ok {P:Program} {w:World} {H:Hp} {h:Heap} {a:Addr} {u:HO} (r:Rd H a u) (x:HOk P w H h):ObjOk P w H h a u:=by
 rcases r with r | ⟨o,r⟩
 ·exact x a u r
 ·obtain ⟨_,q⟩:=x a _ r
  exact q
noncomputable def Mut:Option HO->Prop
 | some (.lst _)=>True
 | some (.dK _)=>True
 | some (.dT _)=>True
 | some (.set _ _)=>True
 | some (.ins _ _ _)=>True
 | some (.ext _)=>True
 | _=>False
section
variable {P:Program} {w:World} {H:Hp} {h h':Heap} {x e:Addr} {o':HO}
theorem HOk.write (ok:HOk P w H h) (mu:Mut (H x)) (he:e=x∨H e=some (.own x)) (k:∀b u,b≠e->h.get? b=some u->h'.get? b=some u) (heo:∃u,h'.get? e=some u)
 (new:ObjOk P w (upd H x o') h' x o'):HOk P w (upd H x o') h':=λb u q=>by
 have nown:∀c y,H c=some (.own y)->c≠x:=λc y r z=>by subst z;rw [r] at mu;exact mu
 have ntup:∀c xs,H c=some (.tup xs)->c≠x:=λc xs r z=>by subst z;rw [r] at mu;exact mu
 by_cases hb:b=x
 ·subst hb;rw [q0j] at q;cases q;exact new
 ·rw [q0d hb] at q
  by_cases hbe:b=e
  ·have q':H b=some (.own x):=by
    rcases he with z | z
    ·exact absurd (hbe.trans z) hb
    ·rw [hbe];exact z
   rw [q] at q';cases q'
   obtain ⟨v,hv⟩:=heo
   exact ⟨v,by rw [hbe];exact hv⟩
  ·refine (ok b u q).stay (λc v hc r=>k c v ?_ r) (λc r=>by rw [q0d (nown c b r)];exact r) λc xs r=>by rw [q0d (ntup c xs r)];exact r
   rcases hc with rfl | hc
   ·exact hbe
   ·rintro rfl
    rcases he with z | z
    ·exact nown c b hc z
    ·rw [hc] at z;cases z;exact hb rfl
end
structure Un (fs ex:List Addr) (H H':Hp) (h h':Heap):Prop where
 keep:∀b o,h.get? b=some o->H b=none->b∉fs->b∉ex->h'.get? b=some o
 slot:∀b o,h.get? b=some o->H b=none->b∈fs->b∉ex->∃sl,h'.get? b=some { o with slots:=sl }
 free:∀b o,h.get? b=some o->H b=none->b∉ex->H' b=none
 there:∀b o,h.get? b=some o->b∉ex->∃o',h'.get? b=some o'
 tups:∀b xs,H b=some (.tup xs)->H' b=some (.tup xs)
 frzs:∀b o u,H b=some (.frz o u)->H' b=some (.frz o u)
 tbls:∀b ps,H b=some (.tbl ps)->∃more,H' b=some (.tbl (ps++more))
section
variable {fs fs' ex ex':List Addr} {H H1 H2:Hp} {h h1 h2 h':Heap} {a x e:Addr} {o:HO}
theorem Un.any (u:Un fs ex H H1 h h1) {b:Addr} {ob:Obj} (q:h.get? b=some ob) (n:H b=none) (hx:b∉ex):∃sl,h1.get? b=some { ob with slots:=sl }:=by
 by_cases hb:b∈fs
 ·exact u.slot b ob q n hb hx
 ·exact ⟨ob.slots,u.keep b ob q n hb hx⟩
theorem Un.kept (k:∀b u,h.get? b=some u->h'.get? b=some u):Un fs ex H H h h':=
 ⟨λb ob q _ _ _=>k b ob q,λb ob q _ _ _=>⟨ob.slots,k b ob q⟩,λ_ _ _ n _=>n,λb ob q _=>⟨ob,k b ob q⟩,λ_ _ q=>q,λ_ _ _ q=>q,λ_ ps q=>⟨#[],by rw [q];simp⟩⟩
theorem Un.refl:Un fs ex H H h h:=Un.kept λ_ _ q=>q
theorem Un.laid (k:∀b u,h.get? b=some u->h'.get? b=some u) (hp:h.objs.size<=a) (hn:H a=none):Un fs ex H (upd H a o) h h' where
 keep:=λb u q _ _ _=>k b u q
 slot:=λb u q _ _ _=>⟨u.slots,k b u q⟩
 free:=λb u q n _=>by rw [q0d (Nat.ne_of_lt (Nat.lt_of_lt_of_le (Heap.lt_size q) hp))];exact n
 there:=λb u q _=>⟨u,k b u q⟩
 tups:=λb xs q=>by rw [q0d (q1o q hn)];exact q
 frzs:=λb u xs q=>by rw [q0d (q1o q hn)];exact q
 tbls:=λb ps q=>⟨#[],by rw [q0d (q1o q hn),q];simp⟩
theorem Un.write (mu:Mut (H x)) (he:e=x∨H e=some (.own x)) (k:∀b u,b≠e->h.get? b=some u->h'.get? b=some u) (heo:∃u,h'.get? e=some u):Un fs ex H (upd H x o) h h':=by
 have hx:∀b,H b=none->b≠x:=λb n z=>by subst z;rw [n] at mu;exact mu
 have hb:∀b,H b=none->b≠e:=λb n z=>by
  subst z
  rcases he with r | r
  ·exact hx b n r
  ·rw [n] at r;cases r
 have hm:∀b u,H b=some u->¬Mut (some u)->b≠x:=λb u q nm z=>by subst z;rw [q] at mu;exact nm mu
 refine ⟨λb u q n _ _=>k b u (hb b n) q,λb u q n _ _=>⟨u.slots,k b u (hb b n) q⟩,λb u q n _=>by rw [q0d (hx b n)];exact n,λb u q _=>?_,
  λb xs q=>by rw [q0d (hm b _ q λz=>z)];exact q,λb u xs q=>by rw [q0d (hm b _ q λz=>z)];exact q,λb ps q=>⟨#[],by rw [q0d (hm b _ q λz=>z),q];simp⟩⟩
 by_cases hbe:b=e
 ·subst hbe;exact heo
 ·exact ⟨u,k b u hbe q⟩
end
noncomputable def trk (h:Heap) (H:Hp):List Addr:=(List.range h.objs.size).filter λa=>(H a).isSome
noncomputable def q9w (h:Heap) (H:Hp):Heap:=PySem.W.hideAll h (trk h H)
theorem q8G (h:Heap) (H:Hp):(q9w h H).objs.size=h.objs.size:=PySem.W.hideAll_size _ _
theorem j0y {h:Heap} {H:Hp} {b:Addr} {o:Obj} (e:h.get? b=some o) (n:H b=none):(q9w h H).get? b=some o:=
 PySem.W.hideAll_get _ e λhm=>by
  have q:(H b).isSome=true:=(List.mem_filter.mp hm).2
  rw [n] at q;simp at q
theorem j15 {h:Heap} {H:Hp} {b:Addr} {o:Obj} (e:(q9w h H).get? b=some o):h.get? b=some o/\H b=none:=by
 have e':h.get? b=some o:=PySem.W.of_hideAll (trk h H) e
 refine ⟨e',?_⟩
 cases q:H b with
 | none=>rfl
 | some x=>
  have hm:b∈trk h H:=List.mem_filter.mpr ⟨List.mem_range.mpr (Heap.lt_size e'),by simp [q]⟩
  have z:(q9w h H).get? b=none:=PySem.W.hideAll_none (trk h H) hm
  rw [z] at e;cases e
noncomputable def j2Y (g h:Heap) (L:Addr):List (Addr×Obj):=(List.range h.objs.size).filterMap λa=>if a=L∨(g.get? a).isSome=true then none else (h.get? a).map λo=>(a,o)
noncomputable def rest (g h:Heap) (L d:Addr):List (Addr×Obj):=(j2Y g h L).filter λp=>decide (p.1≠d)
structure Mod (K:PySem.W.Frag) (mg:Str->Option Value) (base:Heap):Prop where
 kin:K.In base
 glob:base.Ns mainGlobals mg
 blt:∃mb,base.Ns builtinsNs mb/\∀x:Str,x≠"__name__"->mb x=bootBuiltins x
 nolimit:base.NoLimit
structure Cx where
 prog:Program
 w:World
 K:PySem.W.Frag
 mg:Str->Option Value
 base:Heap
 A:Around
 N:List Str
 s₀:Shared
 H₀:Hp
 env:Env
 outer:List Env
 stack:List Env
 ex:List Addr
 fn:Str->Bool
 calm:Bool
 pn:List (Addr×Obj)
 xe:Value->Shared->Prop
noncomputable def frs (l:List Env):List Addr:=l.filterMap (·.frame)
noncomputable abbrev Cx.fs (X:Cx):List Addr:=frs X.outer
noncomputable def Vis (sc:Scope) (x:Str):Prop:=sc.names.lookup x=some .local∨sc.names.lookup x=some .cell∨sc.names.lookup x=some .free
noncomputable def Loc (sc:Scope) (x:Str):Prop:=sc.names.lookup x=some .local∨sc.names.lookup x=some .cell
noncomputable def Look (env:Env) (h:Heap) (m:Str->Option Value) (x:Str) (u:Value):Prop:=
 (env.kindOf x=some .local/\m x=some u)∨((env.kindOf x=some .cell∨env.kindOf x=some .free)/\∃c,env.cells.lookup x=some c/\h.IsCell c (some u))
structure Cx.Ok (X:Cx):Prop where
 mod:Mod X.K X.mg X.base
 kind:X.env.scope.kind=.function
 glob:X.env.globals=mainGlobals
 blt:X.env.builtins=builtinsNs
 above:X.s₀.heap.objs.size<=X.env.locals
 inj:∀x y c,X.env.cells.lookup x=some c->X.env.cells.lookup y=some c->x=y
 has:∀x,(X.env.kindOf x=some .cell∨X.env.kindOf x=some .free)->∃c,X.env.cells.lookup x=some c
 cab:∀x c,X.fn x=true->X.env.cells.lookup x=some c->X.s₀.heap.objs.size<=c
 hd:X.calm=true->X.A.handled=none
 frames:X.A.frames=some X.stack
 stk:X.stack=X.outer∨(X.stack=X.env::X.outer/\X.env.frame=some X.env.locals)
 exf:∀b∈X.ex,b≠X.env.locals/\∀x c,X.env.cells.lookup x=some c->c≠b
 bs:∀b o,X.base.get? b=some o->X.s₀.heap.get? b=some o/\X.H₀ b=none
 bsz:X.base.objs.size<=X.s₀.heap.objs.size
 noex:∀b o,X.base.get? b=some o->b∉X.ex
 exfs:∀b∈X.ex,b∉X.fs
 funs:X.s₀.heap.FunFrames X.base X.outer
 frf:∀b∈X.fs,X.H₀ b=none
structure Inv (X:Cx) (pins:List (Addr×Obj)) (σ:List (Option V)) (H:Hp) (s:Shared):Prop where
 ok:X.Ok
 os:s.os=X.s₀.os
 bare:AllBare s.gens
 base:Un X.fs X.ex X.H₀ H X.s₀.heap s.heap
 loc:∃m,s.heap.Ns X.env.locals m/\∀(i:Nat) (x:Str) (v:V),X.N[i]?=some x->σ[i]?=some (some v)->Vis X.env.scope x->∃u,RelV v u/\Look X.env s.heap m x u
 cell:∀x c,X.env.cells.lookup x=some c->∃v,s.heap.IsCell c v
 free:H X.env.locals=none
 freeC:∀x c,X.env.cells.lookup x=some c->H c=none
 pin:∀p∈X.pn++pins,s.heap.get? p.1=some p.2/\H p.1=none/\p.1≠X.env.locals/\p.1∉X.fs/\∀v,p.2.data≠.cell v
 hok:HOk X.prog X.w H s.heap
 len:σ.length=X.N.length
section
variable {X:Cx} {pins:List (Addr×Obj)} {σ:List (Option V)} {H H':Hp} {s:Shared} {h':Heap}
theorem Cx.Ok.nofr (ok:X.Ok) {b:Addr} {o:Obj} (e:X.base.get? b=some o):b∉X.fs:=λhb=>by
 have:=(ok.funs.mem hb).1
 rw [e] at this;cases this
theorem Inv.bs (I:Inv X pins σ H s):∀b o,X.base.get? b=some o->s.heap.get? b=some o/\H b=none:=λb o e=>
 ⟨I.base.keep b o (I.ok.bs b o e).1 (I.ok.bs b o e).2 (I.ok.nofr e) (I.ok.noex b o e),I.base.free b o (I.ok.bs b o e).1 (I.ok.bs b o e).2 (I.ok.noex b o e)⟩
theorem Inv.bk (I:Inv X pins σ H s):∀b o,X.base.get? b=some o->s.heap.get? b=some o:=λb o e=>(I.bs b o e).1
theorem Inv.mod (I:Inv X pins σ H s):Mod X.K X.mg X.base:=I.ok.mod
theorem Inv.kIn (I:Inv X pins σ H s):X.K.In s.heap:=I.ok.mod.kin.keeps I.bk
theorem Inv.lt (I:Inv X pins σ H s):X.env.locals < s.heap.objs.size:=let ⟨_,hn,_⟩:=I.loc;hn.lt
theorem Inv.sz (I:Inv X pins σ H s):X.s₀.heap.objs.size<=s.heap.objs.size:=Nat.le_trans I.ok.above (Nat.le_of_lt I.lt)
theorem Inv.nofs (I:Inv X pins σ H s) {a:Addr} (h:s.heap.objs.size<=a):a∉X.fs:=λhb=>by
 obtain ⟨_,o,ho,_⟩:=I.ok.funs.mem hb
 exact absurd (Nat.lt_of_lt_of_le (Heap.lt_size ho) (Nat.le_trans I.sz h)) (Nat.lt_irrefl _)
theorem Inv.cne (I:Inv X pins σ H s):∀x c,X.env.cells.lookup x=some c->c≠X.env.locals:=λx c e z=>by
 obtain ⟨v,o,ho,hd⟩:=I.cell x c e
 obtain ⟨m,⟨o',es,ep,ho',hd',_⟩,_⟩:=I.loc
 rw [z,ho'] at ho;cases ho;rw [hd'] at hd;cases hd
theorem Inv.funs (I:Inv X pins σ H s):s.heap.FunFrames X.base X.outer:=by
 have all:∀(l:List Env),(∀b∈frs l,b∈X.fs)->X.s₀.heap.FunFrames X.base l->s.heap.FunFrames X.base l:=by
  intro l
  induction l with
  | nil=>intro _ _;trivial
  | cons env r ih=>
   intro hs hl
   obtain ⟨hk,⟨L,o,hf,hn,ho,hd⟩,hr⟩:=hl
   have hL:L∈X.fs:=hs L (by unfold frs;rw [List.filterMap_cons,hf];exact List.mem_cons_self)
   obtain ⟨sl,e⟩:=I.base.slot L o ho (I.ok.frf L hL) hL λz=>I.ok.exfs L z hL
   exact ⟨hk,⟨L,_,hf,hn,e,hd⟩,ih (λb hb=>hs b (by unfold frs;rw [List.filterMap_cons,hf];exact List.mem_cons_of_mem _ hb)) hr⟩
 exact all X.outer (λ_ hb=>hb) I.ok.funs
theorem Inv.stack (I:Inv X pins σ H s):s.heap.FunFrames X.base X.stack:=by
 rcases I.ok.stk with e | ⟨e,hf⟩
 ·rw [e];exact I.funs
 ·rw [e]
  obtain ⟨m,hn,_⟩:=I.loc
  refine .cons (by rw [I.ok.kind];decide) hf hn ?_ I.funs
  exact Heap.get?_none_of_le (Nat.le_trans I.ok.bsz I.ok.above)
theorem Inv.stkSub (I:Inv X pins σ H s):∀b∈frs X.stack,b∈X.env.locals::X.fs:=λb hb=>by
 rcases I.ok.stk with e | ⟨e,hf⟩
 ·rw [e] at hb;exact List.mem_cons_of_mem _ hb
 ·rw [e] at hb
  unfold frs at hb
  rw [List.filterMap_cons,hf] at hb
  exact hb
theorem Inv.stkFree (I:Inv X pins σ H s):∀b∈frs X.stack,H b=none:=λb hb=>by
 rcases List.mem_cons.mp (I.stkSub b hb) with e | hb
 ·rw [e];exact I.free
 ·obtain ⟨_,o,ho,_⟩:=I.ok.funs.mem hb
  exact I.base.free b o ho (I.ok.frf b hb) λz=>I.ok.exfs b z hb
theorem Inv.step {g':Array GenState} {t':Nat} {d':Drawn} {ch:List Addr} (I:Inv X pins σ H s)
 (hch:∀b∈ch,(b∈X.ex∨X.s₀.heap.objs.size<=b)/\b≠X.env.locals/\(∀x c,X.env.cells.lookup x=some c->c≠b)/\∀p∈X.pn++pins,p.1≠b)
 (keep:∀b o,b≠X.env.locals->b∉X.fs->b∉ch->s.heap.get? b=some o->H b=none->h'.get? b=some o)
 (slot:∀b o,b≠X.env.locals->b∈X.fs->b∉ch->s.heap.get? b=some o->H b=none->∃sl,h'.get? b=some { o with slots:=sl }) (free:∀b o,b∉ch->s.heap.get? b=some o->H b=none->H' b=none)
 (there:∀b o,b∉ch->s.heap.get? b=some o->∃o',h'.get? b=some o')
 (tups:∀b xs,H b=some (.tup xs)->H' b=some (.tup xs)) (frzs:∀b o u,H b=some (.frz o u)->H' b=some (.frz o u)) (tbls:∀b ps,H b=some (.tbl ps)->∃more,H' b=some (.tbl (ps++more)))
 (ns:∀m,s.heap.Ns X.env.locals m->h'.Ns X.env.locals m) (hok:HOk X.prog X.w H' h') (hg:AllBare g') :
 Inv X pins σ H' { s with heap:=h',gens:=g',drawn:=d',toks:=t' }:=by
 have neL:∀b o,X.s₀.heap.get? b=some o->b≠X.env.locals:=λb o e=>Nat.ne_of_lt (Nat.lt_of_lt_of_le (Heap.lt_size e) I.ok.above)
 have neC:∀b o,X.s₀.heap.get? b=some o->b∉X.ex->b∉ch:=λb o e hx hb=>by
  rcases (hch b hb).1 with z | z
  ·exact hx z
  ·exact absurd (Nat.lt_of_lt_of_le (Heap.lt_size e) z) (Nat.lt_irrefl _)
 have cellK:∀x c,X.env.cells.lookup x=some c->∀v,s.heap.IsCell c v->h'.IsCell c v:=λx c e v ⟨o,ho,hd⟩=>by
  have nch:c∉ch:=λz=>(hch c z).2.2.1 x c e rfl
  by_cases hc:c∈X.fs
  ·obtain ⟨sl,q⟩:=slot c o (I.cne x c e) hc nch ho (I.freeC x c e)
   exact ⟨_,q,hd⟩
  ·exact ⟨o,keep c o (I.cne x c e) hc nch ho (I.freeC x c e),hd⟩
 refine ⟨I.ok,I.os,hg,⟨λb o e n hb hx=>?_,λb o e n hb hx=>?_,λb o e n hx=>?_,λb o e hx=>?_,λb xs e=>tups b xs (I.base.tups b xs e),λb o xs e=>frzs b o xs (I.base.frzs b o xs e),λb ps e=>?_⟩,?_,λx c e=>?_,?_,λx c e=>?_,λp hp=>?_,hok,I.len⟩
 ·exact keep b o (neL b o e) hb (neC b o e hx) (I.base.keep b o e n hb hx) (I.base.free b o e n hx)
 ·obtain ⟨sl,e1⟩:=I.base.slot b o e n hb hx
  obtain ⟨sl',e2⟩:=slot b _ (neL b o e) hb (neC b o e hx) e1 (I.base.free b o e n hx)
  exact ⟨sl',e2⟩
 ·obtain ⟨o',e1⟩:=I.base.there b o e hx
  exact free b o' (neC b o e hx) e1 (I.base.free b o e n hx)
 ·obtain ⟨o',e1⟩:=I.base.there b o e hx
  exact there b o' (neC b o e hx) e1
 ·obtain ⟨m1,e1⟩:=I.base.tbls b ps e
  obtain ⟨m2,e2⟩:=tbls b _ e1
  exact ⟨m1++m2,by rw [e2,Array.append_assoc]⟩
 ·obtain ⟨m,hn,hl⟩:=I.loc
  refine ⟨m,ns m hn,λi x v e1 e2 e3=>?_⟩
  obtain ⟨u,r,l⟩:=hl i x v e1 e2 e3
  refine ⟨u,r,?_⟩
  rcases l with l | ⟨k,c,e,z⟩
  ·exact .inl l
  ·exact .inr ⟨k,c,e,cellK x c e _ z⟩
 ·obtain ⟨v,z⟩:=I.cell x c e
  exact ⟨v,cellK x c e v z⟩
 ·obtain ⟨m,⟨o,_,_,ho,_⟩,_⟩:=I.loc
  exact free _ o (λz=>(hch _ z).2.1 rfl) ho I.free
 ·obtain ⟨v,o,ho,hd⟩:=I.cell x c e
  exact free c o (λz=>(hch c z).2.2.1 x c e rfl) ho (I.freeC x c e)
 ·obtain ⟨e,n,ne,nf,d⟩:=I.pin p hp
  have nch:p.1∉ch:=λz=>(hch p.1 z).2.2.2 p hp rfl
  exact ⟨keep p.1 p.2 ne nf nch e n,free p.1 p.2 nch e n,ne,nf,d⟩
theorem Inv.un {t':Nat} (I:Inv X pins σ H s) (u:Un X.fs [] H H' s.heap h') (hok:HOk X.prog X.w H' h'):Inv X pins σ H' { s with heap:=h',toks:=t' }:=by
 obtain ⟨m,⟨o,es,ep,ho,r⟩,_⟩:=id I.loc
 obtain ⟨sl,hL⟩:=u.any ho I.free (by simp)
 exact I.step (g':=s.gens) (d':=s.drawn) (ch:=[]) (λ_ z=>nomatch z) (λb o _ hb _ e n=>u.keep b o e n hb (by simp)) (λb o _ hb _ e n=>u.slot b o e n hb (by simp)) (λb o _ e n=>u.free b o e n (by simp)) (λb o _ e=>u.there b o e (by simp)) u.tups u.frzs u.tbls (λm' hm=>by
  obtain ⟨o',es',ep',ho',r'⟩:=hm
  rw [ho] at ho';cases ho'
  exact ⟨_,es',ep',hL,r'⟩) hok I.bare
theorem Inv.call {g':Array GenState} {t':Nat} {d':Drawn} {ch:List Addr} (I:Inv X pins σ H s) (u:Un (frs X.stack) ch H H' s.heap h') (hok:HOk X.prog X.w H' h') (hg:AllBare g')
 (hch:∀b∈ch,(b∈X.ex∨X.s₀.heap.objs.size<=b)/\b≠X.env.locals/\(∀x c,X.env.cells.lookup x=some c->c≠b)/\∀p∈X.pn++pins,p.1≠b) :
 Inv X pins σ H' { s with heap:=h',gens:=g',drawn:=d',toks:=t' }:=by
 obtain ⟨m,⟨o,es,ep,ho,r⟩,_⟩:=id I.loc
 obtain ⟨sl,hL⟩:=u.any ho I.free λz=>(hch _ z).2.1 rfl
 exact I.step (ch:=ch) hch (λb o hL hb hc e n=>u.keep b o e n (λz=>(List.mem_cons.mp (I.stkSub b z)).elim hL hb) hc) (λb o _ _ hc e n=>u.any e n hc) (λb o hc e n=>u.free b o e n hc) (λb o hc e=>u.there b o e hc) u.tups u.frzs u.tbls (λm' hm=>by
  obtain ⟨o',es',ep',ho',r'⟩:=hm
  rw [ho] at ho';cases ho'
  exact ⟨_,es',ep',hL,r'⟩) hok hg
theorem Inv.turned {t':Nat} {it:Addr} (I:Inv X pins σ H s) (k:∀b o,b≠it->s.heap.get? b=some o->h'.get? b=some o) (hn:H it=none) (hL:it≠X.env.locals)
 (h1:it∈X.ex∨X.s₀.heap.objs.size<=it) (h2:∀x c,X.env.cells.lookup x=some c->c≠it) (h3:∀p∈X.pn++pins,p.1≠it):Inv X pins σ H { s with heap:=h',toks:=t' }:=by
 have nit:∀b u,H b=some u->b≠it:=λb u e z=>by rw [z,hn] at e;cases e
 refine I.step (g':=s.gens) (d':=s.drawn) (ch:=[it]) (λb hb=>?_) (λb o _ _ hc e _=>k b o (λz=>hc (by simp [z])) e) (λb o _ _ hc e _=>⟨o.slots,k b o (λz=>hc (by simp [z])) e⟩) (λ_ _ _ _ n=>n)
  (λb o hc e=>⟨o,k b o (λz=>hc (by simp [z])) e⟩) (λ_ _ e=>e) (λ_ _ _ e=>e) (λb ps e=>⟨#[],by rw [e];simp⟩) (λm hm=>?_) (λb u e=>?_) I.bare
 ·have e:b=it:=by simpa using hb
  subst e
  exact ⟨h1,hL,h2,h3⟩
 ·obtain ⟨o,es,ep,ho,r⟩:=hm
  exact ⟨o,es,ep,k _ o (Ne.symm hL) ho,r⟩
 ·refine (I.hok b u e).stay (λc v hc q=>k c v ?_ q) (λ_ q=>q) λ_ _ q=>q
  rcases hc with z | z
  ·rw [z];exact nit b u e
  ·exact nit c _ z
theorem Inv.tok (I:Inv X pins σ H s) (t:Nat):Inv X pins σ H { s with toks:=t }:=I.un (h':=s.heap) (t':=t) Un.refl I.hok
theorem Inv.kept {t':Nat} (I:Inv X pins σ H s) (k:∀b u,s.heap.get? b=some u->h'.get? b=some u):Inv X pins σ H { s with heap:=h',toks:=t' }:=I.un (Un.kept k) (I.hok.kept k)
theorem Inv.laid {a:Addr} {o:HO} {t':Nat} (I:Inv X pins σ H s) (k:∀b u,s.heap.get? b=some u->h'.get? b=some u) (hp:s.heap.objs.size<=a) (new:ObjOk X.prog X.w (upd H a o) h' a o) :
 Inv X pins σ (upd H a o) { s with heap:=h',toks:=t' }:=I.un (Un.laid k hp (I.hok.fresh hp)) (I.hok.laid k hp new)
theorem Inv.write {x e:Addr} {o:HO} {t':Nat} (I:Inv X pins σ H s) (mu:Mut (H x)) (he:e=x∨H e=some (.own x)) (k:∀b u,b≠e->s.heap.get? b=some u->h'.get? b=some u) (heo:∃u,h'.get? e=some u)
 (new:ObjOk X.prog X.w (upd H x o) h' x o):Inv X pins σ (upd H x o) { s with heap:=h',toks:=t' }:=I.un (Un.write mu he k heo) (I.hok.write mu he k heo new)
theorem Inv.pins_of {pins':List (Addr×Obj)} (I:Inv X pins σ H s) (h:∀p∈pins',s.heap.get? p.1=some p.2/\H p.1=none/\p.1≠X.env.locals/\p.1∉X.fs/\∀v,p.2.data≠.cell v):Inv X pins' σ H s:=
 ⟨I.ok,I.os,I.bare,I.base,I.loc,I.cell,I.free,I.freeC,λp hp=>(List.mem_append.mp hp).elim (λz=>I.pin p (List.mem_append_left _ z)) (h p),I.hok,I.len⟩
theorem q2C {N:List Str} (hN:N.Nodup) {i j:Nat} {x:Str} (a:N[i]?=some x) (b:N[j]?=some x):i=j:=by
 obtain ⟨h1,e1⟩:=List.getElem?_eq_some_iff.mp a
 obtain ⟨h2,e2⟩:=List.getElem?_eq_some_iff.mp b
 exact (List.getElem_inj hN).mp (e1.trans e2.symm)
theorem q7L {M:Model} {A:Around} {E:Value->Shared->Prop} {i:Nat} {x:Str} {v:V} {u:Value} {Q:Unit->Shared->Prop} (I:Inv X pins σ H s) (hN:X.N.Nodup) (hi:X.N[i]?=some x) (hx:Loc X.env.scope x) (r:RelV v u)
 (h:∀s',Inv X pins (σ.set i (some v)) H s'->(∃a,Heap.SameBut a s.heap s'.heap/\(a=X.env.locals∨X.env.cells.lookup x=some a))->Q () s') (hf:X.fn x=true∨X.env.scope.names.lookup x=some .local:=by walk_at "v2"):wpAny M A (storeName X.env x u) Q E s:=by
 obtain ⟨m,hn,hl⟩:=id I.loc
 have hcls:(X.env.scope.kind==.class || (X.env.scope.kind==.module && X.env.locals != X.env.globals))=false:=by rw [I.ok.kind];rfl
 have hiσ:i < σ.length:=by rw [I.len];exact (List.getElem?_eq_some_iff.mp hi).1
 have cne:=I.cne
 have tracked:∀{a:Addr} {h':Heap},(∃o,s.heap.get? a=some o/\H a=none)->Heap.SameBut a s.heap h'->HOk X.prog X.w H h':=λ{a h'} ha hs b ob e=>by
  obtain ⟨_,_,hfree⟩:=ha
  refine (I.hok b ob e).stay (λc w' hc q=>(hs.2 c ?_).trans q) (λ_ q=>q) λ_ _ q=>q
  rintro rfl
  rcases hc with rfl | hc
  ·rw [hfree] at e;cases e
  ·rw [hfree] at hc;cases hc
 rcases hx with hk | hk
 ·refine wpAny_storeName_local hk hn (λh' hn' hs=>?_) hcls
  obtain ⟨oL,_,_,hoL,_⟩:=id hn
  refine h _ ⟨I.ok,I.os,I.bare,⟨λb o e n hb hx=>?_,λb o e n hb hx=>?_,I.base.free,λb o e hx=>?_,I.base.tups,I.base.frzs,I.base.tbls⟩,⟨_,hn',λj y v' e1 e2 e3=>?_⟩,λy c e=>?_,I.free,I.freeC,λp hp=>?_,tracked ⟨oL,hoL,I.free⟩ hs,by simpa using I.len⟩ ⟨_,hs,.inl rfl⟩
  ·exact (hs.2 b (Nat.ne_of_lt (Nat.lt_of_lt_of_le (Heap.lt_size e) I.ok.above))).trans (I.base.keep b o e n hb hx)
  ·obtain ⟨sl,e1⟩:=I.base.slot b o e n hb hx
   exact ⟨sl,(hs.2 b (Nat.ne_of_lt (Nat.lt_of_lt_of_le (Heap.lt_size e) I.ok.above))).trans e1⟩
  ·obtain ⟨o',e1⟩:=I.base.there b o e hx
   exact ⟨o',(hs.2 b (Nat.ne_of_lt (Nat.lt_of_lt_of_le (Heap.lt_size e) I.ok.above))).trans e1⟩
  ·by_cases hj:j=i
   ·subst hj
    rw [hi] at e1;cases e1
    rw [List.getElem?_set_self hiσ] at e2
    cases e2
    exact ⟨u,r,.inl ⟨hk,by simp⟩⟩
   ·rw [List.getElem?_set_ne (Ne.symm hj)] at e2
    obtain ⟨u',r',q⟩:=hl j y v' e1 e2 e3
    refine ⟨u',r',?_⟩
    rcases q with ⟨k,e⟩ | ⟨k,c,e,z⟩
    ·refine .inl ⟨k,?_⟩
     have:y≠x:=λe=>hj (q2C hN e1 (e ▸ hi))
     simp [this,e]
    ·exact .inr ⟨k,c,e,z.sameBut hs (cne y c e)⟩
  ·obtain ⟨w',z⟩:=I.cell y c e
   exact ⟨w',z.sameBut hs (cne y c e)⟩
  ·obtain ⟨e,n,ne,nf,d⟩:=I.pin p hp
   exact ⟨(hs.2 p.1 ne).trans e,n,ne,nf,d⟩
 ·have hfn:X.fn x=true:=by
   rcases hf with z | z
   ·exact z
   ·rw [z] at hk;cases hk
  obtain ⟨c,hc⟩:=I.ok.has x (.inl hk)
  obtain ⟨w',z⟩:=I.cell x c hc
  refine wpAny_storeName_cell I.ok.kind hk hc z (λh' hc' hs=>?_)
  obtain ⟨oc,hoc,hocd⟩:=id z
  refine h { s with heap:=h' } ⟨I.ok,I.os,I.bare,⟨λb o e n hb hx=>?_,λb o e n hb hx=>?_,I.base.free,λb o e hx=>?_,I.base.tups,I.base.frzs,I.base.tbls⟩,⟨m,hn.sameBut hs (Ne.symm (cne x c hc)),λj y v' e1 e2 e3=>?_⟩,λy c' e=>?_,I.free,I.freeC,λp hp=>?_,tracked ⟨oc,hoc,I.freeC x c hc⟩ hs,by simpa using I.len⟩ ⟨c,hs,.inr hc⟩
  ·exact (hs.2 b (Nat.ne_of_lt (Nat.lt_of_lt_of_le (Heap.lt_size e) (I.ok.cab x c hfn hc)))).trans (I.base.keep b o e n hb hx)
  ·obtain ⟨sl,e1⟩:=I.base.slot b o e n hb hx
   exact ⟨sl,(hs.2 b (Nat.ne_of_lt (Nat.lt_of_lt_of_le (Heap.lt_size e) (I.ok.cab x c hfn hc)))).trans e1⟩
  ·obtain ⟨o',e1⟩:=I.base.there b o e hx
   exact ⟨o',(hs.2 b (Nat.ne_of_lt (Nat.lt_of_lt_of_le (Heap.lt_size e) (I.ok.cab x c hfn hc)))).trans e1⟩
  ·by_cases hj:j=i
   ·subst hj
    rw [hi] at e1;cases e1
    rw [List.getElem?_set_self hiσ] at e2
    cases e2
    exact ⟨u,r,.inr ⟨.inl hk,c,hc,hc'⟩⟩
   ·rw [List.getElem?_set_ne (Ne.symm hj)] at e2
    obtain ⟨u',r',q⟩:=hl j y v' e1 e2 e3
    refine ⟨u',r',?_⟩
    rcases q with q | ⟨k,c',e,z'⟩
    ·exact .inl q
    ·refine .inr ⟨k,c',e,z'.sameBut hs ?_⟩
     rintro rfl
     exact hj (q2C hN e1 (I.ok.inj _ _ _ e hc ▸ hi))
  ·by_cases hcc:c'=c
   ·subst hcc;exact ⟨_,hc'⟩
   ·obtain ⟨w2,z2⟩:=I.cell y c' e
    exact ⟨w2,z2.sameBut hs hcc⟩
  ·obtain ⟨e,n,ne,nf,d⟩:=I.pin p hp
   refine ⟨(hs.2 p.1 ?_).trans e,n,ne,nf,d⟩
   intro q
   rw [q,hoc] at e
   have q':oc=p.2:=Option.some.inj e
   exact d w' (by rw [<-q'];exact hocd)
theorem q5W {M:Model} {A:Around} {E:Value->Shared->Prop} {i:Nat} {x:Str} {v:V} {u:Value} {Q:Unit->Shared->Prop} (I:Inv X pins σ H s) (hN:X.N.Nodup) (hi:X.N[i]?=some x) (hx:Loc X.env.scope x) (r:RelV v u)
 (h:∀s',Inv X pins (σ.set i (some v)) H s'->Q () s') (hf:X.fn x=true∨X.env.scope.names.lookup x=some .local:=by walk_at "v2"):wpAny M A (storeName X.env x u) Q E s:=
 q7L I hN hi hx r (λs' I' _=>h s' I') hf
theorem Inv.call' {s':Shared} {ch:List Addr} (I:Inv X pins σ H s) (ho:s'.os=s.os) (u:Un (frs X.stack) ch H H' s.heap s'.heap) (hok:HOk X.prog X.w H' s'.heap) (hg:AllBare s'.gens)
 (hch:∀b∈ch,(b∈X.ex∨X.s₀.heap.objs.size<=b)/\b≠X.env.locals/\(∀x c,X.env.cells.lookup x=some c->c≠b)/\∀p∈X.pn++pins,p.1≠b):Inv X pins σ H' s':=by
 obtain ⟨h',g',d',t',o'⟩:=s'
 have e:o'=s.os:=ho
 subst e
 exact I.call (g':=g') (t':=t') (d':=d') u hok hg hch
end
noncomputable abbrev XK:=Value->Option Addr->Hp->Prop
noncomputable abbrev St:=List (Option V)
noncomputable abbrev VK:=V->Hp->Prop
noncomputable abbrev TE:=St->Hp->VK->Prop
noncomputable abbrev TT:=St->Hp->(Bool->Hp->Prop)->Prop
noncomputable abbrev TA:=St->Hp->(List V->Hp->Prop)->Prop
structure Ends where
 nx:St->Hp->Prop
 rt:VK
 bk:St->Hp->Prop:=λ_ _=>False
 ct:St->Hp->Prop:=λ_ _=>False
noncomputable abbrev TS:=Ends->St->Hp->Prop
noncomputable def EP (X:Cx) (pins:List (Addr×Obj)) (σ:St) (Q:VK) (u:Value) (s':Shared):Prop:=∃v H',Inv X pins σ H' s'/\RelV v u/\Q v H'
noncomputable def TP (X:Cx) (pins:List (Addr×Obj)) (σ:St) (Q:Bool->Hp->Prop) (b:Bool) (s':Shared):Prop:=∃H',Inv X pins σ H' s'/\Q b H'
noncomputable def AP (X:Cx) (pins:List (Addr×Obj)) (σ:St) (Q:List V->Hp->Prop) (us:List Value) (s':Shared):Prop:=∃vs H',Inv X pins σ H' s'/\Vals vs us/\Q vs H'
noncomputable def SP (X:Cx) (pins:List (Addr×Obj)) (D:Ends) (f:Flow) (s':Shared):Prop:=
 match f with
 | .next=>∃σ' H',Inv X pins σ' H' s'/\D.nx σ' H'
 | .brk=>∃σ' H',Inv X pins σ' H' s'/\D.bk σ' H'
 | .cont=>∃σ' H',Inv X pins σ' H' s'/\D.ct σ' H'
 | .ret u=>∃v σ' H',Inv X pins σ' H' s'/\RelV v u/\D.rt v H'
noncomputable def PE (X:Cx) (e:Expr) (t:TE):Prop:=
 ∀(pins:List (Addr×Obj)) (s:Shared) (σ:St) (H:Hp) (Q:VK),Inv X pins σ H s->t σ H Q->wpAny (model X.prog X.w) X.A (eval e X.env) (EP X pins σ Q) X.xe s
noncomputable def PT (X:Cx) (e:Expr) (t:TT):Prop:=
 ∀(pins:List (Addr×Obj)) (s:Shared) (σ:St) (H:Hp) (Q:Bool->Hp->Prop),Inv X pins σ H s->t σ H Q->wpAny (model X.prog X.w) X.A (isTrue e X.env (eval e X.env)) (TP X pins σ Q) X.xe s
noncomputable def PW (X:Cx) (e:Expr) (t:TT):Prop:=
 ∀(whole:Sem Value) (pins:List (Addr×Obj)) (s:Shared) (σ:St) (H:Hp) (Q:Bool->Hp->Prop),Inv X pins σ H s->t σ H Q->wpAny (model X.prog X.w) X.A (isTrue e X.env whole) (TP X pins σ Q) X.xe s
theorem PW.pt {X:Cx} {e:Expr} {t:TT} (h:PW X e t):PT X e t:=h _
noncomputable def PA (X:Cx) (es:List Expr) (t:TA):Prop:=
 ∀(pos:Pos) (pins:List (Addr×Obj)) (s:Shared) (σ:St) (H:Hp) (Q:List V->Hp->Prop),Inv X pins σ H s->t σ H Q->wpAny (model X.prog X.w) X.A (spliced (backTo pos (starEach es X.env))) (AP X pins σ Q) X.xe s
noncomputable def PS (X:Cx) (st:Stmt) (t:TS):Prop:=
 ∀(pins:List (Addr×Obj)) (s:Shared) (σ:St) (H:Hp) (D:Ends),Inv X pins σ H s->t D σ H->wpAny (model X.prog X.w) X.A (exec st X.env) (SP X pins D) X.xe s
noncomputable def PSs (X:Cx) (st:List Stmt) (t:TS):Prop:=
 ∀(pins:List (Addr×Obj)) (s:Shared) (σ:St) (H:Hp) (D:Ends),Inv X pins σ H s->t D σ H->wpAny (model X.prog X.w) X.A (execs st X.env) (SP X pins D) X.xe s
theorem thn {α:Type} {t:Sem α} {Q Q':α->Shared->Prop} {M:Model} {A:Around} {E:Value->Shared->Prop} {s:Shared} (h:wpAny M A t Q E s) (hQ:∀a s,Q a s->Q' a s):wpAny M A t Q' E s:=wpAny_mono h hQ λ_ _ x=>x
section
variable {X:Cx}
noncomputable def j62 (i:Nat):TE:=fun σ H Q=>∃v,σ[i]?=some (some v)/\Q v H
noncomputable def tC (v:V):TE:=λ_ H Q=>Q v H
theorem q0W {i:Nat} {x:Str} {pos:Pos} (hN:X.N[i]?=some x) (hv:Vis X.env.scope x) (hd:(x==("__debug__" : Str))=false:=by decide) (hcd:(x==("__classdict__" : Str))=false:=by decide):PE X (.Name x pos) (j62 i):=by
 intro pins s σ H Q I h
 obtain ⟨v,e,h⟩:=h
 obtain ⟨m,hn,hl⟩:=I.loc
 obtain ⟨u,r,l⟩:=hl i x v hN e hv
 have fin:EP X pins σ Q u s:=⟨v,H,I,r,h⟩
 rcases l with ⟨hk,hm⟩ | ⟨hk,c,hc,hcell⟩
 ·exact wpAny_Name (wpAny_loadName_local I.ok.kind hk hn hm fin) hd
 ·rcases hk with hk | hk
  ·exact wpAny_Name (wpAny_loadName_cell I.ok.kind hk hc hcell fin) hd
  ·exact wpAny_Name (wpAny_loadName_free I.ok.kind hk hc hcell fin hcd) hd
theorem j5k {i j pos}:PE X (.Constant (.int i) j pos) (tC (.int i)):=λ_ _ _ H _ I h=>wpAny_Constant_int ⟨.int i,H,I.tok _,⟨_,rfl⟩,h⟩
theorem j7w {b j pos}:PE X (.Constant (.bool b) j pos) (tC (.bl b)):=λ_ _ _ H _ I h=>Constant_bool ⟨.bl b,H,I,rfl,h⟩
theorem j4E {j pos}:PE X (.Constant .none j pos) (tC .non):=λ_ _ _ H _ I h=>Constant_none ⟨.non,H,I,rfl,h⟩
theorem j1H {x j pos}:PE X (.Constant (.str x) j pos) (tC (.str x)):=λ_ _ _ H _ I h=>Calls.Constant_str ⟨.str x,H,I.tok _,⟨_,rfl⟩,h⟩
noncomputable def Gl (X:Cx) (x:Str):Prop:=X.env.kindOf x=some .globalImplicit
theorem q1E {E:Value->Shared->Prop} {pins:List (Addr×Obj)} {s:Shared} {σ:St} {H:Hp} {x:Str} {u:Value} {pos:Pos} {Q:Value->Shared->Prop} (I:Inv X pins σ H s) (hg:Gl X x) (hm:X.mg x=some u) (h:Q u s)
 (hd:(x==("__debug__" : Str))=false:=by decide):wpAny (model X.prog X.w) X.A (eval (.Name x pos) X.env) Q E s:=
 Calls.Name_function_global I.ok.kind hg (Calls.loadGlobal_global (by rw [I.ok.glob];exact I.mod.glob.keeps I.bk) hm h) hd
theorem q2S {E:Value->Shared->Prop} {pins:List (Addr×Obj)} {s:Shared} {σ:St} {H:Hp} {x:Str} {u:Value} {pos:Pos} {Q:Value->Shared->Prop} (I:Inv X pins σ H s) (hg:Gl X x) (hm:X.mg x=none) (hv:bootBuiltins x=some u) (h:Q u s)
 (hn:x≠"__name__":=by decide) (hd:(x==("__debug__" : Str))=false:=by decide):wpAny (model X.prog X.w) X.A (eval (.Name x pos) X.env) Q E s:=by
 obtain ⟨mb,h1,h2⟩:=I.mod.blt
 exact Calls.Name_function_global I.ok.kind hg (Calls.loadGlobal_builtin (by rw [I.ok.glob];exact I.mod.glob.keeps I.bk) hm (by rw [I.ok.blt];exact h1.keeps I.bk) ((h2 x hn).trans hv) h) hd
theorem q7z {x:Str} {v:V} {u:Value} {pos:Pos} (hg:Gl X x) (hm:X.mg x=some u) (r:RelV v u) (hd:(x==("__debug__" : Str))=false:=by decide):PE X (.Name x pos) (tC v):=
 λ_ _ _ H _ I h=>q1E I hg hm ⟨v,H,I,r,h⟩ hd
theorem j25 {x:Str} {v:V} {u:Value} {pos:Pos} (hg:Gl X x) (hm:X.mg x=none) (hv:bootBuiltins x=some u) (r:RelV v u) (hn:x≠"__name__":=by decide) (hd:(x==("__debug__" : Str))=false:=by decide):PE X (.Name x pos) (tC v):=
 λ_ _ _ H _ I h=>q2S I hg hm hv ⟨v,H,I,r,h⟩ hn hd
variable {a b:Expr} {ta tb:TE} {pos:Pos}
noncomputable def tB (t:TE):TT:=fun σ H Q=>t σ H λx H1=>∃c,x=.bl c/\Q c H1
variable {tA tB':TT} {rest:List Expr}
noncomputable def tOr (t u:TT):TT:=fun σ H Q=>t σ H λc H1=>if c=true then Q true H1 else u σ H1 Q
noncomputable def j8d (t:TT):TT:=fun σ H Q=>t σ H λc H1=>Q (!c) H1
theorem j3R (ha:PT X a tA):PW X (.BoolOp .Or [a] pos) tA:=by
 intro wh pins s σ H Q I h
 refine isTrue_or (thn (ha pins s σ H Q I h) λc s1 e=>?_)
 cases c with
 | false=>exact isTrue_or_nil e
 | true=>exact e
theorem j7n (ha:PT X a tA) (hb:PW X (.BoolOp .Or (b::rest) pos) tB'):PW X (.BoolOp .Or (a::b::rest) pos) (tOr tA tB'):=by
 intro wh pins s σ H Q I h
 refine isTrue_or (thn (ha pins s σ H _ I h) λc s1 ⟨H1,I1,q1⟩=>?_)
 cases c with
 | true=>exact ⟨H1,I1,q1⟩
 | false=>exact hb wh pins s1 σ H1 Q I1 q1
theorem j1s (ha:PT X a tA):PT X (.UnaryOp .Not a pos) (j8d tA):=by
 intro pins s σ H Q I h
 exact isTrue_not (ha pins s σ H (λc H1=>Q (!c) H1) I h)
noncomputable def j6I (ta tb:TE):TE:=fun σ H Q=>ta σ H λx H1=>∃c,x=.bl c/\if c=true then tb σ H1 Q else Q (.bl false) H1
noncomputable def j8g (ta tb:TE):TE:=fun σ H Q=>ta σ H λx H1=>∃c,x=.bl c/\if c=true then Q (.bl true) H1 else tb σ H1 Q
noncomputable def j6w (ta:TE):TE:=fun σ H Q=>ta σ H λx H1=>∃c,x=.bl c/\Q (.bl (!c)) H1
theorem j4C {op} {t:TE} (h:PE X a t):PE X (.BoolOp op [a] pos) t:=λpins s σ H Q I hw=>BoolOp_one (h pins s σ H Q I hw)
theorem j4G (ha:PE X a ta) (hb:PE X (.BoolOp .And (b::rest) pos) tb):PE X (.BoolOp .And (a::b::rest) pos) (j6I ta tb):=by
 intro pins s σ H Q I h
 refine BoolOp_and (thn (ha pins s σ H _ I h) λv s1 ⟨x,H1,I1,r1,q1⟩=>?_)
 obtain ⟨c,rfl,q1⟩:=q1
 cases r1
 refine wpAny_truthy_bool ?_
 cases c with
 | true=>exact hb pins s1 σ H1 Q I1 q1
 | false=>exact ⟨.bl false,H1,I1,rfl,q1⟩
theorem j69 (ha:PE X a ta) (hb:PE X (.BoolOp .Or (b::rest) pos) tb):PE X (.BoolOp .Or (a::b::rest) pos) (j8g ta tb):=by
 intro pins s σ H Q I h
 refine BoolOp_or (thn (ha pins s σ H _ I h) λv s1 ⟨x,H1,I1,r1,q1⟩=>?_)
 obtain ⟨c,rfl,q1⟩:=q1
 cases r1
 refine wpAny_truthy_bool ?_
 cases c with
 | false=>exact hb pins s1 σ H1 Q I1 q1
 | true=>exact ⟨.bl true,H1,I1,rfl,q1⟩
theorem j4d (ha:PE X a ta):PE X (.UnaryOp .Not a pos) (j6w ta):=by
 intro pins s σ H Q I h
 refine UnaryOp_ (thn (ha pins s σ H _ I h) λv s1 ⟨x,H1,I1,r1,q1⟩=>?_)
 obtain ⟨c,rfl,q1⟩:=q1
 cases r1
 exact not_of (wpAny_truthy_bool ⟨.bl (!c),H1,I1,rfl,q1⟩)
end
noncomputable def SqL (K:PySem.W.Frag) (H:Hp) (a:Addr) (xs:List V):Prop:=
 Rd H a (.lst xs) ∨
  ∃(o:Obj) (its:Array Value) (n:Nat),K.lookup a=some o/\o.cls=.type "list"/\o.dict=none/\o.data=.seq its n/\its.size<=sizeLine/\Vals xs its.toList
noncomputable def SqT (K:PySem.W.Frag) (H:Hp) (a:Addr) (xs:List V):Prop:=
 Rd H a (.tup xs) ∨
  ∃(o:Obj) (its:Array Value) (n:Nat),K.lookup a=some o/\o.cls=.type "tuple"/\o.data=.seq its n/\its.size<=sizeLine/\Vals xs its.toList
noncomputable def j8v:Value->Option V
 | .none=>some .non
 | .bool b=>some (.bl b)
 | .int i _=>some (.int i)
 | .str x _=>some (.str x)
 | .bytes b _=>some (.byt b)
 | .float b _=>some (.flt b)
 | .ref a=>some (.ref a)
 | .type n=>some (.ty n)
 | _=>none
theorem RelV.abs {x:V} {u:Value} (r:RelV x u):j8v u=some x:=by
 cases x with
 | non=>cases r;rfl
 | bl _=>cases r;rfl
 | int _=>obtain ⟨t,rfl⟩:=r;rfl
 | str _=>obtain ⟨t,rfl⟩:=r;rfl
 | byt _=>obtain ⟨t,rfl⟩:=r;rfl
 | flt _=>obtain ⟨t,rfl⟩:=r;rfl
 | ref _=>cases r;rfl
 | ty _=>cases r;rfl
theorem RelV.inj {x y:V} {u:Value} (r:RelV x u) (q:RelV y u):x=y:=Option.some.inj (r.abs.symm.trans q.abs)
theorem Vals.inj:∀{xs ys:List V} {us:List Value},Vals xs us->Vals ys us->xs=ys
 | _,_,_,.nil,.nil=>rfl
 | _,_,_,.cons r t,.cons r' t'=>by rw [r.inj r',Vals.inj t t']
section
variable {X:Cx} {pins:List (Addr×Obj)} {σ:St} {H:Hp} {s:Shared} {a:Addr} {xs ys:List V}
theorem SqL.of {K:PySem.W.Frag} (h:H a=some (.lst xs)):SqL K H a xs:=.inl (.inl h)
theorem SqT.of {K:PySem.W.Frag} (h:H a=some (.tup xs)):SqT K H a xs:=.inl (.inl h)
theorem Inv.list (I:Inv X pins σ H s) (h:SqL X.K H a xs):∃its:List Value,Vals xs its/\PlainL s.heap a its.toArray/\xs.length<=sizeLine:=by
 rcases h with h | ⟨o,its,n,hk,hc,hd,hs,hz,r⟩
 ·obtain ⟨z,its,n,r,e⟩:=h.ok I.hok
  exact ⟨its,r,⟨_,n,e,rfl,rfl,rfl⟩,z⟩
 ·refine ⟨its.toList,r,⟨o,n,I.kIn a o hk,hc,hd,by simpa using hs⟩,?_⟩
  have e:=r.length
  simp only [Array.length_toList] at e
  omega
theorem Inv.tuple (I:Inv X pins σ H s) (h:SqT X.K H a xs):∃its:List Value,Vals xs its/\IsTup s.heap a its.toArray/\xs.length<=sizeLine:=by
 rcases h with h | ⟨o,its,n,hk,hc,hs,hz,r⟩
 ·obtain ⟨z,its,r,p⟩:=h.ok I.hok
  exact ⟨its,r,p,z⟩
 ·refine ⟨its.toList,r,⟨o,I.kIn a o hk,hc,n,by simpa using hs⟩,?_⟩
  have e:=r.length
  simp only [Array.length_toList] at e
  omega
theorem Inv.list_inj (I:Inv X pins σ H s) (h:SqL X.K H a xs) (h':SqL X.K H a ys):xs=ys:=by
 obtain ⟨its,r,⟨o,n,e,_,_,d⟩,_⟩:=I.list h
 obtain ⟨its',r',⟨o',n',e',_,_,d'⟩,_⟩:=I.list h'
 rw [e] at e';cases e'
 rw [d] at d'
 injection d' with d1 _
 have:its=its':=by simpa using congrArg Array.toList d1
 subst this
 exact r.inj r'
theorem Inv.tuple_inj (I:Inv X pins σ H s) (h:SqT X.K H a xs) (h':SqT X.K H a ys):xs=ys:=by
 obtain ⟨its,r,⟨o,e,_,n,d⟩,_⟩:=I.tuple h
 obtain ⟨its',r',⟨o',e',_,n',d'⟩,_⟩:=I.tuple h'
 rw [e] at e';cases e'
 rw [d] at d'
 injection d' with d1 _
 have:its=its':=by simpa using congrArg Array.toList d1
 subst this
 exact r.inj r'
end
noncomputable abbrev Cx.wish (X:Cx) (E:Value->Shared->Prop):Cx:={ X with xe:=E }
theorem Cx.Ok.wish {X:Cx} (ok:X.Ok) (E:Value->Shared->Prop):(X.wish E).Ok:=
 ⟨ok.mod,ok.kind,ok.glob,ok.blt,ok.above,ok.inj,ok.has,ok.cab,ok.hd,ok.frames,ok.stk,ok.exf,ok.bs,ok.bsz,ok.noex,ok.exfs,ok.funs,ok.frf⟩
theorem Cx.Ok.unwish {X:Cx} {E:Value->Shared->Prop} (ok:(X.wish E).Ok):X.Ok:=
 ⟨ok.mod,ok.kind,ok.glob,ok.blt,ok.above,ok.inj,ok.has,ok.cab,ok.hd,ok.frames,ok.stk,ok.exf,ok.bs,ok.bsz,ok.noex,ok.exfs,ok.funs,ok.frf⟩
section
variable {X:Cx} {pins:List (Addr×Obj)} {σ:St} {H:Hp} {s:Shared} {E:Value->Shared->Prop}
theorem Inv.wish (I:Inv X pins σ H s) (E:Value->Shared->Prop):Inv (X.wish E) pins σ H s:=⟨I.ok.wish E,I.os,I.bare,I.base,I.loc,I.cell,I.free,I.freeC,I.pin,I.hok,I.len⟩
theorem Inv.unwish (I:Inv (X.wish E) pins σ H s):Inv X pins σ H s:=⟨I.ok.unwish,I.os,I.bare,I.base,I.loc,I.cell,I.free,I.freeC,I.pin,I.hok,I.len⟩
end
section
variable {X:Cx} {st:Stmt} {rest:List Stmt} {t u:TS} {e:Expr} {te:TE} {pos:Pos}
noncomputable def j6q:TS:=λD σ H=>D.nx σ H
noncomputable def j8J (t u:TS):TS:=λD σ H=>t { D with nx:=u D } σ H
theorem q9i:PSs X [] j6q:=λ_ _ σ H _ I h=>wpAny_execs_nil ⟨σ,H,I,h⟩
theorem j0a (h1:PS X st t) (h2:PSs X rest u):PSs X (st::rest) (j8J t u):=by
 intro pins s σ H D I h
 refine wpAny_execs_cons (thn (h1 pins s σ H { D with nx:=u D } I h) λf s1 q=>?_)
 cases f with
 | next=>
  obtain ⟨σ',H',I',q⟩:=q
  exact h2 pins s1 σ' H' D I' q
 | ret v=>exact q
 | brk=>exact q
 | cont=>exact q
theorem j2e (h1:PS X st t):PSs X [st] t:=by
 intro pins s σ H D I h
 refine wpAny_execs_cons (thn (h1 pins s σ H D I h) λf s1 q=>?_)
 cases f with
 | next=>exact wpAny_execs_nil q
 | ret v=>exact q
 | brk=>exact q
 | cont=>exact q
theorem Inv.quiet {pins:List (Addr×Obj)} {σ:St} {H:Hp} {s:Shared} (I:Inv X pins σ H s):interactive X.env=false:=by simp [interactive,I.ok.kind]
noncomputable def j6p (te:TE):TS:=λD σ H=>te σ H λ_ H1=>D.nx σ H1
theorem q3E (he:PE X e te) (hs:swapsWith e none pos.line X.env=pure false:=by rfl):PS X (.Expr e pos) (j6p te):=by
 intro pins s σ H D I h
 exact wpAny_Expr_any (thn (he pins s σ H _ I h) λv s1 ⟨x,H1,I1,r1,q1⟩=>⟨σ,H1,I1,q1⟩) I.quiet hs
noncomputable def j76 (te:TE):TS:=λD σ H=>te σ H D.rt
theorem q4a (he:PE X e te):PS X (.Return (some e) pos) (j76 te):=by
 intro pins s σ H D I h
 exact wpAny_Return_some (thn (he pins s σ H _ I h) λv s1 ⟨x,H1,I1,r1,q1⟩=>⟨x,σ,H1,I1,r1,q1⟩)
noncomputable def j8A (c:TT) (t u:TS):TS:=λD σ H=>c σ H λb H1=>if b=true then t D σ H1 else u D σ H1
theorem j4K {c:Expr} {a b:List Stmt} {tc:TT} (hc:PT X c tc) (ha:PSs X a t) (hb:PSs X b u):PS X (.If c a b pos) (j8A tc t u):=by
 intro pins s σ H D I h
 refine wpAny_If (thn (hc pins s σ H _ I h) λd s1 ⟨H1,I1,q1⟩=>?_)
 cases d with
 | true=>exact ha pins s1 σ H1 D I1 q1
 | false=>exact hb pins s1 σ H1 D I1 q1
end
noncomputable abbrev TG:=V->St->Hp->(St->Hp->Prop)->Prop
noncomputable abbrev TGs:=List V->St->Hp->(St->Hp->Prop)->Prop
noncomputable def PG (X:Cx) (target:Expr) (t:TG):Prop:=
 ∀(pins:List (Addr×Obj)) (s:Shared) (σ:St) (H:Hp) (v:V) (u:Value) (Q:St->Hp->Prop),Inv X pins σ H s->RelV v u->t v σ H Q ->
  wpAny (model X.prog X.w) X.A (assign target X.env u) (λ_ s'=>∃σ' H',Inv X pins σ' H' s'/\Q σ' H') X.xe s
noncomputable def PGs (X:Cx) (ts:List Expr) (t:TGs):Prop:=
 ∀(pins:List (Addr×Obj)) (s:Shared) (σ:St) (H:Hp) (vs:List V) (us:List Value) (Q:St->Hp->Prop),Inv X pins σ H s->Vals vs us->t vs σ H Q ->
  wpAny (model X.prog X.w) X.A (assignInOrder ((assignEach ts X.env).map (·.2)) us) (λ_ s'=>∃σ' H',Inv X pins σ' H' s'/\Q σ' H') X.xe s
section
variable {X:Cx} {pos:Pos}
noncomputable def j3s (i:Nat):TG:=λv σ H Q=>Q (σ.set i (some v)) H
theorem q3S {i:Nat} {x:Str} (hN:X.N.Nodup) (hi:X.N[i]?=some x) (hx:Loc X.env.scope x) (hf:X.fn x=true∨X.env.scope.names.lookup x=some .local:=by walk_at "v2"):PG X (.Name x pos) (j3s i):=by
 intro pins s σ H v u Q I r h
 exact wpAny_assign_Name (q5W I hN hi hx r (λs' I'=>⟨_,H,I',h⟩) hf)
noncomputable def j8o:TGs:=λvs σ H Q=>vs=[]/\Q σ H
noncomputable def j6A (t:TG) (u:TGs):TGs:=λvs σ H Q=>∃v r,vs=v::r/\t v σ H fun σ' H'=>u r σ' H' Q
theorem j2r:PGs X [] j8o:=by
 intro pins s σ H vs us Q I r h
 obtain ⟨e,h⟩:=h
 subst e
 cases r
 exact assignInOrder_nil ⟨σ,H,I,h⟩
theorem q9q {e:Expr} {es:List Expr} {t:TG} {u:TGs} (h1:PG X e t) (h2:PGs X es u)
 (hs:(assignEach (e::es) X.env).map (·.2)=assign e X.env::(assignEach es X.env).map (·.2):=by rfl):PGs X (e::es) (j6A t u):=by
 intro pins s σ H vs us Q I r h
 obtain ⟨v,vr,e1,h⟩:=h
 subst e1
 cases r with
 | cons r rr=>
  rw [hs]
  refine assignInOrder_cons (thn (h1 pins s σ H _ _ _ I r h) λ_ s1 ⟨σ1,H1,I1,q1⟩=>?_)
  exact h2 pins s1 σ1 H1 _ _ Q I1 rr q1
noncomputable def j8t (K:PySem.W.Frag) (n:Nat) (t:TGs):TG:=λv σ H Q=>∃a xs,v=.ref a/\SqT K H a xs/\xs.length=n/\t xs σ H Q
theorem j5j {es:List Expr} {k:Nat} {t:TGs} {n:Nat} (hc:X.calm=true) (h:PGs X es t)
 (hn:(assignEach es X.env).length=n:=by rfl) (hst:(assignEach es X.env).findIdx? (·.1)=none:=by rfl):PG X (.Tuple es k pos) (j8t X.K n t):=by
 intro pins s σ H v u Q I r hw
 obtain ⟨a,xs,e1,hq,hl,hw⟩:=hw
 subst e1
 cases r
 obtain ⟨its,rv,ht,hz⟩:=I.tuple hq
 refine assign_Tuple_tuple (I.ok.hd hc) ht (by simp [hn,<-hl,rv.length]) hst λh' hx=>?_
 have I1:Inv X pins σ H { s with heap:=h' }:=I.kept (t':=s.toks) λb o e=>hx b o (Nat.ne_of_lt (Heap.lt_size e)) e
 exact h pins _ σ H xs _ Q I1 (by simpa using rv) hw
noncomputable def j6y (te:TE) (g:TG):TS:=λD σ H=>te σ H λx H1=>g x σ H1 D.nx
theorem j4Y {tg e:Expr} {te:TE} {g:TG} (he:PE X e te) (hg:PG X tg g) (hs:swapsWithSole [tg] e pos.line X.env=pure false:=by rfl) (hw:swappedStores [tg] e X.env=pure none:=by rfl)
 (h1:(assignEach [tg] X.env).map (·.2)=[assign tg X.env]:=by rfl):PS X (.Assign [tg] e pos) (j6y te g):=by
 intro pins s σ H D I h
 refine wpAny_Assign_stores (thn (he pins s σ H _ I h) λv s1 ⟨x,H1,I1,r1,q1⟩=>?_) hs hw
 rw [h1]
 exact thn (hg pins s1 σ H1 x v _ I1 r1 q1) λ_ s2 q=>q
theorem q9d {i:Nat} {x:Str} {e:Expr} {te:TE} {pos':Pos} (hN:X.N.Nodup) (hi:X.N[i]?=some x) (hx:Loc X.env.scope x) (he:PE X e te) (hs:swapsWith e (some (.Name x pos')) pos.line X.env=pure false:=by rfl) (hf:X.fn x=true∨X.env.scope.names.lookup x=some .local:=by walk_at "v2") :
 PS X (.Assign [.Name x pos'] e pos) (j6y te (j3s i)):=by
 intro pins s σ H D I h
 refine wpAny_Assign_Name (thn (he pins s σ H _ I h) λv s1 ⟨y,H1,I1,r1,q1⟩=>?_) hs
 exact q5W I1 hN hi hx r1 (λs2 I2=>⟨_,H1,I2,q1⟩) hf
end
section
variable {X:Cx} {pos:Pos}
end
structure It where
 go:Nat->Hp->Prop
 yld:Nat->Hp->V->Hp->Prop
 stop:Nat->Hp->Prop
noncomputable def q4K (X:Cx) (pins:List (Addr×Obj)) (H:Hp) (b:Addr):Prop:=
 H b=none/\b≠X.env.locals/\b∉X.fs/\(b∈X.ex∨X.s₀.heap.objs.size<=b)/\(∀x c,X.env.cells.lookup x=some c->c≠b)/\∀p∈X.pn++pins,p.1≠b
theorem Inv.fpOk {X:Cx} {pins:List (Addr×Obj)} {σ:St} {H H':Hp} {s:Shared} {b:Addr} (I:Inv X pins σ H s) (hb:s.heap.objs.size<=b) (hn:H' b=none):q4K X pins H' b:=by
 refine ⟨hn,Nat.ne_of_gt (Nat.lt_of_lt_of_le I.lt hb),I.nofs hb,.inr (Nat.le_trans I.sz hb),λx c e z=>?_,λp hp z=>?_⟩
 ·obtain ⟨v,q⟩:=I.cell x c e
  exact absurd (Nat.lt_of_lt_of_le q.lt (by rw [z];exact hb)) (Nat.lt_irrefl _)
 ·exact absurd (Nat.lt_of_lt_of_le (Heap.lt_size (I.pin p hp).1) (by rw [z];exact hb)) (Nat.lt_irrefl _)
structure j7d (Cp:Cx->Prop) (P:Program) (w:World) (K:PySem.W.Frag) (tg:Expr) (J:It) (fp:List Addr) (it:Addr) (tn:Nat->Heap->Prop):Prop where
 mem:it∈fp
 obj:∀i h,tn i h->∀b∈fp,∃o,h.get? b=some o/\∀v,o.data≠.cell v
 keep:∀i h h',tn i h->(∀b∈fp,∀o,h.get? b=some o->h'.get? b=some o)->tn i h'
 item:∀(X:Cx),X.prog=P->X.w=w->X.K=K->Cp X->∀(i:Nat) (pins:List (Addr×Obj)) (s:Shared) (σ:St) (H:Hp) (E:Value->Shared->Prop),Inv X pins σ H s->(∀b∈fp,q4K X pins H b)->tn i s.heap->J.go i H ->
  wpAny (model P w) X.A (pyNext (.ref it)) (λr s1=>∃u,r=some u /\
   wpAny (model P w) X.A (letOwnedTupleGo tg (.ref it) u) (λ_ s2=>∃x H',Inv X pins σ H' s2/\RelV x u/\J.yld i H x H'/\tn (i+1) s2.heap/\∀b∈fp,H' b=none) E s1) E s
 done:∀(X:Cx),X.prog=P->X.w=w->X.K=K->Cp X->∀(i:Nat) (pins:List (Addr×Obj)) (s:Shared) (σ:St) (H:Hp) (E:Value->Shared->Prop),Inv X pins σ H s->(∀b∈fp,q4K X pins H b)->tn i s.heap->J.stop i H ->
  wpAny (model P w) X.A (pyNext (.ref it)) (λr s1=>r=none/\Inv X pins σ H s1) E s
 self:∀(A:Around) (i:Nat) (s:Shared) (Q:Value->Shared->Prop) (E:Value->Shared->Prop),tn i s.heap->Q (.ref it) s->wpAny (model P w) A (pyIter (.ref it)) Q E s
noncomputable abbrev Turn (P:Program) (w:World) (K:PySem.W.Frag) (tg:Expr) (J:It) (fp:List Addr) (it:Addr) (tn:Nat->Heap->Prop):Prop:=j7d (λX=>X.calm=true) P w K tg J fp it tn
noncomputable abbrev TI:=St->Hp->(It->Hp->Prop)->Prop
noncomputable def PIE (X:Cx) (pins:List (Addr×Obj)) (σ:St) (tg:Expr) (R:It->Hp->Prop) (itv:Value) (s2:Shared):Prop:=
 ∃(it:Addr) (fp:List Addr) (tn:Nat->Heap->Prop) (J:It) (H':Hp),itv=.ref it/\Inv X pins σ H' s2/\Turn X.prog X.w X.K tg J fp it tn/\tn 0 s2.heap/\(∀b∈fp,q4K X pins H' b)/\R J H'
noncomputable def PI (X:Cx) (tg iter:Expr) (wi:TI):Prop:=
 ∀(pins:List (Addr×Obj)) (s:Shared) (σ:St) (H:Hp) (R:It->Hp->Prop),Inv X pins σ H s->wi σ H R ->
  wpAny (model X.prog X.w) X.A (eval iter X.env) (λv s1=>wpAny (model X.prog X.w) X.A (pyIter v) (PIE X pins σ tg R) X.xe s1) X.xe s
theorem q7r {M:Model} {A:Around} {E:Value->Shared->Prop} {s:Shared} {tg:Expr} {it:Addr} {u:Value} {o:Obj} {n:String} {vs:Array Value} {Q:Unit->Shared->Prop} (ho:s.heap.get? it=some o) (hc:o.cls=.type n) (hd:o.data=.fields vs)
 (hn:["enumerate","zip","dict_itemiterator","dict_reverseitemiterator","odict_iterator","itertools.zip_longest","itertools.pairwise"].contains n=false) (hQ:Q () s):wpAny M A (letOwnedTupleGo tg (.ref it) u) Q E s:=by
 unfold letOwnedTupleGo
 cases tg<;>first
  | exact wpAny_pure hQ
  | (cases u<;>first
   | exact wpAny_pure hQ
   | (refine wpAny_bind (wpAny_load ho ?_)
      rw [hc,hd]
      show wpAny M A (if (["enumerate","zip","dict_itemiterator","dict_reverseitemiterator","odict_iterator","itertools.zip_longest","itertools.pairwise"].contains n && vs[0]?==some (rawInt _))=true then _ else _) Q E s
      rw [if_neg (by intro h;rw [hn,Bool.false_and] at h;cases h)]
      exact wpAny_pure hQ))
noncomputable def Itl (K:PySem.W.Frag) (a:Addr):It:=
 ⟨λi H=>∃xs x,SqL K H a xs/\xs[i]?=some x,λi H x H'=>H'=H/\∀xs,SqL K H a xs->xs[i]?=some x,λi H=>∃xs,SqL K H a xs/\xs.length<=i⟩
noncomputable def Itt (K:PySem.W.Frag) (a:Addr):It:=
 ⟨λi H=>∃xs x,SqT K H a xs/\xs[i]?=some x,λi H x H'=>H'=H/\∀xs,SqT K H a xs->xs[i]?=some x,λi H=>∃xs,SqT K H a xs/\xs.length<=i⟩
noncomputable def Itr (lo:Int) (n:Nat):It:=⟨λi _=>i < n,λi H x H'=>H'=H/\x=.int (lo+i),λi _=>n<=i⟩
theorem q7e {P:Program} {w:World} {K:PySem.W.Frag} {tg:Expr} (a it:Addr):Turn P w K tg (Itl K a) [it] it (λi h=>h.IsListIter it a i) where
 mem:=by simp
 obj:=λi h st b hb=>by
  have e:b=it:=by simpa using hb
  subst e
  obtain ⟨o,e,c,d⟩:=st
  exact ⟨o,e,λv z=>by rw [d] at z;cases z⟩
 keep:=λi h h' st k=>st.at λo e=>k it (by simp) o e
 item:=by
  intro X hP hw hK hc i pins s σ H E I hf st hg
  subst hP hw hK
  obtain ⟨xs,x,hq,hx⟩:=hg
  obtain ⟨its,rv,p,hz⟩:=I.list hq
  obtain ⟨u,hu,ru⟩:=rv.get hx
  obtain ⟨f0,f1,f2,f3,f4,f5⟩:=hf it (by simp)
  refine wpAny_pyNext_list_item st p.isList (x:=u) (by simpa using hu) λh' st' sb=>?_
  have I1:Inv X pins σ H { s with heap:=h' }:=I.turned (t':=s.toks) (λb o hb e=>(sb.2 b hb).trans e) f0 f1 f3 f4 f5
  obtain ⟨o,e,c,d⟩:=id st'
  exact ⟨u,rfl,q7r (s:={ s with heap:=h' }) e c d (by decide) ⟨x,H,I1,ru,⟨rfl,λys hy=>by rw [I.list_inj hy hq];exact hx⟩,st',λb hb=>(hf b hb).1⟩⟩
 done:=by
  intro X hP hw hK hc i pins s σ H E I hf st hg
  subst hP hw hK
  obtain ⟨xs,hq,hx⟩:=hg
  obtain ⟨its,rv,p,hz⟩:=I.list hq
  obtain ⟨f0,f1,f2,f3,f4,f5⟩:=hf it (by simp)
  have hl:=rv.length
  exact wpAny_pyNext_list_end (I.ok.hd hc) st p.isList (by simp;omega) λh' eb=>⟨rfl,I.turned (t':=s.toks) (λb o hb e=>eb b o hb e) f0 f1 f3 f4 f5⟩
 self:=λ_ _ _ _ _ st h=>wpAny_pyIter_listiter st h
theorem q6S {P:Program} {w:World} {K:PySem.W.Frag} {tg:Expr} (a it:Addr):Turn P w K tg (Itt K a) [it] it (λi h=>h.IsTupleIter it a i) where
 mem:=by simp
 obj:=λi h st b hb=>by
  have e:b=it:=by simpa using hb
  subst e
  obtain ⟨o,e,c,d⟩:=st
  exact ⟨o,e,λv z=>by rw [d] at z;cases z⟩
 keep:=λi h h' st k=>st.at λo e=>k it (by simp) o e
 item:=by
  intro X hP hw hK hc i pins s σ H E I hf st hg
  subst hP hw hK
  obtain ⟨xs,x,hq,hx⟩:=hg
  obtain ⟨its,rv,p,hz⟩:=I.tuple hq
  obtain ⟨u,hu,ru⟩:=rv.get hx
  obtain ⟨f0,f1,f2,f3,f4,f5⟩:=hf it (by simp)
  refine wpAny_pyNext_tuple_item st (show s.heap.IsTuple a its.toArray from p) (x:=u) (by simpa using hu) λh' st' sb=>?_
  have I1:Inv X pins σ H { s with heap:=h' }:=I.turned (t':=s.toks) (λb o hb e=>(sb.2 b hb).trans e) f0 f1 f3 f4 f5
  obtain ⟨o,e,c,d⟩:=id st'
  exact ⟨u,rfl,q7r (s:={ s with heap:=h' }) e c d (by decide) ⟨x,H,I1,ru,⟨rfl,λys hy=>by rw [I.tuple_inj hy hq];exact hx⟩,st',λb hb=>(hf b hb).1⟩⟩
 done:=by
  intro X hP hw hK hc i pins s σ H E I hf st hg
  subst hP hw hK
  obtain ⟨xs,hq,hx⟩:=hg
  obtain ⟨its,rv,p,hz⟩:=I.tuple hq
  obtain ⟨f0,f1,f2,f3,f4,f5⟩:=hf it (by simp)
  have hl:=rv.length
  exact wpAny_pyNext_tuple_end (I.ok.hd hc) st (show s.heap.IsTuple a its.toArray from p) (by simp;omega) λh' eb=>⟨rfl,I.turned (t':=s.toks) (λb o hb e=>eb b o hb e) f0 f1 f3 f4 f5⟩
 self:=λ_ _ _ _ _ st h=>wpAny_pyIter_tupleiter st h
theorem q6w {P:Program} {w:World} {K:PySem.W.Frag} {tg:Expr} (it:Addr) (lo:Int) (n:Nat):Turn P w K tg (Itr lo n) [it] it (λi h=>IsRangeIter h it (lo+(i:Nat)*1) ((n:Int)-(i:Nat)) 1) where
 mem:=by simp
 obj:=λi h st b hb=>by
  have e:b=it:=by simpa using hb
  subst e
  exact ⟨_,st,λv z=>by
   have z':Data.fields _=Data.cell v:=z
   cases z'⟩
 keep:=λi h h' st k=>k it (by simp) _ st
 item:=by
  intro X hP hw hK hc i pins s σ H E I hf st hg
  subst hP hw hK
  obtain ⟨f0,f1,f2,f3,f4,f5⟩:=hf it (by simp)
  have W:=Walks.range (prog:=X.prog) (w:=X.w) (I.ok.hd hc) it lo 1 n
  refine W.item i s _ _ hg st λv h' tk hv st' kk=>?_
  obtain ⟨t,rfl⟩:=hv
  have I1:Inv X pins σ H { s with heap:=h',toks:=tk }:=I.turned (λb o hb e=>kk b o (by simpa using hb) e) f0 f1 f3 f4 f5
  refine ⟨_,rfl,q7r (s:={ s with heap:=h',toks:=tk }) (n:="range_iterator") st' rfl rfl (by decide) ⟨.int (lo+i),H,I1,⟨t,?_⟩,⟨rfl,rfl⟩,st',λb hb=>(hf b hb).1⟩⟩
  rw [Int.mul_one]
 done:=by
  intro X hP hw hK hc i pins s σ H E I hf st hg
  subst hP hw hK
  obtain ⟨f0,f1,f2,f3,f4,f5⟩:=hf it (by simp)
  exact wpAny_pyNext_range_end (I.ok.hd hc) st (by have:n<=i:=hg;omega) λh' eb=>⟨rfl,I.turned (t':=s.toks) (λb o hb e=>eb b o hb e) f0 f1 f3 f4 f5⟩
 self:=λ_ _ _ _ _ st h=>wpAny_pyIter_rangeiter st h
section
variable {X:Cx} {tg:Expr}
noncomputable def j6N (K:PySem.W.Frag) (tl:TE):TI:=fun σ H R=>tl σ H λx H1=>∃a,x=.ref a/\(∃xs,SqL K H1 a xs)/\R (Itl K a) H1
noncomputable def j8a (K:PySem.W.Frag) (tl:TE):TI:=fun σ H R=>tl σ H λx H1=>∃a,x=.ref a/\(∃xs,SqT K H1 a xs)/\R (Itt K a) H1
theorem j2D {l:Expr} {tl:TE} (hl:PE X l tl):PI X tg l (j6N X.K tl):=by
 intro pins s σ H R I h
 refine thn (hl pins s σ H _ I h) λv s1 ⟨x,H1,I1,r1,q1⟩=>?_
 obtain ⟨a,e,⟨xs,hq⟩,q⟩:=q1
 subst e
 cases r1
 obtain ⟨its,rv,p,hz⟩:=I1.list hq
 refine wpAny_pyIter_list p.isList ?_
 refine ⟨s1.heap.objs.size,[s1.heap.objs.size],_,_,H1,rfl,I1.kept (t':=s1.toks) λb o e=>Heap.get?_push_of_some _ e,q7e a _,⟨_,Heap.get?_push_size _ rfl,rfl,rfl⟩,λb hb=>?_,q⟩
 have e:b=s1.heap.objs.size:=by simpa using hb
 subst e
 exact I1.fpOk (Nat.le_refl _) (I1.hok.fresh (Nat.le_refl _))
theorem j4R {l:Expr} {tl:TE} (hl:PE X l tl):PI X tg l (j8a X.K tl):=by
 intro pins s σ H R I h
 refine thn (hl pins s σ H _ I h) λv s1 ⟨x,H1,I1,r1,q1⟩=>?_
 obtain ⟨a,e,⟨xs,hq⟩,q⟩:=q1
 subst e
 cases r1
 obtain ⟨its,rv,p,hz⟩:=I1.tuple hq
 refine wpAny_pyIter_tuple (show s1.heap.IsTuple a its.toArray from p) ?_
 refine ⟨s1.heap.objs.size,[s1.heap.objs.size],_,_,H1,rfl,I1.kept (t':=s1.toks) λb o e=>Heap.get?_push_of_some _ e,q6S a _,⟨_,Heap.get?_push_size _ rfl,rfl,rfl⟩,λb hb=>?_,q⟩
 have e:b=s1.heap.objs.size:=by simpa using hb
 subst e
 exact I1.fpOk (Nat.le_refl _) (I1.hok.fresh (Nat.le_refl _))
theorem q9x {pins:List (Addr×Obj)} {σ:St} {H:Hp} {s:Shared} {R:It->Hp->Prop} {E:Value->Shared->Prop} {lo hi:Int} {t u v:Tok} {tk:Nat} (I:Inv X pins σ H s) (h1:-(2 ^ 62)<=lo) (h2:lo < 2 ^ 62) (h3:-(2 ^ 62)<=hi) (h4:hi < 2 ^ 62)
 (q:R (Itr lo (hi-lo).toNat) H):wpAny (model X.prog X.w) X.A (pyIter (.ref s.heap.objs.size)) (PIE X pins σ tg R) E { s with heap:=s.heap.push { cls:=.type "range",data:=.fields #[.int lo t,.int hi u,.int 1 v] },toks:=tk }:=by
 refine wpAny_pyIter_range (IsRange.new ..) (small_one h1 h2 h3 h4) ?_
 have I1:Inv X pins σ H { s with heap:=s.heap.push { cls:=.type "range",data:=.fields #[.int lo t,.int hi u,.int 1 v] },toks:=tk }:=I.kept λb o e=>Heap.get?_push_of_some _ e
 refine ⟨(s.heap.push { cls:=.type "range",data:=.fields #[.int lo t,.int hi u,.int 1 v] }).objs.size,[(s.heap.push { cls:=.type "range",data:=.fields #[.int lo t,.int hi u,.int 1 v] }).objs.size],_,_,H,rfl,
  I1.kept (t':=tk) λb o e=>Heap.get?_push_of_some _ e,q6w _ lo (hi-lo).toNat,?_,λb hb=>?_,q⟩
 ·have e1:lo+((0:Nat):Int)*1=lo:=by simp
  have e2:(((hi-lo).toNat:Nat):Int)-((0:Nat):Int)=Builtin.Range.rangeSize lo hi 1:=by rw [rangeSize_one];split<;>omega
  show IsRangeIter _ _ (lo+((0:Nat):Int)*1) ((((hi-lo).toNat:Nat):Int)-((0:Nat):Int)) 1
  rw [e1,e2]
  exact Heap.get?_push_size _ rfl
 ·have e:b=(s.heap.push { cls:=.type "range",data:=.fields #[.int lo t,.int hi u,.int 1 v] }).objs.size:=by simpa using hb
  subst e
  exact I1.fpOk (Nat.le_refl _) (I1.hok.fresh (Nat.le_refl _))
noncomputable def j7p (ta:TA):TI:=fun σ H R=>ta σ H λvs H1=>∃j:Int,vs=[.int j]/\-(2 ^ 62)<=j/\j < 2 ^ 62/\R (Itr 0 j.toNat) H1
theorem q7B {a:Expr} {ta:TA} {p pos:Pos} (hg:Gl X "range") (hm:X.mg "range" = none) (ha:PA X [a] ta) (hs:starEach [a] X.env=[(false,eval a X.env)]:=by rfl):PI X tg (.Call (.Name "range" p) [a] [] pos) (j7p ta):=by
 intro pins s σ H R I h
 refine Call_ (q2S I hg hm boot_range (PyProof.Rows.callWith_type1 (thn (ha pos pins s σ H _ I h) λus s1 ⟨vs,H1,I1,r1,q1⟩=>?_) hs rfl))
 obtain ⟨j,e,q1,q2,q⟩:=q1
 subst e
 cases r1 with
 | cons r rr=>
  cases rr
  obtain ⟨t,rfl⟩:=r
  exact call_range_1 (q9x I1 (by omega) (by omega) q1 q2 (by simpa using q))
noncomputable def j8Y (wi:TI) (g:TG) (tb:TS):TS:=λD σ H=>wi σ H λJ H1=>∃W:Nat->Nat->St->Hp->Prop,(∃m,W 0 m σ H1)/\∀i m σ H,W i m σ H ->
 (J.stop i H/\D.nx σ H)∨(J.go i H/\∃N:St->Hp->Prop,(∀σ' H',N σ' H'->∃m',m' < m/\W (i+1) m' σ' H')/\∀x H',J.yld i H x H'->g x σ H' fun σ2 H2=>tb { D with nx:=N,ct:=N,bk:=D.nx } σ2 H2)
noncomputable def q5p (fp:List Addr) (h:Heap):List (Addr×Obj):=fp.filterMap λb=>(h.get? b).map λo=>(b,o)
theorem q1N {fp:List Addr} {h:Heap} {b:Addr} {o:Obj} (hb:b∈fp) (e:h.get? b=some o):(b,o)∈q5p fp h:=List.mem_filterMap.mpr ⟨b,hb,by rw [e];rfl⟩
theorem q7k {fp:List Addr} {h:Heap} {p:Addr×Obj} (hp:p∈q5p fp h):p.1∈fp/\h.get? p.1=some p.2:=by
 obtain ⟨b,hb,e⟩:=List.mem_filterMap.mp hp
 cases q:h.get? b with
 | none=>rw [q] at e;cases e
 | some o=>
  rw [q] at e
  have e':(b,o)=p:=Option.some.inj e
  subst e'
  exact ⟨hb,q⟩
theorem Inv.pinned {pins:List (Addr×Obj)} {σ:St} {H:Hp} {s:Shared} {fp:List Addr} (I:Inv X pins σ H s) (hf:∀b∈fp,q4K X pins H b) (ho:∀b∈fp,∃o,s.heap.get? b=some o/\∀v,o.data≠.cell v):Inv X (pins++q5p fp s.heap) σ H s:=
 I.pins_of λp hp=>(List.mem_append.mp hp).elim (λz=>I.pin p (List.mem_append_right _ z)) λz=>by
  obtain ⟨hb,e⟩:=q7k z
  obtain ⟨f0,f1,f2,_⟩:=hf p.1 hb
  obtain ⟨o,e',d⟩:=ho p.1 hb
  rw [e] at e';cases e'
  exact ⟨e,f0,f1,f2,d⟩
theorem Inv.unpinned {pins pl:List (Addr×Obj)} {σ:St} {H:Hp} {s:Shared} (I:Inv X (pins++pl) σ H s):Inv X pins σ H s:=I.pins_of λp hp=>I.pin p (List.mem_append_right _ (List.mem_append_left _ hp))
theorem j40 {iter:Expr} {body:List Stmt} {wi:TI} {g:TG} {tb:TS} {pos:Pos} (hp:PassesOwn (model X.prog X.w) X.A X.env X.xe) (hc:X.calm=true) (hi:PI X tg iter wi) (hg:PG X tg g) (hb:PSs X body tb)
 (hs:∀x,foldedSetIterable iter X.env x=pure x:=by intro _;rfl):PS X (.For tg iter body [] pos) (j8Y wi g tb):=by
 intro pins s σ H D I h
 refine wpAny_For (thn (hi pins s σ H _ I h) λv s1 h1=>thn h1 λitv s2 h2=>?_) hs
 obtain ⟨it,fp,tn,J,H2,e,I2,T,st2,f2,W,⟨m0,w0⟩,turn⟩:=h2
 subst e
 have stat:∀{H':Hp},(∀b∈fp,H' b=none)->∀b∈fp,q4K X pins H' b:=λhn b hb=>⟨hn b hb,(f2 b hb).2⟩
 refine codeAny_forLoop_any (λn s'=>∃i σ' H',Inv X pins σ' H' s'/\tn i s'.heap/\(∀b∈fp,H' b=none)/\W i n σ' H') ?_ m0 ⟨0,σ,H2,I2,st2,λb hb=>(f2 b hb).1,w0⟩
 rintro n s3 ⟨i,σ3,H3,I3,st3,fr3,w3⟩
 rcases turn i n σ3 H3 w3 with ⟨stop,qn⟩ | ⟨go,N,hN,step⟩
 ·refine wpAny_passesOwn hp (thn (T.done X rfl rfl rfl hc i pins s3 σ3 H3 X.xe I3 (stat fr3) st3 stop) λr s4 ⟨hr,I4⟩=>?_)
  subst hr
  exact wpAny_execs_nil ⟨σ3,H3,I4,qn⟩
 ·refine wpAny_passesOwn hp (thn (T.item X rfl rfl rfl hc i pins s3 σ3 H3 X.xe I3 (stat fr3) st3 go) λr s4 ⟨u,hr,h4⟩=>?_)
  subst hr
  refine wpAny_passesOwn hp (thn h4 λ_ s5 ⟨x,H5,I5,r5,y5,st5,fr5⟩=>?_)
  have I5':=I5.pinned (stat fr5) (T.obj _ _ st5)
  refine wpAny_passesOwn hp (thn (hg _ s5 σ3 H5 x u _ I5' r5 (step x H5 y5)) λ_ s6 ⟨σ6,H6,I6,q6⟩=>?_)
  refine wpAny_passesOwn hp (thn (hb _ s6 σ6 H6 _ I6 q6) λf s7 q7=>?_)
  have again:∀{σ7:St} {H7:Hp},Inv X (pins++q5p fp s5.heap) σ7 H7 s7->N σ7 H7->∃m,m < n/\∃i σ' H',Inv X pins σ' H' s7/\tn i s7.heap/\(∀b∈fp,H' b=none)/\W i m σ' H':=λ{σ7 H7} I7 n7=>by
   obtain ⟨m',hm,w7⟩:=hN σ7 H7 n7
   refine ⟨m',hm,i+1,σ7,H7,I7.unpinned,T.keep _ _ _ st5 λb hb o e=>(I7.pin (b,o) (List.mem_append_right _ (List.mem_append_right _ (q1N hb e)))).1,λb hb=>?_,w7⟩
   obtain ⟨o,e,d⟩:=T.obj _ _ st5 b hb
   exact (I7.pin (b,o) (List.mem_append_right _ (List.mem_append_right _ (q1N hb e)))).2.1
  cases f with
  | next=>obtain ⟨σ7,H7,I7,n7⟩:=q7;exact again I7 n7
  | cont=>obtain ⟨σ7,H7,I7,n7⟩:=q7;exact again I7 n7
  | brk=>obtain ⟨σ7,H7,I7,q7⟩:=q7;exact ⟨σ7,H7,I7.unpinned,q7⟩
  | ret v=>obtain ⟨x7,σ7,H7,I7,r7,q7⟩:=q7;exact ⟨x7,σ7,H7,I7.unpinned,r7,q7⟩
end
noncomputable abbrev R2:=V->V->Hp->VK->Prop
noncomputable def OpR (X:Cx) (f:Value->Value->Sem Value) (r:R2):Prop:=
 ∀(pins:List (Addr×Obj)) (s:Shared) (σ:St) (H:Hp) (x y:V) (v u:Value) (Q:VK),Inv X pins σ H s->RelV x v->RelV y u->r x y H Q ->
  wpAny (model X.prog X.w) X.A (f v u) (EP X pins σ Q) X.xe s
noncomputable def UnR (X:Cx) (f:Value->Sem Value) (r:V->Hp->VK->Prop):Prop:=
 ∀(pins:List (Addr×Obj)) (s:Shared) (σ:St) (H:Hp) (x:V) (v:Value) (Q:VK),Inv X pins σ H s->RelV x v->r x H Q ->
  wpAny (model X.prog X.w) X.A (f v) (EP X pins σ Q) X.xe s
noncomputable def q2l (X:Cx) (f:Value) (r:List V->Hp->VK->Prop):Prop:=
 ∀(pins:List (Addr×Obj)) (s:Shared) (σ:St) (H:Hp) (xs:List V) (us:List Value) (Q:VK),Inv X pins σ H s->Vals xs us->r xs H Q ->
  wpAny (model X.prog X.w) X.A (call f us) (EP X pins σ Q) X.xe s
noncomputable def j8s (X:Cx) (r:V->Hp->(Bool->Hp->Prop)->Prop):Prop:=
 ∀(pins:List (Addr×Obj)) (s:Shared) (σ:St) (H:Hp) (x:V) (v:Value) (Q:Bool->Hp->Prop),Inv X pins σ H s->RelV x v->r x H Q ->
  wpAny (model X.prog X.w) X.A (truthy v) (TP X pins σ Q) X.xe s
noncomputable def tOp (r:R2) (ta tb:TE):TE:=fun σ H Q=>ta σ H λx H1=>tb σ H1 λy H2=>r x y H2 Q
noncomputable def tUn (r:V->Hp->VK->Prop) (ta:TE):TE:=fun σ H Q=>ta σ H λx H1=>r x H1 Q
noncomputable def rI (C:Int->Int->Prop) (g:Int->Int->V):R2:=λx y H Q=>∃i j,x=.int i/\y=.int j/\C i j/\Q (g i j) H
noncomputable def rI0 (g:Int->Int->V):R2:=λx y H Q=>∃i j,x=.int i/\y=.int j/\Q (g i j) H
noncomputable def rU (g:Int->V):V->Hp->VK->Prop:=λx H Q=>∃i,x=.int i/\Q (g i) H
section
variable {X:Cx} {a b c:Expr} {ta tb tc:TE} {pos:Pos}
theorem j7x (ha:PE X a ta) (hb:PE X b tb) {pins:List (Addr×Obj)} {s:Shared} {σ:St} {H:Hp} {R:V->V->Hp->Prop} (I:Inv X pins σ H s)
 (h:ta σ H λx H1=>tb σ H1 λy H2=>R x y H2) {Q:Value->Shared->Prop} {f:Value->Value->Sem Value}
 (hf:∀v u s2 x y H2,Inv X pins σ H2 s2->RelV x v->RelV y u->R x y H2->wpAny (model X.prog X.w) X.A (f v u) Q X.xe s2) :
 wpAny (model X.prog X.w) X.A (eval a X.env) (λv s₁=>wpAny (model X.prog X.w) X.A (eval b X.env) (λu s₂=>wpAny (model X.prog X.w) X.A (f v u) Q X.xe s₂) X.xe s₁) X.xe s:=by
 refine thn (ha pins s σ H _ I h) λv s1 ⟨x,H1,I1,r1,q1⟩=>?_
 refine thn (hb pins s1 σ H1 _ I1 q1) λu s2 ⟨y,H2,I2,r2,q2⟩=>?_
 exact hf v u s2 x y H2 I2 r1 r2 q2
theorem j4W {op:Operator} {r:R2} (ho:OpR X (binaryOp op) r) (ha:PE X a ta) (hb:PE X b tb):PE X (.BinOp a op b pos) (tOp r ta tb):=by
 intro pins s σ H Q I h
 exact wpAny_BinOp (j7x ha hb I h λv u s2 x y H2 I2 rx ry q=>ho pins s2 σ H2 x y v u Q I2 rx ry q)
theorem j6K {op:UnaryOp} {r:V->Hp->VK->Prop} (ho:UnR X (unaryOp op) r) (ha:PE X a ta):PE X (.UnaryOp op a pos) (tUn r ta):=by
 intro pins s σ H Q I h
 exact UnaryOp_ (thn (ha pins s σ H _ I h) λv s1 ⟨x,H1,I1,r1,q1⟩=>ho pins s1 σ H1 x v Q I1 r1 q1)
theorem opI {f:Value->Value->Sem Value} {C:Int->Int->Prop} {g:Int->Int->Int}
 (rule:∀(i j:Int) (t u:Tok) (s:Shared) (Q:Value->Shared->Prop) (E:Value->Shared->Prop),C i j->Q (.int (g i j) s.toks) { s with toks:=s.toks+1 }->wpAny (model X.prog X.w) X.A (f (.int i t) (.int j u)) Q E s) :
 OpR X f (rI C λi j=>.int (g i j)):=by
 intro pins s σ H x y v u Q I rx ry h
 obtain ⟨i,j,rfl,rfl,hc,q⟩:=h
 obtain ⟨t,rfl⟩:=rx
 obtain ⟨t',rfl⟩:=ry
 exact rule i j t t' s _ _ hc ⟨.int (g i j),H,I.tok _,⟨_,rfl⟩,q⟩
theorem j75 {f:Value->Value->Sem Value} {g:Int->Int->Int}
 (rule:∀(i j:Int) (t u:Tok) (s:Shared) (Q:Value->Shared->Prop) (E:Value->Shared->Prop),Q (.int (g i j) s.toks) { s with toks:=s.toks+1 }->wpAny (model X.prog X.w) X.A (f (.int i t) (.int j u)) Q E s) :
 OpR X f (rI0 λi j=>.int (g i j)):=by
 intro pins s σ H x y v u Q I rx ry h
 obtain ⟨i,j,rfl,rfl,q⟩:=h
 obtain ⟨t,rfl⟩:=rx
 obtain ⟨t',rfl⟩:=ry
 exact rule i j t t' s _ _ ⟨.int (g i j),H,I.tok _,⟨_,rfl⟩,q⟩
theorem j5W {f:Value->Value->Sem Value} {g:Int->Int->Bool}
 (rule:∀(i j:Int) (t u:Tok) (s:Shared) (Q:Value->Shared->Prop) (E:Value->Shared->Prop),Q (.bool (g i j)) s->wpAny (model X.prog X.w) X.A (f (.int i t) (.int j u)) Q E s) :
 OpR X f (rI0 λi j=>.bl (g i j)):=by
 intro pins s σ H x y v u Q I rx ry h
 obtain ⟨i,j,rfl,rfl,q⟩:=h
 obtain ⟨t,rfl⟩:=rx
 obtain ⟨t',rfl⟩:=ry
 exact rule i j t t' s _ _ ⟨.bl (g i j),H,I,rfl,q⟩
noncomputable def j8U (i j:Int):Prop:=0 < j/\j < 1073741824
noncomputable def CMul (i j:Int):Prop:=(-(2 ^ 64) < i/\i < 2 ^ 64)∨(-(2 ^ 64) < j/\j < 2 ^ 64)
theorem CMul.ok {i j:Int} (h:CMul i j):IntMulOk i j:=by
 rcases h with ⟨h1,h2⟩ | ⟨h1,h2⟩
 ·exact .of_left (intBits_le_64 h1 h2)
 ·exact .of_right (intBits_le_64 h1 h2)
theorem j5q:OpR X (binaryOp .Add) (rI0 λi j=>.int (i+j)):=j75 λ_ _ _ _ _ _ _ q=>add_int q
theorem j3X:OpR X (binaryOp .Sub) (rI0 λi j=>.int (i-j)):=j75 λ_ _ _ _ _ _ _ q=>sub_int q
theorem j5a:OpR X (binaryOp .Mult) (rI CMul λi j=>.int (i*j)):=opI λ_ _ _ _ _ _ _ hc q=>mul_int q hc.ok
theorem j3n:OpR X (binaryOp .FloorDiv) (rI j8U λi j=>.int (i / j)):=opI λi j _ _ _ _ _ hc q=>by
 have h1:(0:Int) < j:=hc.1
 have h2:j < 1073741824:=hc.2
 exact floordiv_int (by omega) (by rw [Int.fdiv_eq_ediv_of_nonneg i (by omega)];exact q) (.inl (PyProof.noPylong_small (by omega)))
theorem j45:OpR X (binaryOp .Mod) (rI (λ_ j=>0 < j) λi j=>.int (i % j)):=opI λi j _ _ _ _ _ hc q=>by
 have h1:(0:Int) < j:=hc
 exact mod_int' (by omega) (by rw [Int.fmod_eq_emod_of_nonneg i (by omega)];exact q)
theorem unI {f:Value->Sem Value} {g:Int->Int}
 (rule:∀(i:Int) (t:Tok) (s:Shared) (Q:Value->Shared->Prop) (E:Value->Shared->Prop),Q (.int (g i) s.toks) { s with toks:=s.toks+1 }->wpAny (model X.prog X.w) X.A (f (.int i t)) Q E s) :
 UnR X f (rU λi=>.int (g i)):=by
 intro pins s σ H x v Q I rx h
 obtain ⟨i,rfl,q⟩:=h
 obtain ⟨t,rfl⟩:=rx
 exact rule i t s _ _ ⟨.int (g i),H,I.tok _,⟨_,rfl⟩,q⟩
theorem j5h:UnR X (unaryOp .USub) (rU λi=>.int (-i)):=unI λ_ _ _ _ _ q=>neg_int q
end
noncomputable def scal:V->V->Bool
 | .non,.non=>true | .non,.int _=>true | .int _,.non=>true | .non,.bl _=>true | .bl _,.non=>true | .non,.str _=>true | .str _,.non=>true
 | .int _,.int _=>true | .bl _,.bl _=>true | .str _,.str _=>true | .byt _,.byt _=>true
 | .int _,.str _=>true | .str _,.int _=>true | .bl _,.str _=>true | .str _,.bl _=>true
 | _,_=>false
noncomputable def rEq:R2:=λx y H Q=>scal x y=true/\Q (.bl (decide (x=y))) H
noncomputable def rNe:R2:=λx y H Q=>scal x y=true/\Q (.bl (!decide (x=y))) H
theorem q8N {i j:Int}:decide (V.int i=V.int j)=(i==j):=by
 rw [Bool.eq_iff_iff]
 simp
theorem j1i {i j:Bool}:decide (V.bl i=V.bl j)=(i==j):=by
 rw [Bool.eq_iff_iff]
 simp
theorem q7q {i j:Str}:decide (V.str i=V.str j)=(i==j):=by
 rw [Bool.eq_iff_iff]
 simp
theorem q8d {i j:Array UInt8}:decide (V.byt i=V.byt j)=(i.toList==j.toList):=by
 rw [Bool.eq_iff_iff]
 cases i
 cases j
 simp
section
variable {X:Cx} {a b c:Expr} {ta tb tc:TE} {pos:Pos}
theorem q0u {pins:List (Addr×Obj)} {σ:St} {H:Hp} {s:Shared} {Q:VK} {k k':Bool} (I:Inv X pins σ H s) (q:Q (.bl k) H) (e:k=k'):EP X pins σ Q (.bool k') s:=by
 subst e
 exact ⟨.bl k,H,I,rfl,q⟩
theorem j60:OpR X (compareOp .Eq) rEq:=by
 intro pins s σ H x y v u Q I rx ry h
 obtain ⟨hs,q⟩:=h
 cases x with
 | non=>
  cases rx
  cases y with
  | non=>cases ry;exact PySem.EqNone.eq_none_none (q0u I q (by simp))
  | bl j=>cases ry;exact PySem.EqNone.eq_none_bool (q0u I q (by simp))
  | int j=>obtain ⟨t',rfl⟩:=ry;exact PySem.EqNone.eq_none_int (q0u I q (by simp))
  | str j=>obtain ⟨t',rfl⟩:=ry;exact PySem.EqNone.eq_none_str (q0u I q (by simp))
  | _=>exact absurd (show false=true from hs) Bool.false_ne_true
 | bl i=>
  cases rx
  cases y with
  | non=>cases ry;exact PySem.EqNone.eq_bool_none (q0u I q (by simp))
  | bl j=>cases ry;exact eq_bool (q0u I q j1i)
  | str j=>obtain ⟨t',rfl⟩:=ry;exact PySem.EqMixed.eq_bool_str (q0u I q (by simp))
  | _=>exact absurd (show false=true from hs) Bool.false_ne_true
 | int i=>
  obtain ⟨t,rfl⟩:=rx
  cases y with
  | non=>cases ry;exact PySem.EqNone.eq_int_none (q0u I q (by simp))
  | int j=>obtain ⟨t',rfl⟩:=ry;exact eq_int (q0u I q q8N)
  | str j=>obtain ⟨t',rfl⟩:=ry;exact PySem.EqMixed.eq_int_str (q0u I q (by simp))
  | _=>exact absurd (show false=true from hs) Bool.false_ne_true
 | str i=>
  obtain ⟨t,rfl⟩:=rx
  cases y with
  | non=>cases ry;exact PySem.EqNone.eq_str_none (q0u I q (by simp))
  | bl j=>cases ry;exact PySem.EqMixed.eq_str_bool (q0u I q (by simp))
  | int j=>obtain ⟨t',rfl⟩:=ry;exact PySem.EqMixed.eq_str_int (q0u I q (by simp))
  | str j=>obtain ⟨t',rfl⟩:=ry;exact eq_str (q0u I q q7q)
  | _=>exact absurd (show false=true from hs) Bool.false_ne_true
 | byt i=>
  obtain ⟨t,rfl⟩:=rx
  cases y with
  | byt j=>obtain ⟨t',rfl⟩:=ry;exact PySem.W.eq_bytes (q0u I q q8d)
  | _=>exact absurd (show false=true from hs) Bool.false_ne_true
 | _=>cases y<;>exact absurd (show false=true from hs) Bool.false_ne_true
theorem j7h:OpR X (compareOp .NotEq) rNe:=by
 intro pins s σ H x y v u Q I rx ry h
 obtain ⟨hs,q⟩:=h
 cases x with
 | non=>
  cases rx
  cases y with
  | non=>cases ry;exact PySem.EqNone.ne_none_none (q0u I q (by simp))
  | bl j=>cases ry;exact PySem.EqNone.ne_none_bool (q0u I q (by simp))
  | int j=>obtain ⟨t',rfl⟩:=ry;exact PySem.EqNone.ne_none_int (q0u I q (by simp))
  | str j=>obtain ⟨t',rfl⟩:=ry;exact PySem.EqNone.ne_none_str (q0u I q (by simp))
  | _=>exact absurd (show false=true from hs) Bool.false_ne_true
 | bl i=>
  cases rx
  cases y with
  | non=>cases ry;exact PySem.EqNone.ne_bool_none (q0u I q (by simp))
  | bl j=>cases ry;exact ne_bool (q0u I q (congrArg not j1i))
  | str j=>obtain ⟨t',rfl⟩:=ry;exact PySem.EqMixed.ne_bool_str (q0u I q (by simp))
  | _=>exact absurd (show false=true from hs) Bool.false_ne_true
 | int i=>
  obtain ⟨t,rfl⟩:=rx
  cases y with
  | non=>cases ry;exact PySem.EqNone.ne_int_none (q0u I q (by simp))
  | int j=>obtain ⟨t',rfl⟩:=ry;exact ne_int (q0u I q (congrArg not q8N))
  | str j=>obtain ⟨t',rfl⟩:=ry;exact PySem.EqMixed.ne_int_str (q0u I q (by simp))
  | _=>exact absurd (show false=true from hs) Bool.false_ne_true
 | str i=>
  obtain ⟨t,rfl⟩:=rx
  cases y with
  | non=>cases ry;exact PySem.EqNone.ne_str_none (q0u I q (by simp))
  | bl j=>cases ry;exact PySem.EqMixed.ne_str_bool (q0u I q (by simp))
  | int j=>obtain ⟨t',rfl⟩:=ry;exact PySem.EqMixed.ne_str_int (q0u I q (by simp))
  | str j=>obtain ⟨t',rfl⟩:=ry;exact ne_str (q0u I q (congrArg not q7q))
  | _=>exact absurd (show false=true from hs) Bool.false_ne_true
 | byt i=>
  obtain ⟨t,rfl⟩:=rx
  cases y with
  | byt j=>obtain ⟨t',rfl⟩:=ry;exact PySem.W.ne_bytes (q0u I q (congrArg not q8d))
  | _=>exact absurd (show false=true from hs) Bool.false_ne_true
 | _=>cases y<;>exact absurd (show false=true from hs) Bool.false_ne_true
theorem j7j:OpR X (compareOp .Lt) (rI0 λi j=>.bl (decide (i < j))):=j5W λ_ _ _ _ _ _ _ q=>lt_int q
theorem j7f:OpR X (compareOp .LtE) (rI0 λi j=>.bl (decide (i<=j))):=j5W λ_ _ _ _ _ _ _ q=>le_int q
theorem j7v:OpR X (compareOp .Gt) (rI0 λi j=>.bl (decide (j < i))):=j5W λ_ _ _ _ _ _ _ q=>gt_int q
theorem j6S:OpR X (compareOp .GtE) (rI0 λi j=>.bl (decide (j<=i))):=j5W λ_ _ _ _ _ _ _ q=>ge_int q
theorem q7K:OpR X (compareOp .In) (λx y H Q=>∃i j,x=.str i/\y=.str j/\Q (.bl (!(Builtin.Str.occurrences j i 0 j.length 1).isEmpty)) H):=by
 intro pins s σ H x y v u Q I rx ry h
 obtain ⟨i,j,rfl,rfl,q⟩:=h
 obtain ⟨t,rfl⟩:=rx
 obtain ⟨t',rfl⟩:=ry
 exact in_str (q0u I q rfl)
theorem q4B:OpR X (compareOp .NotIn) (λx y H Q=>∃i j,x=.str i/\y=.str j/\Q (.bl (!(!(Builtin.Str.occurrences j i 0 j.length 1).isEmpty))) H):=by
 intro pins s σ H x y v u Q I rx ry h
 obtain ⟨i,j,rfl,rfl,q⟩:=h
 obtain ⟨t,rfl⟩:=rx
 obtain ⟨t',rfl⟩:=ry
 exact notIn_str (q0u I q rfl)
theorem OpR.or {f:Value->Value->Sem Value} {r r':R2} (h:OpR X f r) (h':OpR X f r'):OpR X f (λx y H Q=>r x y H Q∨r' x y H Q):=by
 intro pins s σ H x y v u Q I rx ry q
 rcases q with q | q
 ·exact h pins s σ H x y v u Q I rx ry q
 ·exact h' pins s σ H x y v u Q I rx ry q
theorem nomark (b:Expr) {op:CmpOp} (h:op≠.In:=by decide) (h2:op≠.NotIn:=by decide):behindInMarks op b=false:=by
 have e1:(op==CmpOp.In)=false:=by cases op<;>first | rfl | exact absurd rfl h
 have e2:(op==CmpOp.NotIn)=false:=by cases op<;>first | rfl | exact absurd rfl h2
 cases b<;>simp [behindInMarks,e1,e2]
theorem j2s {op:CmpOp} {r:R2} (ho:OpR X (compareOp op) r) (ha:PE X a ta) (hb:PE X b tb) (hm:behindInMarks op b=false):PE X (.Compare a [op] [b] pos) (tOp r ta tb):=by
 intro pins s σ H Q I h
 exact wpAny_Compare1 (j7x ha hb I h λv u s2 x y H2 I2 rx ry q=>ho pins s2 σ H2 x y v u Q I2 rx ry q) hm
noncomputable def j5E (t:TE):TT:=fun σ H Q=>t σ H λx H'=>∃k,x=.bl k/\Q k H'
theorem j3h {op:CmpOp} {r:R2} (ho:OpR X (compareOp op) r) (ha:PE X a ta) (hb:PE X b tb) (hm:behindInMarks op b=false):PT X (.Compare a [op] [b] pos) (j5E (tOp r ta tb)):=by
 intro pins s σ H Q I h
 refine wpAny_isTrue_Compare1 (thn (ha pins s σ H _ I h) λv s1 ⟨x,H1,I1,r1,q1⟩=>thn (hb pins s1 σ H1 _ I1 q1) λu s2 ⟨y,H2,I2,r2,q2⟩=>
  thn (ho pins s2 σ H2 x y v u _ I2 r1 r2 q2) λc s3 ⟨z,H3,I3,r3,k,e,q3⟩=>?_) hm
 subst e
 cases r3
 exact wpAny_truthy_bool ⟨H3,I3,q3⟩
noncomputable def j0J (r r':R2) (ta tb tc:TE):TE:=fun σ H Q=>ta σ H λx H1=>tb σ H1 λy H2=>r x y H2 λz H3=>∃k,z=.bl k /\
 (if k=true then tc σ H3 λw' H4=>r' y w' H4 Q else Q (.bl false) H3)
theorem q9D {op op':CmpOp} {r r':R2} (ho:OpR X (compareOp op) r) (ho':OpR X (compareOp op') r') (ha:PE X a ta) (hb:PE X b tb) (hc:PE X c tc)
 (hm:lastMarks [op,op'] [b,c]=false:=by with_unfolding_all rfl):PT X (.Compare a [op,op'] [b,c] pos) (j5E (j0J r r' ta tb tc)):=by
 intro pins s σ H Q I h
 refine isTrue_chain (thn (ha pins s σ H _ I h) λv s1 ⟨x,H1,I1,r1,q1⟩=>test_link (thn (hb pins s1 σ H1 _ I1 q1) λu s2 ⟨y,H2,I2,r2,q2⟩=>
  thn (ho pins s2 σ H2 x y v u _ I2 r1 r2 q2) λd s3 ⟨z,H3,I3,r3,k,e,q3⟩=>?_)) hm
 subst e
 cases r3
 refine wpAny_truthy_bool ?_
 cases k with
 | false=>
  obtain ⟨k',e',q'⟩:=q3
  cases e'
  exact ite_ff ⟨H3,I3,q'⟩
 | true=>
  refine ite_tt (test_last (thn (hc pins s3 σ H3 _ I3 q3) λw' s4 ⟨z',H4,I4,r4,q4⟩=>thn (ho' pins s4 σ H4 y z' u w' _ I4 r2 r4 q4) λd' s5 ⟨z2,H5,I5,r5,k2,e2,q5⟩=>?_))
  subst e2
  cases r5
  exact wpAny_truthy_bool ⟨H5,I5,q5⟩
noncomputable def j7c (K:PySem.W.Frag) (x:V) (H:Hp) (k:Bool):Prop:=
 match x with
 | .non=>k=false
 | .bl b=>k=b
 | .int i=>k=(i != 0)
 | .str y=>y.length<=sizeLine/\k=((y.length:Int) != 0)
 | .byt y=>y.size<=sizeLine/\k=((y.size:Int) != 0)
 | .ref p=>(∃xs,SqL K H p xs/\k=!xs.isEmpty)∨(∃xs,SqT K H p xs/\k=!xs.isEmpty)∨∃kvs,H p=some (.dK kvs)/\k=!kvs.isEmpty
 | _=>False
theorem q6F {κ:Type} {kvs:List (κ×V)} {vs:List (κ×Value)} (r:KV kvs vs):(!vs.isEmpty)=!kvs.isEmpty:=by
 cases r<;>rfl
theorem q3u {xs:List V} {its:List Value} (r:Vals xs its):(!its.toArray.isEmpty)=!xs.isEmpty:=by
 cases r<;>simp
theorem line63:(sizeLine:Nat) < 2 ^ 63:=by rw [sizeLine_eq];decide
theorem j4f:j8s X (λx H Q=>∃k,j7c X.K x H k/\Q k H):=by
 intro pins s σ H x v Q I rx h
 obtain ⟨k,e,q⟩:=h
 have hl:=line63
 have hs:sizeLine=16777216:=sizeLine_eq
 cases x with
 | non=>
  cases rx
  have e':k=false:=e
  subst e'
  exact truthy_none ⟨H,I,q⟩
 | bl b=>
  cases rx
  have e':k=b:=e
  subst e'
  exact wpAny_truthy_bool ⟨H,I,q⟩
 | int i=>
  obtain ⟨t,rfl⟩:=rx
  have e':k=(i != 0):=e
  subst e'
  exact PySem.P.truthy_int ⟨H,I,q⟩
 | str y=>
  obtain ⟨t,rfl⟩:=rx
  obtain ⟨hy,e'⟩:y.length<=sizeLine/\k=((y.length:Int) != 0):=e
  subst e'
  exact PySem.P.truthy_str (by omega) ⟨H,I.tok _,q⟩
 | byt y=>
  obtain ⟨t,rfl⟩:=rx
  obtain ⟨hy,e'⟩:y.size<=sizeLine/\k=((y.size:Int) != 0):=e
  subst e'
  exact PySem.W.truthy_bytes (by omega) ⟨H,I.tok _,q⟩
 | ref p=>
  cases rx
  have e':(∃xs,SqL X.K H p xs/\k=!xs.isEmpty)∨(∃xs,SqT X.K H p xs/\k=!xs.isEmpty)∨∃kvs,H p=some (.dK kvs)/\k=!kvs.isEmpty:=e
  rcases e' with ⟨xs,hx,e'⟩ | ⟨xs,hx,e'⟩ | ⟨kvs,hx,e'⟩
  ·subst e'
   obtain ⟨its,r,pl,hz⟩:=I.list hx
   have hlen:=r.length
   exact wpAny_truthy_list pl.isList (by simp only [List.size_toArray];omega) ⟨H,I.tok _,by rw [q3u r];exact q⟩
  ·subst e'
   obtain ⟨its,r,pl,hz⟩:=I.tuple hx
   have hlen:=r.length
   exact truthy_tuple pl (by simp only [List.size_toArray];omega) ⟨H,I.tok _,by rw [q3u r];exact q⟩
  ·subst e'
   obtain ⟨hz,hS,vs,r,m⟩:kvs.length<=sizeLine/\(p==sysModules)=false/\∃vs,KV kvs vs/\s.heap.DictOf (q5f X.prog X.w) p vs:=I.hok p _ hx
   have hlen:kvs.length=vs.length:=Paired.length r
   exact wpAny_truthy_dict hS m (by omega) ⟨H,I.tok _,by rw [q6F r];exact q⟩
 | _=>exact (show False from e).elim
theorem q6c (ha:PE X a ta) (he:∀whole,isTrue a X.env whole=(do let v <-whole;standAt a.pos;holding [v] (truthy v))) :
 PT X a (fun σ H Q=>ta σ H λx H'=>∃k,j7c X.K x H' k/\Q k H'):=by
 intro pins s σ H Q I h
 exact isTrue_plain (thn (ha pins s σ H _ I h) λv s1 ⟨x,H1,I1,r1,q1⟩=>j4f pins s1 σ H1 x v Q I1 r1 q1) (he _)
theorem q6K:OpR X (binaryOp .Add) (λx y H Q=>∃i j,x=.str i/\y=.str j/\i.length+j.length<=sizeLine/\Q (.str (i++j)) H):=by
 intro pins s σ H x y v u Q I rx ry h
 obtain ⟨i,j,rfl,rfl,hz,q⟩:=h
 obtain ⟨t,rfl⟩:=rx
 obtain ⟨t',rfl⟩:=ry
 exact add_str (λt' tk=>⟨.str (i++j),H,I.tok _,⟨_,rfl⟩,q⟩) hz
theorem vals1 {x:V} {us:List Value} (r:Vals [x] us):∃u,us=[u]/\RelV x u:=by
 cases r with
 | cons r1 r2=>cases r2;exact ⟨_,rfl,r1⟩
theorem vals2 {x y:V} {us:List Value} (r:Vals [x,y] us):∃u w',us=[u,w']/\RelV x u/\RelV y w':=by
 cases r with
 | cons r1 r2=>
  cases r2 with
  | cons r3 r4=>cases r4;exact ⟨_,_,rfl,r1,r3⟩
theorem q8K (hc:X.calm=true):q2l X (.builtin "min") (λxs H Q=>∃i j,xs=[.int i,.int j]/\Q (.int (if j < i then j else i)) H):=by
 intro pins s σ H xs us Q I r h
 obtain ⟨i,j,rfl,q⟩:=h
 obtain ⟨u,w',rfl,⟨t,rfl⟩,⟨t',rfl⟩⟩:=vals2 r
 refine min_two_ints (I.ok.hd hc) λh' tk k=>⟨_,H,I.kept k,?_,q⟩
 by_cases hj:j < i
 ·rw [if_pos hj,if_pos hj];exact ⟨_,rfl⟩
 ·rw [if_neg hj,if_neg hj];exact ⟨_,rfl⟩
theorem q7u:q2l X (.type "int") (λxs H Q=>(∃i,xs=[.int i]/\Q (.int i) H)∨∃k,xs=[.bl k]/\Q (.int (if k then 1 else 0)) H):=by
 intro pins s σ H xs us Q I r h
 rcases h with ⟨i,rfl,q⟩ | ⟨k,rfl,q⟩
 ·obtain ⟨u,rfl,t,rfl⟩:=vals1 r
  exact call_int_int ⟨.int i,H,I,⟨_,rfl⟩,q⟩
 ·obtain ⟨u,rfl,r1⟩:=vals1 r
  cases r1
  exact call_int_bool ⟨.int (if k then 1 else 0),H,I.tok _,⟨_,rfl⟩,q⟩
noncomputable def j8h (K:PySem.W.Frag) (x:V) (H:Hp) (n:Nat):Prop:=
 match x with
 | .str y=>y.length<=sizeLine/\n=y.length
 | .byt y=>y.size<=sizeLine/\n=y.size
 | .ref p=>(∃xs,SqL K H p xs/\n=xs.length)∨∃xs,SqT K H p xs/\n=xs.length
 | _=>False
theorem q5X:q2l X (.builtin "len") (λxs H Q=>∃x n,xs=[x]/\j8h X.K x H n/\Q (.int n) H):=by
 intro pins s σ H xs us Q I r h
 obtain ⟨x,n,rfl,e,q⟩:=h
 obtain ⟨u,rfl,rx⟩:=vals1 r
 have hl:=line63
 have hs:sizeLine=16777216:=sizeLine_eq
 cases x with
 | str y=>
  obtain ⟨t,rfl⟩:=rx
  obtain ⟨hy,e'⟩:y.length<=sizeLine/\n=y.length:=e
  subst e'
  exact len_str (by omega) ⟨.int _,H,I.tok _,⟨_,rfl⟩,q⟩
 | byt y=>
  obtain ⟨t,rfl⟩:=rx
  obtain ⟨hy,e'⟩:y.size<=sizeLine/\n=y.size:=e
  subst e'
  exact PySem.W.len_bytes (by omega) ⟨.int _,H,I.tok _,⟨_,rfl⟩,q⟩
 | ref p=>
  cases rx
  have e':(∃xs,SqL X.K H p xs/\n=xs.length)∨∃xs,SqT X.K H p xs/\n=xs.length:=e
  rcases e' with ⟨xs,hx,e'⟩ | ⟨xs,hx,e'⟩
  ·subst e'
   obtain ⟨its,r',pl,hz⟩:=I.list hx
   have hlen:=r'.length
   exact Calls.call_len_list pl.isList (by simp only [List.size_toArray];omega) ⟨.int xs.length,H,I.tok _,⟨_,by simp only [List.size_toArray];rw [hlen]⟩,q⟩
  ·subst e'
   obtain ⟨its,r',pl,hz⟩:=I.tuple hx
   have hlen:=r'.length
   exact len_tuple pl (by simp only [List.size_toArray];omega) ⟨.int xs.length,H,I.tok _,⟨_,by simp only [List.size_toArray];rw [hlen]⟩,q⟩
 | _=>exact (show False from e).elim
end
structure ObjM (h:Heap) (x dx C:Addr) (mA:Str->Option Value):Prop where
 obj:h.get? x=some (PySem.W.instObj C dx)
 ns:h.Ns1 dx mA
 ne:dx≠x
theorem q9b {h:Heap} {dx:Addr} {mA:Str->Option Value} (n:h.Ns1 dx mA):∃od,h.get? dx=some od/\∀name,PySem.W.lookIn name od=some (mA name):=by
 obtain ⟨o,es,ep,ho,hd,hk,_,hm⟩:=n
 refine ⟨o,ho,λname=>?_⟩
 have e:=hm name
 unfold nsFind findBy at e
 rw [<-Array.find?_toList] at e
 unfold PySem.W.lookIn
 rw [hd]
 dsimp only
 split
 ·rename_i y q
  rw [q] at e
  exact congrArg some e
 ·rename_i q
  rw [q] at e
  have a:es.toList.any (·.refKey)=false:=by
   rw [List.any_eq_false]
   intro y hy
   obtain ⟨z,t,hkey⟩:=hk y (Array.mem_toList_iff.mp hy)
   simp [DictEntry.refKey,hkey]
  have a':¬es.toList.any (·.refKey)=true:=by rw [a];exact Bool.false_ne_true
  rw [if_neg a']
  exact congrArg some e
theorem ObjM.look {h:Heap} {x dx C:Addr} {mA:Str->Option Value} (I:ObjM h x dx C mA):∃od,PySem.W.InstAt h x (PySem.W.instObj C dx) C (some od)/\∀name,PySem.W.lookIn name od=some (mA name):=
 let ⟨od,ho,hl⟩:=q9b I.ns
 ⟨od,⟨I.obj,rfl,rfl,ho⟩,hl⟩
section
variable {prog:Program} {w:World} {A:Around} {E:Value->Shared->Prop} {s:Shared} {K:PySem.W.Frag} {x dx C f:Addr} {mA:Str->Option Value} {name:Str} {v:Value}
theorem j2T {expr:Bool} {Q:Value->Shared->Prop} (X:K.In s.heap) (I:ObjM s.heap x dx C mA) (hg:PySem.W.plainGet K C name=true) (hh:PySem.W.hasDictIn K C=true)
 (ha:PySem.W.findIn K (.ref C) name=some none) (hv:mA name=some v) (hv':PySem.W.handedIn v=true) (h:Q v { s with toks:=s.toks+1 }) :
 wpAny (model prog w) A (getAttr (.ref x) name expr) Q E s:=by
 obtain ⟨od,J,hl⟩:=I.look
 exact PySem.W.get_value X J (PySem.W.plainGet_of hg).1 (PySem.W.findObj_own hh ha rfl (by rw [hl,hv])) hv' h
theorem q9p {pl:Sem Bool} {Q:Value×List Value->Shared->Prop} (X:K.In s.heap) (I:ObjM s.heap x dx C mA) (hg:PySem.W.plainGet K C name=true)
 (hf:PySem.W.findIn K (.ref C) name=some (some (.ref f))) (ht:PySem.W.isFn K (.ref f)=true) (hv:mA name=none) (h:Q (.ref f,[.ref x]) s) :
 wpAny (model prog w) A (getMethod (.ref x) name pl) Q E s:=by
 obtain ⟨od,J,hl⟩:=I.look
 exact PySem.W.method_fn X J (PySem.W.plainGet_of hg).1 (PySem.W.plainGet_of hg).2 hf (beq_iff_eq.mp ht) (by show (PySem.W.lookIn name od).map (·.isSome)=some false;rw [hl,hv];rfl) h
theorem j2j {ns:List Str} {Q:Unit->Shared->Prop} (X:K.In s.heap) (I:ObjM s.heap x dx C mA)
 (hs:PySem.W.findIn K (.ref C) "__setattr__" = some (some (.builtin "object.__setattr__"))) (hp:PySem.W.plainOver K C=true) (ht:PySem.W.takerIn K C name=some none) (hh:PySem.W.hasDictIn K C=true)
 (hw:PySem.Within mA ns) (hsz:ns.length<=sizeLine)
 (h:∀h',ObjM h' x dx C (λy=>if y=name then some v else mA y)->Heap.SameBut dx s.heap h'->Q () { s with heap:=h',toks:=s.toks+2 }) :
 wpAny (model prog w) A (setAttr (.ref x) name v) Q E s:=by
 obtain ⟨od,J,hl⟩:=I.look
 refine PySem.W.set_plain X J hs (PySem.W.osa_open (s:={ s with toks:=s.toks+1 }) (r:=none) X J hp ht λb=>?_)
 obtain ⟨cd,hc,hd'⟩:=PySem.W.any_some hh
 have hx:s.heap.get? x=some ⟨.ref C,some dx,.plain,#[]⟩:=I.obj
 refine wpAny_bind (wpAny_pure (wpAny_bind (wpAny_bind (wpAny_loadPart hx (wpAny_bind (PySem.W.Looks.here (s:={ s with toks:=s.toks+1 }) (PySem.W.looks_clsIn X hc) ?_))))))
 rw [hd']
 refine wpAny_pure (a:=some dx) (wpAny_bind (wpAny_pure (wpAny_bind ?_)))
 refine wpAny_nsSet1 (s:={ s with toks:=s.toks+1 }) I.ns λh' hn2 hs2=>?_
 obtain ⟨oD,esD,epD,hoD,hdD,hcD⟩:=hn2.count (PySem.Within.cons name v hw)
 refine wpAny_bind (wpAny_lookBehind hoD (by rw [hdD];exact pastItsLine_dict (Nat.le_trans hcD (by rw [List.length_cons];omega))) ?_)
 exact wpAny_pure (h _ ⟨(hs2.2 _ (Ne.symm I.ne)).trans I.obj,hn2,I.ne⟩ hs2)
theorem q5i {R:Result->Shared->Prop} {vs:List Value} {kw:List (Str×Value)} (X:K.In s.heap) (hm:PySem.W.makesIn K C=true)
 (hi:PySem.W.findIn K (.ref C) "__init__" = some (some (.ref f))) (hf:PySem.W.typeIn K (.ref f)=some (.type "function"))
 (h:codeAny (model prog w) (A.under (.builtin "type.__call__" ⟨.ref C::vs,kw⟩)) (.call (.ref f) ⟨.ref (s.heap.objs.size+1)::vs,kw⟩) (PySem.W.InitBack (s.heap.objs.size+1) R)
  { s with heap:=(s.heap.push PySem.W.emptyDict).push (PySem.W.instObj C s.heap.objs.size) }) :
 codeAny (model prog w) A (.call (.ref C) ⟨vs,kw⟩) R s:=by
 obtain ⟨hh,g,d,t,os⟩:=s
 exact PySem.W.make_core (PySem.W.makes_of X hm) (PySem.W.looks_findIn X hi) (λself=>PySem.W.bind_fn X self hf) (.inl rfl) h
end
noncomputable def q2y (f:Str) (v:V):List (Str×V)->List (Str×V)
 | []=>[(f,v)]
 | (g,x)::r=>if g=f then (g,v)::r else (g,x)::q2y f v r
theorem q27 (f g:Str) (v:V):∀fs:List (Str×V),(q2y f v fs).lookup g=if g=f then some v else fs.lookup g
 | []=>by
  show List.lookup g [(f,v)]=_
  by_cases h:g=f
  ·have hb:(g==f)=true:=beq_iff_eq.mpr h
   simp only [List.lookup,hb,if_pos h]
  ·have hb:(g==f)=false:=beq_eq_false_iff_ne.mpr h
   simp only [List.lookup,hb,if_neg h]
 | (k,x)::r=>by
  have ih:=q27 f g v r
  rw [show q2y f v ((k,x)::r)=(if k=f then (k,v)::r else (k,x)::q2y f v r) from rfl]
  by_cases hk:k=f
  ·rw [if_pos hk]
   by_cases h:g=k
   ·have hb:(g==k)=true:=beq_iff_eq.mpr h
    simp only [List.lookup,hb,if_pos (h.trans hk)]
   ·have hb:(g==k)=false:=beq_eq_false_iff_ne.mpr h
    simp only [List.lookup,hb,if_neg (λe:g=f=>h (e.trans hk.symm))]
  ·rw [if_neg hk]
   by_cases h:g=k
   ·have hb:(g==k)=true:=beq_iff_eq.mpr h
    simp only [List.lookup,hb,if_neg (λe:g=f=>hk (h.symm.trans e))]
   ·have hb:(g==k)=false:=beq_eq_false_iff_ne.mpr h
    simp only [List.lookup,hb]
    exact ih
theorem q2N (f:Str) (v:V):∀fs:List (Str×V),f∈(q2y f v fs).map (·.1)/\∀g,g∈fs.map (·.1)->g∈(q2y f v fs).map (·.1)
 | []=>⟨by simp [q2y],λg h=>by simp at h⟩
 | (k,x)::r=>by
  obtain ⟨i1,i2⟩:=q2N f v r
  rw [show q2y f v ((k,x)::r)=(if k=f then (k,v)::r else (k,x)::q2y f v r) from rfl]
  by_cases hk:k=f
  ·rw [if_pos hk]
   subst hk
   exact ⟨by simp,λg h=>by simpa using h⟩
  ·rw [if_neg hk]
   refine ⟨?_,λg h=>?_⟩
   ·rw [List.map_cons]
    exact List.mem_cons_of_mem _ i1
   ·rw [List.map_cons] at h ⊢
    rcases List.mem_cons.mp h with e | e
    ·exact List.mem_cons.mpr (.inl e)
    ·exact List.mem_cons_of_mem _ (i2 g e)
theorem q24 (f:Str) (v:V):∀fs:List (Str×V),(q2y f v fs).length<=fs.length+1
 | []=>by simp [q2y]
 | (k,x)::r=>by
  have ih:=q24 f v r
  rw [show q2y f v ((k,x)::r)=(if k=f then (k,v)::r else (k,x)::q2y f v r) from rfl]
  by_cases hk:k=f
  ·rw [if_pos hk,List.length_cons,List.length_cons];omega
  ·rw [if_neg hk,List.length_cons,List.length_cons];omega
theorem RelO.some_of {v:V} {o:Option Value} (r:RelO (some v) o):∃u,o=some u/\RelV v u:=by
 cases o with
 | none=>exact (show False from r).elim
 | some u=>exact ⟨u,rfl,r⟩
theorem RelO.none_of {o:Option Value} (r:RelO none o):o=none:=by
 cases o with
 | none=>rfl
 | some u=>exact (show False from r).elim
theorem q7S {v:V} {u:Value} (r:RelV v u):PySem.W.handedIn u=true:=by
 cases v with
 | non=>cases (show u=Value.none from r);rfl
 | bl b=>cases (show u=Value.bool b from r);rfl
 | int i=>obtain ⟨t,e⟩:=(show ∃t,u=Value.int i t from r);cases e;rfl
 | str x=>obtain ⟨t,e⟩:=(show ∃t,u=Value.str x t from r);cases e;rfl
 | byt b=>obtain ⟨t,e⟩:=(show ∃t,u=Value.bytes b t from r);cases e;rfl
 | flt b=>obtain ⟨t,e⟩:=(show ∃t,u=Value.float b t from r);cases e;rfl
 | ref a=>cases (show u=Value.ref a from r);rfl
 | ty n=>cases (show u=Value.type n from r);rfl
section
variable {P:Program} {w:World} {H H':Hp} {h h':Heap} {a C dx:Addr} {fs fs':List (Str×V)}
theorem q3D (hok:HOk P w H h) (e:H a=some (.ins C dx fs)):∃mA,ObjM h a dx C mA/\(∀f,RelO (fs.lookup f) (mA f))/\PySem.Within mA (fs.map (·.1))/\fs.length<=1000/\H dx=some (.own a):=by
 obtain ⟨d,z,ne,ob,mA,n,r,q⟩:=(show ObjOk P w H h a (.ins C dx fs) from hok a _ e)
 exact ⟨mA,⟨ob,n,ne⟩,r,q,z,d⟩
end
structure Cls (K:PySem.W.Frag) (C:Addr):Prop where
 pg:PySem.W.plainGet K C Str.empty=true
 hd:PySem.W.hasDictIn K C=true
 po:PySem.W.plainOver K C=true
 sa:PySem.W.findIn K (.ref C) "__setattr__" = some (some (.builtin "object.__setattr__"))
theorem Cls.get {K:PySem.W.Frag} {C:Addr} (c:Cls K C) (f:Str):PySem.W.plainGet K C f=true:=c.pg
noncomputable def NoAttr (K:PySem.W.Frag) (C:Addr) (f:Str):Prop:=PySem.W.findIn K (.ref C) f=some none
theorem NoAttr.taker {K:PySem.W.Frag} {C:Addr} {f:Str} (n:NoAttr K C f):PySem.W.takerIn K C f=some none:=by
 unfold PySem.W.takerIn
 rw [show PySem.W.findIn K (.ref C) f=some none from n]
 rfl
structure Con (K:PySem.W.Frag) (C:Addr) (f:Str) (v:V) (u:Value):Prop where
 at_:PySem.W.findIn K (.ref C) f=some (some u)
 rel:RelV v u
 get:PySem.W.specialIn K u "__get__" = some none
 cp:PySem.W.copiedNames.contains f=false
structure Meth (K:PySem.W.Frag) (C:Addr) (m:Str) (f:Addr):Prop where
 at_:PySem.W.findIn K (.ref C) m=some (some (.ref f))
 fn:PySem.W.isFn K (.ref f)=true
 kp:PySem.W.keepIn K (.ref f)=true
section
variable {X:Cx} {pins:List (Addr×Obj)} {σ:St} {H:Hp} {s:Shared} {a C dx:Addr} {fs:List (Str×V)} {f:Str} {v:V} {A:Around} {E:Value->Shared->Prop}
theorem q6t {b:Bool} {Q:Value->Shared->Prop} (I:Inv X pins σ H s) (e:H a=some (.ins C dx fs)) (c:Cls X.K C) (n:NoAttr X.K C f) (l:fs.lookup f=some v)
 (h:∀u s',Inv X pins σ H s'->RelV v u->Q u s'):wpAny (model X.prog X.w) A (getAttr (.ref a) f b) Q E s:=by
 obtain ⟨mA,O,r,_,_,_⟩:=q3D I.hok e
 obtain ⟨u,hu,ru⟩:=RelO.some_of (v:=v) (o:=mA f) (by rw [<-l];exact r f)
 exact j2T I.kIn O (c.get f) c.hd n hu (q7S ru) (h u _ (I.tok _) ru)
theorem q3o {m:Str} {g:Addr} {pl:Sem Bool} {Q:Value×List Value->Shared->Prop} (I:Inv X pins σ H s) (e:H a=some (.ins C dx fs)) (c:Cls X.K C) (k:Meth X.K C m g) (l:fs.lookup m=none)
 (h:Q (.ref g,[.ref a]) s):wpAny (model X.prog X.w) A (getMethod (.ref a) m pl) Q E s:=by
 obtain ⟨mA,O,r,_,_,_⟩:=q3D I.hok e
 have hn:mA m=none:=RelO.none_of (by rw [<-l];exact r m)
 exact q9p I.kIn O (c.get m) k.at_ k.fn hn h
theorem q6J {y:V} {u:Value} {Q:Unit->Shared->Prop} (I:Inv X pins σ H s) (e:H a=some (.ins C dx fs)) (c:Cls X.K C) (n:NoAttr X.K C f) (hl:fs.length < 1000) (ry:RelV y u)
 (h:∀s',Inv X pins σ (upd H a (.ins C dx (q2y f y fs))) s'->Q () s'):wpAny (model X.prog X.w) A (setAttr (.ref a) f u) Q E s:=by
 obtain ⟨mA,O,r,wi,_,ho⟩:=q3D I.hok e
 have hz:(fs.map (·.1)).length<=sizeLine:=by rw [List.length_map,sizeLine_eq];omega
 refine j2j I.kIn O c.sa c.po n.taker c.hd wi hz λh' O' sb=>h _ ?_
 have hd:∃o,h'.get? dx=some o:=let ⟨o,_,_,e',_⟩:=O'.ns;⟨o,e'⟩
 refine I.write (x:=a) (e:=dx) (by rw [e];exact True.intro) (.inr ho) (λb q hb z=>(sb.2 b hb).trans z) hd ?_
 refine ⟨by rw [q0d O.ne];exact ho,?_,O.ne,O'.obj,_,O'.ns,λg=>?_,λg hg=>?_⟩
 ·have:=q24 f y fs;omega
 ·show RelO ((q2y f y fs).lookup g) (if g=f then some u else mA g)
  rw [q27]
  by_cases q:g=f
  ·rw [if_pos q,if_pos q];exact ry
  ·rw [if_neg q,if_neg q];exact r g
 ·by_cases q:g=f
  ·rw [q];exact (q2N f y fs).1
  ·refine (q2N f y fs).2 g (wi g λz=>hg ?_)
   show (if g=f then some u else mA g)=none
   rw [if_neg q];exact z
theorem Inv.made (I:Inv X pins σ H s):Inv X pins σ (upd (upd H s.heap.objs.size (.own (s.heap.objs.size+1))) (s.heap.objs.size+1) (.ins C s.heap.objs.size []))
 { s with heap:=(s.heap.push PySem.W.emptyDict).push (PySem.W.instObj C s.heap.objs.size) }:=by
 have e1:(s.heap.push PySem.W.emptyDict).get? s.heap.objs.size=some PySem.W.emptyDict:=Heap.get?_push_size s.heap rfl
 have e2:((s.heap.push PySem.W.emptyDict).push (PySem.W.instObj C s.heap.objs.size)).get? (s.heap.objs.size+1)=some (PySem.W.instObj C s.heap.objs.size):=by
  have:=Heap.get?_push_size (s.heap.push PySem.W.emptyDict) (o:=PySem.W.instObj C s.heap.objs.size) rfl
  rwa [Heap.size_push] at this
 have e3:(s.heap.push PySem.W.emptyDict).Ns s.heap.objs.size (λ_=>none):=⟨PySem.W.emptyDict,#[],_,e1,rfl,(λe he=>absurd he (by simp)),λ_=>rfl⟩
 have I1:=I.laid (a:=s.heap.objs.size) (o:=.own (s.heap.objs.size+1)) (h':=s.heap.push PySem.W.emptyDict) (t':=s.toks) (λb u q=>Heap.get?_push_of_some _ q) (Nat.le_refl _) ⟨_,e1⟩
 refine I1.laid (a:=s.heap.objs.size+1) (o:=.ins C s.heap.objs.size []) (t':=s.toks) (λb u q=>Heap.get?_push_of_some _ q) (Nat.le_of_eq (Heap.size_push _ _)) ?_
 have ne:s.heap.objs.size≠s.heap.objs.size+1:=Nat.ne_of_lt (Nat.lt_succ_self _)
 refine ⟨by rw [q0d ne,q0j],Nat.zero_le _,ne,e2,λ_=>none,(Heap.Ns1.of_empty e3).at λo q=>Heap.get?_push_of_some _ q,λ_=>True.intro,λy hy=>absurd rfl hy⟩
theorem j3d {prog:Program} {w:World} {env:Env} {e:Expr} {f:Str} {pos:Pos} {s:Shared} {Q:Value->Shared->Prop} (hb:attributeBase e f env (eval e env)=eval e env)
 (h:wpAny (model prog w) A (eval e env) (λo s₁=>wpAny (model prog w) A (getAttr o f true) Q E s₁) E s):wpAny (model prog w) A (eval (.Attribute e f pos) env) Q E s:=
 Attribute_any_ h (by rw [arm_eval_Attribute,hb])
end
noncomputable def j7P (K:PySem.W.Frag) (ta:TE) (f:Str):TE:=fun σ H Q=>ta σ H λx H1=>∃a C dx fs v,x=.ref a/\H1 a=some (.ins C dx fs)/\Cls K C/\NoAttr K C f/\fs.lookup f=some v/\Q v H1
noncomputable def j8Q (K:PySem.W.Frag) (ta tv:TE) (f:Str):TS:=λD σ H=>tv σ H λy H1=>ta σ H1 λx H2=>∃a C dx fs,x=.ref a/\H2 a=some (.ins C dx fs)/\Cls K C/\NoAttr K C f/\fs.length < 1000 /\
 D.nx σ (upd H2 a (.ins C dx (q2y f y fs)))
section
variable {X:Cx} {o e value:Expr} {f:Str} {pos pos' tpos:Pos} {ta tv:TE}
theorem q9h (he:PE X e ta) (hb:attributeBase e f X.env (eval e X.env)=eval e X.env):PE X (.Attribute e f pos) (j7P X.K ta f):=by
 intro pins s σ H Q I h
 refine j3d hb (thn (he pins s σ H _ I h) λu s1 ⟨x,H1,I1,rx,a,C,dx,fs,v,ex,ea,c,n,l,q⟩=>?_)
 subst ex
 obtain rfl:u=Value.ref a:=rx
 exact q6t I1 ea c n l λu' s2 I2 ru=>⟨v,H1,I2,ru,q⟩
theorem j0T (ha:PE X o ta) (hv:PE X value tv) (hs:swapsWith value (some (.Attribute o f pos')) pos.line X.env=pure false):PS X (.Assign [.Attribute o f pos'] value pos) (j8Q X.K ta tv f):=by
 intro pins s σ H D I h
 refine plainObj_wpAny_Assign_Attribute (thn (hv pins s σ H _ I h) λu s1 ⟨y,H1,I1,ry,q⟩=>thn (ha pins s1 σ H1 _ I1 q) λov s2 ⟨x,H2,I2,rx,a,C,dx,fs,ex,ea,c,n,l,q2⟩=>?_) hs
 subst ex
 obtain rfl:ov=Value.ref a:=rx
 exact q6J I2 ea c n l ry λs3 I3=>⟨σ,_,I3,q2⟩
end
section
variable {X:Cx} {pins:List (Addr×Obj)} {σ:St} {H:Hp} {s:Shared} {A:Around} {E:Value->Shared->Prop} {Q:Value->Shared->Prop} {c:Value} {b:Bool}
inductive q61 (K:PySem.W.Frag) (H:Hp):V->Value->Prop where
 | non:q61 K H .non (.type "NoneType")
 | bl (x:Bool):q61 K H (.bl x) (.type "bool")
 | int (i:Int):q61 K H (.int i) (.type "int")
 | str (x:Str):q61 K H (.str x) (.type "str")
 | flt (x:UInt64):q61 K H (.flt x) (.type "float")
 | lst {a:Addr} {xs:List V} (e:H a=some (.lst xs)):q61 K H (.ref a) (.type "list")
 | frz {a:Addr} {o:Obj} {xs:List V} (e:H a=some (.frz o (.lst xs))):q61 K H (.ref a) (.type "list")
 | tup {a:Addr} {xs:List V} (e:H a=some (.tup xs)):q61 K H (.ref a) (.type "tuple")
 | dK {a:Addr} {kvs:List (Key×V)} (e:H a=some (.dK kvs)):q61 K H (.ref a) (.type "dict")
 | dT {a:Addr} {kvs:List (List Key×V)} (e:H a=some (.dT kvs)):q61 K H (.ref a) (.type "dict")
 | ins {a C dx:Addr} {fs:List (Str×V)} (e:H a=some (.ins C dx fs)) (cl:Cls K C) (ha:PySem.W.findIn K (.ref C) "__class__" = some (some (.builtin "object.__class__")))
  (hn:PySem.W.specialIn K (.builtin "object.__class__") "__get__" = some (some (.builtin "getset_descriptor.__get__"))) (htk:PySem.W.takesIn K (.builtin "object.__class__")=some true)
  (hm:PySem.W.mroIn K C (.type "object")=some true):q61 K H (.ref a) (.ref C)
theorem q1J {x:V} {u t:Value} (I:Inv X pins σ H s) (rx:RelV x u) (ty:q61 X.K H x t) (e:PySem.W.kitOne X.K t c=some b) (h:∀tk,Q (.bool b) { s with toks:=tk }) :
 wpAny (model X.prog X.w) A (call (.builtin "isinstance") [u,c]) Q E s:=by
 cases ty with
 | non=>cases (show u=Value.none from rx);exact PySem.W.kia_one PySem.W.kitx_none I.kIn True.intro e (λz=>nomatch z) h
 | bl y=>cases (show u=Value.bool y from rx);exact PySem.W.kia_one PySem.W.kitx_bool I.kIn True.intro e (λz=>nomatch z) h
 | int i=>obtain ⟨t,q⟩:=(show ∃t,u=Value.int i t from rx);cases q;exact PySem.W.kia_one PySem.W.kitx_int I.kIn True.intro e (λz=>nomatch z) h
 | str y=>obtain ⟨t,q⟩:=(show ∃t,u=Value.str y t from rx);cases q;exact PySem.W.kia_one PySem.W.kitx_str I.kIn True.intro e (λz=>nomatch z) h
 | flt y=>obtain ⟨t,q⟩:=(show ∃t,u=Value.float y t from rx);cases q;exact PySem.W.kia_one PySem.W.kitx_float I.kIn True.intro e (λz=>nomatch z) h
 | @lst a xs ea=>
  cases (show u=Value.ref a from rx)
  obtain ⟨_,_,n,_,h1⟩:=(show ObjOk X.prog X.w H s.heap a (.lst xs) from I.hok a _ ea)
  exact PySem.W.kia_one PySem.W.kitx_list I.kIn ⟨_,h1,rfl⟩ e (λz=>nomatch z) h
 | @frz a ob xs ea=>
  cases (show u=Value.ref a from rx)
  obtain ⟨_,_,_,n,_,h1⟩:=(show ObjOk X.prog X.w H s.heap a (.frz ob (.lst xs)) from I.hok a _ ea)
  exact PySem.W.kia_one PySem.W.kitx_list I.kIn ⟨_,h1,rfl⟩ e (λz=>nomatch z) h
 | @tup a xs ea=>
  cases (show u=Value.ref a from rx)
  obtain ⟨_,_,_,p⟩:=(show ObjOk X.prog X.w H s.heap a (.tup xs) from I.hok a _ ea)
  obtain ⟨o,h1,h2,_⟩:=p
  exact PySem.W.kia_one PySem.W.kitx_tuple I.kIn ⟨o,h1,h2⟩ e (λz=>nomatch z) h
 | @dK a kvs ea=>
  cases (show u=Value.ref a from rx)
  obtain ⟨_,_,vs,_,p⟩:=(show ObjOk X.prog X.w H s.heap a (.dK kvs) from I.hok a _ ea)
  obtain ⟨o,es,ep,h1,h2,_⟩:=p
  exact PySem.W.kia_one PySem.W.kitx_dict I.kIn ⟨o,h1,h2.1⟩ e (λz=>nomatch z) h
 | @dT a kvs ea=>
  cases (show u=Value.ref a from rx)
  obtain ⟨_,_,xs,_,o,es,ep,h1,h2,_⟩:=(show ObjOk X.prog X.w H s.heap a (.dT kvs) from I.hok a _ ea)
  exact PySem.W.kia_one PySem.W.kitx_dict I.kIn ⟨o,h1,h2.1⟩ e (λz=>nomatch z) h
 | @ins a C dx fs ea cl ha hn htk hm=>
  cases (show u=Value.ref a from rx)
  obtain ⟨mA,O,_⟩:=q3D I.hok ea
  obtain ⟨od,J,_⟩:=O.look
  exact PySem.W.kia_one (PySem.W.kitx_own (cl.get _) cl.hd ha hn htk hm) I.kIn J e (λz=>nomatch z) h
end
structure Room (k:Nat) (A:Around):Prop where
 hd:A.handled=none
 dp:A.depth+3*k+5 < recursionLimit
 un:A.units+16*k+200 < cLine
 gd:A.guards=some []
theorem Room.mono {j k:Nat} {A:Around} (r:Room k A) (h:j<=k):Room j A:=⟨r.hd,by have:=r.dp;omega,by have:=r.un;omega,r.gd⟩
theorem Room.deeper {k:Nat} {A:Around} (r:Room (k+1) A) (env:Env):Room k (A.deeper env):=
 ⟨r.hd,by have:=r.dp;show A.depth+1+3*k+5 < _;omega,by have:=r.un;show A.units+3+16*k+200 < _;omega,r.gd⟩
theorem q6x {A:Around} {C:Addr} {us:List Value} {kw:List (Str×Value)}:(A.under (.builtin "type.__call__" ⟨.ref C::us,kw⟩)).depth=A.depth+1:=by
 first | rfl | simp [Around.under,Code.weight,Code.isCreation,Code.isGuard,Code.isCaller,Code.frames,Code.isFrame,guardIds]
theorem q6N {A:Around} {C:Addr} {us:List Value} {kw:List (Str×Value)}:(A.under (.builtin "type.__call__" ⟨.ref C::us,kw⟩)).units=A.units+1:=by
 first | rfl | simp [Around.under,Code.cUnits,Code.frames,Code.isFrame]
theorem q5e {A:Around} {C:Addr} {us:List Value} {kw:List (Str×Value)}:(A.under (.builtin "type.__call__" ⟨.ref C::us,kw⟩)).guards=A.guards:=by
 first | rfl | simp [Around.under,Code.guards,Code.isGuard,guardIds,pushGuards]
theorem Room.make {k:Nat} {A:Around} (r:Room (k+1) A) (C:Addr) (us:List Value) (kw:List (Str×Value)):Room k (A.under (.builtin "type.__call__" ⟨.ref C::us,kw⟩)):=
 ⟨r.hd,by have:=r.dp;rw [q6x];omega,by have:=r.un;rw [q6N];omega,by rw [q5e];exact r.gd⟩
theorem Room.depth {k:Nat} {A:Around} (r:Room k A):A.depth < recursionLimit:=by have:=r.dp;omega
noncomputable def j8O:TA:=λ_ H Q=>Q [] H
noncomputable def j5p (ta:TE) (tr:TA):TA:=fun σ H Q=>ta σ H λx H1=>tr σ H1 λxs H2=>Q (x::xs) H2
section
variable {X:Cx} {e:Expr} {es:List Expr} {te:TE} {t:TA} {pos:Pos}
theorem q06:PA X [] j8O:=λ_ _ _ _ H Q I h=>Calls.spliced_nil ⟨[],H,I,.nil,h⟩
theorem q0t (ha:PE X e te) (hr:PA X es t) (hs:starEach (e::es) X.env=(false,eval e X.env)::starEach es X.env:=by rfl):PA X (e::es) (j5p te t):=by
 intro pos pins s σ H Q I h
 rw [hs]
 show wpAny _ _ (spliced ((false,eval e X.env)::backTo pos (starEach es X.env))) _ _ s
 refine Calls.spliced_cons (thn (ha pins s σ H _ I h) λu s1 ⟨x,H1,I1,r1,q1⟩=>?_)
 exact thn (hr pos pins s1 σ H1 _ I1 q1) λus s2 ⟨xs,H2,I2,r2,q2⟩=>⟨x::xs,H2,I2,.cons r1 r2,q2⟩
noncomputable def j8D (t:TA):TE:=fun σ H Q=>t σ H λxs H1=>xs.length<=sizeLine/\∀p,H1 p=none->Q (.ref p) (upd H1 p (.tup xs))
noncomputable def j8C (t:TA):TE:=fun σ H Q=>t σ H λxs H1=>xs.length<=sizeLine/\∀p,H1 p=none->Q (.ref p) (upd H1 p (.lst xs))
theorem j10 {x1} (h:PA X es t):PE X (.Tuple es x1 pos) (j8D t):=by
 intro pins s σ H Q I hq
 refine wpAny_Tuple_spliced (thn (h pos pins s σ H _ I hq) λus s1 ⟨xs,H1,I1,r,z,q⟩=>⟨by rw [<-r.length];exact z,?_⟩)
 have hf:H1 s1.heap.objs.size=none:=I1.hok.fresh (Nat.le_refl _)
 refine ⟨.ref s1.heap.objs.size,upd H1 s1.heap.objs.size (.tup xs),I1.laid (t':=s1.toks) (λb u e=>Heap.get?_push_of_some _ e) (Nat.le_refl _) ?_,rfl,q _ hf⟩
 exact ⟨z,us,r,⟨_,Heap.get?_push_size _ rfl,rfl,_,rfl⟩⟩
theorem j1k (h:PA X es t):PE X (.List es pos) (j8C t):=by
 intro pins s σ H Q I hq
 refine wpAny_List_spliced (thn (h pos pins s σ H _ I hq) λus s1 ⟨xs,H1,I1,r,z,q⟩=>⟨by rw [<-r.length];exact z,?_⟩)
 have hf:H1 s1.heap.objs.size=none:=I1.hok.fresh (Nat.le_refl _)
 refine ⟨.ref s1.heap.objs.size,upd H1 s1.heap.objs.size (.lst xs),I1.laid (t':=s1.toks) (λb u e=>Heap.get?_push_of_some _ e) (Nat.le_refl _) ?_,rfl,q _ hf⟩
 exact ⟨z,us,0,r,Heap.get?_push_size _ rfl⟩
end
noncomputable abbrev Sp:=List V->Hp->VK->XK->Prop
noncomputable abbrev CXT:=List Env->Hp->Shared->XK->Value->Shared->Prop
structure Env0 (P:Program) (w:World) (K:PySem.W.Frag) (mg:Str->Option Value) (base:Heap) (A:Around) (outer:List Env) (s:Shared) (H:Hp):Prop where
 frames:A.frames=some outer
 mod:Mod K mg base
 bs:∀b o,base.get? b=some o->s.heap.get? b=some o/\H b=none
 bsz:base.objs.size<=s.heap.objs.size
 funs:s.heap.FunFrames base outer
 frf:∀b∈frs outer,H b=none
 hok:HOk P w H s.heap
 bare:AllBare s.gens
noncomputable def CE (outer:List Env) (P:Program) (w:World) (H:Hp) (s:Shared) (Q:VK) (u:Value) (s':Shared):Prop:=
 ∃v H',s'.os=s.os/\AllBare s'.gens/\Un (frs outer) [] H H' s.heap s'.heap/\HOk P w H' s'.heap/\RelV v u/\Q v H'
noncomputable def CR (CX:CXT) (outer:List Env) (P:Program) (w:World) (H:Hp) (s:Shared) (Q:VK) (E:XK) (r:Result) (s':Shared):Prop:=
 match r with
 | .ok (.ret u)=>CE outer P w H s Q u s'
 | .ok _=>False
 | .error e=>CX outer H s E e s'
structure q0X (P:Program) (w:World) (K:PySem.W.Frag) (mg:Str->Option Value) (base:Heap) (CX:CXT) (k:Nat) (f:Addr) (fd:FuncData) (ps:List Str) (sp:Sp):Prop where
 len:∀vs H Q E,sp vs H Q E->vs.length=ps.length
 run:∀(A:Around) (outer:List Env) (s:Shared) (H:Hp) (args:Args) (us:List Value) (vs:List V) (Q:VK) (E:XK),Room k A->Env0 P w K mg base A outer s H->BindsTo s fd args (ps.zip us)->Vals vs us->sp vs H Q E ->
  codeAny (model P w) A (.call (.ref f) args) (CR CX outer P w H s Q E) s
theorem Env0.make {P:Program} {w:World} {K:PySem.W.Frag} {mg:Str->Option Value} {base:Heap} {A:Around} {outer:List Env} {s:Shared} {H:Hp} (e:Env0 P w K mg base A outer s H) (C:Addr) (us:List Value) (kw:List (Str×Value)) :
 Env0 P w K mg base (A.under (.builtin "type.__call__" ⟨.ref C::us,kw⟩)) outer s H:=⟨by first | exact e.frames | (simpa [Around.under,Code.envs,Code.isFrame,pushEnvs] using e.frames),e.mod,e.bs,e.bsz,e.funs,e.frf,e.hok,e.bare⟩
section
variable {X:Cx} {pins:List (Addr×Obj)} {σ:St} {H:Hp} {s s':Shared}
theorem Inv.env0 (I:Inv X pins σ H s):Env0 X.prog X.w X.K X.mg X.base X.A X.stack s H:=
 ⟨I.ok.frames,I.ok.mod,I.bs,Nat.le_trans I.ok.bsz I.sz,I.stack,I.stkFree,I.hok,I.bare⟩
theorem Inv.after {Q:VK} {u:Value} (I:Inv X pins σ H s) (h:CE X.stack X.prog X.w H s Q u s'):EP X pins σ Q u s':=by
 obtain ⟨v,H',os,bare,un,hok,r,q⟩:=h
 obtain ⟨hh,g,d,t,os'⟩:=s'
 obtain rfl:os'=s.os:=os
 exact ⟨v,H',I.call (h':=hh) (g':=g) (d':=d) (t':=t) (ch:=[]) un hok bare (λb z=>absurd z (by simp)),r,q⟩
end
noncomputable def Binds (K:PySem.W.Frag) (fd:FuncData) (ps:List Str) (ds:List Value):Prop:=
 ∀(s:Shared) (us:List Value),K.In s.heap->(us++ds).length=ps.length->BindsTo s fd ⟨us,[]⟩ (ps.zip (us++ds))
theorem Binds.all {K:PySem.W.Frag} {fd:FuncData} {ps:List Str} (h:∀us:List Value,us.length=ps.length->bindArgs fd ⟨us,[]⟩=pure (ps.zip us)):Binds K fd ps []:=λs us _ hl=>by
 rw [List.append_nil] at hl ⊢
 exact .of_eq (h us hl)
section
variable {X:Cx} {CX:CXT} {k:Nat} {f C:Addr} {fd:FuncData} {ps:List Str} {sp:Sp} {dvs:List V} {ds:List Value} {E:XK} {x m:Str} {p pos apos:Pos} {e o:Expr} {es:List Expr} {ta:TE} {t:TA}
structure Mk (K:PySem.W.Frag) (C f:Addr):Prop where
 makes:PySem.W.makesIn K C=true
 init:PySem.W.findIn K (.ref C) "__init__" = some (some (.ref f))
 fn:PySem.W.isFn K (.ref f)=true
 kp:PySem.W.keepIn K (.ref C)=true
end
section
variable {X:Cx} {CX:CXT} {k:Nat} {f C:Addr} {fd:FuncData} {ps ks:List Str} {sp:Sp} {E:XK} {x m:Str} {p pos apos kpos:Pos} {e o:Expr} {es:List Expr} {kws:List Keyword} {te ta:TE} {t tk:TA} {nm:Option Str}
structure j7H (K:PySem.W.Frag) (fd:FuncData) (ps ks:List Str) (g:List Value->List Value->List Value) (gV:List V->List V->List V):Prop where
 to:∀(s:Shared) (us ws:List Value),K.In s.heap->(g us ws).length=ps.length->BindsTo s fd ⟨us,ks.zip ws⟩ (ps.zip (g us ws))
 rel:∀{vs:List V} {us:List Value} {zs:List V} {ws:List Value},Vals vs us->Vals zs ws->Vals (gV vs zs) (g us ws)
variable {g:List Value->List Value->List Value} {gV:List V->List V->List V}
end
structure q0p (N P:List Str) (sc:Scope):Prop where
 kind:sc.kind=.function
 co:sc.isCoroutine=false
 gen:sc.isGenerator=false
 nd:N.Nodup
 pre:N.take P.length=P
 par:∀x∈P,sc.names.lookup x=some .local∨sc.names.lookup x=some .cell
 nofree:∀y∈sc.names,y.2≠.free
theorem q4z {kindOf:Str->Option NameKind} {x:Str}:∀{binds:List (Str×Value)} {m:Str->Option Value},(∀v,(x,v)∉binds)->bindL kindOf binds m x=m x
 | [],_,_=>rfl
 | (n,v)::r,m,h=>by
  unfold bindL
  rw [q4z λw hw=>h w (List.mem_cons_of_mem _ hw)]
  split
  ·have:x≠n:=by rintro rfl;exact h v List.mem_cons_self
   simp [this]
  ·rfl
theorem q4u {kindOf:Str->Option NameKind} {x:Str}:∀{binds:List (Str×Value)} {m:Str->Option Value},(∀v,(x,v)∉binds)->bindC kindOf binds m x=m x
 | [],_,_=>rfl
 | (n,v)::r,m,h=>by
  unfold bindC
  rw [q4u λw hw=>h w (List.mem_cons_of_mem _ hw)]
  split
  ·rfl
  ·have:x≠n:=by rintro rfl;exact h v List.mem_cons_self
   simp [this]
theorem q4c {kindOf:Str->Option NameKind} {x:Str} {v:Value}:∀{P:List Str} {vs:List Value} {i:Nat} {m:Str->Option Value},P.Nodup->P[i]?=some x->vs[i]?=some v->kindOf x=some .local ->
 bindL kindOf (P.zip vs) m x=some v
 | [],_,_,_,_,h,_,_=>by simp at h
 | _::_,[],_,_,_,_,h,_=>by simp at h
 | p::P,w::vs,0,m,nd,h1,h2,hk=>by
  simp at h1 h2;subst h1;subst h2
  show bindL kindOf ((p,w)::P.zip vs) m p=_
  unfold bindL
  rw [q4z λv hv=>(List.nodup_cons.mp nd).1 (List.of_mem_zip hv).1,if_pos hk]
  simp
 | p::P,w::vs,i+1,m,nd,h1,h2,hk=>by
  show bindL kindOf ((p,w)::P.zip vs) m x=_
  unfold bindL
  exact q4c (i:=i) (List.nodup_cons.mp nd).2 (by simpa using h1) (by simpa using h2) hk
theorem q4g {kindOf:Str->Option NameKind} {x:Str} {v:Value}:∀{P:List Str} {vs:List Value} {i:Nat} {m:Str->Option Value},P.Nodup->P[i]?=some x->vs[i]?=some v->kindOf x≠some .local ->
 bindC kindOf (P.zip vs) m x=some v
 | [],_,_,_,_,h,_,_=>by simp at h
 | _::_,[],_,_,_,_,h,_=>by simp at h
 | p::P,w::vs,0,m,nd,h1,h2,hk=>by
  simp at h1 h2;subst h1;subst h2
  show bindC kindOf ((p,w)::P.zip vs) m p=_
  unfold bindC
  rw [q4u λv hv=>(List.nodup_cons.mp nd).1 (List.of_mem_zip hv).1,if_neg hk]
  simp
 | p::P,w::vs,i+1,m,nd,h1,h2,hk=>by
  show bindC kindOf ((p,w)::P.zip vs) m x=_
  unfold bindC
  exact q4g (i:=i) (List.nodup_cons.mp nd).2 (by simpa using h1) (by simpa using h2) hk
noncomputable def start (N:List Str) (vs:List V):St:=vs.map some++List.replicate (N.length-vs.length) none
noncomputable def j3P (CX:CXT) (P:Program) (w:World) (K:PySem.W.Frag) (mg:Str->Option Value) (base:Heap) (N:List Str) (qual:Str) (scope:Scope) (f:Addr) (cd:Value) (A:Around) (outer:List Env) (s:Shared) (H:Hp) (E:XK):Cx where
 prog:=P
 w:=w
 K:=K
 mg:=mg
 base:=base
 A:=A.deeper (envOfC qual scope s.heap.objs.size f cd)
 N:=N
 s₀:=s
 H₀:=H
 env:=envOfC qual scope s.heap.objs.size f cd
 outer:=outer
 stack:=envOfC qual scope s.heap.objs.size f cd::outer
 ex:=[]
 calm:=true
 fn:=λ_=>true
 pn:=[]
 xe:=λe s'=>wpAny (model P w) (A.deeper (envOfC qual scope s.heap.objs.size f cd)) (leaving (envOfC qual scope s.heap.objs.size f cd) e) (λ_ s''=>CX outer H s E e s'') (λe' s''=>CX outer H s E e' s'') s'
theorem q50 {sc:Scope} {n:Nat} {x:Str} (h:sc.names.lookup x=some .cell):∃c,(cellsFrom n sc.names []).lookup x=some c:=by
 have q:=PySem.W.cellsFrom_some sc.names n [] (.inl h)
 exact Option.isSome_iff_exists.mp q
theorem q7H (ca:Bool) {CX:CXT} {P:Program} {w:World} {K:PySem.W.Frag} {mg:Str->Option Value} {base:Heap} {N ps:List Str} {qual:Str} {scope:Scope} {f:Addr} {cd:Value} {A:Around} {outer:List Env} {s s1:Shared} {H:Hp} {E:XK} {us:List Value} {vs:List V}
 (S:q0p N ps scope) (hd:ca=true->A.handled=none) (e0:Env0 P w K mg base A outer s H) (hl:vs.length=ps.length) (r:Vals vs us)
 (x:InCallC s s.heap.objs.size (bindL (envOfC qual scope s.heap.objs.size f cd).kindOf (ps.zip us) λ_=>none) (cellsFrom (s.heap.objs.size+1) scope.names []) (bindC (envOfC qual scope s.heap.objs.size f cd).kindOf (ps.zip us) λ_=>none) s1) :
 Inv ({ j3P CX P w K mg base N qual scope f cd A outer s H E with calm:=ca }:Cx) [] (start N vs) H s1:=by
 have hpl:ps.length<=N.length:=by have:=congrArg List.length S.pre;rw [List.length_take] at this;omega
 obtain ⟨h1,tk,rfl,hk⟩:=x.done
 have noA:∀b:Addr,b∉({ j3P CX P w K mg base N qual scope f cd A outer s H E with calm:=ca }:Cx).ex:=λb z=>absurd (show b∈([]:List Addr) from z) (by simp)
 refine ⟨⟨e0.mod,S.kind,rfl,rfl,Nat.le_refl _,λy z c h1 h2=>?_,λy hy=>?_,λy c _ h=>?_,hd,Around.frames_deeper e0.frames,.inr ⟨rfl,rfl⟩,λb z=>absurd z (noA b),e0.bs,e0.bsz,λb _ _=>noA b,λb z=>absurd z (noA b),e0.funs,e0.frf⟩,
  rfl,e0.bare,Un.kept hk,⟨_,x.toInCall.ns,λi y v h1 h2 h3=>?_⟩,λy c h=>⟨_,x.cell y c h⟩,e0.hok.fresh (Nat.le_refl _),λy c h=>?_,λp hp=>absurd (show p∈([]:List (Addr×Obj)) from hp) (by simp),e0.hok.kept hk,?_⟩
 ·exact name_of_addr x.apart (PySem.mem_of_lookup h1) (PySem.mem_of_lookup h2)
 ·have hy:scope.names.lookup y=some .cell∨scope.names.lookup y=some .free:=hy
  rcases hy with hy | hy
  ·exact q50 hy
  ·exact absurd rfl (S.nofree _ (PySem.mem_of_lookup hy))
 ·exact Nat.le_of_lt (x.above y c (PySem.mem_of_lookup h))
 ·have hi:i < vs.length:=by
   unfold start at h2
   by_cases hi:i < vs.length
   ·exact hi
   ·rw [List.getElem?_append_right (by simpa using hi)] at h2
    rw [List.getElem?_replicate] at h2
    split at h2<;>cases h2
  have ha:vs[i]?=some v:=by
   unfold start at h2
   rw [List.getElem?_append_left (by simpa using hi),List.getElem?_map] at h2
   cases e:vs[i]? with
   | none=>rw [e] at h2;cases h2
   | some a=>rw [e] at h2;cases h2;rfl
  obtain ⟨u,hu,rv⟩:=r.get ha
  have hp:ps[i]?=some y:=by
   rw [<-S.pre,List.getElem?_take_of_lt (by omega)];exact h1
  have ndP:ps.Nodup:=by rw [<-S.pre];exact S.nd.sublist (List.take_sublist _ _)
  refine ⟨u,rv,?_⟩
  rcases S.par y (List.mem_of_getElem? hp) with k | k
  ·exact .inl ⟨k,q4c ndP hp hu k⟩
  ·obtain ⟨c,e⟩:=q50 (n:=s.heap.objs.size+1) k
   refine .inr ⟨.inl k,c,e,?_⟩
   have q:=x.cell y c e
   rw [q4g ndP hp hu (by show scope.names.lookup y≠_;rw [k];decide)] at q
   exact q
 ·exact e0.hok.fresh (Nat.le_of_lt (x.above y c (PySem.mem_of_lookup h)))
 ·unfold start
  show _=N.length
  rw [List.length_append,List.length_map,List.length_replicate]
  omega
theorem j21 {CX:CXT} {P:Program} {w:World} {K:PySem.W.Frag} {mg:Str->Option Value} {base:Heap} {k:Nat} {f:Addr} {name qual:Str} {params:Arguments} {body:List Stmt} {scope:Scope} {dV kV doc pm cdv ct oc:Value} {an od:Option Addr}
 {osl:Array (Option Value)} {N ps:List Str} {sp:Sp} (lk:K.lookup f=some ⟨oc,od,.func (PySem.W.fnOf name qual params body scope dV kV doc pm an cdv ct),osl⟩) (hcd:PySem.W.codeIn K cdv qual=true) (S:q0p N ps scope)
 (len:∀vs H Q E,sp vs H Q E->vs.length=ps.length)
 (hbody:∀(A:Around) (outer:List Env) (s:Shared) (H:Hp) (vs:List V) (Q:VK) (E:XK),Room k (A.deeper (envOfC qual scope s.heap.objs.size f cdv))->sp vs H Q E ->
  ∃t,PSs (j3P CX P w K mg base N qual scope f cdv A outer s H E) body t/\t { nx:=λ_ H'=>Q .non H',rt:=Q } (start N vs) H) :
 q0X P w K mg base CX (k+1) f (PySem.W.fnOf name qual params body scope dV kV doc pm an cdv ct) ps sp:=by
 refine ⟨len,λA outer s H args us vs Q E hr e0 hb r hsp=>?_⟩
 have hl:=len _ _ _ _ hsp
 have KX:K.In s.heap:=e0.mod.kin.keeps λb o e=>(e0.bs b o e).1
 have lim:s.heap.NoLimit:=e0.mod.nolimit.keeps λb o e=>(e0.bs b o e).1
 have hkind:∀y∈ps.zip us,scope.names.lookup y.1=some .local∨(scope.names.lookup y.1=some .cell/\((cellsFrom (s.heap.objs.size+1) scope.names []).lookup y.1).isSome=true):=λ⟨n,v⟩ hy=>by
  rcases S.par n (List.of_mem_zip hy).1 with q | q
  ·exact .inl q
  ·exact .inr ⟨q,PySem.W.cellsFrom_some _ _ _ (.inl q)⟩
 refine codeAny_call_function hr.depth (KX _ _ lk) rfl S.co S.gen rfl (PySem.W.codeRec_of KX hcd) (hb _ _ _ _ ?_)
 refine wpAny_newFunctionEnv_cells S.kind hkind λenv he s1 x=>?_
 subst he
 refine ⟨lim.keeps x.toInCall.keep,codeAny_func ?_⟩
 obtain ⟨t,ht,hq⟩:=hbody A outer s H vs Q E (hr.deeper _) hsp
 have I:Inv (j3P CX P w K mg base N qual scope f cdv A outer s H E) [] (start N vs) H s1:=q7H true S (λ_=>hr.hd) e0 hl r x
 refine wpAny_mono (ht [] s1 (start N vs) H _ I hq) (λfl s' hs=>?_) λe s' hs=>hs
 have fin:∀{σ':St} {H':Hp} {v:V} {u:Value},Inv (j3P CX P w K mg base N qual scope f cdv A outer s H E) [] σ' H' s'->RelV v u->Q v H'->CE outer P w H s Q u s':=
  λ{σ' H' v u} J rv q=>⟨v,H',J.os,J.bare,J.base,J.hok,rv,q⟩
 cases fl with
 | ret u=>
  obtain ⟨v,σ',H',J,rv,q⟩:=hs
  exact fin J rv q
 | next=>
  obtain ⟨σ',H',J,q⟩:=hs
  exact fin (v:=V.non) (u:=Value.none) J rfl q
 | brk=>
  obtain ⟨_,_,_,q⟩:=hs
  exact False.elim q
 | cont=>
  obtain ⟨_,_,_,q⟩:=hs
  exact False.elim q
section
variable {X:Cx} {x:Str} {p pos:Pos} {e:Expr} {es:List Expr} {t:TA} {id T:String} {r:List V->Hp->VK->Prop}
noncomputable def tCB (r:List V->Hp->VK->Prop) (t:TA):TE:=fun σ H Q=>t σ H λvs H1=>r vs H1 Q
theorem q3U (hc:q2l X (.builtin id) r) (hg:Gl X x) (hm:X.mg x=none) (hv:bootBuiltins x=some (.builtin id)) (ha:PA X (e::es) t) (hn:x≠"__name__":=by decide) (hdb:(x==("__debug__" : Str))=false:=by decide)
 (he:starEach (e::es) X.env=(false,eval e X.env)::starEach es X.env:=by rfl) (hpl:(backTo pos (starEach es X.env)).any (·.1)=false:=by rfl):PE X (.Call (.Name x p) (e::es) [] pos) (tCB r t):=by
 intro pins s σ H Q I h
 refine wpAny_Call_Name_kw (q2S I hg hm hv ?_ hn hdb)
 exact PyProof.Rows.callWith_builtin1 (thn (ha pos pins s σ H _ I h) λus s1 ⟨vs,H1,I1,r1,q1⟩=>hc pins s1 σ H1 vs us Q I1 r1 q1) he hpl
theorem q22 (hc:q2l X (.type T) r) (hg:Gl X x) (hm:X.mg x=none) (hv:bootBuiltins x=some (.type T)) (ha:PA X (e::es) t) (hn:x≠"__name__":=by decide) (hdb:(x==("__debug__" : Str))=false:=by decide)
 (he:starEach (e::es) X.env=(false,eval e X.env)::starEach es X.env:=by rfl) (hpl:(backTo pos (starEach es X.env)).any (·.1)=false:=by rfl):PE X (.Call (.Name x p) (e::es) [] pos) (tCB r t):=by
 intro pins s σ H Q I h
 refine wpAny_Call_Name_kw (q2S I hg hm hv ?_ hn hdb)
 exact PyProof.Rows.callWith_type1 (thn (ha pos pins s σ H _ I h) λus s1 ⟨vs,H1,I1,r1,q1⟩=>hc pins s1 σ H1 vs us Q I1 r1 q1) he hpl
end
end L2
namespace HT
open PySem PyProof.Rows
section
open PySem.SeqAt
open PySem.AutoSeq1 (wpAny_loadPart')
open PySem.MeetsSeq PySem.MeetsSeq2 PySem.MeetsSeq3
end
section
variable {prog:Program} {w:World} {A:Around} {E:Value->Shared->Prop} {s:Shared}
noncomputable def sIx (n d:Nat):Option Int->Nat
 | none=>d
 | some v=>if v < 0 then (v+(n:Int)).toNat else min v.toNat n
theorem sIx_nat (n d k:Nat):sIx n d (some (k:Int))=min k n:=by
 show (if (k:Int) < 0 then ((k:Int)+(n:Int)).toNat else min (k:Int).toNat n)=min k n
 rw [if_neg (by omega),Int.toNat_natCast]
end
end HT
namespace L2
open PySem PySem.Spec PyProof.Rows
noncomputable abbrev TO:=St->Hp->(Option Int->Hp->Prop)->Prop
noncomputable def PO (X:Cx) (e:Option Expr) (t:TO):Prop:=
 ∀(pins:List (Addr×Obj)) (s:Shared) (σ:St) (H:Hp) (Q:Option Int->Hp->Prop),Inv X pins σ H s->t σ H Q ->
  wpAny (model X.prog X.w) X.A (evalPart e X.env) (λu s'=>∃o H',Inv X pins σ H' s'/\IsPart u o/\Q o H') X.xe s
noncomputable def j2h:TO:=λ_ H Q=>Q none H
noncomputable def j7k (t:TE):TO:=fun σ H Q=>t σ H λx H1=>∃i,x=.int i/\Q (some i) H1
section
variable {X:Cx} {e:Expr} {te:TE} {lo hi:Option Expr} {tl th:TO} {pos p2:Pos}
theorem j3C:PO X none j2h:=by
 intro pins s σ H Q I h
 rw [evalPart_none]
 exact wpAny_pure ⟨none,H,I,.none,h⟩
theorem j29 (h:PE X e te):PO X (some e) (j7k te):=by
 intro pins s σ H Q I hw
 rw [evalPart_some]
 refine thn (h pins s σ H _ I hw) λu s1 ⟨x,H1,I1,r1,q1⟩=>?_
 obtain ⟨i,rfl,q⟩:=q1
 obtain ⟨t,rfl⟩:=r1
 exact ⟨some i,H1,I1,.int i t,q⟩
noncomputable def SlR (X:Cx) (r:V->Option Int->Option Int->Hp->VK->Prop):Prop:=
 ∀(pins:List (Addr×Obj)) (s:Shared) (σ:St) (H:Hp) (x:V) (v vl vu:Value) (lo hi:Option Int) (sl:Addr) (Q:VK),Inv X pins σ H s->RelV x v->s.heap.IsSliceOf sl vl vu .none->IsPart vl lo->IsPart vu hi->r x lo hi H Q ->
  ∃T id,typeLookup (.type T) "__getitem__" = pure (some (.builtin id))/\s.TypeIs v T/\wpAny (model X.prog X.w) X.A (getItem v (.ref sl)) (EP X pins σ Q) X.xe s
noncomputable def tSl (r:V->Option Int->Option Int->Hp->VK->Prop) (te:TE) (tl th:TO):TE:=fun σ H Q=>te σ H λx H1=>tl σ H1 λl H2=>th σ H2 λu H3=>r x l u H3 Q
theorem q5z {r:V->Option Int->Option Int->Hp->VK->Prop} (hr:SlR X r) (he:PE X e te) (hl:PO X lo tl) (hu:PO X hi th):PE X (.Subscript e (.Slice lo hi none p2) pos) (tSl r te tl th):=by
 intro pins s σ H Q I h
 refine Subscript_ (thn (he pins s σ H _ I h) λv s1 ⟨x,H1,I1,r1,q1⟩=>?_)
 refine wpAny_Slice (thn (hl pins s1 σ H1 _ I1 q1) λvl s2 ⟨l,H2,I2,pl,q2⟩=>thn (hu pins s2 σ H2 _ I2 q2) λvu s3 ⟨u,H3,I3,pu,q3⟩=>?_)
 rw [evalPart_none]
 refine wpAny_pure ?_
 have I4:Inv X pins σ H3 { s3 with heap:=s3.heap.push { cls:=.type "slice",data:=.fields #[vl,vu,.none] } }:=I3.kept (t':=s3.toks) λb ob q=>Heap.get?_push_of_some _ q
 obtain ⟨T,id,hT,ht,hg⟩:=hr pins { s3 with heap:=s3.heap.push { cls:=.type "slice",data:=.fields #[vl,vu,.none] } } σ H3 x v vl vu l u s3.heap.objs.size Q I4 r1 (Heap.IsSliceOf.new ..) pl pu q3
 show wpAny (model X.prog X.w) X.A (subscriptTail e (.Slice lo hi none p2) v (.ref s3.heap.objs.size)) (EP X pins σ Q) X.xe { s3 with heap:=s3.heap.push { cls:=.type "slice",data:=.fields #[vl,vu,.none] } }
 exact tail_any (ops:=[.ref s3.heap.objs.size,v]) ht hT hg (by with_unfolding_all rfl)
noncomputable def j3M (xs:List V) (lo hi:Option Int):List V:=(xs.drop (HT.sIx xs.length 0 lo)).take (HT.sIx xs.length xs.length hi-HT.sIx xs.length 0 lo)
theorem q4W (xs:List V) (lo hi:Option Int):(j3M xs lo hi).length<=xs.length:=by
 unfold j3M
 rw [List.length_take,List.length_drop]
 omega
end
noncomputable def ixN (n:Nat) (i:Int):Option Nat:=if 0<=i then (if i < n then some i.toNat else none) else if -(n:Int)<=i then some (i+n).toNat else none
noncomputable def atI {α:Type} (xs:List α) (i:Int):Option α:=(ixN xs.length i).bind λj=>xs[j]?
theorem q3M {n:Nat} {i:Int} {j:Nat} (h:ixN n i=some j):seqIndex? i n=some j/\j < n/\-(n:Int)<=i/\i < n:=by
 unfold ixN at h
 by_cases h0:0<=i
 ·rw [if_pos h0] at h
  by_cases h1:i < n
  ·rw [if_pos h1] at h
   have e:i.toNat=j:=Option.some.inj h
   exact ⟨by rw [seqIndex_of h0 h1,e],by omega,by omega,h1⟩
  ·rw [if_neg h1] at h;cases h
 ·rw [if_neg h0] at h
  by_cases h1:-(n:Int)<=i
  ·rw [if_pos h1] at h
   have e:(i+n).toNat=j:=Option.some.inj h
   exact ⟨by rw [seqIndex_neg (by omega) h1,e],by omega,h1,by omega⟩
  ·rw [if_neg h1] at h;cases h
theorem q3F {α:Type} {xs:List α} {i:Int} {v:α} (h:atI xs i=some v):∃j,seqIndex? i xs.length=some j/\xs[j]?=some v/\j < xs.length/\-(xs.length:Int)<=i/\i < xs.length:=by
 unfold atI at h
 cases e:ixN xs.length i with
 | none=>rw [e] at h;cases h
 | some j=>
  rw [e] at h
  obtain ⟨h1,h2,h3,h4⟩:=q3M e
  exact ⟨j,h1,h,h2,h3,h4⟩
theorem q1h {α:Type} {xs:List α} {j:Nat} {v:α} (h:xs[j]?=some v):atI xs (j:Int)=some v:=by
 have hj:j < xs.length:=(List.getElem?_eq_some_iff.mp h).1
 have e:ixN xs.length (j:Int)=some j:=by
  unfold ixN
  rw [if_pos (by omega),if_pos (by omega)];simp
 unfold atI;rw [e];exact h
noncomputable def q1V (b:Expr):Prop:=∀o i,subscripted b false o i=operate [o,i] (getItem o i)
noncomputable def IxR (X:Cx) (r:R2):Prop:=
 ∀(value slice:Expr) (pins:List (Addr×Obj)) (s:Shared) (σ:St) (H:Hp) (x y:V) (v u:Value) (Q:VK),Inv X pins σ H s->RelV x v->RelV y u->r x y H Q ->
  subscripted slice false v u=operate [v,u] (getItem v u)->wpAny (model X.prog X.w) X.A (subscriptTail value slice v u) (EP X pins σ Q) X.xe s
noncomputable def MtR (X:Cx) (id:String) (r:V->List V->Hp->VK->Prop):Prop:=
 ∀(pins:List (Addr×Obj)) (s:Shared) (σ:St) (H:Hp) (x:V) (xs:List V) (v:Value) (us:List Value) (Q:VK),Inv X pins σ H s->RelV x v->Vals xs us->r x xs H Q ->
  wpAny (model X.prog X.w) X.A (call (.builtin id) (v::us)) (EP X pins σ Q) X.xe s
section
variable {X:Cx} {a b:Expr} {ta tb:TE} {pos:Pos}
theorem IxR.or {r r':R2} (h:IxR X r) (h':IxR X r'):IxR X (λx y H Q=>r x y H Q∨r' x y H Q):=by
 intro value slice pins s σ H x y v u Q I rx ry q hs
 rcases q with q | q
 ·exact h value slice pins s σ H x y v u Q I rx ry q hs
 ·exact h' value slice pins s σ H x y v u Q I rx ry q hs
theorem q6H {r:R2} (hr:IxR X r) (ha:PE X a ta) (hb:PE X b tb) (hs:q1V b):PE X (.Subscript a b pos) (tOp r ta tb):=by
 intro pins s σ H Q I h
 exact Subscript_ (j7x ha hb I h λv u s2 x y H2 I2 rx ry q=>hr a b pins s2 σ H2 x y v u Q I2 rx ry q (hs _ _))
noncomputable def j73 (K:PySem.W.Frag):R2:=λx y H Q=>∃p xs i v,x=.ref p/\y=.int i/\SqL K H p xs/\atI xs i=some v/\Q v H
noncomputable def j8L (K:PySem.W.Frag):R2:=λx y H Q=>∃p xs i v,x=.ref p/\y=.int i/\SqT K H p xs/\atI xs i=some v/\Q v H
noncomputable def j8x:R2:=λx y H Q=>∃z i c,x=.str z/\y=.int i/\z.length<=sizeLine/\atI z.cps.toList i=some c/\Q (.str ⟨#[c]⟩) H
theorem q2h:IxR X (j73 X.K):=by
 intro value slice pins s σ H x y v u Q I rx ry h hs
 obtain ⟨p,xs,i,z,rfl,rfl,hq,he,q⟩:=h
 cases rx
 obtain ⟨t,rfl⟩:=ry
 obtain ⟨its,r,pl,hz⟩:=I.list hq
 obtain ⟨j,h1,h2,h3,h4,h5⟩:=q3F he
 obtain ⟨w,ew,rw'⟩:=r.get h2
 have hl:=r.length
 have hn:=line63
 have fin:EP X pins σ Q w s:=⟨z,H,I,rw',q⟩
 by_cases h0:0<=i
 ·have hj:i.toNat=j:=by
   rw [seqIndex_of h0 h5] at h1
   exact Option.some.inj h1
  exact item_listR pl.isList h0 (by omega) (by rw [hj];simpa using ew) fin hs
 ·have hj:(i+(its.toArray.size:Int)).toNat=j:=by
   rw [seqIndex_neg (by omega) h4] at h1
   rw [List.size_toArray,<-hl]
   exact Option.some.inj h1
  exact subscriptTail_builtinR (x:=w) pl.isList.typeIs slot_list_getitem.lookup
   (wpAny_getItem_list_neg (Q:=λr s'=>r=w/\EP X pins σ Q r s') pl.isList (by omega) (by rw [List.size_toArray]<;>omega) (by omega) (by rw [hj];simpa using ew) ⟨rfl,fin⟩) hs
theorem j30:IxR X (j8L X.K):=by
 intro value slice pins s σ H x y v u Q I rx ry h hs
 obtain ⟨p,xs,i,z,rfl,rfl,hq,he,q⟩:=h
 cases rx
 obtain ⟨t,rfl⟩:=ry
 obtain ⟨its,r,pl,hz⟩:=I.tuple hq
 obtain ⟨j,h1,h2,h3,h4,h5⟩:=q3F he
 obtain ⟨w,ew,rw'⟩:=r.get h2
 have hl:=r.length
 have hn:=line63
 have fin:EP X pins σ Q w s:=⟨z,H,I,rw',q⟩
 exact subscriptTail_builtinR (x:=w) pl.typeIs slot_tuple_getitem.lookup
  (getItem_tuple (j:=j) (Q:=λr s'=>r=w/\EP X pins σ Q r s') pl (by omega) (by omega) (by rw [List.size_toArray,<-hl];exact h1) (by simpa using ew) ⟨rfl,fin⟩) hs
theorem j4S:IxR X j8x:=by
 intro value slice pins s σ H x y v u Q I rx ry h hs
 obtain ⟨z,i,c,rfl,rfl,hz,he,q⟩:=h
 obtain ⟨t,rfl⟩:=rx
 obtain ⟨t',rfl⟩:=ry
 obtain ⟨j,h1,h2,h3,h4,h5⟩:=q3F he
 have hl:z.cps.toList.length=z.length:=by simp [Str.length]
 rw [hl] at h1 h4 h5
 have hn:=line63
 exact tail_any (typeIs_str s z t) slot_str_getitem.lookup (getItem_str (c:=c) (by
  have e1:decide (i < -(2 ^ 63:Int))=false:=decide_eq_false (by omega)
  have e2:decide (i ≥ 2 ^ 63)=false:=decide_eq_false (by omega)
  rw [e1,e2,Bool.or_false]) (by rw [h1];simpa using h2) ⟨.str ⟨#[c]⟩,H,I.tok _,⟨_,rfl⟩,q⟩) hs
theorem q39 (lo hi:Option Int) (n:Nat):(sliceBounds lo hi none n).1=((HT.sIx n 0 lo:Nat):Int)/\(sliceBounds lo hi none n).2.1=((HT.sIx n n hi:Nat):Int)/\(sliceBounds lo hi none n).2.2=1:=by
 refine ⟨?_,?_,rfl⟩
 ·cases lo with
  | none=>simp [sliceBounds,HT.sIx]
  | some i=>
   simp only [sliceBounds,HT.sIx,Option.getD_none,show (1:Int) > 0 by decide,if_true]
   by_cases h:i < 0
   ·simp only [h,if_true]<;>omega
   ·simp only [h,if_false]<;>omega
 ·cases hi with
  | none=>simp [sliceBounds,HT.sIx]
  | some i=>
   simp only [sliceBounds,HT.sIx,Option.getD_none,show (1:Int) > 0 by decide,if_true]
   by_cases h:i < 0
   ·simp only [h,if_true]<;>omega
   ·simp only [h,if_false]<;>omega
theorem q30 (its:List Value) (lo hi:Option Int):slicePick its.toArray lo hi none=((its.drop (HT.sIx its.length 0 lo)).take (HT.sIx its.length its.length hi-HT.sIx its.length 0 lo)).toArray:=by
 obtain ⟨h1,h2,h3⟩:=q39 lo hi its.toArray.size
 unfold slicePick
 rw [h1,h2,h3]
 simp only [sliceRange_one,pick_run,List.size_toArray]<;>rfl
noncomputable def j8i (K:PySem.W.Frag):V->Option Int->Option Int->Hp->VK->Prop:=λx lo hi H Q=>∃a xs,x=.ref a/\SqL K H a xs/\∀p,H p=none->Q (.ref p) (upd H p (.lst (j3M xs lo hi)))
theorem j2W:SlR X (j8i X.K):=by
 intro pins s σ H x v vl vu lo hi sl Q I rx hs pl pu h
 obtain ⟨a,xs,rfl,hx,q⟩:=h
 cases rx
 obtain ⟨its,r,ht,hz⟩:=I.list hx
 have hlen:=r.length
 refine ⟨"list",_,slot_list_getitem.lookup,ht.isList.typeIs,?_⟩
 refine wpAny_getItem_list_slice ht.isList hs pl pu .none (by simp) ?_ (by rw [List.size_toArray]<;>omega)
 rw [q30,<-hlen]
 refine ⟨.ref s.heap.objs.size,_,I.laid (t':=s.toks) (o:=.lst (j3M xs lo hi)) (λb ob q=>Heap.get?_push_of_some _ q) (Nat.le_refl _) ?_,rfl,q _ (I.hok.fresh (Nat.le_refl _))⟩
 exact ⟨Nat.le_trans (q4W xs lo hi) hz,_,0,(r.drop (HT.sIx xs.length 0 lo)).take (HT.sIx xs.length xs.length hi-HT.sIx xs.length 0 lo),Heap.get?_push_size _ rfl⟩
noncomputable def q3h:V->Bool
 | .non=>true
 | .bl _=>true
 | .int _=>true
 | .str _=>true
 | _=>false
noncomputable def eqV:V->V->Bool
 | .non,.non=>true
 | .bl a,.bl b=>a==b
 | .bl a,.int b=>(if a then 1 else 0)==b
 | .int a,.bl b=>a==(if b then 1 else 0)
 | .int a,.int b=>a==b
 | .str a,.str b=>a==b
 | _,_=>false
theorem j5b {A:Around} {s:Shared} {y x:V} {u v:Value} (ry:RelV y u) (rx:RelV x v) (fy:q3h y=true) (fx:q3h x=true):SeqAt.EqAt A s u v (eqV y x):=by
 cases y with
 | non=>
  cases ry
  cases x with
  | non=>cases rx;exact SeqAt.EqAt.same _
  | bl b=>cases rx;exact SeqAt.EqAt.none_bool b
  | int b=>obtain ⟨t,rfl⟩:=rx;exact SeqAt.EqAt.none_int b t
  | str b=>obtain ⟨t,rfl⟩:=rx;exact SeqAt.EqAt.none_str b t
  | _=>exact absurd (show false=true from fx) Bool.false_ne_true
 | bl a=>
  cases ry
  cases x with
  | non=>cases rx;exact SeqAt.EqAt.bool_none a
  | bl b=>cases rx;exact SeqAt.EqAt.bool_bool a b
  | int b=>obtain ⟨t,rfl⟩:=rx;exact SeqAt.EqAt.bool_int a b t
  | str b=>obtain ⟨t,rfl⟩:=rx;exact SeqAt.EqAt.bool_str a b t
  | _=>exact absurd (show false=true from fx) Bool.false_ne_true
 | int a=>
  obtain ⟨t',rfl⟩:=ry
  cases x with
  | non=>cases rx;exact SeqAt.EqAt.int_none a t'
  | bl b=>cases rx;exact SeqAt.EqAt.int_bool a t' b
  | int b=>obtain ⟨t,rfl⟩:=rx;exact SeqAt.EqAt.int_int a t' b t
  | str b=>obtain ⟨t,rfl⟩:=rx;exact SeqAt.EqAt.int_str a t' b t
  | _=>exact absurd (show false=true from fx) Bool.false_ne_true
 | str a=>
  obtain ⟨t',rfl⟩:=ry
  cases x with
  | non=>cases rx;exact SeqAt.EqAt.str_none a t'
  | bl b=>cases rx;exact SeqAt.EqAt.str_bool a t' b
  | int b=>obtain ⟨t,rfl⟩:=rx;exact SeqAt.EqAt.str_int a t' b t
  | str b=>obtain ⟨t,rfl⟩:=rx;exact SeqAt.EqAt.str_str a t' b t
  | _=>exact absurd (show false=true from fx) Bool.false_ne_true
 | _=>exact absurd (show false=true from fy) Bool.false_ne_true
noncomputable def eqU (x:V) (u:Value):Bool:=match u with
 | .none=>eqV .non x
 | .bool b=>eqV (.bl b) x
 | .int i _=>eqV (.int i) x
 | .str z _=>eqV (.str z) x
 | _=>false
theorem j1T {x y:V} {u:Value} (r:RelV y u) (f:q3h y=true):eqU x u=eqV y x:=by
 cases y with
 | non=>cases r;rfl
 | bl b=>cases r;rfl
 | int i=>obtain ⟨t,rfl⟩:=r;rfl
 | str z=>obtain ⟨t,rfl⟩:=r;rfl
 | _=>exact absurd (show false=true from f) Bool.false_ne_true
theorem q2Q {x:V}:∀{xs:List V} {us:List Value},Vals xs us->xs.all q3h=true->us.any (eqU x)=xs.any λy=>eqV y x
 | _,_,.nil,_=>rfl
 | y::xs,u::us,.cons r t,f=>by
  rw [List.all_cons,Bool.and_eq_true] at f
  rw [List.any_cons,List.any_cons,j1T r f.1,q2Q t f.2]
theorem q2b {A:Around} {s:Shared} {x:V} {v:Value} (rx:RelV x v) (fx:q3h x=true):∀{xs:List V} {us:List Value},Vals xs us->xs.all q3h=true->∀u∈us,SeqAt.EqAt A s u v (eqU x u)
 | _,_,.nil,_=>λu hu=>by cases hu
 | y::xs,u::us,.cons r t,f=>λu' hu=>by
  rw [List.all_cons,Bool.and_eq_true] at f
  rcases List.mem_cons.mp hu with rfl | hu
  ·rw [j1T r f.1];exact j5b r rx f.1 fx
  ·exact q2b rx fx t f.2 u' hu
noncomputable def inV (x:V) (xs:List V):Bool:=xs.any λy=>eqV y x
noncomputable def rIn (K:PySem.W.Frag) (neg:Bool):R2:=λx y H Q=>∃p xs,y=.ref p/\(SqL K H p xs∨SqT K H p xs)/\q3h x=true/\xs.all q3h=true/\Q (.bl (if neg then !inV x xs else inV x xs)) H
theorem q64:OpR X (compareOp .In) (rIn X.K false):=by
 intro pins s σ H x y v u Q I rx ry h
 obtain ⟨p,xs,rfl,hq,fx,fs,q⟩:=h
 cases ry
 rcases hq with hq | hq
 ·obtain ⟨its,r,pl,hz⟩:=I.list hq
  refine SeqAt.in_listAt (eqU x) pl.isList (λw hw=>q2b rx fx r fs w (by simpa using hw)) ⟨.bl _,H,I,rfl,?_⟩
  rw [show its.toArray.any (eqU x)=its.any (eqU x) by simp,q2Q r fs]
  exact q
 ·obtain ⟨its,r,pl,hz⟩:=I.tuple hq
  refine SeqAt.in_tupleAt (eqU x) pl (λw hw=>q2b rx fx r fs w (by simpa using hw)) ⟨.bl _,H,I,rfl,?_⟩
  rw [show its.toArray.any (eqU x)=its.any (eqU x) by simp,q2Q r fs]
  exact q
theorem q4f:OpR X (compareOp .NotIn) (rIn X.K true):=by
 intro pins s σ H x y v u Q I rx ry h
 obtain ⟨p,xs,rfl,hq,fx,fs,q⟩:=h
 cases ry
 rcases hq with hq | hq
 ·obtain ⟨its,r,pl,hz⟩:=I.list hq
  refine SeqAt.notIn_listAt (eqU x) pl.isList (λw hw=>q2b rx fx r fs w (by simpa using hw)) ⟨.bl _,H,I,rfl,?_⟩
  rw [show its.toArray.any (eqU x)=its.any (eqU x) by simp,q2Q r fs]
  exact q
 ·obtain ⟨its,r,pl,hz⟩:=I.tuple hq
  refine SeqAt.notIn_tupleAt (eqU x) pl (λw hw=>q2b rx fx r fs w (by simpa using hw)) ⟨.bl _,H,I,rfl,?_⟩
  rw [show its.toArray.any (eqU x)=its.any (eqU x) by simp,q2Q r fs]
  exact q
theorem q3O:q2l X (.type "tuple") (λxs H Q=>∃p ys,xs=[.ref p]/\((SqL X.K H p ys/\∀l,H l=none->Q (.ref l) (upd H l (.tup ys)))∨(SqT X.K H p ys/\Q (.ref p) H))):=by
 intro pins s σ H xs us Q I r h
 obtain ⟨p,ys,rfl,h⟩:=h
 obtain ⟨u,rfl,rx⟩:=vals1 r
 cases rx
 rcases h with ⟨hq,q⟩ | ⟨hq,q⟩
 ·obtain ⟨its,r',pl,hz⟩:=I.list hq
  have hlen:=r'.length
  refine call_tuple_list pl.isList (λh' kp=>?_) (by simp only [List.size_toArray]<;>omega)
  have I1:Inv X pins σ H { s with heap:=h' }:=I.kept (t':=s.toks) kp
  have I2:Inv X pins σ (upd H h'.objs.size (.tup ys)) { s with heap:=h'.push { cls:=.type "tuple",data:=.seq its.toArray } }:=
   I1.laid (t':=s.toks) (λb o e=>Heap.get?_push_of_some _ e) (Nat.le_refl _) (show ObjOk X.prog X.w _ _ _ (.tup ys) from ⟨hz,its,r',IsTup.new _ _⟩)
  exact ⟨.ref h'.objs.size,_,I2,rfl,q _ (I1.hok.fresh (Nat.le_refl _))⟩
 ·obtain ⟨its,r',pl,hz⟩:=I.tuple hq
  exact call_tuple_same pl ⟨.ref p,H,I,rfl,q⟩
noncomputable def tyV (K:PySem.W.Frag) (T:String) (x:V) (H:Hp):Prop:=match x with
 | .str _=>T="str"
 | .int _=>T="int"
 | .ref p=>(T="list"/\∃xs,SqL K H p xs)∨(T="tuple"/\∃o,K.lookup p=some o/\o.cls=.type "tuple"/\o.dict=none) ∨
  (T="dict"/\((∃kvs,H p=some (.dK kvs))∨∃kvs,H p=some (.dT kvs)))∨(T="set"/\∃S n,H p=some (.set S n))
 | _=>False
theorem j4J {pins:List (Addr×Obj)} {σ:St} {H:Hp} {s:Shared} {T:String} {x:V} {v:Value} (I:Inv X pins σ H s) (r:RelV x v) (ty:tyV X.K T x H) :
 s.TypeIs v T/\∀a,v=.ref a->∃ob,s.heap.get? a=some ob/\ob.dict=none:=by
 cases x with
 | str z=>
  obtain ⟨t,rfl⟩:=r
  cases (show T="str" from ty)
  exact ⟨typeIs_str s z t,λ_ e=>nomatch e⟩
 | int i=>
  obtain ⟨t,rfl⟩:=r
  cases (show T="int" from ty)
  exact ⟨typeIs_int s i t,λ_ e=>nomatch e⟩
 | ref p=>
  cases r
  rcases ty with ⟨rfl,xs,hq⟩ | ⟨rfl,o,hk,hc,hd⟩ | ⟨rfl,hk⟩ | ⟨rfl,S,n,hk⟩
  ·obtain ⟨its,_,pl,_⟩:=I.list hq
   refine ⟨pl.isList.typeIs,λa e=>?_⟩
   cases e
   obtain ⟨o,n,e,c,hd,_⟩:=pl
   exact ⟨o,e,hd⟩
  ·refine ⟨⟨o,I.kIn p o hk,hc⟩,λa e=>?_⟩
   cases e
   exact ⟨o,I.kIn _ o hk,hd⟩
  ·have z:∃o,s.heap.get? p=some o/\o.ExactDict:=by
    rcases hk with ⟨kvs,hk⟩ | ⟨kvs,hk⟩
    ·obtain ⟨_,_,_,_,o,_,_,e,ex,_⟩:=I.hok p _ hk
     exact ⟨o,e,ex⟩
    ·obtain ⟨_,_,_,_,o,_,_,e,ex,_⟩:=I.hok p _ hk
     exact ⟨o,e,ex⟩
   obtain ⟨o,e,ex⟩:=z
   refine ⟨⟨o,e,ex.1⟩,λa e2=>?_⟩
   cases e2
   exact ⟨o,e,ex.2.1⟩
  ·obtain ⟨o,_,_,_,e,ex,_⟩:=I.hok p _ hk
   refine ⟨⟨o,e,ex.1⟩,λa e2=>?_⟩
   cases e2
   exact ⟨o,e,ex.2.1⟩
 | _=>exact False.elim ty
noncomputable def tBM (K:PySem.W.Frag) (T:String) (r:V->List V->Hp->VK->Prop) (to:TE) (t:TA):TE:=fun σ H Q=>to σ H λx H1=>tyV K T x H1/\t σ H1 λxs H2=>r x xs H2 Q
variable {o e:Expr} {es:List Expr} {to:TE} {t:TA} {name:Str} {apos cpos:Pos} {T id:String} {r:V->List V->Hp->VK->Prop}
theorem q9N (pa:PlainAttrs T) (slot:Slot T name id) (hty:typeOf (.builtin id)=pure (.type "method_descriptor")) (hm:MtR X id r) (ho:PE X o to) (ha:PA X (e::es) t)
 (hbase:attributeBase o name X.env (eval o X.env)=eval o X.env:=by rfl)
 (hfew:((backTo cpos (starEach (e::es) X.env)).all (λx=>!x.1) && (backToKw cpos (keywordEach [] X.env)).all (λx=>x.1.isSome)
  && decide ((e::es).length+([]:List Keyword).length+(if ([]:List Keyword).isEmpty then 0 else 1) < 30))=true:=by rfl)
 (hline:(apos.endLine==cpos.line)=true:=by rfl) (hs:starEach (e::es) X.env=(false,eval e X.env)::starEach es X.env:=by rfl) (hplain:(backTo cpos (starEach es X.env)).any (·.1)=false:=by rfl) :
 PE X (.Call (.Attribute o name apos) (e::es) [] cpos) (tBM X.K T r to t):=by
 intro pins s σ H Q I h
 refine wpAny_Call_method_late hbase hfew hline rfl (thn (ho pins s σ H _ I h) λv s1 ⟨x,H1,I1,r1,ty,q1⟩=>?_)
 obtain ⟨h1,h2⟩:=j4J I1 r1 ty
 refine ⟨T,id,pa,slot,hty,h1,h2,?_⟩
 have hA:=ha cpos pins s1 σ H1 _ I1 q1
 rw [hs] at hA ⊢
 refine Calls.callWith_builtin (by show (false || (backTo cpos (starEach es X.env)).any (·.1))=false;rw [hplain]<;>rfl) (Calls.evalArgs_plain ?_)
 exact thn hA λus s2 ⟨vs,H2,I2,r2,q2⟩=>hm pins s2 σ H2 x vs v us Q I2 r1 r2 q2
end
noncomputable def MtM (X:Cx) (id:String) (r:V->List V->Hp->VK->Prop):Prop:=
 ∀(pins:List (Addr×Obj)) (s:Shared) (σ:St) (H:Hp) (x:V) (xs:List V) (v:Value) (us:List Value) (Q:VK),Inv X pins σ H s->RelV x v->Vals xs us->r x xs H Q ->
  wpAny (model X.prog X.w) X.A (call (.builtin id) (v::us)) (EP X pins σ Q) X.xe s
theorem Vals.one:∀{x:V} {us:List Value},Vals [x] us->∃u,us=[u]/\RelV x u
 | _,_,.cons r .nil=>⟨_,rfl,r⟩
theorem Vals.two:∀{x y:V} {us:List Value},Vals [x,y] us->∃u v,us=[u,v]/\RelV x u/\RelV y v
 | _,_,_,.cons r (.cons q .nil)=>⟨_,_,rfl,r,q⟩
theorem Vals.eraseIdx:∀{xs:List V} {us:List Value} (i:Nat),Vals xs us->Vals (xs.eraseIdx i) (us.eraseIdx i)
 | _,_,_,.nil=>.nil
 | _,_,0,.cons _ t=>t
 | _,_,i+1,.cons r t=>.cons r (Vals.eraseIdx i t)
theorem q4h {α:Type}:∀(l:List α) (i:Nat),(l.eraseIdx i).length<=l.length
 | [],_=>Nat.le_refl _
 | _::_,0=>Nat.le_succ _
 | _::r,i+1=>Nat.succ_le_succ (q4h r i)
section
variable {X:Cx} {pins:List (Addr×Obj)} {σ:St} {H:Hp} {s:Shared} {l b:Addr} {xs ys zs:List V}
theorem Inv.lset {its its':List Value} {n:Nat} {f:Array Value->Array Value} {t':Nat} (I:Inv X pins σ H s) (hH:H l=some (.lst xs))
 (e:s.heap.get? l=some { cls:=.type "list",data:=.seq its.toArray n }) (hf:f its.toArray=its'.toArray) (hv:Vals ys its') (hz:ys.length<=sizeLine) :
 Inv X pins σ (upd H l (.lst ys)) { s with heap:=s.heap.update l (Obj.mapSeq f),toks:=t' }:=by
 have q:=PySem.IsL.update e f
 rw [hf] at q
 refine I.write (x:=l) (e:=l) (by rw [hH];exact trivial) (.inl rfl) (λb' u hb hu=>(Heap.get?_update_other s.heap (Obj.mapSeq f) (Ne.symm hb)).trans hu) ⟨_,q⟩ ?_
 exact ⟨hz,its',_,hv,q⟩
theorem Inv.lnew {its:List Value} {t':Nat} (I:Inv X pins σ H s) (hv:Vals ys its) (hz:ys.length<=sizeLine) :
 Inv X pins σ (upd H s.heap.objs.size (.lst ys)) { s with heap:=s.heap.push { cls:=.type "list",data:=.seq its.toArray },toks:=t' }:=
 I.laid (λ_ _ q=>Heap.get?_push_of_some _ q) (Nat.le_refl _) ⟨hz,its,0,hv,Heap.get?_push_size _ rfl⟩
theorem Inv.fresh (I:Inv X pins σ H s):H s.heap.objs.size=none:=I.hok.fresh (Nat.le_refl _)
theorem Inv.lstM (I:Inv X pins σ H s) (hH:H l=some (.lst xs)):xs.length<=sizeLine/\∃(its:List Value) (n:Nat),Vals xs its/\xs.length=its.length/\s.heap.get? l=some { cls:=.type "list",data:=.seq its.toArray n }:=by
 obtain ⟨z,its,n,r,e⟩:=I.hok l _ hH
 exact ⟨z,its,n,r,r.length,e⟩
end
section
variable {X:Cx}
noncomputable def j2R:V->List V->Hp->VK->Prop:=λx vs H Q=>∃l xs y,x=.ref l/\vs=[y]/\H l=some (.lst xs)/\xs.length < sizeLine/\Q .non (upd H l (.lst (xs++[y])))
theorem q2U:MtM X "list.append" j2R:=by
 intro pins s σ H x vs v us Q I rx rv h
 obtain ⟨l,xs,y,rfl,rfl,hH,hz,q⟩:=h
 cases rx
 obtain ⟨u,rfl,ru⟩:=rv.one
 obtain ⟨z,its,n,r,hl,e⟩:=I.lstM hH
 refine call_meets F.slot_list_append ⟨_,e,rfl⟩ F.entry_list_append (F.args_list_append_2 _ _) (PySem.list_append l its.toArray n u (by rw [List.size_toArray];omega)) ⟨e,?_⟩
 refine ⟨.non,_,I.lset (its':=its++[u]) hH e (by simp) (r.append (.cons ru .nil)) ?_,rfl,q⟩
 rw [List.length_append,List.length_singleton]
 omega
noncomputable def j5s:V->List V->Hp->VK->Prop:=λx vs H Q=>∃l xs i k y,x=.ref l/\vs=[.int i]/\H l=some (.lst xs)/\-(2 ^ 63)<=i/\i < 2 ^ 63/\seqIndex? i xs.length=some k/\xs[k]?=some y/\Q y (upd H l (.lst (xs.eraseIdx k)))
theorem j0m:MtM X "list.pop" j5s:=by
 intro pins s σ H x vs v us Q I rx rv h
 obtain ⟨l,xs,i,k,y,rfl,rfl,hH,h1,h2,hk,hy,q⟩:=h
 cases rx
 obtain ⟨u,rfl,ru⟩:=rv.one
 obtain ⟨t,rfl⟩:=ru
 obtain ⟨z,its,n,r,hl,e⟩:=I.lstM hH
 obtain ⟨w,hw,rw'⟩:=r.get hy
 refine call_meets F.slot_list_pop ⟨_,e,rfl⟩ F.entry_list_pop (F.args_list_pop_2 _ _)
  (MeetsSeq.list_pop_at l its.toArray n i t k w (fitsIndex_both h1 h2) (by rw [List.size_toArray,<-hl];exact hk) (by rw [<-Array.getElem?_toList];exact hw) (by rw [List.size_toArray];omega)) ⟨e,?_⟩
 refine ⟨y,_,I.lset (its':=its.eraseIdx k) hH e ?_ (r.eraseIdx k) ?_,rw',q⟩
 ·show its.toArray.eraseIdxIfInBounds k=(its.eraseIdx k).toArray
  rw [List.eraseIdxIfInBounds_toArray]
 ·have:=q4h xs k
  omega
end
section
variable {prog:Program} {w:World} {A:Around} {E:Value->Shared->Prop} {s:Shared}
end
section
variable {X:Cx}
end
end L2
namespace Att
open PySem PySem.W PySem.Calls PyProof.Rows
theorem q2O {P:Params} {h:Heap}:∀(ns:List Int) (vs:List Value),WellAll P h vs (ns.map WData.int)->IntsAre vs ns:=by
 intro ns
 induction ns with
 | nil=>
  intro vs w
  rw [List.map_nil] at w
  cases w
  exact .nil
 | cons n ns ih=>
  intro vs w
  rw [List.map_cons] at w
  cases w with
  | cons a b=>
   cases a
   exact .cons _ _ (ih _ b)
theorem q8P {l:OpenLaw} {n:Nat} (hn:l.most=some n) {P:Params} {h:Heap} {args:List WData} {vals:List Value}
 (hpre:l.row.toRowW.claim.pre args=true) (hwl:WellAll P h vals args) :
 ∃a vs ns,vals=[Value.ref a]/\args=[WData.list (ns.map WData.int)]/\h.get? a=some { cls:=.type "list",data:=.seq vs.toArray }/\IntsAre vs ns/\ns.length<=n:=by
 have hsh:WShape.hasAll [] args [.list .int]=true:=(pre_splitW hpre).1
 have hc:l.pre.holds [] { args:=args }=true:=(pre_splitW hpre).2
 obtain ⟨d,r,rfl,h1,h2⟩:=hasAllW_cons hsh
 obtain rfl:=hasAllW_nil h2
 obtain ⟨xs,rfl,h3⟩:=hasW_list h1
 obtain ⟨ns,rfl⟩:=items_int h3
 have hlen:ns.length<=n:=by
  unfold OpenLaw.pre at hc
  have h4:(WTm.not (.lt (.lit (.int (n:Int))) (.len (.arg 0)))).holds [] { args:=[.list (ns.map .int)] }=true:=by
   have h4:=(holds_andW hc).1
   rw [hn] at h4
   exact h4
  have h5:=condW_of h4 (w_not (w_lt w_lit (w_len_list (w_arg rfl))))
  rw [List.length_map] at h5
  refine Nat.le_of_not_lt λq=>?_
  have q':(n:Int) < ((ns.length:Nat):Int):=by omega
  first
   | (rw [decide_eq_true q'] at h5;exact absurd h5 (by decide))
   | (simp at h5;omega)
 cases hwl with
 | cons w1 w2=>
  cases w2
  cases w1 with
  | list ho hall=>exact ⟨_,_,ns,rfl,rfl,ho,q2O ns _ hall,hlen⟩
theorem q73 (l:OpenLaw) (args:List WData):l.row.toRowW.claim.post args (.bool true) args=true:=
 postW_of (r:=l.row.toRowW) (X:=(true==true))
  (show WShape.has [] (.bool true) .bool=true by first | rfl | decide | simp [WShape.has,WShape.arms,WShape.armsAll])
  (show (WTm.eq .res (.lit (.bool true))).value [] { args:=args,res:=some (.bool true),after:=args }=some (.bool (true==true)) from w_eq_bool (w_res rfl) w_lit) rfl
theorem attach_call {l:OpenLaw} {n:Nat} {q:Program} {loose:List Str} {XP:(Str->Option Value)->Heap->Prop} {YP:World->Heap->Prop} {d:DefRec}
 (hn:l.most=some n) (hdf:d.params.defaults=[])
 (call:∀(w:World) (s₀ s₁:Shared) (mg mb:Str->Option Value) (fa:Addr) (o:Obj) (pm cd doc:Value) (a:Addr) (vs:List Value) (ns:List Int),
  Ground q loose [] XP w s₀ mg mb s₁.heap->YP w s₁.heap ->
  s₁.heap.get? fa=some o->o.data=.func (docDef d.name d.params d.body d.scope pm cd doc)->s₁.heap.CodeRec cd d.name->mg d.name=some (.ref fa) ->
  s₁.heap.get? a=some { cls:=.type "list",data:=.seq vs.toArray }->IntsAre vs ns->ns.length<=n->s₁.gens=#[] ->
  codeAny (model l.prog w) callerA (.call (.ref fa) ⟨[.ref a],[]⟩) (λr s'=>r=.ok (.ret (.bool true))/\OldK s₁.heap s'.heap/\s'.os=s₁.os/\AllBare s'.gens) s₁) :
 WalkO q loose XP YP l.row.toRowW d [] (λf vs=>PySem.call f vs):=by
 intro w s₀ s₁ mg mb G Y fa o pm cd doc dV kV ho hd hcd hD hmg hg args vals as hpre hlay hrd hwl hlo
 obtain rfl:dV=.none:=Dflts.none hD hdf
 obtain rfl:kV=.none:=Dflts.noKw hD
 obtain ⟨a,vs,ns,rfl,rfl,hobj,hints,hlen⟩:=q8P hn hpre hwl
 refine enter_call (codeAny_mono (call w s₀ s₁ mg mb fa o pm cd doc a vs ns G Y ho (fd_plain hd) hcd hmg hobj hints hlen hg) λr s' hq=>?_)
 obtain ⟨rfl,h2,h3,h4⟩:=hq
 exact ⟨.inl ⟨.bool true,.bool true,[],rfl,λ_=>rfl,.bool true,q73 l _,λ_=>⟨List.Pairwise.nil,λ_ hm=>(nomatch hm)⟩⟩,h2,h3,h4⟩
section
variable {prog:Program} {w:World} {A:Around} {E:Value->Shared->Prop} {s:Shared} {K:Frag}
end
end Att
namespace L2
open PySem PySem.Spec PyProof.Rows
theorem q1C:∀{vs:List Value} {ns:List Int},IntsAre vs ns->Vals (ns.map V.int) vs
 | _,_,.nil=>.nil
 | _,_,.cons n t h=>.cons ⟨t,rfl⟩ (q1C h)
noncomputable def Only (H:Hp):Prop:=∀b,H b=none∨∃o xs,H b=some (.frz o (.lst xs))
theorem q93 {P:Program} {w:World} {K:PySem.W.Frag} {mg mb:Str->Option Value} {CX:CXT} {k:Nat} {fa a:Addr} {fd:FuncData} {x:Str} {sp:Sp} {s₁:Shared} {vs:List Value} {ns:List Int}
 (KX:K.In s₁.heap) (hns:s₁.heap.Ns mainGlobals mg) (hb:s₁.heap.Ns builtinsNs mb) (hbb:∀x:Str,x≠"__name__"->mb x=bootBuiltins x) (hlim:s₁.heap.NoLimit) (hg:s₁.gens=#[])
 (ha:s₁.heap.get? a=some { cls:=.type "list",data:=.seq vs.toArray }) (hi:IntsAre vs ns) (hl:ns.length<=sizeLine) (hr:Room k callerA)
 (F:∀base:Heap,K.In base->base.Ns mainGlobals mg->q0X P w K mg base CX k fa fd [x] sp) (hbind:∀(s:Shared) (u:Value),BindsTo s fd ⟨[u],[]⟩ [(x,u)])
 (hsp:∀H:Hp,Only H->SqL K H a (ns.map V.int)->sp [.ref a] H (λv _=>v=.bl true) λ_ _ _=>False)
 (hCX:∀H e s',CX [] H s₁ (λ_ _ _=>False) e s'->False) :
 codeAny (model P w) callerA (.call (.ref fa) ⟨[.ref a],[]⟩) (λr s'=>r=.ok (.ret (.bool true))/\OldK s₁.heap s'.heap/\s'.os=s₁.os/\AllBare s'.gens) s₁:=by
 have rv:=q1C hi
 have lenV:=hi.length
 have core:∀H:Hp,Only H->SqL K H a (ns.map V.int)->HOk P w H s₁.heap->(∀b,H b≠none->b=a)->(H a≠none->K.lookup a=none) ->
  codeAny (model P w) callerA (.call (.ref fa) ⟨[.ref a],[]⟩) (λr s'=>r=.ok (.ret (.bool true))/\OldK s₁.heap s'.heap/\s'.os=s₁.os/\AllBare s'.gens) s₁:=by
  intro H hO hS hok hA hK
  have base_of:∀{b:Addr} {o:Obj},s₁.heap.get? b=some o->H b=none->(q9w s₁.heap H).get? b=some o:=λe n=>j0y e n
  have noA:∀{b:Addr} {o:Obj} {es:Array DictEntry} {ep:Nat},s₁.heap.get? b=some o->o.data=.dict es ep->H b=none:=λ{b o es ep} e d=>by
   cases q:H b with
   | none=>rfl
   | some u=>
    have e':b=a:=hA b (by rw [q];simp)
    subst e'
    rw [ha] at e;cases e
    have d':Data.seq vs.toArray _=Data.dict es ep:=d
    cases d'
  have nsK:∀{b:Addr} {m:Str->Option Value},s₁.heap.Ns b m->(q9w s₁.heap H).Ns b m:=λ{b m} ⟨o,es,ep,e,d,r⟩=>⟨o,es,ep,base_of e (noA e d),d,r⟩
  have hKb:K.In (q9w s₁.heap H):=λb o e=>base_of (KX b o e) (by
   cases q:H b with
   | none=>rfl
   | some u=>
    have e':b=a:=hA b (by rw [q];simp)
    subst e'
    rw [hK (by rw [q];simp)] at e;cases e)
  have hM:Mod K mg (q9w s₁.heap H):=⟨hKb,nsK hns,⟨mb,nsK hb,hbb⟩,let ⟨mc,h1,h2⟩:=hlim;⟨mc,nsK h1,h2⟩⟩
  have e0:Env0 P w K mg (q9w s₁.heap H) callerA [] s₁ H:=⟨rfl,hM,λb o e=>j15 e,Nat.le_of_eq (q8G _ _),trivial,λb hb=>absurd (show b∈([]:List Addr) from hb) (by simp),hok,.of_eq hg⟩
  refine codeAny_mono ((F _ hKb (nsK hns)).run callerA [] s₁ H ⟨[.ref a],[]⟩ [.ref a] [.ref a] _ _ hr e0 (hbind s₁ (.ref a)) (.cons rfl .nil) (hsp H hO hS)) λr s' h=>?_
  cases r with
  | error e=>exact (hCX H e s' h).elim
  | ok fl=>
   cases fl with
   | next=>exact False.elim h
   | brk=>exact False.elim h
   | cont=>exact False.elim h
   | ret u=>
    obtain ⟨v,H',os,bare,un,hok',r',q⟩:=h
    have q':v=.bl true:=q
    subst q'
    obtain rfl:u=Value.bool true:=r'
    refine ⟨rfl,OldK.of_keep λb o e=>?_,os,bare⟩
    cases q:H b with
    | none=>exact un.keep b o e q (by intro z;exact absurd (show b∈([]:List Addr) from z) (by simp)) (by simp)
    | some u=>
     rcases hO b with z | ⟨ob,xs,z⟩
     ·rw [q] at z;cases z
     ·have z2:=un.frzs b ob _ z
      obtain ⟨e1,_⟩:=hok b _ z
      obtain ⟨e2,_⟩:=hok' b _ z2
      rw [e] at e1;cases e1
      exact e2
 cases hk:K.lookup a with
 | some o=>
  have e:=KX a o hk
  rw [ha] at e
  cases e
  refine core (λ_=>none) (λ_=>.inl rfl) (.inr ⟨_,vs.toArray,_,hk,rfl,rfl,rfl,by rw [List.size_toArray,lenV];exact hl,by simpa using rv⟩) (λb u z=>by have z':(none:Option HO)=some u:=z;cases z') (λb z=>absurd rfl z) λz=>absurd rfl z
 | none=>
  refine core (λb=>if b=a then some (.frz { cls:=.type "list",data:=.seq vs.toArray } (.lst (ns.map V.int))) else none) (λb=>?_) (.inl (.inr ⟨{ cls:=.type "list",data:=.seq vs.toArray },if_pos rfl⟩)) (λb u z=>?_) (λb z=>?_) λ_=>hk
  ·by_cases hb:b=a
   ·exact .inr ⟨_,_,if_pos hb⟩
   ·exact .inl (if_neg hb)
  ·by_cases hb:b=a
   ·have z':=(if_pos hb).symm.trans z
    cases z'
    subst hb
    exact ⟨ha,by rw [List.length_map];exact hl,vs,_,rv,ha⟩
   ·have z':=(if_neg hb).symm.trans z
    cases z'
  ·by_cases hb:b=a
   ·exact hb
   ·exact absurd (if_neg hb) z
structure Fun (K:PySem.W.Frag) (x qual:Str) (st:Stmt) (f:Addr) (fd:FuncData):Prop where
 ex:∃(oc:Value) (od:Option Addr) (kV doc pm:Value) (an:Option Addr) (cdv ct:Value) (osl:Array (Option Value)),
  fd=PySem.W.fnOf x qual (q08 st) (q0Q st) (q0g st) .none kV doc pm an cdv ct/\K.lookup f=some ⟨oc,od,.func fd,osl⟩/\PySem.W.codeIn K cdv qual=true
 kp:PySem.W.keepIn K (.ref f)=true
section
variable {P:Program} {w:World} {K:PySem.W.Frag} {mg:Str->Option Value} {base:Heap}
theorem Fun.binds {x qual:Str} {st:Stmt} {f:Addr} {fd:FuncData} {ps:List Str} (F:Fun K x qual st f fd)
 (h:∀(kV doc pm:Value) (an:Option Addr) (cdv ct:Value) (us:List Value),us.length=ps.length->bindArgs (PySem.W.fnOf x qual (q08 st) (q0Q st) (q0g st) .none kV doc pm an cdv ct) ⟨us,[]⟩=pure (ps.zip us)):Binds K fd ps []:=by
 obtain ⟨oc,od,kV,doc,pm,an,cdv,ct,osl,rfl,lk,hcd⟩:=F.ex
 exact .all (h kV doc pm an cdv ct)
theorem q0A {x qual:Str} {st:Stmt} {f:Addr} {oc:Value} {od an:Option Addr} {osl:Array (Option Value)} {kV doc pm cdv ct:Value} (l:K.lookup f=some ⟨oc,od,.func (PySem.W.fnOf x qual (q08 st) (q0Q st) (q0g st) .none kV doc pm an cdv ct),osl⟩)
 (c:PySem.W.codeIn K cdv qual=true) (k:PySem.W.keepIn K (.ref f)=true):Fun K x qual st f (PySem.W.fnOf x qual (q08 st) (q0Q st) (q0g st) .none kV doc pm an cdv ct):=⟨⟨oc,od,kV,doc,pm,an,cdv,ct,osl,rfl,l,c⟩,k⟩
end
section
variable {X:Cx}
end
noncomputable def Same (H H':Hp):Prop:=∀b o,H b=some o->H' b=some o
theorem Same.refl (H:Hp):Same H H:=λ_ _ h=>h
theorem Same.trans {H H1 H2:Hp} (a:Same H H1) (b:Same H1 H2):Same H H2:=λc o h=>b c o (a c o h)
theorem Same.free {H H':Hp} (e:Same H H') {l:Addr} (h:H' l=Option.none):H l=Option.none:=by
 cases q:H l with
 | none=>rfl
 | some o=>
  rw [e l o q] at h
  cases h
theorem Same.seq {K:PySem.W.Frag} {H H':Hp} {a:Addr} {xs:List V} (e:Same H H') (h:SqL K H a xs):SqL K H' a xs:=by
 rcases h with (h | ⟨o,h⟩) | h
 ·exact .inl (.inl (e _ _ h))
 ·exact .inl (.inr ⟨o,e _ _ h⟩)
 ·exact .inr h
end L2
namespace L3
open PySem PySem.Spec PyProof.Rows L2
inductive Kp (J:Heap->Prop) {α:Type}:Sem α->Prop
 | pure (a:α):Kp J (.pure a)
 | raise (e:Value):Kp J (.raise e)
 | uns (x:String):Kp J (.unsupported x)
 | load {a:Addr} {q:Option Value} {k:Obj->Sem α}:(∀o,Kp J (k o))->Kp J (.load a q k)
 | upd {a:Addr} {q:Option Value} {f:Obj->Obj} {k:Unit->Sem α}:(∀h,J h->J (h.update a f))->Kp J (k ())->Kp J (.update a q f k)
 | alloc {o:Obj} {k:Addr->Sem α}:(∀a,Kp J (k a))->Kp J (.alloc o k)
 | stack {k:List (Code×Pos)->Sem α}:(∀l,Kp J (k l))->Kp J (.stack k)
 | rule {t:String} {k:Unit->Sem α}:Kp J (k ())->Kp J (.rule t k)
section
variable {J:Heap->Prop} {α β:Type}
theorem Kp.bind {m:Sem α} {f:α->Sem β} (h:Kp J m) (hf:∀a,Kp J (f a)):Kp J (m >>= f):=by
 show Kp J (m.bind f)
 induction h with
 | pure a=>exact hf a
 | raise e=>exact .raise e
 | uns x=>exact .uns x
 | load _ ih=>exact .load ih
 | upd h1 _ ih=>exact .upd h1 ih
 | alloc _ ih=>exact .alloc ih
 | stack _ ih=>exact .stack ih
 | rule _ ih=>exact .rule ih
theorem Kp.run {M:Model} {Γ:PySem.Ctx} {t:Sem α} {Q:α->Pos->Shared->Prop} {E:Value->Pos->Shared->Prop} (hp:∀h o,J h->J (h.push o)) (h:Kp J t) :
 ∀(p:Pos) (s:Shared),J s.heap->Sem.wp M Γ t Q E p s->Sem.wp M Γ t (λa p s=>Q a p s/\J s.heap) (λe p s=>E e p s/\J s.heap) p s:=by
 induction h with
 | pure a=>exact λp s j z=>⟨z,j⟩
 | raise e=>exact λp s j z=>⟨z,j⟩
 | uns x=>exact λp s j z=>z
 | load _ ih=>rintro p s j ⟨o,e,z⟩;exact ⟨o,e,ih o p s j z⟩
 | upd h1 _ ih=>rintro p s j ⟨e,z⟩;exact ⟨e,ih p _ (h1 _ j) z⟩
 | alloc _ ih=>exact λp s j z=>ih _ p _ (hp _ _ j) z
 | stack _ ih=>exact λp s j z=>ih _ p s j z
 | rule _ ih=>exact λp s j z=>ih p s j z
theorem Kp.any {M:Model} {A:Around} {t:Sem α} {Q:α->Shared->Prop} {E:Value->Shared->Prop} {s:Shared} (hp:∀h o,J h->J (h.push o)) (h:Kp J t) (j:J s.heap) (z:wpAny M A t Q E s) :
 wpAny M A t (λa s=>Q a s/\J s.heap) (λe s=>E e s/\J s.heap) s:=fun Γ p hΓ=>h.run hp p s j (z Γ p hΓ)
end
noncomputable def Nc (ea:Addr) (h:Heap):Prop:=∃(oe:Obj) (vs:Array Value),h.get? ea=some oe/\oe.data=.fields vs/\vs[2]?=some .none/\oe.dict=none
section
variable {ea:Addr}
theorem q9T {o:Obj} {vs:Array Value} (d:o.data=.fields vs):o.isFreed=false:=by
 obtain ⟨c,dd,da,sl⟩:=o
 have d:da=.fields vs:=d
 subst d
 rfl
theorem Nc.push (h:Heap) (o:Obj) (j:Nc ea h):Nc ea (h.push o):=by
 obtain ⟨oe,vs,e,d,z⟩:=j
 exact ⟨oe,vs,Heap.get?_push_of_some _ e,d,z⟩
theorem Nc.upd {b:Addr} {f:Obj->Obj} (hf:∀o vs,o.data=.fields vs->vs[2]?=some .none->∃ws,(f o).data=.fields ws/\ws[2]?=some .none/\(f o).dict=o.dict) (h:Heap) (j:Nc ea h):Nc ea (h.update b f):=by
 obtain ⟨oe,vs,e,d,z,dn⟩:=j
 by_cases q:b=ea
 ·subst q
  obtain ⟨ws,d',z',dd⟩:=hf oe vs d z
  exact ⟨f oe,ws,Heap.get?_update_self _ e (q9T d'),d',z',dd.trans dn⟩
 ·exact ⟨oe,vs,by rw [Heap.get?_update_other _ _ q];exact e,d,z,dn⟩
theorem Nc.set {i:Nat} {x:Value} (hi:i≠2) (o:Obj) (vs:Array Value) (d:o.data=.fields vs) (z:vs[2]?=some .none):∃ws,(Obj.mapFields (·.setIfInBounds i x) o).data=.fields ws/\ws[2]?=some .none/\(Obj.mapFields (·.setIfInBounds i x) o).dict=o.dict:=by
 obtain ⟨c,dd,da,sl⟩:=o
 have d:da=.fields vs:=d
 subst d
 exact ⟨_,rfl,by rw [Array.getElem?_setIfInBounds_ne hi];exact z,rfl⟩
theorem q42 {v:Value} {J:Heap->Prop}:Kp J (PySem.fieldsOf v):=by
 unfold PySem.fieldsOf
 split
 ·refine Kp.bind (.load λo=>.pure o) λo=>?_
  split
  ·exact .pure _
  ·exact .uns _
 ·exact .uns _
theorem q2F {v:Value} {i:Nat} {J:Heap->Prop}:Kp J (field v i):=by
 unfold field
 refine Kp.bind q42 λvs=>?_
 split
 ·exact .pure _
 ·exact .uns _
theorem q1Z {v x:Value} {i:Nat} (hi:i≠2):Kp (Nc ea) (setField v i x):=by
 unfold setField
 split
 ·unfold updateField
  refine Kp.bind (.load λo=>.pure o) λo=>?_
  split
  ·split
   ·exact .upd (Nc.upd λo vs=>Nc.set hi o vs) (.pure ())
   ·exact .uns _
  ·exact .uns _
 ·exact .uns _
theorem q1D {u:Value} {f:Option Addr}:Kp (Nc ea) (setFlight u f):=by
 unfold setFlight
 refine Kp.bind q2F λtb=>?_
 split
 ·exact q1Z (by decide)
 ·exact .pure ()
theorem q5K:∀(l:List Env),Kp (Nc ea) (readyFrames l)
 | []=>.pure ()
 | env::outer=>by
  unfold readyFrames
  split
  ·refine Kp.bind (.load λo=>.pure o) λo=>?_
   split
   ·exact .pure ()
   ·refine Kp.bind ?_ λim=>Kp.bind ?_ λback=>Kp.bind (.upd (Nc.upd λo vs d z=>⟨vs,d,z,rfl⟩) (.pure ())) λ_=>q5K outer
    ·unfold behindIsImport
     split
     ·exact .pure _
     ·split
      ·exact .pure _
      ·exact Kp.bind q2F λ_=>.pure _
    ·unfold keptBack
     split
     ·split
      ·exact .pure _
      ·exact Kp.bind (Kp.bind (.stack λl=>.pure l) λ_=>.pure _) λ_=>.pure _
     ·exact .pure _
  ·exact .uns _
theorem q6V {env:Env}:Kp (Nc ea) (PySem.frameOf env):=by
 unfold PySem.frameOf
 refine Kp.bind (Kp.bind (.stack λl=>.pure l) λ_=>.pure _) λl=>Kp.bind ?_ λo=>?_
 ·unfold frameObject
  split
  ·exact .pure _
  ·exact Kp.bind (q5K _) λ_=>.pure _
 ·split
  ·exact .pure _
  ·exact .uns _
theorem q4F (vs:List Value):Kp (Nc ea) (newFields "traceback" vs):=by
 unfold newFields newObj
 have fin:∀d,Kp (Nc ea) (newObjAsIs (.type "traceback") d none):=λd=>Kp.bind (.alloc λa=>.pure a) λa=>.pure _
 dsimp only
 split
 ·exact Kp.bind (.uns _) λ_=>fin _
 ·exact fin _
theorem q2t {u:Value} {env:Env}:Kp (Nc ea) (noteFrame u env):=by
 unfold noteFrame
 split
 ·refine Kp.bind q2F λhead=>?_
  rename_i f _
  have last:Kp (Nc ea) (do setField u 1 (<-EntryCells.newEntry head (<-PySem.frameOf env) .none (rawInt f) .none (<-entryPlaceOf f (head != .none)))):=by
   refine Kp.bind q6V λfr=>Kp.bind ?_ λpl=>Kp.bind ?_ λtb=>q1Z (by decide)
   ·unfold entryPlaceOf
    refine Kp.bind (.stack λl=>.pure l) λacts=>?_
    split
    ·exact .pure _
    ·exact .pure _
   ·exact q4F _
  split
  ·refine Kp.bind q2F λx=>?_
   split
   ·exact .pure ()
   ·exact Kp.bind (q1Z (by decide)) λ_=>last
  ·exact last
 ·exact .uns _
theorem q6I {u:Value} {env:Env}:Kp (Nc ea) (leaving env u):=Kp.bind q2t λ_=>q1D
end
structure j4y (K:PySem.W.Frag) (C:Addr):Prop where
 ga:PySem.W.findIn K (.ref C) "__getattribute__" = some (some (.builtin "BaseException.__getattribute__"))
 gh:PySem.W.findIn K (.ref C) "__getattr__" = some none
 ha:PySem.W.findIn K (.ref C) "__class__" = some (some (.builtin "object.__class__"))
 hn:PySem.W.specialIn K (.builtin "object.__class__") "__get__" = some (some (.builtin "getset_descriptor.__get__"))
 htk:PySem.W.takesIn K (.builtin "object.__class__")=some true
 hm:PySem.W.mroIn K C (.type "object")=some true
 hb:PySem.W.mroIn K C (.type "BaseException")=some true
noncomputable def j2u (x C:Addr) (h:Heap):Prop:=∃o,PySem.W.InstAt h x o C none
section
variable {K:PySem.W.Frag} {x C:Addr}
theorem j0z {prog:Program} {w:World} {A:Around} {E:Value->Shared->Prop} {Q:Fin->Shared->Prop} {s:Shared} {tk:Tok} (F:j4y K C) (X:K.In s.heap) (p:j2u x C s.heap) (hq:Q (.done (.ret (.ref C))) s) :
 wpAny (model prog w) A (Builtin.«object.__getattribute__» ⟨[.ref x,.str "__class__" tk],[]⟩) Q E s:=by
 obtain ⟨o,I⟩:=p
 have hc:(PySem.W.clsIn K C).isSome=true:=by
  obtain ⟨cd,h,_⟩:=Option.bind_eq_some_iff.mp F.hm
  rw [h];rfl
 have hf:PySem.W.findObj K C none "__class__" = some (.bind (.builtin "getset_descriptor.__get__") (.builtin "object.__class__")):=by
  obtain ⟨cd,hc⟩:=Option.isSome_iff_exists.mp hc
  unfold PySem.W.findObj
  rw [hc,Option.bind_some,F.ha,Option.bind_some]
  simp [F.hn,F.htk]
 have L0:=I.type (M:=model prog w)
 have L1:=PySem.W.looks_find (M:=model prog w) X I hf
 unfold Builtin.«object.__getattribute__»
 refine wpAny_bind (m:=slotArgs _ _ _) (wpAny_pure ?_)
 refine wpAny_bind (wpAny_pure ?_)
 refine wpAny_bind (L0.at (wpAny_bind (L1.at ?_)))
 show wpAny _ _ (holding [_] (call _ _) >>= ret) _ _ _
 exact wpAny_bind (wpAny_holding (wpAny_call (PySem.W.class_get X I F.hm (wpAny_pure hq))))
theorem q7E {prog:Program} {w:World} {A:Around} {E:Value->Shared->Prop} {Q:Option Value->Shared->Prop} {s:Shared} (F:j4y K C) (X:K.In s.heap) (p:j2u x C s.heap) (hq:Q (some (.ref C)) { s with toks:=s.toks+1 }) :
 wpAny (model prog w) A (getAttr? (.ref x) "__class__") Q E s:=by
 have p2:=p
 obtain ⟨o,I⟩:=p
 have L0:=I.type (M:=model prog w)
 have L1:=PySem.W.looks_findIn (M:=model prog w) X F.ga
 have L2:=PySem.W.looks_findIn (M:=model prog w) X F.gh
 have LB:=PySem.W.looks_mroIn (M:=model prog w) X F.hb
 have ne:¬(onTheHeap (Value.ref C) && Value.builtin "BaseException.__getattribute__"==Value.builtin "object.__getattribute__")=true:=by
  have:(Value.builtin "BaseException.__getattribute__"==Value.builtin "object.__getattribute__")=false:=by decide +kernel
  rw [this];simp
 unfold getAttr? getAttrBy? getAttrBy
 refine wpAny_bind (wpAny_mkText (wpAny_bind (wpAny_attempt (wpAny_holding (wpAny_bind (L0.at (wpAny_bind (L1.at ?_))))))))
 dsimp only
 rw [if_neg ne]
 unfold getAttrByItsOwn hookBefore
 refine wpAny_bind ?_
 rw [if_pos (show onTheHeap (Value.ref C)=true from rfl)]
 refine L2.at ?_
 refine wpAny_bind (wpAny_attempt (wpAny_holding ?_))
 unfold callGetattribute
 rw [if_neg (by simp)]
 unfold boundAndCalled
 have f3:=PySem.F.excAttr_ValueError.ga.bind (.ref x)
 rw [f3]
 refine wpAny_bind (wpAny_pure ?_)
 have hk:builtinKind "BaseException.__getattribute__" = some .slot:=by decide +kernel
 have hsplit:splitId "BaseException.__getattribute__" = some ("BaseException","__getattribute__"):=by decide +kernel
 refine wpAny_call (codeAny_call_builtin PySem.F.excAttr_ValueError.ga.plain PySem.F.entry_bexc_ga ?_)
 have ha:=PySem.F.args_bexc_ga (.ref x) (.str "__class__" s.toks)
 simp only [checkBuiltinCall,hk,hsplit]
 refine wpAny_bind ?_
 unfold isInstance
 refine wpAny_bind (L0.at (LB.at ?_))
 rw [if_neg (by simp)]
 refine wpAny_of_eq (a:=()) ha ?_
 exact j0z (s:={ s with toks:=s.toks+1 }) F X p2 (PySem.W.handed_on rfl (wpAny_pure hq))
theorem j0w (F:j4y K C):PySem.W.KitX K (.ref x) (.ref C) (j2u x C) where
 ty:=λ_ _ _ ⟨_,I⟩=>I.type
 it:=λ_ _ X _=>by
  obtain ⟨cdD,hcD,_⟩:=Option.bind_eq_some_iff.mp F.hm
  unfold PySem.W.clsIn at hcD
  split at hcD
  ·rename_i c' d' cd' sl' ho
   intro A' Q' E' s' k q
   unfold isType loadHead
   exact wpAny_bind (wpAny_loadPart (k _ _ (X _ _ ho)) (wpAny_pure q))
  ·cases hcD
 ne:=λh tp dd its n sl X htp=>by
  obtain ⟨cdD,hcD,_⟩:=Option.bind_eq_some_iff.mp F.hm
  refine Bool.eq_false_iff.mpr λq=>?_
  have e:C=tp:=Value.ref.inj (beq_iff_eq.mp q)
  subst e
  unfold PySem.W.clsIn at hcD
  split at hcD
  ·rename_i c' d' cd' sl' ho
   have z:=(X _ _ ho).symm.trans htp
   cases z
  ·cases hcD
 ca:=λX p k=>q7E F X p k
end
inductive D where
 | non | bl (b:Bool) | int (i:Int) | str (x:Str)
 | tup (ds:List D) | lst (ds:List D) | ins (c:Nat) (ds:List D) | exc (c:Nat)
inductive Out (α:Type) where
 | ok (a:α) | exc (c:Nat) | bad
noncomputable def Out.bind {α β:Type}:Out α->(α->Out β)->Out β
 | .ok a,k=>k a
 | .exc c,_=>.exc c
 | .bad,_=>.bad
@[simp] theorem Out.ok_bind {α β:Type} (a:α) (k:α->Out β):(Out.ok a).bind k=k a:=(rfl)
@[simp] theorem Out.exc_bind {α β:Type} (c:Nat) (k:α->Out β):(Out.exc c:Out α).bind k=.exc c:=(rfl)
@[simp] theorem Out.bad_bind {α β:Type} (k:α->Out β):(Out.bad:Out α).bind k=.bad:=(rfl)
structure Tb where
 ca:Nat->Addr
 fa:Addr->List Str
 me:Option Addr:=none
 mo:Option Addr:=none
noncomputable def Tb.fl (T:Tb) (c:Nat):List Str:=T.fa (T.ca c)
section
variable (T:Tb) (K:PySem.W.Frag)
noncomputable def FzL (K:PySem.W.Frag) (H:Hp) (a:Addr) (xs:List V):Prop:=
 (∃o,H a=some (.frz o (.lst xs))) ∨
  ∃(o:Obj) (its:Array Value) (n:Nat),K.lookup a=some o/\o.cls=.type "list"/\o.dict=none/\o.data=.seq its n/\its.size<=sizeLine/\Vals xs its.toList
theorem FzL.sq {K:PySem.W.Frag} {H:Hp} {a:Addr} {xs:List V} (h:FzL K H a xs):SqL K H a xs:=by
 rcases h with h | h
 ·exact .inl (.inr h)
 ·exact .inr h
mutual
noncomputable def Rep (T:Tb) (K:PySem.W.Frag) (H:Hp):D->V->Prop
 | .non,v=>v=.non
 | .bl b,v=>v=.bl b
 | .int i,v=>v=.int i
 | .str x,v=>v=.str x
 | .tup ds,v=>∃a vs,v=.ref a/\SqT K H a vs/\RepL T K H ds vs
 | .lst ds,v=>∃a vs,v=.ref a/\FzL K H a vs/\RepL T K H ds vs
 | .ins c ds,v=>∃a dx fs,v=.ref a/\H a=some (.ins (T.ca c) dx fs)/\fs.map (·.1)=T.fl c/\RepL T K H ds (fs.map (·.2))
 | .exc c,v=>∃a o,v=.ref a/\H a=some (.frz o (.ext λ_=>True))/\o.cls=.ref (T.ca c)/\PySem.W.notCls o=true/\o.dict=none
noncomputable def RepL (T:Tb) (K:PySem.W.Frag) (H:Hp):List D->List V->Prop
 | [],vs=>vs=[]
 | d::ds,vs=>∃v r,vs=v::r/\Rep T K H d v/\RepL T K H ds r
end
end
section
variable {T:Tb} {K:PySem.W.Frag} {H H':Hp}
theorem Same.sqT {a:Addr} {xs:List V} (e:Same H H') (h:SqT K H a xs):SqT K H' a xs:=by
 rcases h with (h | ⟨o,h⟩) | h
 ·exact .inl (.inl (e _ _ h))
 ·exact .inl (.inr ⟨o,e _ _ h⟩)
 ·exact .inr h
theorem Same.fz {a:Addr} {xs:List V} (e:Same H H') (h:FzL K H a xs):FzL K H' a xs:=by
 rcases h with ⟨o,h⟩ | h
 ·exact .inl ⟨o,e _ _ h⟩
 ·exact .inr h
mutual
theorem Rep.mono (e:Same H H'):∀(d:D) (v:V),Rep T K H d v->Rep T K H' d v
 | .non,_,h=>h
 | .bl _,_,h=>h
 | .int _,_,h=>h
 | .str _,_,h=>h
 | .tup ds,_,h=>by
  obtain ⟨a,vs,r1,r2,r3⟩:=h
  exact ⟨a,vs,r1,Same.sqT e r2,RepL.mono e ds vs r3⟩
 | .lst ds,_,h=>by
  obtain ⟨a,vs,r1,r2,r3⟩:=h
  exact ⟨a,vs,r1,Same.fz e r2,RepL.mono e ds vs r3⟩
 | .ins c ds,_,h=>by
  obtain ⟨a,dx,fs,r1,r2,r3,r4⟩:=h
  exact ⟨a,dx,fs,r1,e _ _ r2,r3,RepL.mono e ds _ r4⟩
 | .exc c,_,h=>by
  obtain ⟨a,o,r1,r2,r3⟩:=h
  exact ⟨a,o,r1,e _ _ r2,r3⟩
theorem RepL.mono (e:Same H H'):∀(ds:List D) (vs:List V),RepL T K H ds vs->RepL T K H' ds vs
 | [],_,h=>h
 | d::ds,_,h=>by
  obtain ⟨v,r,r1,r2,r3⟩:=h
  exact ⟨v,r,r1,Rep.mono e d v r2,RepL.mono e ds r r3⟩
end
mutual
theorem q1z {T:Tb} {K:PySem.W.Frag} {H:Hp} {z u:Option Addr}:∀(d:D) (v:V),Rep { T with me:=z,mo:=u } K H d v↔Rep T K H d v
 | .non,_=>Iff.rfl
 | .bl _,_=>Iff.rfl
 | .int _,_=>Iff.rfl
 | .str _,_=>Iff.rfl
 | .tup ds,_=>⟨λ⟨a,vs,r1,r2,r3⟩=>⟨a,vs,r1,r2,(repL_me ds vs).mp r3⟩,λ⟨a,vs,r1,r2,r3⟩=>⟨a,vs,r1,r2,(repL_me ds vs).mpr r3⟩⟩
 | .lst ds,_=>⟨λ⟨a,vs,r1,r2,r3⟩=>⟨a,vs,r1,r2,(repL_me ds vs).mp r3⟩,λ⟨a,vs,r1,r2,r3⟩=>⟨a,vs,r1,r2,(repL_me ds vs).mpr r3⟩⟩
 | .ins c ds,_=>⟨λ⟨a,dx,fs,r1,r2,r3,r4⟩=>⟨a,dx,fs,r1,r2,r3,(repL_me ds _).mp r4⟩,λ⟨a,dx,fs,r1,r2,r3,r4⟩=>⟨a,dx,fs,r1,r2,r3,(repL_me ds _).mpr r4⟩⟩
 | .exc c,_=>Iff.rfl
theorem repL_me {T:Tb} {K:PySem.W.Frag} {H:Hp} {z u:Option Addr}:∀(ds:List D) (vs:List V),RepL { T with me:=z,mo:=u } K H ds vs↔RepL T K H ds vs
 | [],_=>Iff.rfl
 | d::ds,_=>⟨λ⟨v,r,r1,r2,r3⟩=>⟨v,r,r1,(q1z d v).mp r2,(repL_me ds r).mp r3⟩,λ⟨v,r,r1,r2,r3⟩=>⟨v,r,r1,(q1z d v).mpr r2,(repL_me ds r).mpr r3⟩⟩
end
theorem RepL.length:∀(ds:List D) (vs:List V),RepL T K H ds vs->vs.length=ds.length
 | [],_,h=>by cases h;rfl
 | d::ds,_,h=>by
  obtain ⟨v,r,rfl,_,h3⟩:=h
  simp [RepL.length ds r h3]
theorem RepL.get:∀(ds:List D) (vs:List V) (i:Nat) (d:D),RepL T K H ds vs->ds[i]?=some d->∃v,vs[i]?=some v/\Rep T K H d v
 | [],_,_,_,_,e=>by simp at e
 | d::ds,_,0,x,h,e=>by
  obtain ⟨v,r,rfl,h2,_⟩:=h
  simp at e;subst e
  exact ⟨v,rfl,h2⟩
 | d::ds,_,i+1,x,h,e=>by
  obtain ⟨v,r,rfl,_,h3⟩:=h
  obtain ⟨u,e1,e2⟩:=RepL.get ds r i x h3 (by simpa using e)
  exact ⟨u,by simpa using e1,e2⟩
theorem RepL.append:∀(ds:List D) (vs:List V) (es:List D) (us:List V),RepL T K H ds vs->RepL T K H es us->RepL T K H (ds++es) (vs++us)
 | [],_,_,_,h,h'=>by cases h;exact h'
 | d::ds,_,es,us,h,h'=>by
  obtain ⟨v,r,rfl,h2,h3⟩:=h
  exact ⟨v,r++us,rfl,h2,RepL.append ds r es us h3 h'⟩
theorem RepL.set:∀(ds:List D) (vs:List V) (i:Nat) (d:D) (v:V),RepL T K H ds vs->Rep T K H d v->RepL T K H (ds.set i d) (vs.set i v)
 | [],_,_,_,_,h,_=>by cases h;exact rfl
 | d::ds,_,0,x,y,h,q=>by
  obtain ⟨v,r,rfl,_,h3⟩:=h
  exact ⟨y,r,rfl,q,h3⟩
 | d::ds,_,i+1,x,y,h,q=>by
  obtain ⟨v,r,rfl,h2,h3⟩:=h
  exact ⟨v,r.set i y,rfl,h2,RepL.set ds r i x y h3 q⟩
theorem RepL.drop:∀(n:Nat) (ds:List D) (vs:List V),RepL T K H ds vs->RepL T K H (ds.drop n) (vs.drop n)
 | 0,_,_,h=>h
 | _+1,[],_,h=>by cases h;exact rfl
 | n+1,d::ds,_,h=>by
  obtain ⟨v,r,rfl,_,h3⟩:=h
  exact RepL.drop n ds r h3
theorem RepL.take:∀(n:Nat) (ds:List D) (vs:List V),RepL T K H ds vs->RepL T K H (ds.take n) (vs.take n)
 | 0,_,_,_=>rfl
 | _+1,[],_,h=>by cases h;exact rfl
 | n+1,d::ds,_,h=>by
  obtain ⟨v,r,rfl,h2,h3⟩:=h
  exact ⟨v,r.take n,rfl,h2,RepL.take n ds r h3⟩
theorem RepL.ints (ns:List Int):RepL T K H (ns.map D.int) (ns.map V.int):=by
 induction ns with
 | nil=>exact rfl
 | cons n ns ih=>exact ⟨.int n,ns.map V.int,rfl,rfl,ih⟩
end
inductive Sl where
 | no | sh (d:D) | ow (ds:List D) | bo (ds:List D) | me (c:Nat) (ds:List D)
 | ox (t:Bool) (pre ds post:List D)
 | mo (ds:List D) | lm (ms:List (Option Nat×List D)) | bi (c:Nat) (ds:List D)
inductive Rv where
 | sh (d:D) | fr (ds:List D)
 | tf (t:Bool) (pre ds post:List D)
noncomputable abbrev Ro:=List Sl
noncomputable def OutAt (H:Hp):Bool->Addr->List V->Prop
 | true,a,us=>H a=some (.tup us)
 | false,a,us=>∃o,H a=some (.frz o (.lst us))
theorem OutAt.uniq {H:Hp} {t:Bool} {a:Addr} {us ws:List V} (h:OutAt H t a us) (h':OutAt H t a ws):us=ws:=by
 cases t with
 | true=>
  have h:H a=some (.tup us):=h
  have h':H a=some (.tup ws):=h'
  rw [h] at h';cases h';rfl
 | false=>
  obtain ⟨o,h⟩:=h
  obtain ⟨o',h'⟩:=h'
  rw [h] at h';cases h';rfl
theorem OutAt.keep {H H':Hp} {t:Bool} {a:Addr} {us:List V} (k:∀o,H a=some o->(∀xs,o≠.lst xs)->(∀c dx fs,o≠.ins c dx fs)->H' a=some o) (h:OutAt H t a us):OutAt H' t a us:=by
 cases t with
 | true=>exact k _ h (λ_ z=>by cases z) (λ_ _ _ z=>by cases z)
 | false=>
  obtain ⟨o,h⟩:=h
  exact ⟨o,k _ h (λ_ z=>by cases z) (λ_ _ _ z=>by cases z)⟩
theorem OutAt.nlst {H:Hp} {t:Bool} {a:Addr} {us ws:List V} (h:OutAt H t a us):H a≠some (.lst ws):=λz=>by
 cases t with
 | true=>
  have h:H a=some (.tup us):=h
  rw [h] at z;cases z
 | false=>
  obtain ⟨o,h⟩:=h
  rw [h] at z;cases z
noncomputable def InsAt (T:Tb) (K:PySem.W.Frag) (H:Hp) (c:Nat) (a:Addr) (ds:List D):Prop:=∃dx fs,H a=some (.ins (T.ca c) dx fs)/\fs.map (·.1)=(T.fl c).take ds.length/\ds.length < (T.fl c).length/\RepL T K H ds (fs.map (·.2))
noncomputable def MuAt (T:Tb) (K:PySem.W.Frag) (G H:Hp) (v:V):Option Nat×List D->Prop
 | (none,ds)=>∃a vs,v=.ref a/\H a=some (.lst vs)/\G a=none/\RepL T K H ds vs
 | (some c,ds)=>∃a,v=.ref a/\T.me≠some a/\G a=none/\InsAt T K H c a ds
noncomputable def SlOk (T:Tb) (K:PySem.W.Frag) (G H:Hp) (x:Option (Option V)):Sl->Prop
 | .no=>True
 | .sh d=>∃v,x=some (some v)/\Rep T K H d v
 | .ow ds=>∃a vs,x=some (some (.ref a))/\H a=some (.lst vs)/\G a=none/\RepL T K H ds vs
 | .bo ds=>∃a vs,x=some (some (.ref a))/\G a=some (.lst vs)/\RepL T K H ds vs
 | .me c ds=>∃a dx fs,T.me=some a/\x=some (some (.ref a))/\H a=some (.ins (T.ca c) dx fs)/\G a=none/\fs.map (·.1)=(T.fl c).take ds.length/\RepL T K H ds (fs.map (·.2))
 | .ox t pre ds post=>∃a vp b vq ws,x=some (some (.ref a))/\OutAt H t a (vp++.ref b::vq)/\RepL T K H pre vp/\RepL T K H post vq/\H b=some (.lst ws)/\G b=none/\RepL T K H ds ws
 | .mo ds=>∃a vs,T.mo=some a/\x=some (some (.ref a))/\H a=some (.lst vs)/\G a=none/\RepL T K H ds vs
 | .lm ms=>∃a us,x=some (some (.ref a))/\OutAt H false a us/\us.length=ms.length/\(∀(i:Nat) (m:Option Nat×List D) (v:V),ms[i]?=some m->us[i]?=some v->MuAt T K G H v m)/\∀(i j:Nat) (v:V),us[i]?=some v->us[j]?=some v->i=j
 | .bi c ds=>∃a dx fs,x=some (some (.ref a))/\G a=some (.ins (T.ca c) dx fs)/\fs.map (·.1)=(T.fl c).take ds.length/\ds.length < (T.fl c).length/\RepL T K H ds (fs.map (·.2))
noncomputable def q2e (H:Hp) (x:Option (Option V)) (b:Addr):Sl->Prop
 | .ow _=>x=some (some (.ref b))
 | .mo _=>x=some (some (.ref b))
 | .lm ms=>∃(a:Addr) (us:List V) (i:Nat) (ks:List D),x=some (some (.ref a))/\OutAt H false a us/\us[i]?=some (.ref b)/\ms[i]?=some (none,ks)
 | .ox t pre _ _=>∃a us,x=some (some (.ref a))/\OutAt H t a us/\us[pre.length]?=some (.ref b)
 | _=>False
structure FR (T:Tb) (K:PySem.W.Frag) (G H:Hp) (σ:L2.St) (ρ:Ro):Prop where
 same:Same G H
 len:ρ.length=σ.length
 sl:∀(i:Nat) (s:Sl),ρ[i]?=some s->SlOk T K G H σ[i]? s
 ne:∀(i j:Nat) (s t:Sl) (b:Addr),i≠j->ρ[i]?=some s->ρ[j]?=some t->q2e H σ[i]? b s->q2e H σ[j]? b t->False
 me:∀x,T.me=some x->σ[0]?=some (some (.ref x))
 me0:∀(i:Nat) (c:Nat) (ds:List D),ρ[i]?=some (.me c ds)->i=0
noncomputable def q6n (T:Tb) (K:PySem.W.Frag) (G H:Hp) (v:V):Rv->Prop
 | .sh d=>Rep T K H d v
 | .fr ds=>∃a vs,v=.ref a/\H a=some (.lst vs)/\G a=none/\RepL T K H ds vs
 | .tf t pre ds post=>∃a vp b vq ws,v=.ref a/\OutAt H t a (vp++.ref b::vq)/\RepL T K H pre vp/\RepL T K H post vq/\H b=some (.lst ws)/\G b=none/\RepL T K H ds ws
section
variable {T:Tb} {K:PySem.W.Frag} {G H H':Hp} {σ:L2.St} {ρ:Ro}
theorem InsAt.mono {c:Nat} {a:Addr} {ds:List D} (e:Same H H') (h:InsAt T K H c a ds):InsAt T K H' c a ds:=by
 obtain ⟨dx,fs,e1,e2,e3,r⟩:=h
 exact ⟨dx,fs,e _ _ e1,e2,e3,RepL.mono e _ _ r⟩
theorem MuAt.mono {v:V}:∀{m:Option Nat×List D},Same H H'->MuAt T K G H v m->MuAt T K G H' v m
 | (none,_),e,⟨a,vs,e1,e2,e3,r⟩=>⟨a,vs,e1,e _ _ e2,e3,RepL.mono e _ _ r⟩
 | (some _,_),e,⟨a,e1,e2,e3,r⟩=>⟨a,e1,e2,e3,r.mono e⟩
theorem SlOk.mono {x:Option (Option V)} {s:Sl} (e:Same H H') (h:SlOk T K G H x s):SlOk T K G H' x s:=by
 cases s with
 | no=>trivial
 | sh d=>
  obtain ⟨v,e1,r⟩:=h
  exact ⟨v,e1,Rep.mono e _ _ r⟩
 | ow ds=>
  obtain ⟨a,vs,e1,e2,e3,r⟩:=h
  exact ⟨a,vs,e1,e _ _ e2,e3,RepL.mono e _ _ r⟩
 | bo ds=>
  obtain ⟨a,vs,e1,e2,r⟩:=h
  exact ⟨a,vs,e1,e2,RepL.mono e _ _ r⟩
 | me c ds=>
  obtain ⟨a,dx,fs,e0,e1,e2,e3,e4,r⟩:=h
  exact ⟨a,dx,fs,e0,e1,e _ _ e2,e3,e4,RepL.mono e _ _ r⟩
 | ox t pre ds post=>
  obtain ⟨a,vp,b,vq,ws,e1,e2,r1,r2,e3,e4,r3⟩:=h
  exact ⟨a,vp,b,vq,ws,e1,e2.keep λo q _ _=>e _ _ q,RepL.mono e _ _ r1,RepL.mono e _ _ r2,e _ _ e3,e4,RepL.mono e _ _ r3⟩
 | mo ds=>
  obtain ⟨a,vs,e0,e1,e2,e3,r⟩:=h
  exact ⟨a,vs,e0,e1,e _ _ e2,e3,RepL.mono e _ _ r⟩
 | lm ms=>
  obtain ⟨a,us,e1,e2,e3,e4,e5⟩:=h
  exact ⟨a,us,e1,e2.keep λo q _ _=>e _ _ q,e3,λi m v q1 q2=>MuAt.mono e (e4 i m v q1 q2),e5⟩
 | bi c ds=>
  obtain ⟨a,dx,fs,e1,e2,e3,e4,r⟩:=h
  exact ⟨a,dx,fs,e1,e2,e3,e4,RepL.mono e _ _ r⟩
theorem SlOk.own {x:Option (Option V)} {s:Sl} {b:Addr} (h:SlOk T K G H x s) (o:q2e H x b s):(∃ws,H b=some (.lst ws))/\G b=none:=by
 cases s with
 | ow ds=>
  obtain ⟨a,vs,e1,e2,e3,r⟩:=h
  have o:x=some (some (.ref b)):=o
  rw [e1] at o;cases o
  exact ⟨⟨vs,e2⟩,e3⟩
 | ox t pre ds post=>
  obtain ⟨a,vp,c,vq,ws,e1,e2,r1,r2,e3,e4,r3⟩:=h
  obtain ⟨a',us,o1,o2,o3⟩:=o
  rw [e1] at o1;cases o1
  have:=e2.uniq o2
  subst this
  rw [<-RepL.length _ _ r1,List.getElem?_append_right (Nat.le_refl _),Nat.sub_self] at o3
  have o3:(some (V.ref c))=some (.ref b):=o3
  cases o3
  exact ⟨⟨ws,e3⟩,e4⟩
 | mo ds=>
  obtain ⟨a,vs,_,e1,e2,e3,r⟩:=h
  have o:x=some (some (.ref b)):=o
  rw [e1] at o;cases o
  exact ⟨⟨vs,e2⟩,e3⟩
 | lm ms=>
  obtain ⟨a,us,e1,e2,e3,e4,e5⟩:=h
  obtain ⟨a',us',i,ks,o1,o2,o3,o4⟩:=o
  rw [e1] at o1;cases o1
  have:=e2.uniq o2
  subst this
  obtain ⟨c,vs,q,q1,q2,_⟩:=e4 i _ _ o4 o3
  cases q
  exact ⟨⟨vs,q1⟩,q2⟩
 | _=>exact o.elim
theorem SlOk.back {x:Option (Option V)} {s:Sl} {b:Addr} (h:SlOk T K G H x s) (k:∀a o,H a=some o->(∀xs,o≠.lst xs)->(∀c dx fs,o≠.ins c dx fs)->H' a=some o) (o:q2e H' x b s):q2e H x b s:=by
 cases s with
 | ow ds=>exact o
 | mo ds=>exact o
 | lm ms=>
  obtain ⟨a,us,e1,e2,_⟩:=h
  obtain ⟨a',us',i,ks,o1,o2,o3,o4⟩:=o
  rw [e1] at o1;cases o1
  have:=(e2.keep (k a)).uniq o2
  subst this
  exact ⟨a,_,i,ks,e1,e2,o3,o4⟩
 | ox t pre ds post=>
  obtain ⟨a,vp,c,vq,ws,e1,e2,r1,r2,e3,e4,r3⟩:=h
  obtain ⟨a',us,o1,o2,o3⟩:=o
  rw [e1] at o1;cases o1
  have:=(e2.keep (k a)).uniq o2
  subst this
  exact ⟨a,_,e1,e2,o3⟩
 | _=>exact o.elim
theorem SlOk.off {x:Option (Option V)} {s:Sl} {a:Addr} {vs:List V} {o:HO} (e2:H a=some (.lst vs)) (tr:∀ds us,RepL T K H ds us->RepL T K (upd H a o) ds us) (hn:¬q2e H x a s) (h:SlOk T K G H x s):SlOk T K G (upd H a o) x s:=by
 have kp:∀{b:Addr} {u:HO},H b=some u->(∀xs,u≠.lst xs)->upd H a o b=some u:=λ{b u} w n=>by
  rw [q0d (λz=>by subst z;rw [e2] at w;cases w;exact n _ rfl)];exact w
 have ik:∀{b:Addr} {c:Nat} {ds:List D},InsAt T K H c b ds->InsAt T K (upd H a o) c b ds:=λ⟨dx,fs,z1,z2,z3,z4⟩=>⟨dx,fs,kp z1 (λ_ z=>by cases z),z2,z3,tr _ _ z4⟩
 cases s with
 | no=>trivial
 | sh d=>
  obtain ⟨v,z1,z2⟩:=h
  obtain ⟨_,_,q,r,_⟩:=tr [d] [v] ⟨v,[],rfl,z2,rfl⟩
  cases q
  exact ⟨v,z1,r⟩
 | ow es=>
  obtain ⟨b,ws,z1,z2,z3,z4⟩:=h
  exact ⟨b,ws,z1,by rw [q0d (λz=>by subst z;exact hn z1)];exact z2,z3,tr _ _ z4⟩
 | mo es=>
  obtain ⟨b,ws,z0,z1,z2,z3,z4⟩:=h
  exact ⟨b,ws,z0,z1,by rw [q0d (λz=>by subst z;exact hn z1)];exact z2,z3,tr _ _ z4⟩
 | bo es=>obtain ⟨b,ws,z1,z2,z4⟩:=h;exact ⟨b,ws,z1,z2,tr _ _ z4⟩
 | bi c es=>obtain ⟨b,dx,fs,z1,z2,z3,z4,z5⟩:=h;exact ⟨b,dx,fs,z1,z2,z3,z4,tr _ _ z5⟩
 | me c es=>
  obtain ⟨b,dx,fs,z0,z1,z2,z3,z4,z5⟩:=h
  exact ⟨b,dx,fs,z0,z1,kp z2 (λ_ z=>by cases z),z3,z4,tr _ _ z5⟩
 | lm ms=>
  obtain ⟨c,us,z1,z2,z3,z4,z5⟩:=h
  refine ⟨c,us,z1,z2.keep λu w n _=>kp w n,z3,λi m v q1 q2=>?_,z5⟩
  have z:=z4 i m v q1 q2
  match m,q1,z with
  | (none,ks),q1,⟨b,ws,y1,y2,y3,y4⟩=>
   subst y1
   exact ⟨b,ws,rfl,by rw [q0d (λy=>by subst y;exact hn ⟨c,us,i,ks,z1,z2,q2,q1⟩)];exact y2,y3,tr _ _ y4⟩
  | (some k,ks),q1,⟨b,y1,y2,y3,y4⟩=>exact ⟨b,y1,y2,y3,ik y4⟩
 | ox t pre es post=>
  obtain ⟨c,vp,b,vq,ws,z1,z2,z3,z4,z5,z6,z7⟩:=h
  have hab:b≠a:=λz=>hn ⟨c,_,z1,z2,by rw [<-RepL.length _ _ z3,List.getElem?_append_right (Nat.le_refl _),Nat.sub_self,z];rfl⟩
  exact ⟨c,vp,b,vq,ws,z1,z2.keep λu w n _=>kp w n,tr _ _ z3,tr _ _ z4,by rw [q0d hab];exact z5,z6,tr _ _ z7⟩
theorem FR.mono (e:Same H H') (h:FR T K G H σ ρ):FR T K G H' σ ρ:=⟨h.same.trans e,h.len,λi s q=>SlOk.mono e (h.sl i s q),λi j s t b hij q1 q2 o1 o2=>h.ne i j s t b hij q1 q2 ((h.sl i s q1).back (λa o z _ _=>e a o z) o1) ((h.sl j t q2).back (λa o z _ _=>e a o z) o2),h.me,h.me0⟩
theorem FR.sh_at (h:FR T K G H σ ρ) {i:Nat} {d:D} (e:ρ[i]?=some (.sh d)):∃v,σ[i]?=some (some v)/\Rep T K H d v:=h.sl i _ e
theorem q4e {H1:Hp} {v:V} {r:Rv} (s1:Same H H1) (h:q6n T K H1 H' v r):q6n T K H H' v r:=by
 cases r with
 | sh d=>exact h
 | fr ds=>
  obtain ⟨a,us,e1,e2,e3,e4⟩:=h
  exact ⟨a,us,e1,e2,s1.free e3,e4⟩
 | tf t pre ds post=>
  obtain ⟨a,vp,b,vq,ws,e1,e2,r1,r2,e3,e4,r3⟩:=h
  exact ⟨a,vp,b,vq,ws,e1,e2,r1,r2,e3,s1.free e4,r3⟩
theorem j1p {i:Nat} {v:Option V} (hz:T.me=none∨i≠0) (h:∀x,T.me=some x->σ[0]?=some (some (.ref x))):∀x,T.me=some x->(σ.set i v)[0]?=some (some (.ref x)):=λx e=>by
 rcases hz with z | z
 ·rw [z] at e;cases e
 ·rw [List.getElem?_set_ne z];exact h x e
theorem q12 {i:Nat} {s:Sl} (hs:∀c ds,s≠.me c ds) (h:∀(i:Nat) (c:Nat) (ds:List D),ρ[i]?=some (.me c ds)->i=0):∀(j:Nat) (c:Nat) (ds:List D),(ρ.set i s)[j]?=some (.me c ds)->j=0:=λj c ds e=>by
 by_cases hj:j=i
 ·subst hj
  have hl:j < ρ.length:=by
   have:=(List.getElem?_eq_some_iff.mp e).1;simpa using this
  rw [List.getElem?_set_self hl] at e
  exact absurd (Option.some.inj e) (hs c ds)
 ·rw [List.getElem?_set_ne (Ne.symm hj)] at e;exact h j c ds e
theorem FR.set_sh (h:FR T K G H σ ρ) {i:Nat} {d:D} {v:V} (r:Rep T K H d v) (hz:T.me=none∨i≠0):FR T K G H (σ.set i (some v)) (ρ.set i (.sh d)):=by
 refine ⟨h.same,by simp [h.len],λj s q=>?_,λj k s1 s2 b hjk q1 q2 o1 o2=>?_,j1p hz h.me,q12 (λ_ _ z=>by cases z) h.me0⟩
 ·by_cases hj:j=i
  ·subst hj
   have hl:j < ρ.length:=by
    have:=(List.getElem?_eq_some_iff.mp q).1;simpa using this
   rw [List.getElem?_set_self hl] at q
   cases q
   exact ⟨v,by rw [List.getElem?_set_self (by rw [<-h.len];exact hl)],r⟩
  ·rw [List.getElem?_set_ne (Ne.symm hj)] at q ⊢
   exact h.sl j s q
 ·have hj:j≠i:=by
   rintro rfl
   have hl:j < ρ.length:=by
    have:=(List.getElem?_eq_some_iff.mp q1).1;simpa using this
   rw [List.getElem?_set_self hl] at q1;cases q1;exact o1
  have hk:k≠i:=by
   rintro rfl
   have hl:k < ρ.length:=by
    have:=(List.getElem?_eq_some_iff.mp q2).1;simpa using this
   rw [List.getElem?_set_self hl] at q2;cases q2;exact o2
  rw [List.getElem?_set_ne (Ne.symm hj)] at q1 o1
  rw [List.getElem?_set_ne (Ne.symm hk)] at q2 o2
  exact h.ne j k s1 s2 b hjk q1 q2 o1 o2
theorem FR.set_own (h:FR T K G H σ ρ) {i:Nat} {v:V} (w:Sl) (hw:i < ρ.length->SlOk T K G H (some (some v)) w)
 (hn:∀j s b,j≠i->ρ[j]?=some s->q2e H (some (some v)) b w->¬q2e H σ[j]? b s) (hm:∀c ds,w≠.me c ds) (hz:T.me=none∨i≠0):FR T K G H (σ.set i (some v)) (ρ.set i w):=by
 have hlen:(ρ.set i w).length=(σ.set i (some v)).length:=by simp [h.len]
 have lt:∀{m:Nat} {z:Sl},(ρ.set i w)[m]?=some z->(m=i/\z=w/\(σ.set i (some v))[m]?=some (some v)/\i < ρ.length)∨(m≠i/\ρ[m]?=some z/\(σ.set i (some v))[m]?=σ[m]?):=λ{m z} q=>by
  by_cases hmi:m=i
  ·subst hmi
   have hl:m < ρ.length:=by
    have:=(List.getElem?_eq_some_iff.mp q).1;simpa using this
   rw [List.getElem?_set_self hl] at q
   exact .inl ⟨rfl,(Option.some.inj q).symm,by rw [List.getElem?_set_self (by rw [<-h.len];exact hl)],hl⟩
  ·rw [List.getElem?_set_ne (Ne.symm hmi)] at q
   exact .inr ⟨hmi,q,by rw [List.getElem?_set_ne (Ne.symm hmi)]⟩
 refine ⟨h.same,hlen,λj s q=>?_,λj k s1 s2 b hjk q1 q2 o1 o2=>?_,j1p hz h.me,q12 hm h.me0⟩
 ·rcases lt q with ⟨rfl,rfl,e,hl⟩ | ⟨_,q,e⟩
  ·rw [e];exact hw hl
  ·rw [e];exact h.sl j s q
 ·rcases lt q1 with ⟨rfl,rfl,e,hl⟩ | ⟨hj,p1,e⟩
  ·rw [e] at o1
   rcases lt q2 with ⟨rfl,_⟩ | ⟨hk,q2,e'⟩
   ·exact hjk rfl
   ·rw [e'] at o2;exact hn k s2 b hk q2 o1 o2
  ·rw [e] at o1
   rcases lt q2 with ⟨rfl,rfl,e',hl⟩ | ⟨hk,q2,e'⟩
   ·rw [e'] at o2;exact hn j s1 b hj p1 o2 o1
   ·rw [e'] at o2;exact h.ne j k s1 s2 b hjk p1 q2 o1 o2
theorem FR.set_ow (h:FR T K G H σ ρ) {i:Nat} {ds:List D} {a:Addr} {vs:List V} (ha:H a=some (.lst vs)) (hg:G a=none) (r:RepL T K H ds vs)
 (hn:∀j s,j≠i->ρ[j]?=some s->¬q2e H σ[j]? a s) (hz:T.me=none∨i≠0):FR T K G H (σ.set i (some (.ref a))) (ρ.set i (.ow ds)):=by
 refine h.set_own (.ow ds) ?_ ?_ (λc ds z=>by cases z) hz
 ·exact λ_=>⟨a,vs,rfl,ha,hg,r⟩
 ·intro j s b hj q o1 o2
  have o1:some (some (V.ref a))=some (some (.ref b)):=o1
  cases o1
  exact hn j s hj q o2
end
noncomputable def Free (X:Cx) (pins:List (Addr×Obj)) (b:Addr):Prop:=
 (b∈X.ex∨X.s₀.heap.get? b=none)/\b≠X.env.locals/\(∀x c,X.env.cells.lookup x=some c->c≠b)/\∀p∈X.pn++pins,p.1≠b
noncomputable def j7Z (T:Tb) (c:Nat) (ea:Addr) (H:Hp) (h:Heap) (P:Addr->Prop):Prop:=
 H ea=none/\P ea/\Nc ea h/\∃(oe:Obj) (vs:Array Value) (a0:Value),h.get? ea=some oe/\oe.cls=.ref (T.ca c)/\oe.data=.fields vs/\vs[0]?=some a0 /\
  (vs[1]?=some .none∨∃(tb:Addr) (ot:Obj) (ts:Array Value),vs[1]?=some (.ref tb)/\tb≠ea/\h.get? tb=some ot/\ot.data=.fields ts/\ts[3]?=some .none/\H tb=none/\P tb)
noncomputable def Flying (T:Tb) (X:Cx) (pins:List (Addr×Obj)) (c:Nat) (u:Value) (H:Hp) (s:Shared):Prop:=
 ∃ea,u=.ref ea/\j7Z T c ea H s.heap (Free X pins)
noncomputable def XW (T:Tb) (X:Cx) (E:Value->Shared->Prop) (σ:L2.St) (H:Hp) (c:Nat):Prop:=
 ∀(pins:List (Addr×Obj)) (s:Shared) (u:Value) (H':Hp),Inv X pins σ H' s->Same H H'->Flying T X pins c u H' s->E u s
theorem XW.mono {T:Tb} {X:Cx} {E:Value->Shared->Prop} {σ:L2.St} {H H':Hp} {c:Nat} (e:Same H H') (h:XW T X E σ H c):XW T X E σ H' c:=
 λpins s u H'' I q f=>h pins s u H'' I (e.trans q) f
noncomputable def Acc {α:Type} (T:Tb) (X:Cx) (E:Value->Shared->Prop) (σ:L2.St) (H:Hp) (o:Out α) (k:α->Prop):Prop:=
 match o with
 | .ok a=>k a
 | .exc c=>XW T X E σ H c
 | .bad=>False
section
variable {T:Tb} {X:Cx} {E:Value->Shared->Prop} {σ:L2.St} {H H':Hp} {α β:Type}
theorem Acc.mono {o:Out α} {k k':α->Prop} (h:Acc T X E σ H o k) (f:∀a,o=.ok a->k a->k' a):Acc T X E σ H o k':=by
 cases o with
 | ok a=>exact f a rfl h
 | exc c=>exact h
 | bad=>exact h
theorem Acc.heap {o:Out α} {k:α->Prop} (e:Same H H') (h:Acc T X E σ H o k):Acc T X E σ H' o k:=by
 cases o with
 | ok a=>exact h
 | exc c=>exact XW.mono e h
 | bad=>exact h
theorem Acc.bind {o:Out α} {g:α->Out β} {k:β->Prop} (h:Acc T X E σ H (o.bind g) k):Acc T X E σ H o (λa=>Acc T X E σ H (g a) k):=by
 cases o with
 | ok a=>exact h
 | exc c=>exact h
 | bad=>exact h
end
noncomputable abbrev Ev:=Ro->Out D
noncomputable def kE (T:Tb) (K:PySem.W.Frag) (H:Hp) (Q:VK) (d:D):Prop:=∀v H',Same H H'->Rep T K H' d v->Q v H'
noncomputable def tE (T:Tb) (X:Cx) (G:Hp) (E:Value->Shared->Prop) (f:Ev):TE:=fun σ H Q=>∃ρ,FR T X.K G H σ ρ/\Acc T X E σ H (f ρ) (kE T X.K H Q)
structure DE (T:Tb) (X:Cx) (e:Expr) (f:Ev):Prop where
 mk ::
 run:∀(G:Hp) (E:Value->Shared->Prop),PassesOwn (model X.prog X.w) X.A X.env E->PE (X.wish E) e (tE T X G E f)
noncomputable def kT (H:Hp) (Q:Bool->Hp->Prop) (b:Bool):Prop:=∀H',Same H H'->Q b H'
noncomputable def tT (T:Tb) (X:Cx) (G:Hp) (E:Value->Shared->Prop) (f:Ro->Out Bool):TT:=fun σ H Q=>∃ρ,FR T X.K G H σ ρ/\Acc T X E σ H (f ρ) (kT H Q)
structure DT (T:Tb) (X:Cx) (e:Expr) (f:Ro->Out Bool):Prop where
 mk ::
 run:∀(G:Hp) (E:Value->Shared->Prop),PassesOwn (model X.prog X.w) X.A X.env E->PT (X.wish E) e (tT T X G E f)
structure DW (T:Tb) (X:Cx) (e:Expr) (f:Ro->Out Bool):Prop where
 mk ::
 run:∀(G:Hp) (E:Value->Shared->Prop),PassesOwn (model X.prog X.w) X.A X.env E->PW (X.wish E) e (tT T X G E f)
theorem DW.dt {T:Tb} {X:Cx} {e:Expr} {f:Ro->Out Bool} (h:DW T X e f):DT T X e f:=.mk λG E hp=>(h.run G E hp).pt
noncomputable def tA (T:Tb) (X:Cx) (G:Hp) (E:Value->Shared->Prop) (f:Ro->Out (List D)):TA:=fun σ H Q=>∃ρ,FR T X.K G H σ ρ/\Acc T X E σ H (f ρ) (λds=>∀vs H',Same H H'->RepL T X.K H' ds vs->Q vs H')
structure DA (T:Tb) (X:Cx) (es:List Expr) (f:Ro->Out (List D)):Prop where
 mk ::
 run:∀(G:Hp) (E:Value->Shared->Prop),PassesOwn (model X.prog X.w) X.A X.env E->PA (X.wish E) es (tA T X G E f)
noncomputable def tF (T:Tb) (X:Cx) (G:Hp) (E:Value->Shared->Prop) (f:Ro->Out (List D)):TE:=fun σ H Q=>∃ρ,FR T X.K G H σ ρ/\Acc T X E σ H (f ρ) (λds=>∀a vs H',Same H H'->H a=none->H' a=some (.lst vs)->RepL T X.K H' ds vs->Q (.ref a) H')
structure DF (T:Tb) (X:Cx) (e:Expr) (f:Ro->Out (List D)):Prop where
 mk ::
 run:∀(G:Hp) (E:Value->Shared->Prop),PassesOwn (model X.prog X.w) X.A X.env E->PE (X.wish E) e (tF T X G E f)
noncomputable def tL (T:Tb) (X:Cx) (G:Hp) (E:Value->Shared->Prop) (f:Ro->Out (List D)):TE:=fun σ H Q=>∃ρ,FR T X.K G H σ ρ/\Acc T X E σ H (f ρ) (λds=>∀a vs H',Same H H'->SqL X.K H' a vs->RepL T X.K H' ds vs->Q (.ref a) H')
structure DL (T:Tb) (X:Cx) (e:Expr) (f:Ro->Out (List D)):Prop where
 mk ::
 run:∀(G:Hp) (E:Value->Shared->Prop),PassesOwn (model X.prog X.w) X.A X.env E->PE (X.wish E) e (tL T X G E f)
noncomputable def tR (T:Tb) (X:Cx) (G:Hp) (E:Value->Shared->Prop) (f:Ro->Out Rv):TE:=fun σ H Q=>∃ρ,FR T X.K G H σ ρ/\Acc T X E σ H (f ρ) (λr=>∀v H',Same H H'->q6n T X.K H H' v r->Q v H')
structure DR (T:Tb) (X:Cx) (e:Expr) (f:Ro->Out Rv):Prop where
 mk ::
 run:∀(G:Hp) (E:Value->Shared->Prop),PassesOwn (model X.prog X.w) X.A X.env E->PE (X.wish E) e (tR T X G E f)
theorem PE.imp {X:Cx} {e:Expr} {t t':TE} (h:PE X e t) (k:∀σ H Q,t' σ H Q->t σ H Q):PE X e t':=λpins s σ H Q I q=>h pins s σ H Q I (k σ H Q q)
theorem PT.imp {X:Cx} {e:Expr} {t t':TT} (h:PT X e t) (k:∀σ H Q,t' σ H Q->t σ H Q):PT X e t':=λpins s σ H Q I q=>h pins s σ H Q I (k σ H Q q)
theorem PW.imp {X:Cx} {e:Expr} {t t':TT} (h:PW X e t) (k:∀σ H Q,t' σ H Q->t σ H Q):PW X e t':=λw pins s σ H Q I q=>h w pins s σ H Q I (k σ H Q q)
theorem PA.imp {X:Cx} {es:List Expr} {t t':TA} (h:PA X es t) (k:∀σ H Q,t' σ H Q->t σ H Q):PA X es t':=λp pins s σ H Q I q=>h p pins s σ H Q I (k σ H Q q)
theorem PS.imp {X:Cx} {e:Stmt} {t t':TS} (h:PS X e t) (k:∀D σ H,t' D σ H->t D σ H):PS X e t':=λpins s σ H D I q=>h pins s σ H D I (k D σ H q)
theorem PSs.imp {X:Cx} {e:List Stmt} {t t':TS} (h:PSs X e t) (k:∀D σ H,t' D σ H->t D σ H):PSs X e t':=λpins s σ H D I q=>h pins s σ H D I (k D σ H q)
inductive Fl where
 | nx (ρ:Ro) | rt (r:Rv) | rm (r:D) (c:Nat) (ds ks:List D) | exc (c:Nat) (ρ:Ro) | bk (ρ:Ro) | ct (ρ:Ro) | bad
noncomputable def stays (T:Tb) (b:Bool):HO->Bool
 | .lst _=>false
 | .ins C _ fs=>!b && decide (fs.map (·.1)=T.fa C)
 | _=>true
noncomputable def Pers (T:Tb) (b:Bool) (H H':Hp):Prop:=∀a o,H a=some o->stays T b o=true->H' a=some o
theorem Pers.refl {T:Tb} {b:Bool} (H:Hp):Pers T b H H:=λ_ _ e _=>e
theorem Pers.trans {T:Tb} {b:Bool} {H H1 H2:Hp} (x:Pers T b H H1) (y:Pers T b H1 H2):Pers T b H H2:=λc o e s=>y c o (x c o e s) s
theorem Pers.of {T:Tb} {b:Bool} {H H':Hp} (x:Same H H'):Pers T b H H':=λc o e _=>x c _ e
theorem Pers.fz {T:Tb} {b:Bool} {K:PySem.W.Frag} {H H':Hp} {a:Addr} {vs:List V} (p:Pers T b H H') (h:FzL K H a vs):FzL K H' a vs:=by
 rcases h with ⟨o,h⟩ | h
 ·exact .inl ⟨o,p _ _ h rfl⟩
 ·exact .inr h
mutual
theorem Rep.pers {T:Tb} {K:PySem.W.Frag} {H H':Hp} (e:Pers T false H H'):∀(d:D) (v:V),Rep T K H d v->Rep T K H' d v
 | .non,_,h=>h
 | .bl _,_,h=>h
 | .int _,_,h=>h
 | .str _,_,h=>h
 | .tup ds,_,h=>by
  obtain ⟨a,vs,r1,r2,r3⟩:=h
  refine ⟨a,vs,r1,?_,RepL.pers e ds vs r3⟩
  rcases r2 with (r2 | ⟨o,r2⟩) | r2
  ·exact .inl (.inl (e _ _ r2 rfl))
  ·exact .inl (.inr ⟨o,e _ _ r2 rfl⟩)
  ·exact .inr r2
 | .lst ds,_,h=>by
  obtain ⟨a,vs,r1,r2,r3⟩:=h
  exact ⟨a,vs,r1,e.fz r2,RepL.pers e ds vs r3⟩
 | .ins c ds,_,h=>by
  obtain ⟨a,dx,fs,r1,r2,r3,r4⟩:=h
  exact ⟨a,dx,fs,r1,e _ _ r2 (by show (!false && decide (fs.map (·.1)=T.fa (T.ca c)))=true;rw [r3];simp [Tb.fl]),r3,RepL.pers e ds _ r4⟩
 | .exc c,_,h=>by
  obtain ⟨a,o,r1,r2,r3⟩:=h
  exact ⟨a,o,r1,e _ _ r2 rfl,r3⟩
theorem RepL.pers {T:Tb} {K:PySem.W.Frag} {H H':Hp} (e:Pers T false H H'):∀(ds:List D) (vs:List V),RepL T K H ds vs->RepL T K H' ds vs
 | [],_,h=>h
 | d::ds,_,h=>by
  obtain ⟨v,r,r1,r2,r3⟩:=h
  exact ⟨v,r,r1,Rep.pers e d v r2,RepL.pers e ds r r3⟩
end
noncomputable def j79 (T:Tb) (K:PySem.W.Frag) (H:Hp) (c:Nat) (ds:List D):Prop:=∃a,T.me=some a/\InsAt T K H c a ds
noncomputable def q4J (T:Tb) (K:PySem.W.Frag) (H:Hp):Option Addr->List D->Prop
 | none,ks=>ks=[]
 | some a,ks=>∃vs,H a=some (.lst vs)/\RepL T K H ks vs
noncomputable def AccS (T:Tb) (b:Bool) (X:Cx) (G:Hp) (E:Value->Shared->Prop) (H₁:Hp) (o:Fl) (D:Ends):Prop:=
 match o with
 | .nx ρ=>∀σ H,FR T X.K G H σ ρ->Pers T b H₁ H->D.nx σ H
 | .bk ρ=>∀σ H,FR T X.K G H σ ρ->Pers T b H₁ H->D.bk σ H
 | .ct ρ=>∀σ H,FR T X.K G H σ ρ->Pers T b H₁ H->D.ct σ H
 | .rt r=>∀v H,Same G H->q6n T X.K G H v r->D.rt v H
 | .rm r c ds ks=>∀v H,Same G H->Rep T X.K H r v->j79 T X.K H c ds->q4J T X.K H T.mo ks->D.rt v H
 | .exc c ρ=>∀σ H,FR T X.K G H σ ρ->Pers T b H₁ H->XW T X E σ H c
 | .bad=>False
theorem AccS.heap {T:Tb} {b:Bool} {X:Cx} {G:Hp} {E:Value->Shared->Prop} {H H':Hp} {o:Fl} {D:Ends} (p:Pers T b H H') (h:AccS T b X G E H o D):AccS T b X G E H' o D:=by
 cases o with
 | nx ρ=>exact fun σ H2 fr q=>h σ H2 fr (p.trans q)
 | bk ρ=>exact fun σ H2 fr q=>h σ H2 fr (p.trans q)
 | ct ρ=>exact fun σ H2 fr q=>h σ H2 fr (p.trans q)
 | rt r=>exact h
 | rm r c ds ks=>exact h
 | exc c ρ=>exact fun σ H2 fr q=>h σ H2 fr (p.trans q)
 | bad=>exact h
noncomputable def tS (T:Tb) (b:Bool) (X:Cx) (G:Hp) (E:Value->Shared->Prop) (f:Ro->Fl):TS:=λD σ H=>∃ρ,FR T X.K G H σ ρ/\AccS T b X G E H (f ρ) D
structure DS (T:Tb) (b:Bool) (X:Cx) (st:Stmt) (f:Ro->Fl):Prop where
 mk ::
 run:∀(G:Hp) (E:Value->Shared->Prop),PassesOwn (model X.prog X.w) X.A X.env E->PS (X.wish E) st (tS T b X G E f)
structure DSs (T:Tb) (b:Bool) (X:Cx) (st:List Stmt) (f:Ro->Fl):Prop where
 mk ::
 run:∀(G:Hp) (E:Value->Shared->Prop),PassesOwn (model X.prog X.w) X.A X.env E->PSs (X.wish E) st (tS T b X G E f)
noncomputable def Fl.bind (o:Fl) (k:Ro->Fl):Fl:=match o with
 | .nx ρ=>k ρ
 | o=>o
@[simp] theorem Fl.nx_bind (ρ:Ro) (k:Ro->Fl):(Fl.nx ρ).bind k=k ρ:=(rfl)
@[simp] theorem Fl.rt_bind (r:Rv) (k:Ro->Fl):(Fl.rt r).bind k=.rt r:=(rfl)
@[simp] theorem Fl.rm_bind (r:D) (c:Nat) (ds ks:List D) (k:Ro->Fl):(Fl.rm r c ds ks).bind k=.rm r c ds ks:=(rfl)
@[simp] theorem Fl.exc_bind (c:Nat) (ρ:Ro) (k:Ro->Fl):(Fl.exc c ρ).bind k=.exc c ρ:=(rfl)
@[simp] theorem Fl.bk_bind (ρ:Ro) (k:Ro->Fl):(Fl.bk ρ).bind k=.bk ρ:=(rfl)
@[simp] theorem Fl.ct_bind (ρ:Ro) (k:Ro->Fl):(Fl.ct ρ).bind k=.ct ρ:=(rfl)
@[simp] theorem Fl.bad_bind (k:Ro->Fl):Fl.bad.bind k=.bad:=(rfl)
noncomputable def Out.fl {α:Type} (o:Out α) (ρ:Ro) (k:α->Fl):Fl:=match o with
 | .ok a=>k a
 | .exc c=>.exc c ρ
 | .bad=>.bad
@[simp] theorem Out.ok_fl {α:Type} (a:α) (ρ:Ro) (k:α->Fl):(Out.ok a).fl ρ k=k a:=(rfl)
@[simp] theorem Out.exc_fl {α:Type} (c:Nat) (ρ:Ro) (k:α->Fl):(Out.exc c:Out α).fl ρ k=.exc c ρ:=(rfl)
@[simp] theorem Out.bad_fl {α:Type} (ρ:Ro) (k:α->Fl):(Out.bad:Out α).fl ρ k=.bad:=(rfl)
section
variable {T:Tb} {b:Bool} {X:Cx} {G:Hp} {E:Value->Shared->Prop} {σ:L2.St} {H:Hp} {α:Type}
theorem AccS.fl {o:Out α} {ρ:Ro} {k:α->Fl} {D:Ends} (fr:FR T X.K G H σ ρ) (h:AccS T b X G E H (o.fl ρ k) D):Acc T X E σ H o (λa=>AccS T b X G E H (k a) D):=by
 cases o with
 | ok a=>exact h
 | exc c=>exact h σ H fr (Pers.refl H)
 | bad=>exact h
end
noncomputable def q1G:Expr->Bool
 | .Starred ..=>false
 | _=>true
theorem q0q {e:Expr} {es:List Expr} {env:Env} (h:q1G e=true):starEach (e::es) env=(false,eval e env)::starEach es env:=by
 cases e<;>first | rfl | cases h
theorem q0r {pos:Pos} {env:Env}:∀{es:List Expr},es.all q1G=true->(backTo pos (starEach es env)).any (·.1)=false
 | [],_=>rfl
 | e::es,h=>by
  rw [List.all_cons,Bool.and_eq_true] at h
  rw [q0q h.1]
  show (false || (backTo pos (starEach es env)).any (·.1))=false
  rw [q0r h.2];rfl
theorem q2M {pos:Pos} {env:Env}:∀{es:List Expr},es.all q1G=true->(backTo pos (starEach es env)).all (λx=>!x.1)=true
 | [],_=>rfl
 | e::es,h=>by
  rw [List.all_cons,Bool.and_eq_true] at h
  rw [q0q h.1]
  show (true && (backTo pos (starEach es env)).all (λx=>!x.1))=true
  rw [q2M h.2];rfl
theorem q55 {pos:Pos} {env:Env} {e:Expr} {es:List Expr} (h:(e::es).all q1G=true) (hl:decide ((e::es).length+([]:List Keyword).length+(if ([]:List Keyword).isEmpty then 0 else 1) < 30)=true) :
 ((backTo pos (starEach (e::es) env)).all (λx=>!x.1) && (backToKw pos (keywordEach [] env)).all (λx=>x.1.isSome) && decide ((e::es).length+([]:List Keyword).length+(if ([]:List Keyword).isEmpty then 0 else 1) < 30))=true:=by
 rw [q2M h,hl];rfl
noncomputable def j3k:Expr->Bool
 | .ListComp ..=>false
 | .SetComp ..=>false
 | .DictComp ..=>false
 | _=>true
theorem q03 {e:Expr} {t:Option Expr} {n:Nat} {env:Env} (h:j3k e=true):swapsWith e t n env=pure false:=by
 cases e<;>first | rfl | cases h
section
variable {T:Tb} {X:Cx} {pos:Pos}
@[simp] noncomputable def q0f (i:Nat) (ρ:Ro):Out D:=match ρ[i]? with
 | some (.sh d)=>.ok d
 | _=>.bad
theorem q0a (i:Nat) {x:Str} (hN:X.N[i]?=some x:=by rfl) (hv:Vis X.env.scope x:=by walk_at "v0") (hd:(x==("__debug__" : Str))=false:=by decide)
 (hcd:(x==("__classdict__" : Str))=false:=by decide):DE T X (.Name x pos) (q0f i):=.mk λG E hp=>by
 refine PE.imp (q0W (X:=X.wish E) hN hv hd hcd) fun σ H Q ⟨ρ,fr,h⟩=>?_
 unfold q0f at h
 split at h
 ·rename_i d e
  obtain ⟨v,e1,r⟩:=fr.sh_at e
  exact ⟨v,e1,h v H (Same.refl H) r⟩
 ·exact h.elim
@[simp] noncomputable def q4p (i:Nat) (ρ:Ro):Out (List D):=match ρ[i]? with
 | some (.ow ds)=>.ok ds
 | some (.bo ds)=>.ok ds
 | some (.mo ds)=>.ok ds
 | some (.sh (.lst ds))=>.ok ds
 | _=>.bad
theorem q1H (i:Nat) {x:Str} (hN:X.N[i]?=some x:=by rfl) (hv:Vis X.env.scope x:=by walk_at "v0") (hd:(x==("__debug__" : Str))=false:=by decide)
 (hcd:(x==("__classdict__" : Str))=false:=by decide):DL T X (.Name x pos) (q4p i):=.mk λG E hp=>by
 refine PE.imp (q0W (X:=X.wish E) hN hv hd hcd) fun σ H Q ⟨ρ,fr,h⟩=>?_
 unfold q4p at h
 split at h
 ·rename_i ds e
  obtain ⟨a,vs,e1,e2,e3,r⟩:=fr.sl i _ e
  exact ⟨_,e1,h a vs H (Same.refl H) (SqL.of e2) r⟩
 ·rename_i ds e
  obtain ⟨a,vs,e1,e2,r⟩:=fr.sl i _ e
  exact ⟨_,e1,h a vs H (Same.refl H) (SqL.of (fr.same _ _ e2)) r⟩
 ·rename_i ds e
  obtain ⟨a,vs,_,e1,e2,e3,r⟩:=fr.sl i _ e
  exact ⟨_,e1,h a vs H (Same.refl H) (SqL.of e2) r⟩
 ·rename_i ds e
  obtain ⟨v,e1,a,vs,rfl,e2,r⟩:=fr.sl i _ e
  exact ⟨_,e1,h a vs H (Same.refl H) e2.sq r⟩
 ·exact h.elim
@[simp] noncomputable def eC (d:D) (ρ:Ro):Out D:=.ok d
theorem PE.const {e:Expr} {v:V} {d:D} {E:Value->Shared->Prop} {G:Hp} (h:PE (X.wish E) e (tC v)) (r:∀H,Rep T X.K H d v):PE (X.wish E) e (tE T X G E (eC d)):=
 PE.imp h fun σ H Q ⟨ρ,fr,h⟩=>h v H (Same.refl H) (r H)
theorem q0c {i j}:DE T X (.Constant (.int i) j pos) (eC (.int i)):=.mk λG E hp=>PE.const j5k λ_=>rfl
theorem q3B {b j}:DE T X (.Constant (.bool b) j pos) (eC (.bl b)):=.mk λG E hp=>PE.const j7w λ_=>rfl
theorem j5m {j}:DE T X (.Constant .none j pos) (eC .non):=.mk λG E hp=>PE.const j4E λ_=>rfl
theorem q37 {x j}:DE T X (.Constant (.str x) j pos) (eC (.str x)):=.mk λG E hp=>PE.const j1H λ_=>rfl
theorem q4P {x:Str} {d:D} {v:V} {u:Value} (hg:Gl X x) (hm:X.mg x=some u) (r:RelV v u) (rd:∀H,Rep T X.K H d v) (hd:(x==("__debug__" : Str))=false:=by decide):DE T X (.Name x pos) (eC d):=
 .mk λG E hp=>PE.const (q7z (X:=X.wish E) hg hm r hd) rd
end
noncomputable def OpD (T:Tb) (X:Cx) (f:Value->Value->Sem Value) (g:D->D->Out D):Prop:=∀E:Value->Shared->Prop,∃r:R2,OpR (X.wish E) f r /\
 ∀(dx dy:D) (x y:V) (σ:L2.St) (H:Hp) (Q:VK),Rep T X.K H dx x->Rep T X.K H dy y->Acc T X E σ H (g dx dy) (kE T X.K H Q)->r x y H Q
@[simp] noncomputable def e2 (g:D->D->Out D) (fa fb:Ev) (ρ:Ro):Out D:=(fa ρ).bind λx=>(fb ρ).bind λy=>g x y
section
variable {T:Tb} {X:Cx} {pos:Pos} {a b:Expr} {fa fb:Ev}
theorem q59 {G H:Hp} {E:Value->Shared->Prop} {σ:L2.St} {Q:VK} {g:D->D->Out D} {r:R2}
 (hg:∀(dx dy:D) (x y:V) (σ:L2.St) (H:Hp) (Q:VK),Rep T X.K H dx x->Rep T X.K H dy y->Acc T X E σ H (g dx dy) (kE T X.K H Q)->r x y H Q) {ρ:Ro} (fr:FR T X.K G H σ ρ) (h:Acc T X E σ H (e2 g fa fb ρ) (kE T X.K H Q)) :
 tOp r (tE T X G E fa) (tE T X G E fb) σ H Q:=by
 refine ⟨ρ,fr,Acc.mono (Acc.bind h) λdx _ hx v H1 s1 r1=>⟨ρ,fr.mono s1,Acc.mono (Acc.bind (Acc.heap s1 hx)) λdy _ hy u H2 s2 r2=>?_⟩⟩
 refine hg dx dy v u σ H2 Q (Rep.mono s2 _ _ r1) r2 (Acc.mono (Acc.heap s2 hy) λd _ hd w H3 s3 r3=>hd w H3 ((s1.trans s2).trans s3) r3)
theorem q0m {op:Operator} {g:D->D->Out D} (ho:OpD T X (binaryOp op) g) (ha:DE T X a fa) (hb:DE T X b fb):DE T X (.BinOp a op b pos) (e2 g fa fb):=.mk λG E hp=>by
 obtain ⟨r,hr,hg⟩:=ho E
 exact PE.imp (j4W hr (ha.run G E hp) (hb.run G E hp)) fun σ H Q ⟨ρ,fr,h⟩=>q59 hg fr h
theorem q1x {op:CmpOp} {g:D->D->Out D} (ho:OpD T X (compareOp op) g) (ha:DE T X a fa) (hb:DE T X b fb) (hm:behindInMarks op b=false):DE T X (.Compare a [op] [b] pos) (e2 g fa fb):=.mk λG E hp=>by
 obtain ⟨r,hr,hg⟩:=ho E
 exact PE.imp (j2s hr (ha.run G E hp) (hb.run G E hp) hm) fun σ H Q ⟨ρ,fr,h⟩=>q59 hg fr h
@[simp] noncomputable def D.toB:D->Out Bool
 | .bl b=>.ok b
 | _=>.bad
@[simp] noncomputable def tB2 (g:D->D->Out D) (fa fb:Ev) (ρ:Ro):Out Bool:=(e2 g fa fb ρ).bind D.toB
theorem q0L {op:CmpOp} {g:D->D->Out D} (ho:OpD T X (compareOp op) g) (ha:DE T X a fa) (hb:DE T X b fb) (hm:behindInMarks op b=false):DT T X (.Compare a [op] [b] pos) (tB2 g fa fb):=.mk λG E hp=>by
 obtain ⟨r,hr,hg⟩:=ho E
 refine PT.imp (j3h hr (ha.run G E hp) (hb.run G E hp) hm) fun σ H Q ⟨ρ,fr,h⟩=>q59 hg fr (Acc.mono (Acc.bind h) λd _ hd v H1 s1 r1=>?_)
 cases d with
 | bl k=>exact ⟨k,r1,hd H1 s1⟩
 | _=>exact hd.elim
@[simp] noncomputable def i2 (f:Int->Int->D):D->D->Out D
 | .int i,.int j=>.ok (f i j)
 | _,_=>.bad
theorem q9e {f:Value->Value->Sem Value} {g:Int->Int->V} {g':Int->Int->D} (h:∀E,OpR (X.wish E) f (rI0 g)) (hg:∀i j H,Rep T X.K H (g' i j) (g i j)):OpD T X f (i2 g'):=λE=>
 ⟨_,h E,λdx dy x y σ H Q rx ry q=>by
  cases dx with
  | int i=>
   cases dy with
   | int j=>exact ⟨i,j,rx,ry,q _ H (Same.refl H) (hg i j H)⟩
   | _=>exact q.elim
  | _=>first | exact q.elim | (cases dy<;>exact q.elim)⟩
@[simp] noncomputable def i2c (c:Int->Int->Bool) (f:Int->Int->D):D->D->Out D
 | .int i,.int j=>if c i j=true then .ok (f i j) else .bad
 | _,_=>.bad
theorem q8p {f:Value->Value->Sem Value} {C:Int->Int->Prop} {g:Int->Int->V} {c:Int->Int->Bool} {g':Int->Int->D} (h:∀E,OpR (X.wish E) f (rI C g)) (hc:∀i j,c i j=true->C i j) (hg:∀i j H,Rep T X.K H (g' i j) (g i j)):OpD T X f (i2c c g'):=λE=>
 ⟨_,h E,λdx dy x y σ H Q rx ry q=>by
  cases dx with
  | int i=>
   cases dy with
   | int j=>
    have q':Acc T X E σ H (if c i j=true then .ok (g' i j) else .bad) (kE T X.K H Q):=q
    by_cases e:c i j=true
    ·rw [if_pos e] at q'
     exact ⟨i,j,rx,ry,hc i j e,q' _ H (Same.refl H) (hg i j H)⟩
    ·rw [if_neg e] at q'
     exact q'.elim
   | _=>exact q.elim
  | _=>first | exact q.elim | (cases dy<;>exact q.elim)⟩
noncomputable def q49 (i j:Int):Bool:=(decide (-(2 ^ 64) < i) && decide (i < 2 ^ 64)) || (decide (-(2 ^ 64) < j) && decide (j < 2 ^ 64))
@[simp] noncomputable def q6D (_ j:Int):Bool:=decide (0 < j) && decide (j < 1073741824)
@[simp] noncomputable def q6U (_ j:Int):Bool:=decide (0 < j)
theorem q1y:OpD T X (binaryOp .Sub) (i2 λi j=>.int (i-j)):=q9e (λE=>j3X) λ_ _ _=>rfl
theorem j5d:OpD T X (binaryOp .Mult) (i2c q49 λi j=>.int (i*j)):=q8p (λE=>j5a) (λi j h=>by
 simp only [q49,Bool.or_eq_true,Bool.and_eq_true,decide_eq_true_eq] at h;exact h) λ_ _ _=>rfl
theorem q0I:OpD T X (binaryOp .FloorDiv) (i2c q6D λi j=>.int (i / j)):=q8p (λE=>j3n) (λi j h=>by
 simp only [q6D,Bool.and_eq_true,decide_eq_true_eq] at h;exact h) λ_ _ _=>rfl
theorem q0G:OpD T X (binaryOp .Mod) (i2c q6U λi j=>.int (i % j)):=q8p (λE=>j45) (λi j h=>by
 simp only [q6U,decide_eq_true_eq] at h;exact h) λ_ _ _=>rfl
theorem q9g:OpD T X (compareOp .Lt) (i2 λi j=>.bl (decide (i < j))):=q9e (λE=>j7j) λ_ _ _=>rfl
theorem q3b:OpD T X (compareOp .LtE) (i2 λi j=>.bl (decide (i<=j))):=q9e (λE=>j7f) λ_ _ _=>rfl
theorem q44:OpD T X (compareOp .Gt) (i2 λi j=>.bl (decide (j < i))):=q9e (λE=>j7v) λ_ _ _=>rfl
theorem j6Z:OpD T X (compareOp .GtE) (i2 λi j=>.bl (decide (j<=i))):=q9e (λE=>j6S) λ_ _ _=>rfl
end
theorem q35 {P:Program} {w:World} {H:Hp} {h:Heap} {a:Addr} {o:HO} (x:ObjOk P w H h a o):∃u,h.get? a=some u:=by
 cases o with
 | lst xs=>obtain ⟨_,_,_,_,e⟩:=x;exact ⟨_,e⟩
 | tup xs=>obtain ⟨_,_,_,_,e,_⟩:=x;exact ⟨_,e⟩
 | dK kvs=>obtain ⟨_,_,_,_,o,_,_,e,_⟩:=x;exact ⟨_,e⟩
 | dT kvs=>obtain ⟨_,_,_,_,o,_,_,e,_⟩:=x;exact ⟨_,e⟩
 | set S n=>obtain ⟨o,_,_,_,e,_⟩:=x;exact ⟨_,e⟩
 | ins C dx fs=>obtain ⟨_,_,_,e,_⟩:=x;exact ⟨_,e⟩
 | own y=>obtain ⟨_,e⟩:=x;exact ⟨_,e⟩
 | xd fs=>obtain ⟨_,⟨_,_,_,e,_⟩,_⟩:=x;exact ⟨_,e⟩
 | rng lo hi=>obtain ⟨_,_,_,e⟩:=x;exact ⟨_,e⟩
 | frz ob u=>obtain ⟨e,_⟩:=x;exact ⟨_,e⟩
 | tbl ps=>exact ⟨_,(show h.get? a=some _ from x)⟩
 | met f y=>exact ⟨_,(show h.get? a=some _ from x)⟩
 | ext φ=>obtain ⟨_,⟨_,e⟩,_⟩:=x;exact ⟨_,e⟩
noncomputable def CXE (T:Tb) (P:Program) (w:World):CXT:=λouter H s E e s'=>
 ∃(ea:Addr) (c:Nat) (H':Hp),e=.ref ea/\s'.os=s.os/\AllBare s'.gens/\Un (frs outer) [] H H' s.heap s'.heap/\HOk P w H' s'.heap/\j7Z T c ea H' s'.heap (λb=>s.heap.get? b=none)/\E (.ref (T.ca c)) none H'
section
variable {T:Tb} {X:Cx} {pins:List (Addr×Obj)} {σ:L2.St} {H:Hp} {s:Shared} {c:Nat} {u:Value}
structure Noted (X:Cx) (L:List Addr) (h h':Heap):Prop where
 kb:∀b o,h.get? b=some o->b∉L->h'.get? b=some o
 up:∀b o,h.get? b=some o->(∀vs,o.data≠.fields vs)->∃sl,h'.get? b=some { o with slots:=sl }
theorem q4l {L:List Addr} {h':Heap} (I:Inv X pins σ H s) (N:Noted X L s.heap h') (hL:∀b∈L,H b=none):HOk X.prog X.w H h':=λa o e=>
 (I.hok a o e).stay (λb v hb q=>N.kb b v q λhm=>by
  rcases hb with z | z
  ·rw [z] at hm;rw [hL _ hm] at e;cases e
  ·rw [hL b hm] at z;cases z) (λ_ q=>q) λ_ _ q=>q
theorem q5S {E:XK} {L:List Addr} {h':Heap} {ea:Addr} {a0:Value} (I:Inv X pins σ H s) (hst:X.stack=X.env::X.outer) (hex:X.ex=[]) (hn:H ea=none) (hfr:X.s₀.heap.get? ea=none)
 (hea:ea∈L) (hL:∀b∈L,H b=none/\(X.s₀.heap.get? b=none∨b∈X.fs)) (hS:∀b∈L,b=ea∨(∃o vs,s.heap.get? b=some o/\o.data=.fields vs/\X.s₀.heap.get? b=none)∨b∈frs X.stack)
 (lw:Heap.LeftW (PySem.W.hideAll s.heap L) (X.env::X.outer) ea (.ref (T.ca c)) a0 s.heap h') (nc:Nc ea h') (hE:E (.ref (T.ca c)) none H) :
 CXE T X.prog X.w X.outer X.H₀ X.s₀ E (.ref ea) { s with heap:=h' }:=by
 obtain ⟨k1,k2,k3,k4⟩:=lw
 have kb:∀b o,s.heap.get? b=some o->b∉L->h'.get? b=some o:=λb o e n=>k1 b o (PySem.W.hideAll_get _ e n)
 have nofl:∀b∈X.fs,∀o,s.heap.get? b=some o->∀vs,o.data≠.fields vs:=λb hb o e=>by
  obtain ⟨_,o',e',d⟩:=I.funs.mem hb
  rw [e] at e';cases e';exact d
 have hok:=q4l I ⟨kb,k4⟩ λb hb=>(hL b hb).1
 refine ⟨ea,c,H,rfl,I.os,I.bare,⟨λb o e n hb _=>?_,λb o e n hb _=>?_,λb o e n _=>?_,λb o e _=>?_,I.base.tups,I.base.frzs,I.base.tbls⟩,hok,⟨hn,hfr,nc,?_⟩,hE⟩
 ·refine kb b o (I.base.keep b o e n hb (by rw [hex];simp)) λhm=>?_
  rcases (hL b hm).2 with z | z
  ·rw [e] at z;cases z
  ·exact hb z
 ·obtain ⟨sl,e1⟩:=I.base.slot b o e n hb (by rw [hex];simp)
  obtain ⟨sl',e2⟩:=k4 b _ e1 (nofl b hb _ e1)
  exact ⟨sl',e2⟩
 ·exact I.base.free b o e n (by rw [hex];simp)
 ·obtain ⟨o',e1⟩:=I.base.there b o e (by rw [hex];simp)
  by_cases hm:b∈L
  ·rcases (hL b hm).2 with z | z
   ·rw [e] at z;cases z
   ·obtain ⟨sl',e2⟩:=k4 b _ e1 (nofl b z _ e1)
    exact ⟨_,e2⟩
  ·exact ⟨o',kb b o' e1 hm⟩
 ·obtain ⟨oe,vs,tb,ot,ts,he,⟨hc,h0⟩,hd,h1,hnT,hTe,hT,hdT,h3⟩:=k3
  have hid:∀b,(PySem.W.hideAll s.heap L).get? b=none->(∃o,s.heap.get? b=some o)->b∈L:=λb hb ⟨o,e⟩=>Classical.byContradiction λz=>by
   rw [PySem.W.hideAll_get _ e z] at hb;cases hb
  have notfr:tb∉frs X.stack:=λhm=>by
   rw [hst] at hm
   obtain ⟨_,o,e,d⟩:=k2.mem hm
   rw [hT] at e;cases e;exact d ts hdT
  have key:∀o,s.heap.get? tb=some o->X.s₀.heap.get? tb=none:=λo e=>by
   rcases hS tb (hid tb hnT ⟨o,e⟩) with z | ⟨_,_,_,_,z⟩ | z
   ·exact absurd z hTe
   ·exact z
   ·exact absurd z notfr
  refine ⟨oe,vs,a0,he,hc,hd,h0,.inr ⟨tb,ot,ts,h1,hTe,hT,hdT,h3,?_,?_⟩⟩
  ·cases q:H tb with
   | none=>rfl
   | some z=>
    obtain ⟨o,e⟩:=q35 (I.hok tb z q)
    have:=(hL tb (hid tb hnT ⟨o,e⟩)).1
    rw [q] at this;cases this
  ·show X.s₀.heap.get? tb=none
   cases q:X.s₀.heap.get? tb with
   | none=>rfl
   | some o=>
    obtain ⟨o',e⟩:=I.base.there tb o q (by rw [hex];simp)
    rw [key o' e] at q;cases q
theorem q21 {E:XK} {E':Value->Shared->Prop} (I:Inv X pins σ H s) (hst:X.stack=X.env::X.outer) (hf:X.env.frame=some X.env.locals) (hex:X.ex=[]) (fl:Flying T X pins c u H s) (hE:E (.ref (T.ca c)) none H) :
 wpAny (model X.prog X.w) X.A (leaving X.env u) (λ_ s''=>CXE T X.prog X.w X.outer X.H₀ X.s₀ E u s'') E' s:=by
 obtain ⟨ea,rfl,hn,fe,nc,oe,vs,a0,he,hc,hd,h0,h1⟩:=fl
 have hfr:X.A.frames=some (X.env::X.outer):=by rw [I.ok.frames,hst]
 have FF:s.heap.FunFrames X.base (X.env::X.outer):=by rw [<-hst];exact I.stack
 have fr0:∀b,Free X pins b->X.s₀.heap.get? b=none:=λb ⟨z,_⟩=>by
  rcases z with z | z
  ·rw [hex] at z;simp at z
  ·exact z
 have stk:∀b∈frs X.stack,H b=none/\(X.s₀.heap.get? b=none∨b∈X.fs):=λb hb=>⟨I.stkFree b hb,by
  rcases List.mem_cons.mp (I.stkSub b hb) with z | z
  ·rw [z];exact .inl (Heap.get?_none_of_le I.ok.above)
  ·exact .inr z⟩
 have infr:∀(L:List Addr),(∀b∈frs X.stack,b∈L)->s.heap.FunFrames (PySem.W.hideAll s.heap L) (X.env::X.outer):=λL hL=>PySem.W.funFrames_hide FF λenv he b hb=>hL b (by
  rw [hst];exact List.mem_filterMap.mpr ⟨env,he,hb⟩)
 have hidn:∀(L:List Addr) (b:Addr),b∈L->(PySem.W.hideAll s.heap L).get? b=none:=λL b hb=>PySem.W.hideAll_none L hb
 refine wpAny_mono (Kp.any (Q:=λ_ s''=>Nc ea s''.heap->CXE T X.prog X.w X.outer X.H₀ X.s₀ E (.ref ea) s'') (E:=E') Nc.push q6I nc ?_) (λ_ _ z=>z.1 z.2) λ_ _ z=>z.1
 rcases h1 with h1 | ⟨tb,ot,ts,h1,hne,ht,hdt,h3,hnt,ft⟩
 ·refine wpAny_leaving_firstW (base:=PySem.W.hideAll s.heap (ea::frs X.stack)) hfr (infr _ λb hb=>List.mem_cons_of_mem _ hb) hf he (λb o q=>PySem.W.of_hideAll _ q) (hidn _ _ List.mem_cons_self) hd h1 h0 λh' lw nc'=>?_
  rw [hc] at lw
  refine q5S (L:=ea::frs X.stack) I hst hex hn (fr0 ea fe) List.mem_cons_self (λb hb=>?_) (λb hb=>?_) lw nc' hE
  ·rcases List.mem_cons.mp hb with z | z
   ·rw [z];exact ⟨hn,.inl (fr0 ea fe)⟩
   ·exact stk b z
  ·rcases List.mem_cons.mp hb with z | z
   ·exact .inl z
   ·exact .inr (.inr z)
 ·refine wpAny_leaving_nextW (base:=PySem.W.hideAll s.heap (ea::tb::frs X.stack)) (cls:=.ref (T.ca c)) (a0:=a0) hfr (infr _ λb hb=>List.mem_cons_of_mem _ (List.mem_cons_of_mem _ hb)) hf ⟨oe,vs,tb,ot,ts,he,⟨hc,h0⟩,hd,h1,hidn _ _ (by simp),hne,ht,hdt,h3⟩ (λb o q=>PySem.W.of_hideAll _ q) (hidn _ _ List.mem_cons_self) λh' lw nc'=>?_
  refine q5S (L:=ea::tb::frs X.stack) I hst hex hn (fr0 ea fe) List.mem_cons_self (λb hb=>?_) (λb hb=>?_) lw nc' hE
  ·rcases List.mem_cons.mp hb with z | z
   ·rw [z];exact ⟨hn,.inl (fr0 ea fe)⟩
   ·rcases List.mem_cons.mp z with z | z
    ·rw [z];exact ⟨hnt,.inl (fr0 tb ft)⟩
    ·exact stk b z
  ·rcases List.mem_cons.mp hb with z | z
   ·exact .inl z
   ·rcases List.mem_cons.mp z with z | z
    ·rw [z];exact .inr (.inl ⟨ot,ts,ht,hdt,fr0 tb ft⟩)
    ·exact .inr (.inr z)
end
noncomputable def ArgOk (T:Tb) (K:PySem.W.Frag) (H:Hp) (v:V):Sl->Prop
 | .sh d=>Rep T K H d v
 | .bo ds=>∃a vs,v=.ref a/\H a=some (.lst vs)/\RepL T K H ds vs
 | .bi c ds=>∃a,v=.ref a/\InsAt T K H c a ds
 | _=>False
noncomputable def ArgsOk (T:Tb) (K:PySem.W.Frag) (H:Hp):List V->List Sl->Prop
 | vs,[]=>vs=[]
 | vs,s::ss=>∃v r,vs=v::r/\ArgOk T K H v s/\ArgsOk T K H r ss
section
variable {T:Tb} {K:PySem.W.Frag} {H H':Hp}
theorem ArgOk.mono {v:V} {s:Sl} (e:Same H H') (h:ArgOk T K H v s):ArgOk T K H' v s:=by
 cases s with
 | sh d=>exact Rep.mono e _ _ h
 | bo ds=>
  obtain ⟨a,vs,e1,e2,r⟩:=h
  exact ⟨a,vs,e1,e _ _ e2,RepL.mono e _ _ r⟩
 | bi c ds=>
  obtain ⟨a,e1,r⟩:=h
  exact ⟨a,e1,r.mono e⟩
 | _=>exact h
theorem ArgsOk.mono (e:Same H H'):∀(ss:List Sl) (vs:List V),ArgsOk T K H vs ss->ArgsOk T K H' vs ss
 | [],_,h=>h
 | s::ss,_,h=>by
  obtain ⟨v,r,e1,h1,h2⟩:=h
  exact ⟨v,r,e1,ArgOk.mono e h1,ArgsOk.mono e ss r h2⟩
theorem ArgsOk.length:∀(ss:List Sl) (vs:List V),ArgsOk T K H vs ss->vs.length=ss.length
 | [],_,h=>by cases h;rfl
 | s::ss,_,h=>by
  obtain ⟨v,r,rfl,_,h2⟩:=h
  simp [ArgsOk.length ss r h2]
theorem ArgsOk.get:∀(ss:List Sl) (vs:List V) (i:Nat) (s:Sl),ArgsOk T K H vs ss->ss[i]?=some s->∃v,vs[i]?=some v/\ArgOk T K H v s
 | [],_,_,_,_,e=>by simp at e
 | s::ss,_,0,x,h,e=>by
  obtain ⟨v,r,rfl,h1,_⟩:=h
  simp at e;subst e
  exact ⟨v,rfl,h1⟩
 | s::ss,_,i+1,x,h,e=>by
  obtain ⟨v,r,rfl,_,h2⟩:=h
  obtain ⟨u,e1,e2⟩:=ArgsOk.get ss r i x h2 (by simpa using e)
  exact ⟨u,by simpa using e1,e2⟩
theorem ArgsOk.append:∀(ss:List Sl) (vs:List V) (ts:List Sl) (us:List V),ArgsOk T K H vs ss->ArgsOk T K H us ts->ArgsOk T K H (vs++us) (ss++ts)
 | [],_,_,_,h,h'=>by cases h;exact h'
 | s::ss,_,ts,us,h,h'=>by
  obtain ⟨v,r,rfl,h1,h2⟩:=h
  exact ⟨v,r++us,rfl,h1,ArgsOk.append ss r ts us h2 h'⟩
end
noncomputable abbrev Fn:=List Sl->Out Rv
noncomputable def j7b (T:Tb) (K:PySem.W.Frag) (H:Hp) (Q:VK) (E:XK):Out Rv->Prop
 | .ok r=>∀v H',Same H H'->q6n T K H H' v r->Q v H'
 | .exc c=>∀H',Same H H'->E (.ref (T.ca c)) none H'
 | .bad=>False
noncomputable def spD (T:Tb) (K:PySem.W.Frag) (n:Nat) (F:Fn):Sp:=λvs H Q E=>∃ss:List Sl,ArgsOk T K H vs ss/\vs.length=n/\j7b T K H Q E (F ss)
@[simp] noncomputable def fnF (n:Nat) (f:Ro->Fl) (ss:List Sl):Out Rv:=match f (ss++List.replicate (n-ss.length) .no) with
 | .nx _=>.ok (.sh .non)
 | .rt r=>.ok r
 | .exc c _=>.exc c
 | _=>.bad
theorem q9W {T:Tb} {K:PySem.W.Frag} {H:Hp} {N:List Str} {vs:List V} {ss:List Sl} (hT:T.me=none) (h:ArgsOk T K H vs ss):FR T K H H (start N vs) (ss++List.replicate (N.length-ss.length) .no):=by
 have hl:=ArgsOk.length ss vs h
 have noow:∀(i:Nat) (s:Sl) (x:Option (Option V)) (b:Addr),(ss++List.replicate (N.length-ss.length) Sl.no)[i]?=some s->¬q2e H x b s:=λi s x b z o=>by
  by_cases hi:i < ss.length
  ·rw [List.getElem?_append_left hi] at z
   obtain ⟨v,_,r⟩:=ArgsOk.get ss vs i _ h z
   cases s with
   | sh d=>exact o
   | bo ds=>exact o
   | bi c ds=>exact o
   | _=>exact r
  ·rw [List.getElem?_append_right (by omega),List.getElem?_replicate] at z
   split at z
   ·cases z;exact o
   ·cases z
 have nome:∀(i:Nat) (c:Nat) (es:List D),(ss++List.replicate (N.length-ss.length) Sl.no)[i]?≠some (.me c es):=λi c es z=>by
  by_cases hi:i < ss.length
  ·rw [List.getElem?_append_left hi] at z
   obtain ⟨v,_,r⟩:=ArgsOk.get ss vs i _ h z
   exact r
  ·rw [List.getElem?_append_right (by omega),List.getElem?_replicate] at z
   split at z<;>cases z
 refine ⟨Same.refl H,by unfold L2.start;simp [hl],λi s e=>?_,λi j s t b _ z _ o _=>noow i s _ b z o,(λx e=>by rw [hT] at e;cases e),(λi c es z=>absurd z (nome i c es))⟩
 by_cases hi:i < ss.length
 ·rw [List.getElem?_append_left hi] at e
  obtain ⟨v,e1,r⟩:=ArgsOk.get ss vs i s h e
  have e2:(start N vs)[i]?=some (some v):=by
   unfold L2.start
   rw [List.getElem?_append_left (by simp [hl,hi]),List.getElem?_map,e1];rfl
  rw [e2]
  cases s with
  | sh d=>exact ⟨v,rfl,r⟩
  | bo ds=>
   obtain ⟨a,us,rfl,r2,r3⟩:=r
   exact ⟨a,us,rfl,r2,r3⟩
  | bi c ds=>
   obtain ⟨a,rfl,dx,fs,r2,r3,r4,r5⟩:=r
   exact ⟨a,dx,fs,rfl,r2,r3,r4,r5⟩
  | _=>exact r.elim
 ·rw [List.getElem?_append_right (by omega),List.getElem?_replicate] at e
  split at e
  ·cases e;trivial
  ·cases e
section
variable {P:Program} {w:World} {K:PySem.W.Frag} {mg:Str->Option Value} {base:Heap} {T:Tb}
noncomputable abbrev CxD (T:Tb) (P:Program) (w:World) (K:PySem.W.Frag) (mg:Str->Option Value) (base:Heap) (N:List Str) (qual:Str) (scope:Scope) (f:Addr) (cd:Value) (A:Around) (outer:List Env) (s:Shared) (H:Hp) (E:XK):Cx:=
 j3P (CXE T P w) P w K mg base N qual scope f cd A outer s H E
theorem q4I {x qual:Str} {st:Stmt} {fa:Addr} {fd:FuncData} {N ps:List Str} {k:Nat} {f:Ro->Fl} (hT:T.me=none) (F:L2.Fun K x qual st fa fd) (S:q0p N ps (q0g st))
 (hb:∀(cdv:Value) (A:Around) (outer:List Env) (s:Shared) (H:Hp) (E:XK),Room k (A.deeper (envOfC qual (q0g st) s.heap.objs.size fa cdv))->DSs T false (CxD T P w K mg base N qual (q0g st) fa cdv A outer s H E) (q0Q st) f) :
 q0X P w K mg base (CXE T P w) (k+1) fa fd ps (spD T K ps.length (fnF N.length f)):=by
 obtain ⟨oc,od,kV,doc,pm,an,cdv,ct,osl,rfl,lk,hcd⟩:=F.ex
 refine j21 lk hcd S (λvs H Q E ⟨ss,_,e,_⟩=>e) λA outer s H vs Q E hr ⟨ss,ha,hl,ho⟩=>?_
 have fr:=q9W (N:=N) hT ha
 have hb':=hb cdv A outer s H E hr
 refine ⟨_,hb'.run H (CxD T P w K mg base N qual (q0g st) fa cdv A outer s H E).xe PassesOwn.leaving,_,fr,?_⟩
 unfold fnF at ho
 cases e:f (ss++List.replicate (N.length-ss.length) .no) with
 | nx ρ=>
  rw [e] at ho
  exact fun σ H' fr' _=>ho .non H' fr'.same rfl
 | rt r=>
  rw [e] at ho
  exact λv H' hs r'=>ho v H' hs r'
 | exc c ρ=>
  rw [e] at ho
  intro σ' H' fr' _ pins s' u H'' I hs fl
  exact q21 I rfl rfl rfl fl (ho H'' (fr'.same.trans hs))
 | rm r c ds ks=>rw [e] at ho;exact ho.elim
 | bk ρ=>rw [e] at ho;exact ho.elim
 | ct ρ=>rw [e] at ho;exact ho.elim
 | bad=>rw [e] at ho;exact ho.elim
end
noncomputable def tG (T:Tb) (X:Cx) (G:Hp) (E:Value->Shared->Prop) (f:Ro->Out (List Sl)):TA:=fun σ H Q=>∃ρ,FR T X.K G H σ ρ/\Acc T X E σ H (f ρ) (λss=>∀vs H',Same H H'->ArgsOk T X.K H' vs ss->Q vs H')
structure DG (T:Tb) (X:Cx) (es:List Expr) (f:Ro->Out (List Sl)):Prop where
 mk ::
 run:∀(G:Hp) (E:Value->Shared->Prop),PassesOwn (model X.prog X.w) X.A X.env E->PA (X.wish E) es (tG T X G E f)
section
variable {T:Tb} {X:Cx} {e:Expr} {es:List Expr} {pos p:Pos} {fe:Ev} {fs:Ro->Out (List Sl)}
@[simp] noncomputable def gN0 (ρ:Ro):Out (List Sl):=.ok []
@[simp] noncomputable def gSh (fe:Ev) (fs:Ro->Out (List Sl)) (ρ:Ro):Out (List Sl):=(fe ρ).bind λd=>(fs ρ).bind λss=>.ok (.sh d::ss)
@[simp] noncomputable def gBo (i:Nat) (fs:Ro->Out (List Sl)) (ρ:Ro):Out (List Sl):=match ρ[i]? with
 | some (.ow ds)=>(fs ρ).bind λss=>.ok (.bo ds::ss)
 | some (.bo ds)=>(fs ρ).bind λss=>.ok (.bo ds::ss)
 | some (.mo ds)=>(fs ρ).bind λss=>.ok (.bo ds::ss)
 | some (.sh d)=>(fs ρ).bind λss=>.ok (.sh d::ss)
 | _=>.bad
theorem q0k:DG T X [] gN0:=.mk λG E hp=>PA.imp q06 fun σ H Q ⟨ρ,fr,h⟩=>h [] H (Same.refl H) rfl
theorem q0h (ha:DE T X e fe) (hr:DG T X es fs) (hs:starEach (e::es) X.env=(false,eval e X.env)::starEach es X.env:=by exact q0q rfl):DG T X (e::es) (gSh fe fs):=.mk λG E hp=>by
 refine PA.imp (q0t (X:=X.wish E) (ha.run G E hp) (hr.run G E hp) hs) fun σ H Q ⟨ρ,fr,h⟩=>?_
 refine ⟨ρ,fr,Acc.mono (Acc.bind h) λd _ hd v H1 s1 r1=>⟨ρ,fr.mono s1,Acc.mono (Acc.bind (Acc.heap s1 hd)) λss _ hss vs H2 s2 r2=>?_⟩⟩
 exact hss (v::vs) H2 (s1.trans s2) ⟨v,vs,rfl,Rep.mono s2 _ _ r1,r2⟩
theorem j4t (i:Nat) {x:Str} (hr:DG T X es fs) (hs:starEach (.Name x pos::es) X.env=(false,eval (.Name x pos) X.env)::starEach es X.env:=by exact q0q rfl) (hN:X.N[i]?=some x:=by rfl) (hv:Vis X.env.scope x:=by walk_at "v0") (hd:(x==("__debug__" : Str))=false:=by decide)
 (hcd:(x==("__classdict__" : Str))=false:=by decide):DG T X (.Name x pos::es) (gBo i fs):=.mk λG E hp=>by
 refine PA.imp (q0t (X:=X.wish E) (q0W (X:=X.wish E) hN hv hd hcd) (hr.run G E hp) hs) fun σ H Q ⟨ρ,fr,h⟩=>?_
 unfold gBo at h
 split at h
 ·rename_i ds e
  obtain ⟨a,vs,e1,e2,e3,r⟩:=fr.sl i _ e
  refine ⟨_,e1,ρ,fr,Acc.mono (Acc.bind h) λss _ hss us H2 s2 r2=>?_⟩
  exact hss (.ref a::us) H2 s2 ⟨_,us,rfl,⟨a,vs,rfl,s2 _ _ e2,RepL.mono s2 _ _ r⟩,r2⟩
 ·rename_i ds e
  obtain ⟨a,vs,e1,e2,r⟩:=fr.sl i _ e
  refine ⟨_,e1,ρ,fr,Acc.mono (Acc.bind h) λss _ hss us H2 s2 r2=>?_⟩
  exact hss (.ref a::us) H2 s2 ⟨_,us,rfl,⟨a,vs,rfl,s2 _ _ (fr.same _ _ e2),RepL.mono s2 _ _ r⟩,r2⟩
 ·rename_i ds e
  obtain ⟨a,vs,_,e1,e2,e3,r⟩:=fr.sl i _ e
  refine ⟨_,e1,ρ,fr,Acc.mono (Acc.bind h) λss _ hss us H2 s2 r2=>?_⟩
  exact hss (.ref a::us) H2 s2 ⟨_,us,rfl,⟨a,vs,rfl,s2 _ _ e2,RepL.mono s2 _ _ r⟩,r2⟩
 ·rename_i d e
  obtain ⟨v,e1,r⟩:=fr.sl i _ e
  refine ⟨_,e1,ρ,fr,Acc.mono (Acc.bind h) λss _ hss us H2 s2 r2=>?_⟩
  exact hss (v::us) H2 s2 ⟨_,us,rfl,Rep.mono s2 _ _ r,r2⟩
 ·exact h.elim
theorem Inv.flown {pins:List (Addr×Obj)} {σ:L2.St} {H:Hp} {s s':Shared} {E:XK} {u:Value} (I:Inv X pins σ H s) (h:CXE T X.prog X.w X.stack H s E u s'):∃c H',Inv X pins σ H' s'/\Flying T X pins c u H' s'/\E (.ref (T.ca c)) none H':=by
 obtain ⟨ea,c,H',rfl,os,bare,un,hok,⟨h1,h2,nc,oe,vs,a0,he,hc,hd,h0,ht⟩,hE⟩:=h
 have free:∀b,s.heap.get? b=none->Free X pins b:=λb hb=>by
  refine ⟨?_,λz=>?_,λx cc e z=>?_,λq hq z=>?_⟩
  ·by_cases hx:b∈X.ex
   ·exact .inl hx
   ·refine .inr ?_
    cases q:X.s₀.heap.get? b with
    | none=>rfl
    | some o=>
     obtain ⟨o',e⟩:=I.base.there b o q hx
     rw [hb] at e;cases e
  ·obtain ⟨m,⟨o,_,_,ho,_⟩,_⟩:=I.loc
   rw [<-z,hb] at ho;cases ho
  ·obtain ⟨v,o,ho,_⟩:=I.cell x cc e
   rw [z,hb] at ho;cases ho
  ·obtain ⟨e,_⟩:=I.pin q hq
   rw [z,hb] at e;cases e
 refine ⟨c,H',I.call' os un hok bare λb z=>absurd z (by simp),⟨ea,rfl,h1,free ea h2,nc,oe,vs,a0,he,hc,hd,h0,?_⟩,hE⟩
 rcases ht with ht | ⟨tb,ot,ts,t1,t2,t3,t4,t5,t6,t7⟩
 ·exact .inl ht
 ·exact .inr ⟨tb,ot,ts,t1,t2,t3,t4,t5,t6,free tb t7⟩
variable {k n:Nat} {f C:Addr} {fd:FuncData} {ps:List Str} {F:Fn} {ds:List Value} {dvs:List V} {dss:List Sl} {x m:Str} {apos:Pos} {o:Expr}
theorem j5x {pins:List (Addr×Obj)} {σ:L2.St} {H:Hp} {s:Shared} {E:Value->Shared->Prop} {Q:VK} {us:List Value} {vs:List V} {ss:List Sl} (FO:q0X X.prog X.w X.K X.mg X.base (CXE T X.prog X.w) k f fd ps (spD T X.K ps.length F)) (hr:Room k X.A) (hb:Binds X.K fd ps ds) (hd:Vals dvs ds)
 (I:Inv (X.wish E) pins σ H s) (r:Vals vs us) (ha:ArgsOk T X.K H (vs++dvs) ss) (hl:(us++ds).length=ps.length) (h:Acc T X E σ H (F ss) (λr=>∀v H',Same H H'->q6n T X.K H H' v r->Q v H')) :
 wpAny (model X.prog X.w) X.A (call (.ref f) us) (EP (X.wish E) pins σ Q) E s:=by
 have r2:Vals (vs++dvs) (us++ds):=r.append hd
 have IX:Inv X pins σ H s:=I.unwish
 let EX:XK:=λcls _ H'=>∃c,cls=.ref (T.ca c)/\F ss=.exc c/\Same H H'
 refine wpAny_call (codeAny_mono (FO.run X.A X.stack s H ⟨us,[]⟩ (us++ds) (vs++dvs) Q EX hr IX.env0 (hb s us IX.kIn hl) r2 ⟨ss,ha,r2.length.trans hl,?_⟩) λres s' hq=>?_)
 ·cases e:F ss with
  | ok r=>rw [e] at h;exact h
  | exc c=>exact λH' hs=>⟨c,rfl,e,hs⟩
  | bad=>rw [e] at h;exact h.elim
 ·cases res with
  | error ev=>
   obtain ⟨c,H',I',fl,c',ec,eF,hs⟩:=Inv.flown IX hq
   rw [eF] at h
   refine h pins s' ev H' I' hs ?_
   obtain ⟨ea,rfl,h1,h2,nc,oe,vs',a0,he,hc,rest⟩:=fl
   exact ⟨ea,rfl,h1,h2,nc,oe,vs',a0,he,hc.trans ec,rest⟩
  | ok fl=>
   cases fl with
   | ret u=>
    obtain ⟨v,H',I',rv,q⟩:=IX.after hq
    exact ⟨v,H',I'.wish E,rv,q⟩
   | next=>exact False.elim hq
   | brk=>exact False.elim hq
   | cont=>exact False.elim hq
@[simp] noncomputable def q8n (F:Fn) (dss:List Sl) (fs:Ro->Out (List Sl)) (ρ:Ro):Out Rv:=(fs ρ).bind λss=>if ss.length+dss.length=n then F (ss++dss) else .bad
theorem q0n (FO:q0X X.prog X.w X.K X.mg X.base (CXE T X.prog X.w) k f fd ps (spD T X.K ps.length F)) (hr:Room k X.A) (hg:Gl X x) (hm:X.mg x=some (.ref f)) (hk:PySem.W.keepIn X.K (.ref f)=true) (hb:Binds X.K fd ps ds) (hd:Vals dvs ds)
 (hds:∀H,ArgsOk T X.K H dvs dss) (hn:n=ps.length) (ha:DG T X (e::es) fs) (hdb:(x==("__debug__" : Str))=false:=by decide) (he:starEach (e::es) X.env=(false,eval e X.env)::starEach es X.env:=by exact q0q rfl) (hpl:(backTo pos (starEach es X.env)).any (·.1)=false:=by exact q0r rfl) :
 DR T X (.Call (.Name x p) (e::es) [] pos) (q8n (n:=n) F dss fs):=.mk λG E hp=>by
 rintro pins s σ H Q I ⟨ρ,fr,h⟩
 refine wpAny_Call_Name_kw (q1E (X:=X.wish E) I hg hm ?_ hdb)
 refine PySem.W.callWith_K (h₀:=X.base) I.ok.mod.kin hk (thn (ha.run G E hp pos pins s σ H (λvs H1=>∃ss,ArgsOk T X.K H1 vs ss/\ss.length+dss.length=n/\Same H H1/\Acc T X E σ H1 (F (ss++dss)) (λr=>∀v H',Same H1 H'->q6n T X.K H1 H' v r->Q v H')) I ⟨ρ,fr,?_⟩) λus s1 ⟨vs,H1,I1,r,ss,ha1,hl1,s1',q⟩=>⟨I1.kIn,?_⟩) he hpl
 ·refine Acc.mono (Acc.bind h) λss _ hss vs H1 s1 r1=>?_
  by_cases hl:ss.length+dss.length=n
  ·rw [if_pos hl] at hss
   exact ⟨ss,r1,hl,s1,Acc.mono (Acc.heap s1 hss) λr _ hr' v H' s2 r2=>hr' v H' (s1.trans s2) (q4e s1 r2)⟩
  ·rw [if_neg hl] at hss;exact hss.elim
 ·have la:=ArgsOk.length ss vs ha1
  have lr:=r.length
  have ld:=ArgsOk.length dss dvs (hds H1)
  have lv:=hd.length
  exact j5x (X:=X) FO hr hb hd I1 r (ArgsOk.append _ _ _ _ ha1 (hds H1)) (by simp only [List.length_append,List.nil_append];omega) q
end
theorem Inv.freeze {X:Cx} {pins:List (Addr×Obj)} {σ:L2.St} {H:Hp} {s:Shared} {a:Addr} {vs:List V} (I:Inv X pins σ H s) (h:H a=some (.lst vs)):∃o,Inv X pins σ (upd H a (.frz o (.lst vs))) s:=by
 obtain ⟨z,its,n,r,e⟩:=I.hok a _ h
 refine ⟨{ cls:=.type "list",data:=.seq its.toArray n },I.un (H':=upd H a (.frz { cls:=.type "list",data:=.seq its.toArray n } (.lst vs))) (h':=s.heap) (t':=s.toks) ⟨λb o q _ _ _=>q,λb o q _ _ _=>⟨o.slots,q⟩,λb o q n' _=>?_,λb o q _=>⟨o,q⟩,λb xs q=>?_,λb o u q=>?_,λb ps q=>⟨#[],?_⟩⟩ λb u q=>?_⟩
 ·rw [q0d (λz=>by rw [z,h] at n';cases n')];exact n'
 ·rw [q0d (λz=>by rw [z,h] at q;cases q)];exact q
 ·rw [q0d (λz=>by rw [z,h] at q;cases q)];exact q
 ·rw [q0d (λz=>by rw [z,h] at q;cases q),q];simp
 ·have own:∀b y,H b=some (.own y)->upd H a (.frz { cls:=.type "list",data:=.seq its.toArray n } (.lst vs)) b=some (.own y):=λb y q=>by
   rw [q0d (λz=>by rw [z,h] at q;cases q)];exact q
  have tup:∀b xs,H b=some (.tup xs)->upd H a (.frz { cls:=.type "list",data:=.seq its.toArray n } (.lst vs)) b=some (.tup xs):=λb y q=>by
   rw [q0d (λz=>by rw [z,h] at q;cases q)];exact q
  by_cases hb:b=a
  ·subst hb
   rw [q0j] at q;cases q
   exact ⟨e,(I.hok _ _ h).stay (λ_ _ _ q=>q) (λc=>own c _) tup⟩
  ·rw [q0d hb] at q
   exact (I.hok b u q).stay (λ_ _ _ q=>q) (λc=>own c _) tup
theorem PE.freeze {X:Cx} {e:Expr} {t:TE} (h:PE X e t):PE X e (fun σ H Q=>t σ H λv H1=>∃a vs,v=.ref a/\H1 a=some (.lst vs)/\∀o,Q v (upd H1 a (.frz o (.lst vs)))):=λpins s σ H Q I q=>
 thn (h pins s σ H _ I q) λu s1 ⟨v,H1,I1,r,a,vs,e,ha,k⟩=>by
  obtain ⟨o,I2⟩:=Inv.freeze I1 ha
  exact ⟨v,_,I2,r,k o⟩
theorem q0B {H:Hp} {a:Addr} {o:HO} (h:H a=none):Same H (upd H a o):=λb u e=>by
 rw [q0d (λz=>by rw [z,h] at e;cases e)];exact e
section
variable {T:Tb} {X:Cx} {e:Expr}
mutual
theorem Rep.froz {K:PySem.W.Frag} {H:Hp} {a:Addr} {vs:List V} {o:Obj} (h:H a=some (.lst vs)):∀(d:D) (v:V),Rep T K H d v->Rep T K (upd H a (.frz o (.lst vs))) d v
 | .non,_,q=>q
 | .bl _,_,q=>q
 | .int _,_,q=>q
 | .str _,_,q=>q
 | .tup ds,_,q=>by
  obtain ⟨b,ws,r1,r2,r3⟩:=q
  refine ⟨b,ws,r1,?_,RepL.froz h ds ws r3⟩
  rcases r2 with (r2 | ⟨o',r2⟩) | r2
  ·exact .inl (.inl (by rw [q0d (λz=>by rw [z,h] at r2;cases r2)];exact r2))
  ·exact .inl (.inr ⟨o',by rw [q0d (λz=>by rw [z,h] at r2;cases r2)];exact r2⟩)
  ·exact .inr r2
 | .lst ds,_,q=>by
  obtain ⟨b,ws,r1,r2,r3⟩:=q
  refine ⟨b,ws,r1,?_,RepL.froz h ds ws r3⟩
  rcases r2 with ⟨o',r2⟩ | r2
  ·exact .inl ⟨o',by rw [q0d (λz=>by rw [z,h] at r2;cases r2)];exact r2⟩
  ·exact .inr r2
 | .ins c ds,_,q=>by
  obtain ⟨b,dx,fs,r1,r2,r3,r4⟩:=q
  exact ⟨b,dx,fs,r1,by rw [q0d (λz=>by rw [z,h] at r2;cases r2)];exact r2,r3,RepL.froz h ds _ r4⟩
 | .exc c,_,q=>by
  obtain ⟨b,o',r1,r2,r3⟩:=q
  exact ⟨b,o',r1,by rw [q0d (λz=>by rw [z,h] at r2;cases r2)];exact r2,r3⟩
theorem RepL.froz {K:PySem.W.Frag} {H:Hp} {a:Addr} {vs:List V} {o:Obj} (h:H a=some (.lst vs)):∀(ds:List D) (us:List V),RepL T K H ds us->RepL T K (upd H a (.frz o (.lst vs))) ds us
 | [],_,q=>q
 | d::ds,_,q=>by
  obtain ⟨v,r,r1,r2,r3⟩:=q
  exact ⟨v,r,r1,Rep.froz h d v r2,RepL.froz h ds r r3⟩
end
@[simp] noncomputable def q1B (f:Ro->Out (List D)) (ρ:Ro):Out D:=(f ρ).bind λds=>.ok (.lst ds)
theorem DF.de {f:Ro->Out (List D)} (h:DF T X e f):DE T X e (q1B f):=.mk λG E hp=>by
 refine PE.imp (PE.freeze (h.run G E hp)) fun σ H Q ⟨ρ,fr,q⟩=>⟨ρ,fr,Acc.mono (Acc.bind q) λds _ hd a vs H' s1 ha ha' r=>⟨a,vs,rfl,ha',λo=>?_⟩⟩
 refine hd _ _ (λb u e=>?_) ⟨a,vs,rfl,.inl ⟨o,q0j⟩,RepL.froz ha' _ _ r⟩
 rw [q0d (λz=>by rw [z,ha] at e;cases e)];exact s1 b u e
theorem DF.dr {f:Ro->Out (List D)} (h:DF T X e f):DR T X e (fun ρ=>(f ρ).bind λds=>.ok (.fr ds)):=.mk λG E hp=>
 PE.imp (h.run G E hp) fun σ H Q ⟨ρ,fr,q⟩=>⟨ρ,fr,Acc.mono (Acc.bind q) λds _ hd a vs H' s1 ha ha' r=>hd _ _ s1 ⟨a,vs,rfl,ha',ha,r⟩⟩
@[simp] noncomputable def mkO (t:Bool) (ds:List D):D:=if t=true then .tup ds else .lst ds
@[simp] noncomputable def Rv.d:Rv->D
 | .sh d=>d
 | .fr ds=>.lst ds
 | .tf t pre ds post=>mkO t (pre++.lst ds::post)
theorem OutAt.rep {K:PySem.W.Frag} {H:Hp} {t:Bool} {a b:Addr} {vp vq ws:List V} {pre ds post:List D} {o:Obj} (e2:OutAt H t a (vp++.ref b::vq)) (r1:RepL T K H pre vp) (r2:RepL T K H post vq) (e3:H b=some (.lst ws)) (r3:RepL T K H ds ws) :
 Rep T K (upd H b (.frz o (.lst ws))) (mkO t (pre++.lst ds::post)) (.ref a):=by
 have hl:RepL T K (upd H b (.frz o (.lst ws))) (pre++.lst ds::post) (vp++.ref b::vq):=
  RepL.append _ _ _ _ (RepL.froz e3 _ _ r1) ⟨_,_,rfl,⟨b,ws,rfl,.inl ⟨o,q0j⟩,RepL.froz e3 _ _ r3⟩,RepL.froz e3 _ _ r2⟩
 have ha:OutAt (upd H b (.frz o (.lst ws))) t a (vp++.ref b::vq):=e2.keep λu q _ _=>by
  rw [q0d (λz=>by subst z;exact e2.nlst e3)];exact q
 cases t with
 | true=>exact ⟨a,_,rfl,.inl (.inl ha),hl⟩
 | false=>
  obtain ⟨o',ha⟩:=ha
  exact ⟨a,_,rfl,.inl ⟨o',ha⟩,hl⟩
@[simp] noncomputable def rD (f:Ro->Out Rv) (ρ:Ro):Out D:=(f ρ).bind λr=>.ok r.d
theorem DR.de {f:Ro->Out Rv} (h:DR T X e f):DE T X e (rD f):=.mk λG E hp=>by
 rintro pins s σ H Q I ⟨ρ,fr,q⟩
 refine thn (h.run G E hp pins s σ H (λv H1=>∃r,Same H H1/\q6n T X.K H H1 v r/\kE T X.K H Q r.d) I ⟨ρ,fr,Acc.mono (Acc.bind q) λr _ hr v H' s1 r1=>⟨r,s1,r1,hr⟩⟩) λu s1 ⟨v,H1,I1,rv,r,sm,rok,k⟩=>?_
 cases r with
 | sh d=>exact ⟨v,H1,I1,rv,k v H1 sm rok⟩
 | fr ds=>
  obtain ⟨a,vs,rfl,ha',ha,rl⟩:=rok
  obtain ⟨o,I2⟩:=Inv.freeze I1 ha'
  refine ⟨_,_,I2,rv,k _ _ (λb u e=>?_) ⟨a,vs,rfl,.inl ⟨o,q0j⟩,RepL.froz ha' _ _ rl⟩⟩
  rw [q0d (λz=>by rw [z,ha] at e;cases e)];exact sm b u e
 | tf t pre ds post=>
  obtain ⟨a,vp,b,vq,ws,rfl,e2,r1,r2,e3,e4,r3⟩:=rok
  obtain ⟨o,I2⟩:=Inv.freeze I1 e3
  refine ⟨_,_,I2,rv,k _ _ (λc u e=>?_) (e2.rep r1 r2 e3 r3)⟩
  rw [q0d (λz=>by rw [z,e4] at e;cases e)];exact sm c u e
theorem DF.dl {f:Ro->Out (List D)} (h:DF T X e f):DL T X e f:=.mk λG E hp=>
 PE.imp (h.run G E hp) fun σ H Q ⟨ρ,fr,q⟩=>⟨ρ,fr,Acc.mono q λds _ hd a vs H' s1 ha ha' r=>hd a vs H' s1 (SqL.of ha') r⟩
@[simp] noncomputable def D.toL:D->Out (List D)
 | .lst ds=>.ok ds
 | _=>.bad
@[simp] noncomputable def q2x (f:Ev) (ρ:Ro):Out (List D):=(f ρ).bind D.toL
theorem DE.dl {f:Ev} (h:DE T X e f):DL T X e (q2x f):=.mk λG E hp=>
 PE.imp (h.run G E hp) fun σ H Q ⟨ρ,fr,q⟩=>⟨ρ,fr,Acc.mono (Acc.bind q) λd _ hd v H' s1 r=>by
  cases d with
  | lst ds=>
   obtain ⟨a,vs,rfl,e2,r2⟩:=r
   exact hd a vs H' s1 e2.sq r2
  | _=>exact hd.elim⟩
end
section
variable {T:Tb} {X:Cx} {a b:Expr} {rest:List Expr} {pos:Pos} {fa fb:Ro->Out Bool} {f:Ev}
@[simp] noncomputable def D.tru:D->Out Bool
 | .non=>.ok false
 | .bl b=>.ok b
 | .int i=>.ok (i != 0)
 | .str x=>if x.length<=1000000 then .ok ((x.length:Int) != 0) else .bad
 | .tup ds=>.ok (!ds.isEmpty)
 | .lst ds=>.ok (!ds.isEmpty)
 | _=>.bad
theorem line6 {n:Nat} (h:n<=1000000):n<=sizeLine:=by rw [sizeLine_eq];omega
theorem q4t {ds:List D} {vs:List V} (h:vs.length=ds.length):(!vs.isEmpty)=!ds.isEmpty:=by
 cases ds<;>cases vs<;>simp_all
theorem j7I {H:Hp} {d:D} {v:V} {k:Bool} (r:Rep T X.K H d v) (h:d.tru=.ok k):j7c X.K v H k:=by
 cases d with
 | non=>cases r;cases h;exact rfl
 | bl b=>cases r;cases h;exact rfl
 | int i=>cases r;cases h;exact rfl
 | str x=>
  cases r
  have h':(if x.length<=1000000 then Out.ok ((x.length:Int) != 0) else .bad)=.ok k:=h
  by_cases z:x.length<=1000000
  ·rw [if_pos z] at h';cases h';exact ⟨line6 z,rfl⟩
  ·rw [if_neg z] at h';cases h'
 | tup ds=>
  obtain ⟨a,vs,rfl,e,r⟩:=r
  cases h
  exact .inr (.inl ⟨vs,e,(q4t (RepL.length _ _ r)).symm⟩)
 | lst ds=>
  obtain ⟨a,vs,rfl,e,r⟩:=r
  cases h
  exact .inl ⟨vs,e.sq,(q4t (RepL.length _ _ r)).symm⟩
 | ins c ds=>cases h
 | exc c=>cases h
@[simp] noncomputable def q9k (f:Ev) (ρ:Ro):Out Bool:=(f ρ).bind D.tru
theorem q05 (h:DE T X a f) (he:∀whole,isTrue a X.env whole=(do let v <-whole;standAt a.pos;holding [v] (truthy v)):=by intro _;rfl):DT T X a (q9k f):=.mk λG E hp=>by
 refine PT.imp (q6c (X:=X.wish E) (h.run G E hp) he) fun σ H Q ⟨ρ,fr,q⟩=>⟨ρ,fr,Acc.mono (Acc.bind q) λd _ hd v H' s1 r=>?_⟩
 cases e:d.tru with
 | ok k=>rw [e] at hd;exact ⟨k,j7I r e,hd H' s1⟩
 | exc c=>
  cases d with
  | str x=>
   have h':(if x.length<=1000000 then Out.ok ((x.length:Int) != 0) else .bad)=.exc c:=e
   by_cases z:x.length<=1000000
   ·rw [if_pos z] at h';cases h'
   ·rw [if_neg z] at h';cases h'
  | _=>cases e
 | bad=>rw [e] at hd;exact hd.elim
@[simp] noncomputable def q1Y (f:Ro->Out Bool) (ρ:Ro):Out Bool:=(f ρ).bind λb=>.ok (!b)
@[simp] noncomputable def q9m (f g:Ro->Out Bool) (ρ:Ro):Out Bool:=(f ρ).bind λb=>if b=true then .ok true else g ρ
theorem q1b (h:DT T X a fa):DT T X (.UnaryOp .Not a pos) (q1Y fa):=.mk λG E hp=>
 PT.imp (j1s (X:=X.wish E) (h.run G E hp)) fun σ H Q ⟨ρ,fr,q⟩=>⟨ρ,fr,Acc.mono (Acc.bind q) λb _ hb H' s1=>hb H' s1⟩
theorem q2c (ha:DT T X a fa):DW T X (.BoolOp .Or [a] pos) fa:=.mk λG E hp=>j3R (ha.run G E hp)
theorem q3L (ha:DT T X a fa) (hb:DW T X (.BoolOp .Or (b::rest) pos) fb):DW T X (.BoolOp .Or (a::b::rest) pos) (q9m fa fb):=.mk λG E hp=>
 PW.imp (j7n (ha.run G E hp) (hb.run G E hp)) fun σ H Q ⟨ρ,fr,q⟩=>⟨ρ,fr,Acc.mono (Acc.bind q) λb _ hb H' s1=>by
  cases b with
  | false=>exact ⟨ρ,fr.mono s1,Acc.mono (Acc.heap s1 hb) λc _ hc H2 s2=>hc H2 (s1.trans s2)⟩
  | true=>exact hb H' s1⟩
variable {ga gb:Ev}
@[simp] noncomputable def q9R (f g:Ev) (ρ:Ro):Out D:=(f ρ).bind λd=>d.toB.bind λb=>if b=true then g ρ else .ok (.bl false)
@[simp] noncomputable def j5X (f g:Ev) (ρ:Ro):Out D:=(f ρ).bind λd=>d.toB.bind λb=>if b=true then .ok (.bl true) else g ρ
@[simp] noncomputable def j4s (f:Ev) (ρ:Ro):Out D:=(f ρ).bind λd=>d.toB.bind λb=>.ok (.bl (!b))
theorem q3z {α:Type} {E:Value->Shared->Prop} {σ:L2.St} {H:Hp} {d:D} {g:Bool->Out α} {k:α->Prop} (h:Acc T X E σ H (d.toB.bind g) k):∃b,d=.bl b/\Acc T X E σ H (g b) k:=by
 cases d with
 | bl b=>exact ⟨b,rfl,h⟩
 | _=>exact h.elim
theorem q4m {op} (h:DE T X a ga):DE T X (.BoolOp op [a] pos) ga:=.mk λG E hp=>j4C (h.run G E hp)
theorem q7n (ha:DE T X a ga) (hb:DE T X (.BoolOp .And (b::rest) pos) gb):DE T X (.BoolOp .And (a::b::rest) pos) (q9R ga gb):=.mk λG E hp=>
 PE.imp (j4G (ha.run G E hp) (hb.run G E hp)) fun σ H Q ⟨ρ,fr,q⟩=>⟨ρ,fr,Acc.mono (Acc.bind q) λd _ hd v H' s1 r=>by
  obtain ⟨c,rfl,hc⟩:=q3z hd
  refine ⟨c,r,?_⟩
  cases c with
  | true=>exact ⟨ρ,fr.mono s1,Acc.mono (Acc.heap s1 hc) λc _ hc v2 H2 s2 r2=>hc v2 H2 (s1.trans s2) r2⟩
  | false=>exact hc _ H' s1 rfl⟩
theorem j3w (ha:DE T X a ga) (hb:DE T X (.BoolOp .Or (b::rest) pos) gb):DE T X (.BoolOp .Or (a::b::rest) pos) (j5X ga gb):=.mk λG E hp=>
 PE.imp (j69 (ha.run G E hp) (hb.run G E hp)) fun σ H Q ⟨ρ,fr,q⟩=>⟨ρ,fr,Acc.mono (Acc.bind q) λd _ hd v H' s1 r=>by
  obtain ⟨c,rfl,hc⟩:=q3z hd
  refine ⟨c,r,?_⟩
  cases c with
  | false=>exact ⟨ρ,fr.mono s1,Acc.mono (Acc.heap s1 hc) λc _ hc v2 H2 s2 r2=>hc v2 H2 (s1.trans s2) r2⟩
  | true=>exact hc _ H' s1 rfl⟩
theorem j4q (ha:DE T X a ga):DE T X (.UnaryOp .Not a pos) (j4s ga):=.mk λG E hp=>
 PE.imp (j4d (ha.run G E hp)) fun σ H Q ⟨ρ,fr,q⟩=>⟨ρ,fr,Acc.mono (Acc.bind q) λd _ hd v H' s1 r=>by
  obtain ⟨c,rfl,hc⟩:=q3z hd
  exact ⟨c,r,hc _ H' s1 rfl⟩⟩
end
section
variable {T:Tb} {ib:Bool} {X:Cx} {e:Expr} {st:Stmt} {sts:List Stmt} {pos pos':Pos} {f g:Ro->Fl} {fe:Ev}
theorem q0s:DSs T ib X [] Fl.nx:=.mk λG E hp=>PSs.imp q9i λD σ H ⟨ρ,fr,h⟩=>h σ H fr (Pers.refl H)
theorem q0b (h1:DS T ib X st f) (h2:DSs T ib X sts g):DSs T ib X (st::sts) (fun ρ=>(f ρ).bind g):=.mk λG E hp=>
 PSs.imp (j0a (h1.run G E hp) (h2.run G E hp)) λD σ H ⟨ρ,fr,h⟩=>⟨ρ,fr,by
  have h:AccS T ib X G E H ((f ρ).bind g) D:=h
  cases e:f ρ with
  | nx ρ'=>rw [e] at h;exact fun σ' H' fr' p=>⟨ρ',fr',AccS.heap p h⟩
  | rt r=>rw [e] at h;exact h
  | rm r c ds ks=>rw [e] at h;exact h
  | exc c ρ'=>rw [e] at h;exact h
  | bk ρ'=>rw [e] at h;exact h
  | ct ρ'=>rw [e] at h;exact h
  | bad=>rw [e] at h;exact h⟩
theorem q0e (h1:DS T ib X st f):DSs T ib X [st] f:=.mk λG E hp=>j2e (h1.run G E hp)
@[simp] noncomputable def q1U (i:Nat) (fe:Ev) (ρ:Ro):Fl:=(fe ρ).fl ρ λd=>.nx (ρ.set i (.sh d))
theorem q0D (i:Nat) {x:Str} (hN:X.N.Nodup) (he:DE T X e fe) (hi:X.N[i]?=some x:=by rfl) (hx:Loc X.env.scope x:=by walk_at "v3") (hs:swapsWith e (some (.Name x pos')) pos.line X.env=pure false:=by exact q03 rfl) (hf:X.fn x=true∨X.env.scope.names.lookup x=some .local:=by walk_at "v2")
 (hz:T.me=none∨i≠0:=by walk_at "v1") :
 DS T ib X (.Assign [.Name x pos'] e pos) (q1U i fe):=.mk λG E hp=>
 PS.imp (q9d (X:=X.wish E) hN hi hx (he.run G E hp) hs hf) λD σ H ⟨ρ,fr,h⟩=>⟨ρ,fr,Acc.mono (AccS.fl fr h) λd _ hd v H1 s1 r1=>hd _ _ ((fr.mono s1).set_sh r1 hz) (Pers.of s1)⟩
theorem q3R {K:PySem.W.Frag} {G H H1:Hp} {σ:L2.St} {ρ:Ro} {a:Addr} (fr:FR T K G H σ ρ) (s1:Same H H1) (ha:H a=none) (j:Nat) (s:Sl) (e:ρ[j]?=some s):¬q2e H1 σ[j]? a s:=λz=>by
 obtain ⟨⟨ws,q⟩,_⟩:=(fr.sl j s e).own ((fr.sl j s e).back (λa o q _ _=>s1 a o q) z)
 rw [ha] at q;cases q
@[simp] noncomputable def j4x (i:Nat) (f:Ro->Out Rv) (ρ:Ro):Fl:=(f ρ).fl ρ λr=>.nx (ρ.set i (match r with | .sh d=>.sh d | .fr ds=>.ow ds | .tf t pre ds post=>.ox t pre ds post))
theorem j2X (i:Nat) {x:Str} {f:Ro->Out Rv} (hN:X.N.Nodup) (he:DR T X e f) (hi:X.N[i]?=some x:=by rfl) (hx:Loc X.env.scope x:=by walk_at "v3") (hs:swapsWith e (some (.Name x pos')) pos.line X.env=pure false:=by exact q03 rfl) (hf:X.fn x=true∨X.env.scope.names.lookup x=some .local:=by walk_at "v2")
 (hz:T.me=none∨i≠0:=by walk_at "v1") :
 DS T ib X (.Assign [.Name x pos'] e pos) (j4x i f):=.mk λG E hp=>
 PS.imp (q9d (X:=X.wish E) hN hi hx (he.run G E hp) hs hf) λD σ H ⟨ρ,fr,h⟩=>⟨ρ,fr,Acc.mono (AccS.fl fr h) λr _ hr v H1 s1 r1=>by
  cases r with
  | sh d=>exact hr _ _ ((fr.mono s1).set_sh r1 hz) (Pers.of s1)
  | fr ds=>
   obtain ⟨a,vs,rfl,ha',ha,rl⟩:=r1
   exact hr _ _ ((fr.mono s1).set_ow ha' (fr.same.free ha) rl (λj es _ e=>q3R (H1:=H1) fr s1 ha j es e) hz) (Pers.of s1)
  | tf t pre ds post=>
   obtain ⟨a,vp,b,vq,ws,rfl,e2,q1,q2,e3,e4,q3⟩:=r1
   refine hr _ _ ((fr.mono s1).set_own (.ox t pre ds post) (λ_=>⟨a,vp,b,vq,ws,rfl,e2,q1,q2,e3,fr.same.free e4,q3⟩) (λj s c hj q o1 o2=>?_) (λ_ _ z=>by cases z) hz) (Pers.of s1)
   obtain ⟨a',us,z1,z2,z3⟩:=o1
   cases z1
   have:=e2.uniq z2
   subst this
   rw [<-RepL.length _ _ q1,List.getElem?_append_right (Nat.le_refl _),Nat.sub_self] at z3
   have z3:(some (V.ref b))=some (.ref c):=z3
   cases z3
   exact q3R (H1:=H1) fr s1 e4 j s q o2⟩
@[simp] noncomputable def sIf (t:Ro->Out Bool) (f g:Ro->Fl) (ρ:Ro):Fl:=(t ρ).fl ρ λb=>if b=true then f ρ else g ρ
theorem q0V {c:Expr} {a b:List Stmt} {ft:Ro->Out Bool} (hc:DT T X c ft) (ha:DSs T ib X a f) (hb:DSs T ib X b g):DS T ib X (.If c a b pos) (sIf ft f g):=.mk λG E hp=>
 PS.imp (j4K (hc.run G E hp) (ha.run G E hp) (hb.run G E hp)) λD σ H ⟨ρ,fr,h⟩=>⟨ρ,fr,Acc.mono (AccS.fl fr h) λb _ hb H1 s1=>by
  cases b with
  | true=>exact ⟨ρ,fr.mono s1,AccS.heap (Pers.of s1) hb⟩
  | false=>exact ⟨ρ,fr.mono s1,AccS.heap (Pers.of s1) hb⟩⟩
@[simp] noncomputable def q3m (fe:Ev) (ρ:Ro):Fl:=(fe ρ).fl ρ λd=>.rt (.sh d)
theorem q0P (he:DE T X e fe):DS T ib X (.Return (some e) pos) (q3m fe):=.mk λG E hp=>
 PS.imp (q4a (he.run G E hp)) λD σ H ⟨ρ,fr,h⟩=>⟨ρ,fr,Acc.mono (AccS.fl fr h) λd _ hd v H1 s1 r1=>hd v H1 (fr.same.trans s1) r1⟩
@[simp] noncomputable def j0A (f:Ro->Out Rv) (ρ:Ro):Fl:=(f ρ).fl ρ λr=>.rt r
theorem q4R {f:Ro->Out Rv} (he:DR T X e f):DS T ib X (.Return (some e) pos) (j0A f):=.mk λG E hp=>
 PS.imp (q4a (he.run G E hp)) λD σ H ⟨ρ,fr,h⟩=>⟨ρ,fr,Acc.mono (AccS.fl fr h) λr _ hr v H1 s1 r1=>hr v H1 (fr.same.trans s1) (q4e fr.same r1)⟩
@[simp] noncomputable def j2k (i:Nat) (ρ:Ro):Fl:=match ρ[i]? with
 | some (.ow ds)=>.rt (.fr ds)
 | some (.sh d)=>.rt (.sh d)
 | _=>.bad
theorem j3o (i:Nat) {x:Str} (hN:X.N[i]?=some x:=by rfl) (hv:Vis X.env.scope x:=by walk_at "v0") (hd:(x==("__debug__" : Str))=false:=by decide)
 (hcd:(x==("__classdict__" : Str))=false:=by decide):DS T ib X (.Return (some (.Name x pos')) pos) (j2k i):=.mk λG E hp=>
 PS.imp (q4a (q0W (X:=X.wish E) hN hv hd hcd)) λD σ H ⟨ρ,fr,h⟩=>by
  unfold j2k at h
  split at h
  ·rename_i ds e
   obtain ⟨a,vs,e1,e2,e3,r⟩:=fr.sl i _ e
   exact ⟨_,e1,h _ H fr.same ⟨a,vs,rfl,e2,e3,r⟩⟩
  ·rename_i d e
   obtain ⟨v,e1,r⟩:=fr.sl i _ e
   exact ⟨_,e1,h _ H fr.same r⟩
  ·exact h.elim
@[simp] noncomputable def q1k (fe:Ev) (ρ:Ro):Fl:=(fe ρ).fl ρ λ_=>.nx ρ
theorem q0C (he:DE T X e fe) (hs:swapsWith e none pos.line X.env=pure false:=by exact q03 rfl):DS T ib X (.Expr e pos) (q1k fe):=.mk λG E hp=>
 PS.imp (q3E (X:=X.wish E) (he.run G E hp) hs) λD σ H ⟨ρ,fr,h⟩=>⟨ρ,fr,Acc.mono (AccS.fl fr h) λd _ hd v H1 s1 r1=>hd σ H1 (fr.mono s1) (Pers.of s1)⟩
theorem j3l {K:PySem.W.Frag} {G H:Hp} {σ:L2.St} {ρ:Ro} {i:Nat} {a:Addr} {vs:List V} {s0:Sl} {d:D} {v:V} {o:Obj} (fr:FR T K G H σ ρ) (e:ρ[i]?=some s0) (oa:q2e H σ[i]? a s0) (e2:H a=some (.lst vs)) (e3:G a=none) (e1:σ[i]?=some (some v)) (r:Rep T K (upd H a (.frz o (.lst vs))) d v) :
 FR T K G (upd H a (.frz o (.lst vs))) σ (ρ.set i (.sh d)):=by
 have hl:i < ρ.length:=(List.getElem?_eq_some_iff.mp e).1
 have lt:∀{m:Nat} {z:Sl},(ρ.set i (.sh d))[m]?=some z->m=i∨(m≠i/\ρ[m]?=some z):=λ{m z} q=>by
  by_cases hm:m=i
  ·exact .inl hm
  ·rw [List.getElem?_set_ne (Ne.symm hm)] at q;exact .inr ⟨hm,q⟩
 refine ⟨λb u q=>?_,by simp [fr.len],λj s q=>?_,λj k s1 s2 b hjk q1 q2 o1 o2=>?_,fr.me,q12 (λ_ _ z=>by cases z) fr.me0⟩
 ·rw [q0d (λz=>by rw [z,e3] at q;cases q)];exact fr.same b u q
 ·rcases lt q with rfl | ⟨hj,q⟩
  ·rw [List.getElem?_set_self hl] at q;cases q
   exact ⟨_,e1,r⟩
  ·have h:=fr.sl j s q
   exact SlOk.off e2 (λ_ _=>RepL.froz e2 _ _) (λo1=>fr.ne j i _ _ a hj q e o1 oa) h
 ·have hj:j≠i:=by
   rintro rfl
   rw [List.getElem?_set_self hl] at q1;cases q1;exact o1
  have hk:k≠i:=by
   rintro rfl
   rw [List.getElem?_set_self hl] at q2;cases q2;exact o2
  rw [List.getElem?_set_ne (Ne.symm hj)] at q1
  rw [List.getElem?_set_ne (Ne.symm hk)] at q2
  have bk:∀(c:Addr) (u:HO),H c=some u->(∀xs,u≠.lst xs)->(∀x dx fs,u≠.ins x dx fs)->upd H a (.frz o (.lst vs)) c=some u:=λc u w n _=>by
   rw [q0d (λy=>by subst y;rw [e2] at w;cases w;exact n _ rfl)];exact w
  exact fr.ne j k s1 s2 b hjk q1 q2 ((fr.sl j s1 q1).back bk o1) ((fr.sl k s2 q2).back bk o2)
theorem j3W {K:PySem.W.Frag} {H:Hp} {x:Option (Option V)} {t:Bool} {a b:Addr} {vp vq:List V} {pre ds post:List D} (z1:x=some (some (.ref a))) (z2:OutAt H t a (vp++.ref b::vq)) (z3:RepL T K H pre vp):q2e H x b (.ox t pre ds post):=
 ⟨a,_,z1,z2,by rw [<-RepL.length _ _ z3,List.getElem?_append_right (Nat.le_refl _),Nat.sub_self];rfl⟩
theorem j5C {K:PySem.W.Frag} {G H:Hp} {σ:L2.St} {ρ:Ro} {i:Nat} {t:Bool} {a b:Addr} {vp vq ws:List V} {pre ds post:List D} {o:Obj} (fr:FR T K G H σ ρ) (e:ρ[i]?=some (.ox t pre ds post)) (e1:σ[i]?=some (some (.ref a))) (e2:OutAt H t a (vp++.ref b::vq)) (r1:RepL T K H pre vp) (r2:RepL T K H post vq) (e3:H b=some (.lst ws)) (e4:G b=none) (r3:RepL T K H ds ws) :
 FR T K G (upd H b (.frz o (.lst ws))) σ (ρ.set i (.sh (mkO t (pre++.lst ds::post)))):=j3l fr e (j3W e1 e2 r1) e3 e4 e1 (e2.rep r1 r2 e3 r3)
end
noncomputable def q1Q (b:Ro->D->Fl):List D->Ro->Fl
 | [],ρ=>.nx ρ
 | d::ds,ρ=>match b ρ d with
  | .nx ρ'=>q1Q b ds ρ'
  | .ct ρ'=>q1Q b ds ρ'
  | .bk ρ'=>.nx ρ'
  | o=>o
section
variable {T:Tb} {ib:Bool} {X:Cx} {tg iter:Expr} {body:List Stmt} {pos:Pos} {fb:Ro->Fl}
noncomputable def TgD (T:Tb) (X:Cx) (tg:Expr) (g:Ro->D->Out Ro):Prop:=∀(E:Value->Shared->Prop),∃tgr:TG,PG (X.wish E) tg tgr/\∀(G H:Hp) (σ:L2.St) (ρ ρ':Ro) (d:D) (v:V) (Q:L2.St->Hp->Prop),FR T X.K G H σ ρ->Rep T X.K H d v->g ρ d=.ok ρ'->(∀σ',FR T X.K G H σ' ρ'->Q σ' H)->tgr v σ H Q
@[simp] noncomputable def q3k (i:Nat) (ρ:Ro) (d:D):Out Ro:=.ok (ρ.set i (.sh d))
theorem q2q (i:Nat) {x:Str} (hN:X.N.Nodup) (hi:X.N[i]?=some x:=by rfl) (hx:Loc X.env.scope x:=by walk_at "v3") (hf:X.fn x=true∨X.env.scope.names.lookup x=some .local:=by walk_at "v2") (hz:T.me=none∨i≠0:=by walk_at "v1"):TgD T X (.Name x pos) (q3k i):=λE=>
 ⟨_,q3S (X:=X.wish E) (i:=i) hN hi hx hf,λG H σ ρ ρ' d v Q fr r e k=>by cases e;exact k _ (fr.set_sh r hz)⟩
@[simp] noncomputable def q0E (g:Ro->D->Out Ro) (fb:Ro->Fl) (ρ:Ro) (d:D):Fl:=match g ρ d with
 | .ok ρ'=>fb ρ'
 | _=>.bad
theorem j0j {G H:Hp} {E:Value->Shared->Prop} {D:Ends} {o:Fl} {N:L2.St->Hp->Prop} {k:Ro->Fl}
 (h:AccS T ib X G E H (match o with | .nx ρ'=>k ρ' | .ct ρ'=>k ρ' | .bk ρ'=>.nx ρ' | o=>o) D)
 (hN:∀ρ' σ' H',FR T X.K G H' σ' ρ'->Pers T ib H H'->AccS T ib X G E H' (k ρ') D->N σ' H'):AccS T ib X G E H o { D with nx:=N,ct:=N,bk:=D.nx }:=by
 cases o with
 | nx ρ'=>exact fun σ' H' fr p=>hN ρ' σ' H' fr p (AccS.heap p h)
 | ct ρ'=>exact fun σ' H' fr p=>hN ρ' σ' H' fr p (AccS.heap p h)
 | bk ρ'=>exact h
 | rt r=>exact h
 | rm r c ds ks=>exact h
 | exc c ρ'=>exact h
 | bad=>exact h
theorem q83 (b:Ro->D->Fl) (d:D) (ds:List D) (ρ:Ro):q1Q b (d::ds) ρ=(match b ρ d with | .nx ρ'=>q1Q b ds ρ' | .ct ρ'=>q1Q b ds ρ' | .bk ρ'=>.nx ρ' | o=>o):=rfl
theorem j0r {g:Ro->D->Out Ro} {G H:Hp} {E:Value->Shared->Prop} {DD:Ends} {N:L2.St->Hp->Prop} {σ:L2.St} {ρ:Ro} {d:D} {ds:List D} {v:V} {tgr:TG} {tb:TS}
 (hg:∀(G H:Hp) (σ:L2.St) (ρ ρ':Ro) (d:D) (v:V) (Q:L2.St->Hp->Prop),FR T X.K G H σ ρ->Rep T X.K H d v->g ρ d=.ok ρ'->(∀σ',FR T X.K G H σ' ρ'->Q σ' H)->tgr v σ H Q)
 (htb:∀DD σ H,tS T ib X G E fb DD σ H->tb DD σ H)
 (fr:FR T X.K G H σ ρ) (r:Rep T X.K H d v) (h:AccS T ib X G E H (q1Q (q0E g fb) (d::ds) ρ) DD)
 (hN:∀ρ' σ' H',FR T X.K G H' σ' ρ'->Pers T ib H H'->AccS T ib X G E H' (q1Q (q0E g fb) ds ρ') DD->N σ' H') :
 tgr v σ H fun σ2 H2=>tb { DD with nx:=N,ct:=N,bk:=DD.nx } σ2 H2:=by
 rw [q83] at h
 cases e:g ρ d with
 | ok ρ'=>
  have e2:q0E g fb ρ d=fb ρ':=by unfold q0E;rw [e]
  rw [e2] at h
  exact hg G H σ ρ ρ' d v _ fr r e fun σ' fr'=>htb _ _ _ ⟨ρ',fr',j0j h hN⟩
 | exc c=>
  have e2:q0E g fb ρ d=.bad:=by unfold q0E;rw [e]
  rw [e2] at h;exact h.elim
 | bad=>
  have e2:q0E g fb ρ d=.bad:=by unfold q0E;rw [e]
  rw [e2] at h;exact h.elim
noncomputable def Stb (K:PySem.W.Frag) (G H:Hp) (a:Addr) (vs:List V):Prop:=FzL K H a vs∨G a=some (.lst vs)
theorem Stb.sq {K:PySem.W.Frag} {G H:Hp} {a:Addr} {vs:List V} (h:Stb K G H a vs) (s:Same G H):SqL K H a vs:=by
 rcases h with h | h
 ·exact h.sq
 ·exact SqL.of (s _ _ h)
theorem Stb.pers {K:PySem.W.Frag} {G H H':Hp} {a:Addr} {vs:List V} (h:Stb K G H a vs) (p:Pers T ib H H'):Stb K G H' a vs:=by
 rcases h with h | h
 ·exact .inl (p.fz h)
 ·exact .inr h
noncomputable def tP (T:Tb) (X:Cx) (G:Hp) (E:Value->Shared->Prop) (f:Ro->Out (List D)):TE:=fun σ H Q=>∃ρ,FR T X.K G H σ ρ/\Acc T X E σ H (f ρ) (λds=>∀a vs H',Same H H'->Stb X.K G H' a vs->RepL T X.K H' ds vs->Q (.ref a) H')
structure DP (T:Tb) (X:Cx) (e:Expr) (f:Ro->Out (List D)):Prop where
 mk ::
 run:∀(G:Hp) (E:Value->Shared->Prop),PassesOwn (model X.prog X.w) X.A X.env E->PE (X.wish E) e (tP T X G E f)
theorem DE.dp {e:Expr} {f:Ev} (h:DE T X e f):DP T X e (q2x f):=.mk λG E hp=>
 PE.imp (h.run G E hp) fun σ H Q ⟨ρ,fr,q⟩=>⟨ρ,fr,Acc.mono (Acc.bind q) λd _ hd v H' s1 r=>by
  cases d with
  | lst ds=>
   obtain ⟨a,vs,rfl,e2,r2⟩:=r
   exact hd a vs H' s1 (.inl e2) r2
  | _=>exact hd.elim⟩
@[simp] noncomputable def q9l (fl:Ro->Out (List D)) (g:Ro->D->Out Ro) (fb:Ro->Fl) (ρ:Ro):Fl:=(fl ρ).fl ρ λds=>q1Q (q0E g fb) ds ρ
noncomputable def rgD (lo:Int) (n:Nat):List D:=(List.range n).map λ(k:Nat)=>D.int (lo+(k:Int))
noncomputable def tN (T:Tb) (X:Cx) (G:Hp) (E:Value->Shared->Prop) (f:Ro->Out (Int×Nat)):TI:=fun σ H R=>∃ρ,FR T X.K G H σ ρ/\Acc T X E σ H (f ρ) (λp=>∀H',Same H H'->R (Itr p.1 p.2) H')
structure DN (T:Tb) (X:Cx) (tg e:Expr) (f:Ro->Out (Int×Nat)):Prop where
 mk ::
 run:∀(G:Hp) (E:Value->Shared->Prop),PassesOwn (model X.prog X.w) X.A X.env E->PI (X.wish E) tg e (tN T X G E f)
theorem PI.imp {X:Cx} {tg e:Expr} {t t':TI} (h:PI X tg e t) (k:∀σ H R,t' σ H R->t σ H R):PI X tg e t':=λpins s σ H R I q=>h pins s σ H R I (k σ H R q)
@[simp] noncomputable def n1 (fe:Ev) (ρ:Ro):Out (Int×Nat):=(fe ρ).bind λd=>match d with
 | .int i=>if -(2 ^ 62)<=i/\i < 2 ^ 62 then .ok (0,i.toNat) else .bad
 | _=>.bad
@[simp] noncomputable def n2 (fa fe:Ev) (ρ:Ro):Out (Int×Nat):=(fa ρ).bind λd=>(fe ρ).bind λd'=>match d,d' with
 | .int i,.int j=>if (-(2 ^ 62)<=i/\i < 2 ^ 62)/\-(2 ^ 62)<=j/\j < 2 ^ 62 then .ok (i,(j-i).toNat) else .bad
 | _,_=>.bad
theorem j6g {a:Expr} {fe:Ev} {p:Pos} (hg:Gl X "range") (hm:X.mg "range" = none) (ha:DE T X a fe) (hs:starEach [a] X.env=[(false,eval a X.env)]:=by rfl):DN T X tg (.Call (.Name "range" p) [a] [] pos) (n1 fe):=.mk λG E hp=>by
 refine PI.imp (q7B (X:=X.wish E) hg hm (q0t (X:=X.wish E) (ha.run G E hp) q06 hs) hs) fun σ H R ⟨ρ,fr,h⟩=>⟨ρ,fr,Acc.mono (Acc.bind h) λd _ hd v H1 s1 r=>?_⟩
 cases d with
 | int i=>
  have hd':Acc T X E σ H (if -(2 ^ 62)<=i/\i < 2 ^ 62 then Out.ok ((0:Int),i.toNat) else .bad) (λp=>∀H',Same H H'->R (Itr p.1 p.2) H'):=hd
  by_cases z:-(2 ^ 62)<=i/\i < 2 ^ 62
  ·rw [if_pos z] at hd'
   exact ⟨i,by rw [show v=V.int i from r],z.1,z.2,hd' H1 s1⟩
  ·rw [if_neg z] at hd';exact hd'.elim
 | _=>exact hd.elim
end
section
variable {T:Tb} {X:Cx} {e a b:Expr} {es:List Expr} {pos p:Pos} {fe fa fb:Ev} {fs:Ro->Out (List D)}
@[simp] noncomputable def q0O (ρ:Ro):Out (List D):=.ok []
@[simp] noncomputable def q0o (fe:Ev) (fs:Ro->Out (List D)) (ρ:Ro):Out (List D):=(fe ρ).bind λd=>(fs ρ).bind λds=>.ok (d::ds)
theorem q0l:DA T X [] q0O:=.mk λG E hp=>PA.imp q06 fun σ H Q ⟨ρ,fr,h⟩=>h [] H (Same.refl H) rfl
theorem q0i (ha:DE T X e fe) (hr:DA T X es fs) (hs:starEach (e::es) X.env=(false,eval e X.env)::starEach es X.env:=by exact q0q rfl):DA T X (e::es) (q0o fe fs):=.mk λG E hp=>by
 refine PA.imp (q0t (X:=X.wish E) (ha.run G E hp) (hr.run G E hp) hs) fun σ H Q ⟨ρ,fr,h⟩=>?_
 refine ⟨ρ,fr,Acc.mono (Acc.bind h) λd _ hd v H1 s1 r1=>⟨ρ,fr.mono s1,Acc.mono (Acc.bind (Acc.heap s1 hd)) λds _ hds vs H2 s2 r2=>?_⟩⟩
 exact hds (v::vs) H2 (s1.trans s2) ⟨v,vs,rfl,Rep.mono s2 _ _ r1,r2⟩
noncomputable def CaD (T:Tb) (X:Cx) (f:Value) (g:List D->Out D):Prop:=∀E:Value->Shared->Prop,∃r:List V->Hp->VK->Prop,q2l (X.wish E) f r /\
 ∀(ds:List D) (vs:List V) (σ:L2.St) (H:Hp) (Q:VK),RepL T X.K H ds vs->Acc T X E σ H (g ds) (kE T X.K H Q)->r vs H Q
@[simp] noncomputable def eCB (g:List D->Out D) (fs:Ro->Out (List D)) (ρ:Ro):Out D:=(fs ρ).bind g
theorem q8O {G H:Hp} {E:Value->Shared->Prop} {σ:L2.St} {Q:VK} {g:List D->Out D} {r:List V->Hp->VK->Prop}
 (hg:∀(ds:List D) (vs:List V) (σ:L2.St) (H:Hp) (Q:VK),RepL T X.K H ds vs->Acc T X E σ H (g ds) (kE T X.K H Q)->r vs H Q) {ρ:Ro} (fr:FR T X.K G H σ ρ) (h:Acc T X E σ H (eCB g fs ρ) (kE T X.K H Q)) :
 tCB r (tA T X G E fs) σ H Q:=
 ⟨ρ,fr,Acc.mono (Acc.bind h) λds _ hd vs H1 s1 r1=>hg ds vs σ H1 Q r1 (Acc.mono (Acc.heap s1 hd) λd _ k v H2 s2 r2=>k v H2 (s1.trans s2) r2)⟩
theorem q0v {id:String} {x:Str} {g:List D->Out D} (hc:CaD T X (.builtin id) g) (hg:Gl X x) (hm:X.mg x=none) (hv:bootBuiltins x=some (.builtin id)) (ha:DA T X (e::es) fs) (hn:x≠"__name__":=by decide) (hdb:(x==("__debug__" : Str))=false:=by decide)
 (he:starEach (e::es) X.env=(false,eval e X.env)::starEach es X.env:=by exact q0q rfl) (hpl:(backTo pos (starEach es X.env)).any (·.1)=false:=by exact q0r rfl):DE T X (.Call (.Name x p) (e::es) [] pos) (eCB g fs):=.mk λG E hp=>by
 obtain ⟨r,hr,hg'⟩:=hc E
 exact PE.imp (q3U (X:=X.wish E) hr hg hm hv (ha.run G E hp) hn hdb he hpl) fun σ H Q ⟨ρ,fr,h⟩=>q8O hg' fr h
theorem q1m {TT:String} {x:Str} {g:List D->Out D} (hc:CaD T X (.type TT) g) (hg:Gl X x) (hm:X.mg x=none) (hv:bootBuiltins x=some (.type TT)) (ha:DA T X (e::es) fs) (hn:x≠"__name__":=by decide) (hdb:(x==("__debug__" : Str))=false:=by decide)
 (he:starEach (e::es) X.env=(false,eval e X.env)::starEach es X.env:=by exact q0q rfl) (hpl:(backTo pos (starEach es X.env)).any (·.1)=false:=by exact q0r rfl):DE T X (.Call (.Name x p) (e::es) [] pos) (eCB g fs):=.mk λG E hp=>by
 obtain ⟨r,hr,hg'⟩:=hc E
 exact PE.imp (q22 (X:=X.wish E) hr hg hm hv (ha.run G E hp) hn hdb he hpl) fun σ H Q ⟨ρ,fr,h⟩=>q8O hg' fr h
theorem RepL.one {K:PySem.W.Frag} {H:Hp} {d:D} {vs:List V} (h:RepL T K H [d] vs):∃v,vs=[v]/\Rep T K H d v:=by
 obtain ⟨v,r,rfl,h1,rfl⟩:=h;exact ⟨v,rfl,h1⟩
theorem RepL.two {K:PySem.W.Frag} {H:Hp} {d d':D} {vs:List V} (h:RepL T K H [d,d'] vs):∃v v',vs=[v,v']/\Rep T K H d v/\Rep T K H d' v':=by
 obtain ⟨v,r,rfl,h1,v',r',rfl,h2,rfl⟩:=h;exact ⟨v,v',rfl,h1,h2⟩
@[simp] noncomputable def j68:List D->Out D
 | [.int i,.int j]=>.ok (.int (if j < i then j else i))
 | _=>.bad
theorem j4M (hc:X.calm=true):CaD T X (.builtin "min") j68:=λE=>⟨_,q8K hc,λds vs σ H Q r h=>by
 unfold j68 at h
 split at h
 ·rename_i i j
  obtain ⟨v,v',rfl,rv,rv'⟩:=r.two
  exact ⟨i,j,by rw [show v=V.int i from rv,show v'=V.int j from rv'],h _ H (Same.refl H) rfl⟩
 ·exact h.elim⟩
@[simp] noncomputable def q4H:List D->Out D
 | [.str x]=>if x.length<=1000000 then .ok (.int x.length) else .bad
 | [.tup ds]=>.ok (.int ds.length)
 | [.lst ds]=>.ok (.int ds.length)
 | _=>.bad
theorem q1a:CaD T X (.builtin "len") q4H:=λE=>⟨_,q5X,λds vs σ H Q r h=>by
 unfold q4H at h
 split at h
 ·rename_i x
  obtain ⟨v,rfl,rv⟩:=r.one
  by_cases z:x.length<=1000000
  ·rw [if_pos z] at h
   exact ⟨v,x.length,rfl,by rw [show v=V.str x from rv];exact ⟨line6 z,rfl⟩,h _ H (Same.refl H) rfl⟩
  ·rw [if_neg z] at h;exact h.elim
 ·rename_i es
  obtain ⟨v,rfl,a,us,rfl,e,rl⟩:=r.one
  exact ⟨_,us.length,rfl,.inr ⟨us,e,rfl⟩,h _ H (Same.refl H) (by rw [RepL.length _ _ rl];exact rfl)⟩
 ·rename_i es
  obtain ⟨v,rfl,a,us,rfl,e,rl⟩:=r.one
  exact ⟨_,us.length,rfl,.inl ⟨us,e.sq,rfl⟩,h _ H (Same.refl H) (by rw [RepL.length _ _ rl];exact rfl)⟩
 ·exact h.elim⟩
@[simp] noncomputable def j0G (fl:Ro->Out (List D)) (ρ:Ro):Out D:=(fl ρ).bind λds=>.ok (.int ds.length)
theorem q15 {fl:Ro->Out (List D)} (hg:Gl X "len") (hm:X.mg "len" = none) (hl:DL T X e fl) (he:starEach [e] X.env=[(false,eval e X.env)]:=by rfl):DE T X (.Call (.Name "len" p) [e] [] pos) (j0G fl):=.mk λG E hp=>
 PE.imp (q3U (X:=X.wish E) q5X hg hm rfl (q0t (X:=X.wish E) (hl.run G E hp) q06 he) (by decide) (by decide) he rfl) fun σ H Q ⟨ρ,fr,h⟩=>⟨ρ,fr,Acc.mono (Acc.bind h) λds _ hd a vs H1 s1 sq r=>
  ⟨_,vs.length,rfl,.inl ⟨vs,sq,rfl⟩,hd _ H1 s1 (by rw [RepL.length _ _ r];exact rfl)⟩⟩
noncomputable def j18 (T:Tb):D->Value
 | .non=>.type "NoneType"
 | .bl _=>.type "bool"
 | .int _=>.type "int"
 | .str _=>.type "str"
 | .tup _=>.type "tuple"
 | .lst _=>.type "list"
 | .ins c _=>.ref (T.ca c)
 | .exc c=>.ref (T.ca c)
structure j6j (K:PySem.W.Frag) (C:Addr):Prop where
 cl:Cls K C
 ha:PySem.W.findIn K (.ref C) "__class__" = some (some (.builtin "object.__class__"))
 hn:PySem.W.specialIn K (.builtin "object.__class__") "__get__" = some (some (.builtin "getset_descriptor.__get__"))
 htk:PySem.W.takesIn K (.builtin "object.__class__")=some true
 hm:PySem.W.mroIn K C (.type "object")=some true
noncomputable def q5c (T:Tb) (K:PySem.W.Frag) (cls:Value) (g:D->Out Bool):Prop:=∀d b,g d=.ok b->PySem.W.kitOne K (j18 T d) cls=some b/\(∀c ds,d=.ins c ds->j6j K (T.ca c))/\∀c,d=.exc c->j4y K (T.ca c)
theorem j2l {pins:List (Addr×Obj)} {σ:L2.St} {H:Hp} {s:Shared} {A:Around} {E:Value->Shared->Prop} {Q:Value->Shared->Prop} {cls u:Value} {d:D} {v:V} {k:Bool} (I:Inv X pins σ H s) (rv:RelV v u) (r:Rep T X.K H d v)
 (hk:PySem.W.kitOne X.K (j18 T d) cls=some k) (hi:∀c ds,d=.ins c ds->j6j X.K (T.ca c)) (hx:∀c,d=.exc c->j4y X.K (T.ca c)) (h:∀tk,Q (.bool k) { s with toks:=tk }):wpAny (model X.prog X.w) A (call (.builtin "isinstance") [u,cls]) Q E s:=by
 cases d with
 | non=>cases r;exact q1J I rv .non hk h
 | bl y=>cases r;exact q1J I rv (.bl y) hk h
 | int i=>cases r;exact q1J I rv (.int i) hk h
 | str y=>cases r;exact q1J I rv (.str y) hk h
 | tup ds=>
  obtain ⟨a,vs,rfl,e,_⟩:=r
  cases (show u=Value.ref a from rv)
  obtain ⟨its,_,⟨o,h1,h2,_⟩,_⟩:=I.tuple e
  exact PySem.W.kia_one PySem.W.kitx_tuple I.kIn ⟨o,h1,h2⟩ hk (λz=>nomatch z) h
 | lst ds=>
  obtain ⟨a,vs,rfl,e,_⟩:=r
  cases (show u=Value.ref a from rv)
  obtain ⟨its,_,⟨o,n,h1,h2,_⟩,_⟩:=I.list e.sq
  exact PySem.W.kia_one PySem.W.kitx_list I.kIn ⟨o,h1,h2⟩ hk (λz=>nomatch z) h
 | ins c ds=>
  obtain ⟨a,dx,fs,rfl,e,_⟩:=r
  obtain ⟨cl,ha,hn,htk,hm⟩:=hi c ds rfl
  exact q1J I rv (.ins e cl ha hn htk hm) hk h
 | exc c=>
  obtain ⟨a,o,rfl,e1,e2,e3,e4⟩:=r
  cases (show u=Value.ref a from rv)
  obtain ⟨ho,_⟩:=(show ObjOk X.prog X.w H s.heap a (.frz o _) from I.hok a _ e1)
  exact PySem.W.kia_one (j0w (hx c rfl)) I.kIn ⟨o,ho,e2,e3,by rw [e4];trivial⟩ hk (λz=>nomatch z) h
@[simp] noncomputable def j3x (g:D->Out Bool) (fe:Ev) (ρ:Ro):Out D:=(fe ρ).bind λd=>(g d).bind λb=>.ok (.bl b)
theorem j0Q {c:Str} {cv:V} {clsv:Value} {g:D->Out Bool} {p2:Pos} (hg:Gl X "isinstance") (hm:X.mg "isinstance" = none) (ha:DE T X e fe) (hc:∀E,PE (X.wish E) (.Name c p2) (tC cv)) (rc:∀u,RelV cv u->u=clsv) (hi:q5c T X.K clsv g)
 (hng:∀d cc,g d≠.exc cc) (hs1:starEach [e,.Name c p2] X.env=(false,eval e X.env)::starEach [.Name c p2] X.env:=by rfl):DE T X (.Call (.Name "isinstance" p) [e,.Name c p2] [] pos) (j3x g fe):=.mk λG E hp=>by
 rintro pins s σ H Q I ⟨ρ,fr,h⟩
 refine wpAny_Call_Name_kw (q2S (X:=X.wish E) I hg hm (u:=.builtin "isinstance") rfl ?_)
 refine PyProof.Rows.callWith_builtin1 (thn ((q0t (X:=X.wish E) (ha.run G E hp) (q0t (X:=X.wish E) (hc E) q06 rfl) hs1) pos pins s σ H (λvs H1=>∃d v,vs=[v,cv]/\Same H H1/\Rep T X.K H1 d v/\Acc T X E σ H ((g d).bind λb=>.ok (.bl b)) (kE T X.K H Q)) I ⟨ρ,fr,Acc.mono (Acc.bind h) λd _ hd v H1 s1 r1=>⟨d,v,rfl,s1,r1,hd⟩⟩) λus s1 ⟨vs,H1,I1,rvs,d,v,ev,sm,rd,hd⟩=>?_) hs1 rfl
 subst ev
 obtain ⟨u,u',rfl,r1,r2⟩:=Vals.two rvs
 obtain rfl:=rc u' r2
 cases e1:g d with
 | ok k=>
  rw [e1] at hd
  obtain ⟨z1,z2,z3⟩:=hi d k e1
  exact j2l (X:=X.wish E) I1 r1 rd z1 z2 z3 λtk=>⟨.bl k,H1,I1.tok _,rfl,hd _ H1 sm rfl⟩
 | exc cc=>exact absurd e1 (hng d cc)
 | bad=>rw [e1] at hd;exact hd.elim
@[simp] noncomputable def atD (ds:List D) (i:Int):Out D:=match atI ds i with
 | some d=>.ok d
 | none=>.bad
theorem RepL.at {K:PySem.W.Frag} {H:Hp} {ds:List D} {vs:List V} {i:Int} {d:D} (r:RepL T K H ds vs) (h:atI ds i=some d):∃v,atI vs i=some v/\Rep T K H d v:=by
 obtain ⟨j,e1,e2,e3,e4,e5⟩:=q3F h
 obtain ⟨v,e6,e7⟩:=RepL.get _ _ _ _ r e2
 refine ⟨v,?_,e7⟩
 have hl:=RepL.length _ _ r
 unfold atI at h ⊢
 rw [hl]
 cases z:ixN ds.length i with
 | none=>rw [z] at h;cases h
 | some k=>
  have:k=j:=by
   have:=(q3M z).1
   rw [e1] at this;exact (Option.some.inj this).symm
  subst this
  exact e6
@[simp] noncomputable def ixD:D->D->Out D
 | .tup ds,.int i=>atD ds i
 | .lst ds,.int i=>atD ds i
 | .str z,.int i=>if z.length<=1000000 then (match atI z.cps.toList i with | some c=>.ok (.str ⟨#[c]⟩) | none=>.bad) else .bad
 | _,_=>.bad
theorem q00 (ha:DE T X a fa) (hb:DE T X b fb) (hs:q1V b:=by exact λ_ _=>rfl):DE T X (.Subscript a b pos) (e2 ixD fa fb):=.mk λG E hp=>by
 refine PE.imp (q6H (X:=X.wish E) (IxR.or (IxR.or q2h j30) j4S) (ha.run G E hp) (hb.run G E hp) hs) fun σ H Q ⟨ρ,fr,h⟩=>q59 (T:=T) (g:=ixD) (λdx dy x y σ H Q rx ry q=>?_) fr h
 have key:∀(ds:List D) (i:Int) (vs:List V),RepL T X.K H ds vs->Acc T X E σ H (atD ds i) (kE T X.K H Q)->∃v,atI vs i=some v/\Q v H:=λds i vs r q=>by
  unfold atD at q
  split at q
  ·rename_i d e
   obtain ⟨v,e1,rd⟩:=r.at e
   exact ⟨v,e1,q v H (Same.refl H) rd⟩
  ·exact q.elim
 cases dy with
 | int i=>
  cases dx with
  | tup ds=>
   obtain ⟨a,vs,rfl,sq,r⟩:=rx
   obtain ⟨v,e1,q⟩:=key ds i vs r q
   exact .inl (.inr ⟨a,vs,i,v,rfl,ry,sq,e1,q⟩)
  | lst ds=>
   obtain ⟨a,vs,rfl,sq,r⟩:=rx
   obtain ⟨v,e1,q⟩:=key ds i vs r q
   exact .inl (.inl ⟨a,vs,i,v,rfl,ry,sq.sq,e1,q⟩)
  | str z=>
   have q':Acc T X E σ H (if z.length<=1000000 then (match atI z.cps.toList i with | some c=>.ok (.str ⟨#[c]⟩) | none=>.bad) else .bad) (kE T X.K H Q):=q
   by_cases hz:z.length<=1000000
   ·rw [if_pos hz] at q'
    split at q'
    ·rename_i c e
     exact .inr ⟨z,i,c,rx,ry,line6 hz,e,q' _ H (Same.refl H) rfl⟩
    ·exact q'.elim
   ·rw [if_neg hz] at q';exact q'.elim
  | _=>exact q.elim
 | _=>first | exact q.elim | (cases dx<;>exact q.elim)
@[simp] noncomputable def j50 (fl:Ro->Out (List D)) (fb:Ev) (ρ:Ro):Out D:=(fl ρ).bind λds=>(fb ρ).bind λd=>match d with
 | .int i=>atD ds i
 | _=>.bad
theorem q7i {fl:Ro->Out (List D)} (ha:DL T X a fl) (hb:DE T X b fb) (hs:q1V b:=by exact λ_ _=>rfl):DE T X (.Subscript a b pos) (j50 fl fb):=.mk λG E hp=>by
 refine PE.imp (q6H (X:=X.wish E) q2h (ha.run G E hp) (hb.run G E hp) hs) fun σ H Q ⟨ρ,fr,h⟩=>⟨ρ,fr,Acc.mono (Acc.bind h) λds _ hd a vs H1 s1 sq r=>⟨ρ,fr.mono s1,Acc.mono (Acc.bind (Acc.heap s1 hd)) λd _ hd2 v H2 s2 r2=>?_⟩⟩
 cases d with
 | int i=>
  have hd3:Acc T X E σ H1 (atD ds i) (kE T X.K H Q):=hd2
  unfold atD at hd3
  split at hd3
  ·rename_i d e
   obtain ⟨w,e1,rd⟩:=(RepL.mono s2 _ _ r).at e
   exact ⟨a,vs,i,w,rfl,r2,s2.seq sq,e1,hd3 w H2 (s1.trans s2) rd⟩
  ·exact hd3.elim
 | _=>exact hd2.elim
@[simp] noncomputable def j1S (fs:Ro->Out (List D)) (ρ:Ro):Out D:=(fs ρ).bind λds=>if ds.length<=1000000 then .ok (.tup ds) else .bad
theorem q2G {x1} (h:DA T X es fs):DE T X (.Tuple es x1 pos) (j1S fs):=.mk λG E hp=>
 PE.imp (j10 (X:=X.wish E) (h.run G E hp)) fun σ H Q ⟨ρ,fr,q⟩=>⟨ρ,fr,Acc.mono (Acc.bind q) λds _ hd vs H1 s1 r=>by
  have hl:=RepL.length _ _ r
  by_cases z:ds.length<=1000000
  ·rw [if_pos z] at hd
   exact ⟨by rw [hl];exact line6 z,λp hp'=>hd _ _ (s1.trans (q0B hp')) ⟨p,vs,rfl,SqT.of q0j,RepL.mono (q0B hp') _ _ r⟩⟩
  ·rw [if_neg z] at hd;exact hd.elim⟩
@[simp] noncomputable def q09 (fs:Ro->Out (List D)) (ρ:Ro):Out (List D):=(fs ρ).bind λds=>if ds.length<=1000000 then .ok ds else .bad
theorem q0T (h:DA T X es fs):DF T X (.List es pos) (q09 fs):=.mk λG E hp=>
 PE.imp (j1k (X:=X.wish E) (h.run G E hp)) fun σ H Q ⟨ρ,fr,q⟩=>⟨ρ,fr,Acc.mono (Acc.bind q) λds _ hd vs H1 s1 r=>by
  have hl:=RepL.length _ _ r
  by_cases z:ds.length<=1000000
  ·rw [if_pos z] at hd
   exact ⟨by rw [hl];exact line6 z,λp hp'=>hd p vs _ (s1.trans (q0B hp')) (s1.free hp') q0j (RepL.mono (q0B hp') _ _ r)⟩
  ·rw [if_neg z] at hd;exact hd.elim⟩
@[simp] noncomputable def j3L:D->D->Out D
 | .int i,.int j=>.ok (.int (i+j))
 | .str x,.str y=>if x.length+y.length<=1000000 then .ok (.str (x++y)) else .bad
 | _,_=>.bad
theorem q0M:OpD T X (binaryOp .Add) j3L:=λE=>⟨_,OpR.or j5q q6K,λdx dy x y σ H Q rx ry q=>by
 cases dx with
 | int i=>
  cases dy with
  | int j=>exact .inl ⟨i,j,rx,ry,q _ H (Same.refl H) rfl⟩
  | _=>exact q.elim
 | str u=>
  cases dy with
  | str v=>
   have q':Acc T X E σ H (if u.length+v.length<=1000000 then .ok (.str (u++v)) else .bad) (kE T X.K H Q):=q
   by_cases z:u.length+v.length<=1000000
   ·rw [if_pos z] at q'
    exact .inr ⟨u,v,rx,ry,line6 z,q' _ H (Same.refl H) rfl⟩
   ·rw [if_neg z] at q';exact q'.elim
  | _=>exact q.elim
 | _=>first | exact q.elim | (cases dy<;>exact q.elim)⟩
@[simp] noncomputable def eqS:D->D->Out Bool
 | .int i,.int j=>.ok (decide (i=j))
 | .bl i,.bl j=>.ok (decide (i=j))
 | .str i,.str j=>.ok (decide (i=j))
 | .non,.non=>.ok true
 | _,_=>.bad
@[simp] noncomputable def bD (neg:Bool) (o:Out Bool):Out D:=o.bind λb=>.ok (.bl (if neg then !b else b))
theorem j1t (neg:Bool) (op:CmpOp) (ho:∀E,OpR (X.wish E) (compareOp op) (λx y H Q=>scal x y=true/\Q (.bl (if neg then !decide (x=y) else decide (x=y))) H)):OpD T X (compareOp op) (λa b=>bD neg (eqS a b)):=λE=>⟨_,ho E,λdx dy x y σ H Q rx ry q=>by
 have key:∀(k:Bool),scal x y=true->decide (x=y)=k->eqS dx dy=.ok k->scal x y=true/\Q (.bl (if neg then !decide (x=y) else decide (x=y))) H:=λk h1 h2 h3=>by
  have q':Acc T X E σ H (bD neg (eqS dx dy)) (kE T X.K H Q):=q
  rw [h3] at q'
  refine ⟨h1,?_⟩
  rw [h2]
  exact q' _ H (Same.refl H) rfl
 cases dx with
 | int i=>
  cases dy with
  | int j=>cases rx;cases ry;exact key _ rfl (by simp) rfl
  | _=>exact q.elim
 | bl i=>
  cases dy with
  | bl j=>cases rx;cases ry;exact key _ rfl (by simp) rfl
  | _=>exact q.elim
 | str i=>
  cases dy with
  | str j=>cases rx;cases ry;exact key _ rfl (by simp) rfl
  | _=>exact q.elim
 | non=>
  cases dy with
  | non=>cases rx;cases ry;exact key true rfl (by simp) rfl
  | _=>exact q.elim
 | _=>first | exact q.elim | (cases dy<;>exact q.elim)⟩
theorem q2o:OpD T X (compareOp .Eq) (λa b=>bD false (eqS a b)):=j1t false .Eq λE=>j60
theorem q9Z:OpD T X (compareOp .NotEq) (λa b=>bD true (eqS a b)):=j1t true .NotEq λE=>j7h
end
section
variable {T:Tb} {X:Cx} {e:Expr} {pos p:Pos} {fe:Ev}
theorem q4N {c:Str} {t:String} {g:D->Out Bool} {p2:Pos} (hg:Gl X "isinstance") (hm:X.mg "isinstance" = none) (ha:DE T X e fe) (hgc:Gl X c) (hmc:X.mg c=none) (hv:bootBuiltins c=some (.type t)) (hi:q5c T X.K (.type t) g)
 (hng:∀d cc,g d≠.exc cc) (hs1:starEach [e,.Name c p2] X.env=(false,eval e X.env)::starEach [.Name c p2] X.env:=by rfl) (hn:c≠"__name__":=by decide) (hd:(c==("__debug__" : Str))=false:=by decide):DE T X (.Call (.Name "isinstance" p) [e,.Name c p2] [] pos) (j3x g fe):=
 j0Q (cv:=.ty t) (clsv:=.type t) hg hm ha (λE=>j25 (X:=X.wish E) hgc hmc hv rfl hn hd) (λu r=>r) hi hng hs1
@[simp] noncomputable def j3E:D->Out Bool
 | .int _=>.ok true
 | .bl _=>.ok true
 | .non=>.ok false
 | .str _=>.ok false
 | .tup _=>.ok false
 | .lst _=>.ok false
 | _=>.bad
@[simp] noncomputable def q8t:D->Out Bool
 | .bl _=>.ok true
 | .int _=>.ok false
 | .non=>.ok false
 | .str _=>.ok false
 | .tup _=>.ok false
 | .lst _=>.ok false
 | _=>.bad
@[simp] noncomputable def q7t:D->Out Bool
 | .lst _=>.ok true
 | .bl _=>.ok false
 | .int _=>.ok false
 | .non=>.ok false
 | .str _=>.ok false
 | .tup _=>.ok false
 | _=>.bad
theorem j2N {K:PySem.W.Frag}:q5c T K (.type "int") j3E:=λd b h=>by
 cases d<;>first | (cases h;exact ⟨(by with_unfolding_all rfl),(λ_ _ z=>by cases z),(λ_ z=>by cases z)⟩) | (cases h)
theorem q99 {K:PySem.W.Frag}:q5c T K (.type "bool") q8t:=λd b h=>by
 cases d<;>first | (cases h;exact ⟨(by with_unfolding_all rfl),(λ_ _ z=>by cases z),(λ_ z=>by cases z)⟩) | (cases h)
theorem q9Y {K:PySem.W.Frag}:q5c T K (.type "list") q7t:=λd b h=>by
 cases d<;>first | (cases h;exact ⟨(by with_unfolding_all rfl),(λ_ _ z=>by cases z),(λ_ z=>by cases z)⟩) | (cases h)
theorem q6Y (d:D) (c:Nat):j3E d≠.exc c:=by cases d<;>(intro h;cases h)
theorem q41 (d:D) (c:Nat):q8t d≠.exc c:=by cases d<;>(intro h;cases h)
theorem q45 (d:D) (c:Nat):q7t d≠.exc c:=by cases d<;>(intro h;cases h)
end
theorem q77 {a:Int} (h:a.natAbs.log2 < 1920):(Str.ofString (toString a)).length<=1921:=by
 have e:=int_text_length_le (k:=1920) (by decide) h
 rw [PySem.ofString_length];exact e
@[simp] noncomputable def q43:D->Out Str
 | .int i=>if i.natAbs.log2 < 1920 then .ok (toString i) else .bad
 | .str x=>if x.length<=200000 then .ok x else .bad
 | _=>.bad
@[simp] noncomputable def q7N:D->Out Str
 | .int i=>if i.natAbs.log2 < 1920 then .ok (toString i) else .bad
 | .str x=>if (reprText x).length<=200000 then .ok (reprText x) else .bad
 | _=>.bad
section
variable {T:Tb} {X:Cx} {e v:Expr} {es:List Expr} {pos p:Pos} {fe:Ev} {fs:Ro->Option (List Str)}
theorem j26 {M:Program} {w:World} {A:Around} {E:Value->Shared->Prop} {pins:List (Addr×Obj)} {σ:L2.St} {H:Hp} {s:Shared} {d:D} {x:V} {u:Value} {y:Str} {Q:Value->Shared->Prop} (r:Rep T X.K H d x) (rv:RelV x u) (e:q43 d=.ok y) (k:∀t tk,y.length<=200000->Q (.str y t) { s with toks:=tk }) :
 wpAny (model M w) A (formatField u Str.empty) Q E s:=by
 cases d with
 | int i=>
  obtain rfl:x=V.int i:=r
  obtain ⟨t,rfl⟩:=rv
  have e':(if i.natAbs.log2 < 1920 then Out.ok (toString i:Str) else .bad)=.ok y:=e
  by_cases z:i.natAbs.log2 < 1920
  ·rw [if_pos z] at e'
   cases e'
   exact formatField_int_small z (k _ _ (by have:=q77 z;omega))
  ·rw [if_neg z] at e';cases e'
 | str z=>
  obtain rfl:x=V.str z:=r
  obtain ⟨t,rfl⟩:=rv
  have e':(if z.length<=200000 then Out.ok z else .bad)=.ok y:=e
  by_cases h:z.length<=200000
  ·rw [if_pos h] at e'
   cases e'
   exact formatField_str (λt' tk=>k t' tk h) (by rw [sizeLine_eq];omega)
  ·rw [if_neg h] at e';cases e'
 | _=>cases e
theorem j0q {M:Program} {w:World} {A:Around} {E:Value->Shared->Prop} {σ:L2.St} {H:Hp} {s:Shared} {d:D} {x:V} {u:Value} {y:Str} {Q:Value->Shared->Prop} (r:Rep T X.K H d x) (rv:RelV x u) (e:q7N d=.ok y) (k:∀t tk,y.length<=200000->Q (.str y t) { s with toks:=tk }) :
 wpAny (model M w) A (pyReprObj u) (λr s₂=>wpAny (model M w) A (formatField r Str.empty) Q E s₂) E s:=by
 have fin:∀(y:Str) (t:Tok) (tk:Nat),y.length<=200000->(∀t tk,y.length<=200000->Q (.str y t) { s with toks:=tk })->wpAny (model M w) A (formatField (.str y t) Str.empty) Q E { s with toks:=tk }:=λy t tk hy k=>formatField_str (λt' tk'=>k t' tk' hy) (by rw [sizeLine_eq];omega)
 cases d with
 | int i=>
  obtain rfl:x=V.int i:=r
  obtain ⟨t,rfl⟩:=rv
  have e':(if i.natAbs.log2 < 1920 then Out.ok (toString i:Str) else .bad)=.ok y:=e
  by_cases z:i.natAbs.log2 < 1920
  ·rw [if_pos z] at e'
   cases e'
   exact pyReprObj_int z (fin _ _ _ (by have:=q77 z;omega) k)
  ·rw [if_neg z] at e';cases e'
 | str z=>
  obtain rfl:x=V.str z:=r
  obtain ⟨t,rfl⟩:=rv
  have e':(if (reprText z).length<=200000 then Out.ok (reprText z) else .bad)=.ok y:=e
  by_cases h:(reprText z).length<=200000
  ·rw [if_pos h] at e'
   cases e'
   exact pyReprObj_str (fin _ _ _ h k) (by rw [sizeLine_eq];omega)
  ·rw [if_neg h] at e';cases e'
 | _=>cases e
structure DJ (T:Tb) (X:Cx) (es:List Expr) (f:Ro->Option (List Str)):Prop where
 mk ::
 run:∀(G:Hp) (E:Value->Shared->Prop),PassesOwn (model X.prog X.w) X.A X.env E->∀(pins:List (Addr×Obj)) (s:Shared) (σ:L2.St) (H:Hp) (acc:Str) (Q:Str->Shared->Prop),Inv (X.wish E) pins σ H s ->
 (∃ρ xs,FR T X.K G H σ ρ/\f ρ=some xs/\acc.length+200000*xs.length<=sizeLine/\∀H' s',Same H H'->Inv (X.wish E) pins σ H' s'->(xs.foldl (·++·) acc).length<=acc.length+200000*xs.length->Q (xs.foldl (·++·) acc) s') ->
 Joins (model X.prog X.w) X.A E (evalEach es X.env) acc Q s
@[simp] noncomputable def jN0 (ρ:Ro):Option (List Str):=some []
@[simp] noncomputable def q4L (x:Str) (fs:Ro->Option (List Str)) (ρ:Ro):Option (List Str):=if x.length<=200000 then (match fs ρ with | some xs=>some (x::xs) | none=>none) else none
@[simp] noncomputable def q3l (g:D->Out Str) (fe:Ev) (fs:Ro->Option (List Str)) (ρ:Ro):Option (List Str):=match (fe ρ).bind g with
 | .ok x=>(match fs ρ with | some xs=>some (x::xs) | none=>none)
 | _=>none
theorem q2a:DJ T X [] jN0:=.mk λG E hp pins s σ H acc Q I ⟨ρ,xs,fr,e,_,h⟩=>by
 cases e
 exact h H s (Same.refl H) I (by simp)
theorem q3H {G:Hp} {E:Value->Shared->Prop} (hp:PassesOwn (model X.prog X.w) X.A X.env E) {pins:List (Addr×Obj)} {s:Shared} {σ:L2.St} {H H1:Hp} {acc x:Str} {Q:Str->Shared->Prop} {t:Tok} {ρ:Ro} {xs:List Str} (hr:DJ T X es fs) (I:Inv (X.wish E) pins σ H1 s) (fr:FR T X.K G H1 σ ρ) (s1:Same H H1) (hx:x.length<=200000)
 (ef:fs ρ=some xs) (z:acc.length+200000*(x::xs).length<=sizeLine) (k:∀H' s',Same H H'->Inv (X.wish E) pins σ H' s'->((x::xs).foldl (·++·) acc).length<=acc.length+200000*(x::xs).length->Q ((x::xs).foldl (·++·) acc) s') :
 ∃y t',(Value.str x t)=.str y t'/\(acc++y).length<=sizeLine/\Joins (model X.prog X.w) X.A E (evalEach es X.env) (acc++y) Q s:=by
 have hl:(acc++x).length=acc.length+x.length:=strLen_append acc x
 rw [List.length_cons] at z k
 refine ⟨x,t,rfl,by rw [hl];omega,hr.run G E hp pins s σ H1 (acc++x) Q I ⟨ρ,xs,fr,ef,by rw [hl];omega,λH' s' s2 I' hz=>?_⟩⟩
 have hz':(List.foldl (·++·) acc (x::xs)).length<=acc.length+200000*(xs.length+1):=by
  rw [List.foldl_cons];rw [hl] at hz;omega
 exact k H' s' (s1.trans s2) I' hz'
theorem q1d {x:Str} {j:Nat} (hr:DJ T X es fs):DJ T X (.Constant (.str x) j pos::es) (q4L x fs):=.mk λG E hp pins s σ H acc Q I ⟨ρ,ys,fr,e,z,k⟩=>by
 simp only [q4L] at e
 by_cases hx:x.length<=200000
 ·rw [if_pos hx] at e
  cases ef:fs ρ with
  | none=>rw [ef] at e;cases e
  | some xs=>
   rw [ef] at e
   cases e
   exact Calls.Constant_str (q3H hp hr (I.tok _) fr (Same.refl H) hx ef z k)
 ·rw [if_neg hx] at e;cases e
theorem q5T {g:D->Out Str} {ρ:Ro} {ys:List Str} (e:q3l g fe fs ρ=some ys):∃d x xs,fe ρ=.ok d/\g d=.ok x/\fs ρ=some xs/\ys=x::xs:=by
 simp only [q3l] at e
 cases ed:fe ρ with
 | ok d=>
  rw [ed] at e
  cases eg:g d with
  | ok x=>
   simp only [Out.ok_bind,eg] at e
   cases ef:fs ρ with
   | some xs=>rw [ef] at e;cases e;exact ⟨d,x,xs,rfl,eg,rfl,rfl⟩
   | none=>rw [ef] at e;cases e
  | exc c=>simp only [Out.ok_bind,eg] at e;cases e
  | bad=>simp only [Out.ok_bind,eg] at e;cases e
 | exc c=>rw [ed] at e;cases e
 | bad=>rw [ed] at e;cases e
theorem q1n (he:DE T X v fe) (hr:DJ T X es fs):DJ T X (.FormattedValue v (-1) none pos::es) (q3l q43 fe fs):=.mk λG E hp pins s σ H acc Q I ⟨ρ,ys,fr,e,z,k⟩=>by
 obtain ⟨d,x,xs,ed,eg,ef,rfl⟩:=q5T e
 refine FormattedValue_plain (thn (he.run G E hp pins s σ H (λw H1=>Same H H1/\Rep T X.K H1 d w) I ⟨ρ,fr,?_⟩) λu s1 ⟨w,H1,I1,rv,sm,rd⟩=>?_)
 ·rw [ed];exact λw H1 sm rd=>⟨sm,rd⟩
 ·exact j26 (X:=X) (pins:=pins) (σ:=σ) rd rv eg λt tk hx=>q3H hp hr (I1.tok _) (fr.mono sm) sm hx ef z k
theorem q5b (he:DE T X v fe) (hr:DJ T X es fs):DJ T X (.FormattedValue v 114 none pos::es) (q3l q7N fe fs):=.mk λG E hp pins s σ H acc Q I ⟨ρ,ys,fr,e,z,k⟩=>by
 obtain ⟨d,x,xs,ed,eg,ef,rfl⟩:=q5T e
 refine wpAny_FormattedValue_repr (thn (he.run G E hp pins s σ H (λw H1=>Same H H1/\Rep T X.K H1 d w) I ⟨ρ,fr,?_⟩) λu s1 ⟨w,H1,I1,rv,sm,rd⟩=>?_)
 ·rw [ed];exact λw H1 sm rd=>⟨sm,rd⟩
 ·exact j0q (X:=X) (σ:=σ) rd rv eg λt tk hx=>q3H hp hr (I1.tok _) (fr.mono sm) sm hx ef z k
@[simp] noncomputable def eJ (fs:Ro->Option (List Str)) (ρ:Ro):Out D:=match fs ρ with
 | some xs=>if xs.length<=20 then .ok (.str (xs.foldl (·++·) Str.empty)) else .bad
 | none=>.bad
theorem q1v {v1 v2:Expr} (h:DJ T X (v1::v2::es) fs):DE T X (.JoinedStr (v1::v2::es) pos) (eJ fs):=.mk λG E hp=>by
 rintro pins s σ H Q I ⟨ρ,fr,q⟩
 simp only [eJ] at q
 cases ef:fs ρ with
 | none=>rw [ef] at q;exact q.elim
 | some xs=>
  rw [ef] at q
  by_cases hx:xs.length<=20
  ·simp only [if_pos hx] at q
   refine wpAny_JoinedStr (h.run G E hp pins s σ H Str.empty _ I ⟨ρ,xs,fr,ef,by rw [sizeLine_eq];show 0+_<=_;omega,λH' s' sm I' hz=>⟨?_,?_⟩⟩)
   ·have z0:Str.empty.length=0:=rfl
    rw [sizeLine_eq];omega
   ·exact ⟨.str _,H',I'.tok _,⟨_,rfl⟩,q _ H' sm rfl⟩
  ·simp only [if_neg hx] at q;exact q.elim
@[simp] noncomputable def j5T (fe:Ev) (ρ:Ro):Out D:=(fe ρ).bind λd=>match d with
 | .int i=>.ok (.int (-i))
 | _=>.bad
theorem j0N (he:DE T X e fe):DE T X (.UnaryOp .USub e pos) (j5T fe):=.mk λG E hp=>
 PE.imp (j6K (X:=X.wish E) j5h (he.run G E hp)) fun σ H Q ⟨ρ,fr,q⟩=>⟨ρ,fr,Acc.mono (Acc.bind q) λd _ hd v H1 s1 r=>by
  cases d with
  | int i=>exact ⟨i,r,hd _ H1 s1 rfl⟩
  | _=>exact hd.elim⟩
end
noncomputable abbrev j5y:List Value:=[.type "ValueError",.type "Exception",.type "BaseException",.type "object"]
noncomputable def q4G (K:PySem.W.Frag) (C:Addr):Prop:=PySem.W.excIn K C j5y "ValueError.__new__" = true
theorem j2C {K:PySem.W.Frag} {h:Heap} {C:Addr} (X:K.In h) (q:q4G K C) :
 ∃bm N nm qn bs hd sn sub ab col dd k0 k1 k2 k3 k5 mN,h.get? C=some (excClassObj nm qn C N bs bm hd sn sub ab col dd k0 k1 k2 k3 k5 "ValueError.__new__")/\h.Ns N mN/\mN "__init__" = none/\OwnTail h j5y bm:=by
 have q2:=q
 unfold q4G PySem.W.excIn at q2
 split at q2
 ·rename_i dd cd sl lk
  split at q2
  ·rename_i C2 bm k0 k1 k2 k3 n k5 em es
   simp only [Bool.and_eq_true,beq_iff_eq,Bool.not_eq_true'] at q2
   obtain ⟨⟨⟨⟨⟨eC,en⟩,nd⟩,tl⟩,okN⟩,ni⟩:=q2
   subst eC en
   cases cd with
   | mk nm bs mro ns qn hd sn sub ab col del=>
    simp only at em nd okN ni
    subst em nd
    have e3:sl=#[k0,k1,k2,k3,some (.builtin "ValueError.__new__"),k5]:=Array.toList_inj.mp es
    subst e3
    exact ⟨bm,ns,nm,qn,bs,hd,sn,sub,ab,col,dd,k0,k1,k2,k3,k5,_,X _ _ lk,.of_isNs (PySem.W.isNs_of_in X okN),PySem.W.nsMap_none_of_in X okN ni,PySem.W.tail_of_in X tl⟩
  ·cases q2
 ·cases q2
theorem q4Z {X:Cx} {pins:List (Addr×Obj)} {σ:L2.St} {H:Hp} {s:Shared} (I:Inv X pins σ H s) {b:Addr} (hb:s.heap.get? b=none):Free X pins b:=by
 refine ⟨?_,λz=>?_,λx cc e z=>?_,λq hq z=>?_⟩
 ·by_cases hx:b∈X.ex
  ·exact .inl hx
  ·refine .inr ?_
   cases q:X.s₀.heap.get? b with
   | none=>rfl
   | some o=>
    obtain ⟨o',e⟩:=I.base.there b o q hx
    rw [hb] at e;cases e
 ·obtain ⟨m,⟨o,_,_,ho,_⟩,_⟩:=I.loc
  rw [<-z,hb] at ho;cases ho
 ·obtain ⟨v,o,ho,_⟩:=I.cell x cc e
  rw [z,hb] at ho;cases ho
 ·obtain ⟨e,_⟩:=I.pin q hq
  rw [z,hb] at e;cases e
section
variable {T:Tb} {ib:Bool} {X:Cx} {e:Expr} {es:List Expr} {pos np cpos:Pos} {fe:Ev} {fs:Ro->Out (List D)} {x:Str} {c:Nat}
@[simp] noncomputable def q1R (c:Nat) (fs:Ro->Out (List D)) (ρ:Ro):Fl:=(fs ρ).fl ρ λ_=>.exc c ρ
theorem q02 (hc:X.calm=true) (hx:q4G X.K (T.ca c)) (hg:Gl X x) (hm:X.mg x=some (.ref (T.ca c))) (ha:DA T X (e::es) fs) (hsh:∀ρ ds,fs ρ=.ok ds->ds.length<=1000) (hdb:(x==("__debug__" : Str))=false:=by decide)
 (he:starEach (e::es) X.env=(false,eval e X.env)::starEach es X.env:=by exact q0q rfl) (hpl:(backTo cpos (starEach (e::es) X.env)).any (·.1)=false:=by exact q0r rfl):DS T ib X (.Raise (some (.Call (.Name x np) (e::es) [] cpos)) none pos) (q1R c fs):=.mk λG E hp=>by
 rintro pins s σ H D I ⟨ρ,fr,h⟩
 have IX:Inv X pins σ H s:=I.unwish
 obtain ⟨bm,N,nm,qn,bs,hd,sn,sub,ab,col,dd,k0,k1,k2,k3,k5,mN,hC,hN,hni,TL⟩:=j2C I.ok.mod.kin hx
 refine wpAny_Raise_call_subU (C:=T.ca c) (nm:=nm) (q:=qn) (N:=N) (bs:=bs) (bm:=bm) (hdct:=hd) (sn:=sn) (sub:=sub) (ab:=ab) (col:=col) (dd:=dd) (k0:=k0) (k1:=k1) (k2:=k2) (k3:=k3) (k5:=k5)
  PySem.F.excBase_ValueError (by decide) PySem.F.excBase_ValueError (mN:=mN) (TL.hasType (by decide)) (I.ok.hd hc) hpl hni (q1E (X:=X.wish E) I hg hm ⟨rfl,?_⟩ hdb)
 have hA:=ha.run G E hp cpos pins s σ H (λvs H1=>∃ds,fs ρ=.ok ds/\Same H H1/\vs.length=ds.length) I ⟨ρ,fr,Acc.mono (AccS.fl fr h) λds e1 _ vs H1 s1 r=>⟨ds,e1,s1,RepL.length _ _ r⟩⟩
 rw [he] at hA ⊢
 refine Calls.evalArgs_plain (thn hA λus s1 ⟨vs,H1,I1,rv,ds,e1,sm,hl⟩=>?_)
 have I1X:Inv X pins σ H1 s1:=I1.unwish
 have hlen:us.length<=sizeLine:=by
  have:=hsh ρ ds e1
  rw [<-rv.length,hl,sizeLine_eq];omega
 refine ⟨rfl,hlen,I1X.bk _ _ hC,hN.keeps I1X.bk,TL.keeps I1X.bk,λh' ea hm'=>?_⟩
 have h2:=AccS.fl fr h
 rw [e1] at h2
 refine h2 σ H fr (Pers.refl H) pins { s1 with heap:=h' } (.ref ea) H1 (I1X.kept (t':=s1.toks) hm'.keeps) sm ⟨ea,rfl,?_,q4Z I1X hm'.new,?_,?_⟩
 ·cases q:H1 ea with
  | none=>rfl
  | some o=>
   obtain ⟨u,eu⟩:=q35 (I1X.hok ea o q)
   rw [hm'.new] at eu;cases eu
 ·obtain ⟨t,ht,_⟩:=hm'.there
  exact ⟨_,_,ht,rfl,rfl,rfl⟩
 ·obtain ⟨t,ht,_⟩:=hm'.there
  exact ⟨_,_,_,ht,rfl,rfl,rfl,.inl rfl⟩
end
theorem j6r {X:Cx} {pins:List (Addr×Obj)} {σ:L2.St} {H H':Hp} {s:Shared} {h':Heap} {g':Array GenState} {t':Nat} {d':Drawn} {ch:List Addr} (I:Inv X pins σ H s)
 (hch:∀b∈ch,Free X pins b)
 (keep:∀b o,b≠X.env.locals->b∉X.fs->b∉ch->s.heap.get? b=some o->H b=none->h'.get? b=some o)
 (slot:∀b o,b≠X.env.locals->b∈X.fs->b∉ch->s.heap.get? b=some o->H b=none->∃sl,h'.get? b=some { o with slots:=sl }) (free:∀b o,b∉ch->s.heap.get? b=some o->H b=none->H' b=none)
 (there:∀b o,b∉ch->s.heap.get? b=some o->∃o',h'.get? b=some o')
 (tups:∀b xs,H b=some (.tup xs)->H' b=some (.tup xs)) (frzs:∀b o u,H b=some (.frz o u)->H' b=some (.frz o u)) (tbls:∀b ps,H b=some (.tbl ps)->∃more,H' b=some (.tbl (ps++more)))
 (ns:∀m,s.heap.Ns X.env.locals m->h'.Ns X.env.locals m) (hok:HOk X.prog X.w H' h') (hg:AllBare g') :
 Inv X pins σ H' { s with heap:=h',gens:=g',drawn:=d',toks:=t' }:=by
 have neL:∀b o,X.s₀.heap.get? b=some o->b≠X.env.locals:=λb o e=>Nat.ne_of_lt (Nat.lt_of_lt_of_le (Heap.lt_size e) I.ok.above)
 have neC:∀b o,X.s₀.heap.get? b=some o->b∉X.ex->b∉ch:=λb o e hx hb=>by
  rcases (hch b hb).1 with z | z
  ·exact hx z
  ·rw [e] at z;cases z
 have cellK:∀x c,X.env.cells.lookup x=some c->∀v,s.heap.IsCell c v->h'.IsCell c v:=λx c e v ⟨o,ho,hd⟩=>by
  have nch:c∉ch:=λz=>(hch c z).2.2.1 x c e rfl
  by_cases hc:c∈X.fs
  ·obtain ⟨sl,q⟩:=slot c o (I.cne x c e) hc nch ho (I.freeC x c e)
   exact ⟨_,q,hd⟩
  ·exact ⟨o,keep c o (I.cne x c e) hc nch ho (I.freeC x c e),hd⟩
 refine ⟨I.ok,I.os,hg,⟨λb o e n hb hx=>?_,λb o e n hb hx=>?_,λb o e n hx=>?_,λb o e hx=>?_,λb xs e=>tups b xs (I.base.tups b xs e),λb o xs e=>frzs b o xs (I.base.frzs b o xs e),λb ps e=>?_⟩,?_,λx c e=>?_,?_,λx c e=>?_,λp hp=>?_,hok,I.len⟩
 ·exact keep b o (neL b o e) hb (neC b o e hx) (I.base.keep b o e n hb hx) (I.base.free b o e n hx)
 ·obtain ⟨sl,e1⟩:=I.base.slot b o e n hb hx
  obtain ⟨sl',e2⟩:=slot b _ (neL b o e) hb (neC b o e hx) e1 (I.base.free b o e n hx)
  exact ⟨sl',e2⟩
 ·obtain ⟨o',e1⟩:=I.base.there b o e hx
  exact free b o' (neC b o e hx) e1 (I.base.free b o e n hx)
 ·obtain ⟨o',e1⟩:=I.base.there b o e hx
  exact there b o' (neC b o e hx) e1
 ·obtain ⟨m1,e1⟩:=I.base.tbls b ps e
  obtain ⟨m2,e2⟩:=tbls b _ e1
  exact ⟨m1++m2,by rw [e2,Array.append_assoc]⟩
 ·obtain ⟨m,hn,hl⟩:=I.loc
  refine ⟨m,ns m hn,λi x v e1 e2 e3=>?_⟩
  obtain ⟨u,r,l⟩:=hl i x v e1 e2 e3
  refine ⟨u,r,?_⟩
  rcases l with l | ⟨k,c,e,z⟩
  ·exact .inl l
  ·exact .inr ⟨k,c,e,cellK x c e _ z⟩
 ·obtain ⟨v,z⟩:=I.cell x c e
  exact ⟨v,cellK x c e v z⟩
 ·obtain ⟨m,⟨o,_,_,ho,_⟩,_⟩:=I.loc
  exact free _ o (λz=>(hch _ z).2.1 rfl) ho I.free
 ·obtain ⟨v,o,ho,hd⟩:=I.cell x c e
  exact free c o (λz=>(hch c z).2.2.1 x c e rfl) ho (I.freeC x c e)
 ·obtain ⟨e,n,ne,nf,d⟩:=I.pin p hp
  have nch:p.1∉ch:=λz=>(hch p.1 z).2.2.2 p hp rfl
  exact ⟨keep p.1 p.2 ne nf nch e n,free p.1 p.2 nch e n,ne,nf,d⟩
section
variable {T:Tb} {ib:Bool} {X:Cx} {pins:List (Addr×Obj)} {σ:L2.St} {H:Hp} {s:Shared} {c:Nat} {u:Value}
theorem q4w {L ch:List Addr} {h':Heap} (I:Inv X pins σ H s) (kb:∀b o,s.heap.get? b=some o->b∉L->h'.get? b=some o) (up:s.heap.UpToSlots h') (hch:∀b∈ch,Free X pins b/\H b=none) (hL:∀b∈L,b∈ch∨b∈frs X.stack):Inv X pins σ H { s with heap:=h' }:=by
 have nofl:∀b∈frs X.stack,∀o,s.heap.get? b=some o->∀vs,o.data≠.fields vs:=λb hb o e=>by
  obtain ⟨_,o',e',d⟩:=I.stack.mem hb
  rw [e] at e';cases e';exact d
 have hok:HOk X.prog X.w H h':=q4l I ⟨kb,up⟩ λb hb=>by
  rcases hL b hb with z | z
  ·exact (hch b z).2
  ·exact I.stkFree b z
 exact j6r (g':=s.gens) (d':=s.drawn) (t':=s.toks) (ch:=ch) I (λb hb=>(hch b hb).1)
  (λb o n1 n2 n3 e _=>kb b o e λhm=>by
   rcases hL b hm with z | z
   ·exact n3 z
   ·exact (List.mem_cons.mp (I.stkSub b z)).elim n1 n2)
  (λb o _ hb n3 e n=>by
   by_cases hm:b∈L
   ·rcases hL b hm with z | z
    ·exact absurd z n3
    ·exact up b o e (nofl b z o e)
   ·exact ⟨o.slots,kb b o e hm⟩)
  (λ_ _ _ _ n=>n)
  (λb o n3 e=>by
   by_cases hm:b∈L
   ·rcases hL b hm with z | z
    ·exact absurd z n3
    ·obtain ⟨sl,q⟩:=up b o e (nofl b z o e)
     exact ⟨_,q⟩
   ·exact ⟨o,kb b o e hm⟩)
  (λ_ _ e=>e) (λ_ _ _ e=>e) (λb ps e=>⟨#[],by rw [e];simp⟩) (λm hm=>up.ns hm) hok I.bare
noncomputable def Landed (T:Tb) (X:Cx) (pins:List (Addr×Obj)) (c:Nat) (ea:Addr) (H:Hp) (h:Heap):Prop:=
 H ea=none/\Free X pins ea/\Nc ea h/\∃(B:Heap) (a0:Value) (L ch:List Addr),Heap.FlyingW B X.stack ea (.ref (T.ca c)) a0 h/\(∀b o,h.get? b=some o->b∉L->B.get? b=some o)/\(∀b∈ch,Free X pins b/\H b=none)/\(∀b∈L,b∈ch∨b∈frs X.stack)
theorem q8x {B h h':Heap} {L ch:List Addr} {ea:Addr} {a0 fl:Value} (I:Inv X pins σ H s) (hn:H ea=none) (fe:Free X pins ea) (hst:X.stack=X.env::X.outer) (hB:B=PySem.W.hideAll s.heap L) (hch:∀b∈ch,Free X pins b/\H b=none) (hL:∀b∈L,b∈ch∨b∈frs X.stack) (hea:ea∈L)
 (fly:Heap.FlyingW B X.stack ea (.ref (T.ca c)) a0 h') (up:s.heap.UpToSlots h') (nc:Nc ea h'):Inv X pins σ H { s with heap:=h' }/\Landed T X pins c ea H h':=by
 subst hB
 have kb:∀b o,s.heap.get? b=some o->b∉L->h'.get? b=some o:=λb o e n=>fly.1 b o (PySem.W.hideAll_get _ e n)
 have I':=q4w I kb up hch hL
 refine ⟨I',hn,fe,nc,?_⟩
 obtain ⟨f1,f2,f3,f4⟩:=id fly
 obtain ⟨oe,vs,tb,ot,ts,he,hc,hd,h1,hnT,hTe,hT,hdT,h3⟩:=id f4
 have notfr:tb∉frs X.stack:=λhm=>by
  obtain ⟨_,o,e,d⟩:=f3.mem hm
  rw [hT] at e;cases e;exact d ts hdT
 have ftb:Free X pins tb/\H tb=none:=by
  cases q:s.heap.get? tb with
  | none=>
   refine ⟨q4Z I q,?_⟩
   cases z:H tb with
   | none=>rfl
   | some o=>
    obtain ⟨w,ew⟩:=q35 (I.hok tb o z)
    rw [q] at ew;cases ew
  | some o=>
   have hm:tb∈L:=Classical.byContradiction λn=>by
    rw [PySem.W.hideAll_get _ q n] at hnT;cases hnT
   rcases hL tb hm with z | z
   ·exact hch tb z
   ·exact absurd z notfr
 refine ⟨PySem.W.hideAll h' (ea::tb::frs X.stack),a0,ea::tb::frs X.stack,[ea,tb],⟨λb o q=>PySem.W.of_hideAll _ q,PySem.W.hideAll_none _ List.mem_cons_self,?_,oe,vs,tb,ot,ts,he,hc,hd,h1,PySem.W.hideAll_none _ (by simp),hTe,hT,hdT,h3⟩,λb o e n=>PySem.W.hideAll_get _ e n,λb hb=>?_,λb hb=>?_⟩
 ·exact PySem.W.funFrames_hide f3 λenv he b hb=>List.mem_cons_of_mem _ (List.mem_cons_of_mem _ (List.mem_filterMap.mpr ⟨env,he,hb⟩))
 ·rcases List.mem_cons.mp hb with z | z
  ·rw [z];exact ⟨fe,hn⟩
  ·rw [List.mem_singleton.mp z];exact ftb
 ·rcases List.mem_cons.mp hb with z | z
  ·exact .inl (by simp [z])
  ·rcases List.mem_cons.mp z with z | z
   ·exact .inl (by simp [z])
   ·exact .inr z
theorem q98 {E:Value->Shared->Prop} {P:Shared->Prop} (I:Inv X pins σ H s) (hst:X.stack=X.env::X.outer) (hf:X.env.frame=some X.env.locals) (fl:Flying T X pins c u H s)
 (k:∀ea h',u=.ref ea->Inv X pins σ H { s with heap:=h' }->Landed T X pins c ea H h'->P { s with heap:=h' }) :
 wpAny (model X.prog X.w) X.A (noteFrame u X.env) (λ_ s₂=>wpAny (model X.prog X.w) X.A (setFlight u none) (λ_ s₃=>P s₃) E s₂) E s:=by
 obtain ⟨ea,rfl,hn,fe,nc,oe,vs,a0,he,hc,hd,h0,h1⟩:=fl
 refine wpAny_mono (Kp.any (Q:=λ_ s₂=>Nc ea s₂.heap->wpAny (model X.prog X.w) X.A (setFlight (.ref ea) none) (λ_ s₃=>P s₃) E s₂) (E:=E) Nc.push q2t nc ?_) (λ_ _ z=>z.1 z.2) λ_ _ z=>z.1
 have hfr:X.A.frames=some (X.env::X.outer):=by rw [I.ok.frames,hst]
 have FF:s.heap.FunFrames X.base (X.env::X.outer):=by rw [<-hst];exact I.stack
 have infr:∀(L:List Addr),(∀b∈frs X.stack,b∈L)->s.heap.FunFrames (PySem.W.hideAll s.heap L) (X.env::X.outer):=λL hL=>PySem.W.funFrames_hide FF λenv he b hb=>hL b (by
  rw [hst];exact List.mem_filterMap.mpr ⟨env,he,hb⟩)
 have fin:∀(L ch:List Addr),ea∈L->(∀b∈ch,Free X pins b/\H b=none)->(∀b∈L,b∈ch∨b∈frs X.stack)->∀h',Heap.NotedW (PySem.W.hideAll s.heap L) (X.env::X.outer) ea (.ref (T.ca c)) a0 (rawInt X.env.locals) s.heap h'->Nc ea h' ->
  wpAny (model X.prog X.w) X.A (setFlight (.ref ea) none) (λ_ s₃=>P s₃) E { s with heap:=h' }:=λL ch hea hch hL h' ⟨k1,k2,k3,k4⟩ nc1=>by
  refine wpAny_mono (Kp.any (Q:=λ_ s₂=>Nc ea s₂.heap->P s₂) (E:=E) Nc.push q1D nc1 ?_) (λ_ _ z=>z.1 z.2) λ_ _ z=>z.1
  refine wpAny_setFlight_noneW k1 k2 k3 λh2 m1 m2 m3 m4 nc2=>?_
  have fly:Heap.FlyingW (PySem.W.hideAll s.heap L) X.stack ea (.ref (T.ca c)) a0 h2:=⟨m1,PySem.W.hideAll_none _ hea,by rw [hst];exact m2,m3⟩
  have up:s.heap.UpToSlots h2:=λb o e nd=>by
   obtain ⟨sl,e1⟩:=k4 b o e nd
   exact ⟨sl,m4 b _ e1 nd⟩
  obtain ⟨I2,ld⟩:=q8x (fl:=.none) (h:=h') I hn fe hst rfl hch hL hea fly up nc2
  exact k ea h2 rfl I2 ld
 rcases h1 with h1 | ⟨tb,ot,ts,h1,hne,ht,hdt,h3,hnt,ft⟩
 ·have hsz:1 < vs.size:=(Array.getElem?_eq_some_iff.mp h1).1
  unfold noteFrame
  simp only [hf]
  refine wpAny_bind (wpAny_field he hd h1 ?_)
  rw [if_neg (by decide)]
  refine wpAny_entryW (base:=PySem.W.hideAll s.heap (ea::frs X.stack)) hfr (infr _ λb hb=>List.mem_cons_of_mem _ hb) hf he (λb o q=>PySem.W.of_hideAll _ q) (PySem.W.hideAll_none _ List.mem_cons_self) hd hsz h0 λh' nw=>?_
  rw [hc] at nw
  refine fin (ea::frs X.stack) [ea] List.mem_cons_self (λb hb=>?_) (λb hb=>?_) h' nw
  ·rw [List.mem_singleton.mp hb];exact ⟨fe,hn⟩
  ·rcases List.mem_cons.mp hb with z | z
   ·exact .inl (by simp [z])
   ·exact .inr z
 ·refine wpAny_noteFrame_onW (base:=PySem.W.hideAll s.heap (ea::tb::frs X.stack)) (cls:=.ref (T.ca c)) (a0:=a0) hfr (infr _ λb hb=>List.mem_cons_of_mem _ (List.mem_cons_of_mem _ hb)) hf ⟨oe,vs,tb,ot,ts,he,⟨hc,h0⟩,hd,h1,PySem.W.hideAll_none _ (by simp),hne,ht,hdt,h3⟩ (λb o q=>PySem.W.of_hideAll _ q) (PySem.W.hideAll_none _ List.mem_cons_self) λh' nw=>?_
  refine fin (ea::tb::frs X.stack) [ea,tb] List.mem_cons_self (λb hb=>?_) (λb hb=>?_) h' nw
  ·rcases List.mem_cons.mp hb with z | z
   ·rw [z];exact ⟨fe,hn⟩
   ·rw [List.mem_singleton.mp z];exact ⟨ft,hnt⟩
  ·rcases List.mem_cons.mp hb with z | z
   ·exact .inl (by simp [z])
   ·rcases List.mem_cons.mp z with z | z
    ·exact .inl (by simp [z])
    ·exact .inr z
end
noncomputable abbrev mk (X:Cx) (u:Value):Cx:={ X with A:=X.A.mark (some u),calm:=false }
noncomputable abbrev pinX (X:Cx) (pn:List (Addr×Obj)):Cx:={ X with pn:=pn }
noncomputable def j8r (A:Around) (H:Hp):Prop:=∃(ea:Addr) (ob:Obj) (vs:Array Value),A.handled=some (.ref ea)/\H ea=some (.frz ob (.ext λ_=>True))/\ob.data=.fields vs/\vs[2]?=some .none
section
variable {T:Tb} {ib:Bool} {X:Cx} {pins:List (Addr×Obj)} {σ:L2.St} {H:Hp} {s:Shared} {c:Nat} {u:Value}
theorem Inv.mk (I:Inv X pins σ H s) (u:Value):Inv (mk X u) pins σ H s:=
 ⟨⟨I.ok.mod,I.ok.kind,I.ok.glob,I.ok.blt,I.ok.above,I.ok.inj,I.ok.has,I.ok.cab,(λz=>by cases z),I.ok.frames,I.ok.stk,I.ok.exf,I.ok.bs,I.ok.bsz,I.ok.noex,I.ok.exfs,I.ok.funs,I.ok.frf⟩,I.os,I.bare,I.base,I.loc,I.cell,I.free,I.freeC,I.pin,I.hok,I.len⟩
theorem Inv.unmk (ok:X.Ok) {E:Value->Shared->Prop} (I:Inv ((L3.mk X u).wish E) pins σ H s):Inv X pins σ H s:=⟨ok,I.os,I.bare,I.base,I.loc,I.cell,I.free,I.freeC,I.pin,I.hok,I.len⟩
theorem Inv.pinX (I:Inv X pins σ H s):Inv (L3.pinX X (X.pn++pins)) [] σ H s:=
 ⟨⟨I.ok.mod,I.ok.kind,I.ok.glob,I.ok.blt,I.ok.above,I.ok.inj,I.ok.has,I.ok.cab,I.ok.hd,I.ok.frames,I.ok.stk,I.ok.exf,I.ok.bs,I.ok.bsz,I.ok.noex,I.ok.exfs,I.ok.funs,I.ok.frf⟩,I.os,I.bare,I.base,I.loc,I.cell,I.free,I.freeC,λp hp=>I.pin p (by simpa using hp),I.hok,I.len⟩
theorem Inv.unpinX (ok:X.Ok) {pins':List (Addr×Obj)} {E:Value->Shared->Prop} (I:Inv ((L3.pinX X (X.pn++pins)).wish E) pins' σ H s):Inv X pins σ H s:=
 ⟨ok,I.os,I.bare,I.base,I.loc,I.cell,I.free,I.freeC,λp hp=>I.pin p (List.mem_append_left _ hp),I.hok,I.len⟩
@[simp] noncomputable def j4X:Fl->Fl
 | .exc _ _=>.bad
 | o=>o
theorem j3g {G H:Hp} {E E':Value->Shared->Prop} {o:Fl} {D:Ends} (h:AccS T ib X G E H (j4X o) D):AccS T ib (L3.mk X u) G E' H o D:=by
 cases o with
 | exc c ρ=>exact h.elim
 | _=>exact h
theorem SP.unmk {E:Value->Shared->Prop} {D:Ends} {f:Flow} {s':Shared} (ok:X.Ok) (h:SP ((L3.mk X u).wish E) pins D f s'):SP X pins D f s':=by
 cases f with
 | next=>obtain ⟨σ',H',I,q⟩:=h;exact ⟨σ',H',Inv.unmk ok I,q⟩
 | brk=>obtain ⟨σ',H',I,q⟩:=h;exact ⟨σ',H',Inv.unmk ok I,q⟩
 | cont=>obtain ⟨σ',H',I,q⟩:=h;exact ⟨σ',H',Inv.unmk ok I,q⟩
 | ret u=>obtain ⟨v,σ',H',I,r,q⟩:=h;exact ⟨v,σ',H',Inv.unmk ok I,r,q⟩
noncomputable def DH (T:Tb) (ib:Bool) (X:Cx) (hs:List ExceptHandler) (f:Nat->Ro->Fl):Prop:=∀(G:Hp) (E:Value->Shared->Prop) (pins:List (Addr×Obj)) (s:Shared) (σ:L2.St) (H:Hp) (D:Ends) (c:Nat) (ea:Addr),Inv X pins σ H s->Landed T X pins c ea H s.heap ->
 (∃ρ,FR T X.K G H σ ρ/\AccS T ib X G E H (f c ρ) D)->wpAny (model X.prog X.w) X.A (handleBy (.ref ea) X.env hs) (SP X pins D) E s
theorem j0V:DH T ib X [] (λ_ _=>.bad):=λG E pins s σ H D c ea I ld ⟨ρ,fr,h⟩=>h.elim
theorem q63 {M:Model} {ea:Addr} {h:Heap} (ld:Landed T X pins c ea H h):PySem.W.Looks M h (typeOf (.ref ea)) (.ref (T.ca c)):=by
 obtain ⟨_,_,_,B,a0,L,ch,fly,_⟩:=ld
 obtain ⟨ob,hob,hc⟩:=fly.there
 exact hc ▸ (PySem.W.Looks.ld hob).andThen .now
theorem q6Z {M:Model} {A:Around} {E:Value->Shared->Prop} {Q:Unit->Shared->Prop} {ea:Addr} (I:Inv X pins σ H s) (ld:Landed T X pins c ea H s.heap) (k:∀h',Inv X pins σ H { s with heap:=h' }->(∃ob,h'.get? ea=some ob/\ob.cls=.ref (T.ca c))->Nc ea h'->Q () { s with heap:=h' }) :
 wpAny M A (setFlight (.ref ea) none) Q E s:=by
 obtain ⟨hn,fe,nc,B,a0,L,ch,fly,hB,hch,hL⟩:=ld
 refine wpAny_mono (Kp.any (Q:=λu s₂=>Nc ea s₂.heap->Q u s₂) (E:=E) Nc.push q1D nc ?_) (λ_ _ z=>z.1 z.2) λ_ _ z=>z.1
 exact lands_againW fly λh' fly' up nc'=>k h' (q4w I (λb o e n=>fly'.1 b o (hB b o e n)) up hch hL) fly'.there nc'
section
variable {x n:Str} {k i:Nat} {m:Nat->Option Bool} {np pos:Pos} {b₀:Stmt} {suite:List Stmt} {hs:List ExceptHandler} {fh:Ro->Fl} {fr':Nat->Ro->Fl}
@[simp] noncomputable def q2H (m:Nat->Option Bool) (fh:Ro->Fl) (fr:Nat->Ro->Fl) (c:Nat) (ρ:Ro):Fl:=match m c with
 | some true=>j4X (fh ρ)
 | some false=>fr c ρ
 | none=>.bad
theorem q2n (hg:Gl X x) (hm:X.mg x=some (.ref (T.ca k))) (hdec:∀c b,m c=some b->PySem.W.exmOne X.K (.ref (T.ca c)) (.ref (T.ca k))=some b) (hsu:∀u,DSs T ib (L3.mk X u) (b₀::suite) fh) (hr:DH T ib X hs fr') (hdb:(x==("__debug__" : Str))=false:=by decide) :
 DH T ib X (.ExceptHandler (some (.Name x np)) none (b₀::suite) pos::hs) (q2H m fh fr'):=λG E pins s σ H D c ea I ld ⟨ρ,fr,h⟩=>by
 refine wpAny_handleBy_cons (codeAny_handlers_test (q1E (X:=L3.mk X (.ref ea)) (Inv.mk I _) hg hm ?_ hdb)) (by intro q;cases q)
 cases em:m c with
 | none=>
  have h':AccS T ib X G E H (q2H m fh fr' c ρ) D:=h
  simp only [q2H,em] at h';exact h'.elim
 | some b=>
  have h':AccS T ib X G E H (q2H m fh fr' c ρ) D:=h
  simp only [q2H,em] at h'
  refine PySem.W.exm_one I.kIn (q63 ld) (hdec c b em) _ _ _ _ (λ_ _ z=>z) ?_
  cases b with
  | false=>exact hr G E pins s σ H D c ea I ld ⟨ρ,fr,h'⟩
  | true=>
   refine codeAny_handlers_suite (q6Z I ld λh2 I2 _ _=>?_)
   refine wpAny_mono ((hsu (.ref ea)).run G (λ_ _=>False) PassesOwn.never pins _ σ H D ((Inv.mk I2 _).wish _) ⟨ρ,fr,j3g h'⟩) (λf s3 q=>?_) λ_ _ z=>z.elim
   exact SP.unmk I.ok q
end
@[simp] noncomputable def q7Y (fb:Ro->Fl) (fh:Nat->Ro->Fl) (ρ:Ro):Fl:=match fb ρ with
 | .exc c ρ'=>fh c ρ'
 | o=>o
theorem j11 {body:List Stmt} {h₀:ExceptHandler} {hs:List ExceptHandler} {pos:Pos} {fb:Ro->Fl} {fh:Nat->Ro->Fl} (hst:X.stack=X.env::X.outer) (hf:X.env.frame=some X.env.locals) (hb:∀pn,DSs T ib (L3.pinX X pn) body fb) (hh:DH T ib X (h₀::hs) fh) :
 DS T ib X (.Try body (h₀::hs) [] [] pos) (q7Y fb fh):=.mk λG E hp=>by
 rintro pins s σ H D I ⟨ρ,fr,h⟩
 have IX:Inv X pins σ H s:=I.unwish
 have ok:=IX.ok
 have h:AccS T ib X G E H (q7Y fb fh ρ) D:=h
 refine wpAny_Try_except ?_
 let E':Value->Shared->Prop:=λe s₁=>wpAny (model X.prog X.w) X.A (noteFrame e X.env) (λ_ s₂=>wpAny (model X.prog X.w) X.A (setFlight e none) (λ_ s₃=>wpAny (model X.prog X.w) X.A (handleBy e X.env (h₀::hs)) (SP (X.wish E) pins D) E s₃) E s₂) E s₁
 have hp':PassesOwn (model X.prog X.w) X.A X.env E':=PassesOwn.looking
 have acc:AccS T ib (L3.pinX X (X.pn++pins)) G E' H (fb ρ) D:=by
  cases eo:fb ρ with
  | exc c ρ'=>
   simp only [q7Y,eo] at h
   intro σ' H' fr' pr pins' s' u H'' I' sm fl
   have I2:Inv X pins σ' H'' s':=Inv.unpinX (E:=(L3.pinX X (X.pn++pins)).xe) ok I'
   have fl2:Flying T X pins c u H'' s':=by
    obtain ⟨ea,e1,q1,q2,nc,oe,vs,a0,e2,e3,e4,e5,e6⟩:=fl
    have fre:∀b,Free (L3.pinX X (X.pn++pins)) pins' b->Free X pins b:=λb ⟨z1,z2,z3,z4⟩=>⟨z1,z2,z3,λp hp=>z4 p (List.mem_append_left _ hp)⟩
    refine ⟨ea,e1,q1,fre ea q2,nc,oe,vs,a0,e2,e3,e4,e5,?_⟩
    rcases e6 with e6 | ⟨tb,ot,ts,t1,t2,t3,t4,t5,t6,t7⟩
    ·exact .inl e6
    ·exact .inr ⟨tb,ot,ts,t1,t2,t3,t4,t5,t6,fre tb t7⟩
   refine q98 I2 hst hf fl2 λea h2 eu I3 ld=>?_
   subst eu
   refine wpAny_mono (hh G E pins _ σ' H'' D c ea I3 ld ⟨ρ',fr'.mono sm,AccS.heap (pr.trans (Pers.of sm)) h⟩) (λf s4 q=>?_) λ_ _ z=>z
   cases f with
   | next=>obtain ⟨σ4,H4,I4,q⟩:=q;exact ⟨σ4,H4,I4.wish E,q⟩
   | brk=>obtain ⟨σ4,H4,I4,q⟩:=q;exact ⟨σ4,H4,I4.wish E,q⟩
   | cont=>obtain ⟨σ4,H4,I4,q⟩:=q;exact ⟨σ4,H4,I4.wish E,q⟩
   | ret v=>obtain ⟨x4,σ4,H4,I4,r,q⟩:=q;exact ⟨x4,σ4,H4,I4.wish E,r,q⟩
  | nx ρ'=>simp only [q7Y,eo] at h;exact h
  | bk ρ'=>simp only [q7Y,eo] at h;exact h
  | ct ρ'=>simp only [q7Y,eo] at h;exact h
  | rt r=>simp only [q7Y,eo] at h;exact h
  | rm r c ds ks=>simp only [q7Y,eo] at h;exact h
  | bad=>simp only [q7Y,eo] at h;exact h
 refine wpAny_mono ((hb (X.pn++pins)).run G E' hp' [] s σ H D ((Inv.pinX IX).wish E') ⟨ρ,fr,acc⟩) (λf s4 q=>?_) λe s4 z=>z
 cases f with
 | next=>obtain ⟨σ4,H4,I4,q⟩:=q;exact wpAny_execs_nil ⟨σ4,H4,(Inv.unpinX ok I4).wish E,q⟩
 | brk=>obtain ⟨σ4,H4,I4,q⟩:=q;exact ⟨σ4,H4,(Inv.unpinX ok I4).wish E,q⟩
 | cont=>obtain ⟨σ4,H4,I4,q⟩:=q;exact ⟨σ4,H4,(Inv.unpinX ok I4).wish E,q⟩
 | ret v=>obtain ⟨x4,σ4,H4,I4,r,q⟩:=q;exact ⟨x4,σ4,H4,(Inv.unpinX ok I4).wish E,r,q⟩
end
section
variable {T:Tb} {z u:Option Addr} {K:PySem.W.Frag}
theorem q1c {H:Hp} {c:Nat} {a:Addr} {ds:List D}:InsAt { T with me:=z,mo:=u } K H c a ds↔InsAt T K H c a ds:=
 ⟨λ⟨dx,fs,e1,e2,e3,r⟩=>⟨dx,fs,e1,e2,e3,(repL_me _ _).mp r⟩,λ⟨dx,fs,e1,e2,e3,r⟩=>⟨dx,fs,e1,e2,e3,(repL_me _ _).mpr r⟩⟩
theorem q1M {H:Hp}:∀(ss:List Sl) (vs:List V),ArgsOk { T with me:=z,mo:=u } K H vs ss↔ArgsOk T K H vs ss
 | [],_=>Iff.rfl
 | s::ss,vs=>by
  have one:∀v,ArgOk { T with me:=z,mo:=u } K H v s↔ArgOk T K H v s:=λv=>by
   cases s with
   | sh d=>exact q1z d v
   | bo ds=>exact ⟨λ⟨a,us,e1,e2,r⟩=>⟨a,us,e1,e2,(repL_me ds us).mp r⟩,λ⟨a,us,e1,e2,r⟩=>⟨a,us,e1,e2,(repL_me ds us).mpr r⟩⟩
   | bi c ds=>exact ⟨λ⟨a,e,r⟩=>⟨a,e,q1c.mp r⟩,λ⟨a,e,r⟩=>⟨a,e,q1c.mpr r⟩⟩
   | _=>exact Iff.rfl
  exact ⟨λ⟨v,r,e,h1,h2⟩=>⟨v,r,e,(one v).mp h1,(q1M ss r).mp h2⟩,λ⟨v,r,e,h1,h2⟩=>⟨v,r,e,(one v).mpr h1,(q1M ss r).mpr h2⟩⟩
theorem j2A {G H:Hp} {v:V} (r:Rv):q6n { T with me:=z,mo:=u } K G H v r↔q6n T K G H v r:=by
 cases r with
 | sh d=>exact q1z d v
 | fr ds=>exact ⟨λ⟨a,us,e1,e2,e3,r⟩=>⟨a,us,e1,e2,e3,(repL_me ds us).mp r⟩,λ⟨a,us,e1,e2,e3,r⟩=>⟨a,us,e1,e2,e3,(repL_me ds us).mpr r⟩⟩
 | tf t pre ds post=>exact ⟨λ⟨a,vp,b,vq,ws,e1,e2,r1,r2,e3,e4,r3⟩=>⟨a,vp,b,vq,ws,e1,e2,(repL_me _ _).mp r1,(repL_me _ _).mp r2,e3,e4,(repL_me _ _).mp r3⟩,λ⟨a,vp,b,vq,ws,e1,e2,r1,r2,e3,e4,r3⟩=>⟨a,vp,b,vq,ws,e1,e2,(repL_me _ _).mpr r1,(repL_me _ _).mpr r2,e3,e4,(repL_me _ _).mpr r3⟩⟩
theorem j0W {n:Nat} {F:Fn} {vs:List V} {H:Hp} {Q:VK} {E:XK} (h:spD { T with me:=z,mo:=u } K n F vs H Q E):spD T K n F vs H Q E:=by
 obtain ⟨ss,h1,h2,h3⟩:=h
 refine ⟨ss,(q1M ss vs).mp h1,h2,?_⟩
 cases e:F ss with
 | ok r=>rw [e] at h3;exact λv H' sm ro=>h3 v H' sm ((j2A r).mpr ro)
 | exc c=>rw [e] at h3;exact h3
 | bad=>rw [e] at h3;exact h3
theorem q1f {P:Program} {w:World} {mg:Str->Option Value} {base:Heap} {k:Nat} {f:Addr} {fd:FuncData} {ps:List Str} {n:Nat} {F:Fn} (h:q0X P w K mg base (CXE T P w) k f fd ps (spD T K n F)):q0X P w K mg base (CXE { T with me:=z,mo:=u } P w) k f fd ps (spD { T with me:=z,mo:=u } K n F):=
 ⟨λvs H Q E q=>h.len vs H Q E (j0W q),λA outer s H args us vs Q E hr he hb hv hs=>h.run A outer s H args us vs Q E hr he hb hv (j0W hs)⟩
end
noncomputable def spI (T:Tb) (K:PySem.W.Frag) (c n:Nat) (F:Fn):Sp:=λvs H Q E=>∃(x dx:Addr) (rest:List V) (ss:List Sl) (G:Hp),vs=.ref x::rest/\H=upd (upd G dx (.own x)) x (.ins (T.ca c) dx [])/\G x=none/\G dx=none/\dx≠x/\ArgsOk T K G rest ss/\vs.length=n /\
 (match F ss with
 | .ok (.sh d)=>∀H',Same G H'->Rep T K H' d (.ref x)->Q .non H'
 | .exc c=>∀H',Same G H'->E (.ref (T.ca c)) none H'
 | _=>False)
@[simp] noncomputable def q3f (n c ar:Nat) (f:Ro->Fl) (ss:List Sl):Out Rv:=match f (.me c []::ss++List.replicate (n-(ss.length+1)) .no) with
 | .nx ρ=>(match (ρ[0]?:Option Sl) with
  | some (.me c' ds)=>if c'=c/\ds.length=ar then .ok (.sh (.ins c ds)) else .bad
  | _=>.bad)
 | .exc c _=>.exc c
 | _=>.bad
section
variable {P:Program} {w:World} {K:PySem.W.Frag} {mg:Str->Option Value} {base:Heap} {T:Tb}
theorem j2t {H G:Hp} {N:List Str} {x dx:Addr} {rest:List V} {ss:List Sl} {c:Nat} (hH:H=upd (upd G dx (.own x)) x (.ins (T.ca c) dx [])) (hx:G x=none) (hdx:G dx=none) (hne:dx≠x) (h:ArgsOk T K G rest ss) (hN:rest.length+1<=N.length) :
 FR { T with me:=some x } K G H (L2.start N (.ref x::rest)) (.me c []::ss++List.replicate (N.length-(ss.length+1)) .no):=by
 have hl:=ArgsOk.length ss rest h
 have sm:Same G H:=λb o e=>by
  rw [hH,q0d (λz=>by rw [z,hx] at e;cases e),q0d (λz=>by rw [z,hdx] at e;cases e)];exact e
 have st:∀(i:Nat) (v:V),(V.ref x::rest)[i]?=some v->(L2.start N (.ref x::rest))[i]?=some (some v):=λi v e=>by
  unfold L2.start
  have hi:i < (V.ref x::rest).length:=(List.getElem?_eq_some_iff.mp e).1
  rw [List.getElem?_append_left (by simpa using hi),List.getElem?_map,e];rfl
 have cases_:∀(i:Nat) (s:Sl),(Sl.me c []::ss++List.replicate (N.length-(ss.length+1)) Sl.no)[i]?=some s->(i=0/\s=.me c [])∨(∃j,i=j+1/\ss[j]?=some s)∨s=.no:=λi s e=>by
  cases i with
  | zero=>exact .inl ⟨rfl,by simpa using e.symm⟩
  | succ j=>
   rw [List.cons_append,List.getElem?_cons_succ] at e
   by_cases hj:j < ss.length
   ·rw [List.getElem?_append_left hj] at e;exact .inr (.inl ⟨j,rfl,e⟩)
   ·rw [List.getElem?_append_right (by omega),List.getElem?_replicate] at e
    split at e
    ·cases e;exact .inr (.inr rfl)
    ·cases e
 have noow:∀(i:Nat) (s:Sl) (x:Option (Option V)) (b:Addr),(Sl.me c []::ss++List.replicate (N.length-(ss.length+1)) Sl.no)[i]?=some s->¬q2e H x b s:=λi s x b z o=>by
  rcases cases_ i _ z with ⟨_,y⟩ | ⟨j,_,y⟩ | y
  ·subst y;exact o
  ·obtain ⟨v,_,r⟩:=ArgsOk.get ss rest j _ h y
   cases s with
   | sh d=>exact o
   | bo ds=>exact o
   | bi c ds=>exact o
   | _=>exact r
  ·subst y;exact o
 refine ⟨sm,?_,λi s e=>?_,λi j s t b _ z _ o _=>noow i s _ b z o,λy e=>?_,λi c' es z=>?_⟩
 ·unfold L2.start;simp;omega
 ·rcases cases_ i s e with ⟨rfl,rfl⟩ | ⟨j,rfl,y⟩ | rfl
  ·exact ⟨x,dx,[],rfl,st 0 _ rfl,by rw [hH];exact q0j,hx,rfl,rfl⟩
  ·obtain ⟨v,e1,r⟩:=ArgsOk.get ss rest j s h y
   rw [st (j+1) v (by simpa using e1)]
   cases s with
   | sh d=>exact ⟨v,rfl,(q1z d v).mpr (Rep.mono sm _ _ r)⟩
   | bo ds=>
    obtain ⟨a,us,rfl,r2,r3⟩:=r
    exact ⟨a,us,rfl,r2,(repL_me ds us).mpr (RepL.mono sm _ _ r3)⟩
   | bi c ds=>
    obtain ⟨a,rfl,dx,fs,r2,r3,r4,r5⟩:=r
    exact ⟨a,dx,fs,rfl,r2,r3,r4,(repL_me ds _).mpr (RepL.mono sm _ _ r5)⟩
   | _=>exact r.elim
  ·trivial
 ·cases e;exact st 0 _ rfl
 ·rcases cases_ i _ z with ⟨y,_⟩ | ⟨j,_,y⟩ | y
  ·exact y
  ·obtain ⟨v,_,r⟩:=ArgsOk.get ss rest j _ h y;exact r.elim
  ·cases y
theorem j3J {c ar:Nat} {x qual:Str} {st:Stmt} {fa:Addr} {fd:FuncData} {N ps:List Str} {k:Nat} {f:Ro->Fl} (hT:T.me=none) (har:(T.fl c).length=ar) (F:∃(oc:Value) (od:Option Addr) (dV kV doc pm:Value) (an:Option Addr) (cdv ct:Value) (osl:Array (Option Value)),
 fd=PySem.W.fnOf x qual (q08 st) (q0Q st) (q0g st) dV kV doc pm an cdv ct/\K.lookup fa=some ⟨oc,od,.func fd,osl⟩/\PySem.W.codeIn K cdv qual=true) (S:q0p N ps (q0g st))
 (hb:∀(y:Addr) (cdv:Value) (A:Around) (outer:List Env) (s:Shared) (H:Hp) (E:XK),Room k (A.deeper (envOfC qual (q0g st) s.heap.objs.size fa cdv))->DSs { T with me:=some y } true (CxD T P w K mg base N qual (q0g st) fa cdv A outer s H E) (q0Q st) f) :
 q0X P w K mg base (CXE T P w) (k+1) fa fd ps (spI T K c ps.length (q3f N.length c ar f)):=by
 obtain ⟨oc,od,dV,kV,doc,pm,an,cdv,ct,osl,rfl,lk,hcd⟩:=F
 refine j21 lk hcd S (λvs H Q E ⟨_,_,_,_,_,_,_,_,_,_,_,e,_⟩=>e) λA outer s H vs Q E hr ⟨y,dx,rest,ss,G,ev,hH,hx,hdx,hne,ha,hl,ho⟩=>?_
 subst ev
 have hpl:ps.length<=N.length:=by have:=congrArg List.length S.pre;rw [List.length_take] at this;omega
 have fr:=j2t (T:=T) (K:=K) (N:=N) hH hx hdx hne ha (by simp at hl;omega)
 refine ⟨_,(hb y cdv A outer s H E hr).run G (CxD T P w K mg base N qual (q0g st) fa cdv A outer s H E).xe PassesOwn.leaving,_,fr,?_⟩
 unfold q3f at ho
 cases e:f (.me c []::ss++List.replicate (N.length-(ss.length+1)) .no) with
 | nx ρ=>
  rw [e] at ho
  intro σ H' fr' _
  cases e0:ρ[0]? with
  | none=>simp only [e0] at ho
  | some sl=>
   cases sl with
   | me c' ds=>
    simp only [e0] at ho
    by_cases hc:c'=c/\ds.length=ar
    ·rw [if_pos hc] at ho
     obtain ⟨rfl,hd⟩:=hc
     obtain ⟨a,dx',fs,m0,e1,e2,e3,e4,r⟩:=fr'.sl 0 _ e0
     cases m0
     exact ho H' fr'.same ⟨y,dx',fs,rfl,e2,by rw [e4];exact List.take_of_length_le (by show (T.fl c').length<=_;omega),(repL_me ds _).mp r⟩
    ·rw [if_neg hc] at ho;exact ho.elim
   | _=>simp only [e0] at ho
 | exc c' ρ=>
  rw [e] at ho
  intro σ' H' fr' _ pins s' u H'' I hs fl
  exact q21 I rfl rfl rfl fl (ho H'' (fr'.same.trans hs))
 | rt r=>rw [e] at ho;exact ho.elim
 | rm r c ds ks=>rw [e] at ho;exact ho.elim
 | bk ρ=>rw [e] at ho;exact ho.elim
 | ct ρ=>rw [e] at ho;exact ho.elim
 | bad=>rw [e] at ho;exact ho.elim
end
section
variable {T:Tb} {ib:Bool} {X:Cx} {e o:Expr} {es:List Expr} {pos pos' p apos:Pos} {fe fo:Ev} {fs:Ro->Out (List Sl)} {k n c:Nat} {f:Addr} {fd:FuncData} {ps:List Str} {F:Fn} {ds:List Value} {dvs:List V} {dss:List Sl} {x:Str}
theorem q19 {a:Str} {v:V}:∀{fs:List (Str×V)},a∉fs.map (·.1)->q2y a v fs=fs++[(a,v)]
 | [],_=>rfl
 | (b,u)::r,h=>by
  have hb:¬b=a:=λz=>h (by simp [z])
  have hr:a∉r.map (·.1):=λz=>h (by simp at z ⊢; exact .inr z)
  show (if b=a then _ else _)=_
  rw [if_neg hb,q19 hr];rfl
mutual
theorem Rep.wr {K:PySem.W.Frag} {H:Hp} {y dx:Addr} {c:Nat} {fs:List (Str×V)} {o:HO} (h:H y=some (.ins (T.ca c) dx fs)) (hn:fs.map (·.1)≠T.fl c):∀(d:D) (v:V),Rep T K H d v->Rep T K (upd H y o) d v
 | .non,_,q=>q
 | .bl _,_,q=>q
 | .int _,_,q=>q
 | .str _,_,q=>q
 | .tup ds,_,q=>by
  obtain ⟨b,ws,r1,r2,r3⟩:=q
  refine ⟨b,ws,r1,?_,RepL.wr h hn ds ws r3⟩
  rcases r2 with (r2 | ⟨o',r2⟩) | r2
  ·exact .inl (.inl (by rw [q0d (λz=>by rw [z,h] at r2;cases r2)];exact r2))
  ·exact .inl (.inr ⟨o',by rw [q0d (λz=>by rw [z,h] at r2;cases r2)];exact r2⟩)
  ·exact .inr r2
 | .lst ds,_,q=>by
  obtain ⟨b,ws,r1,r2,r3⟩:=q
  refine ⟨b,ws,r1,?_,RepL.wr h hn ds ws r3⟩
  rcases r2 with ⟨o',r2⟩ | r2
  ·exact .inl ⟨o',by rw [q0d (λz=>by rw [z,h] at r2;cases r2)];exact r2⟩
  ·exact .inr r2
 | .ins c2 ds,_,q=>by
  obtain ⟨b,dx2,fs2,r1,r2,r3,r4⟩:=q
  refine ⟨b,dx2,fs2,r1,?_,r3,RepL.wr h hn ds _ r4⟩
  rw [q0d (λz=>?_)]
  ·exact r2
  ·rw [z,h] at r2
   injection r2 with r2
   injection r2 with q1 q2 q3
   subst q3
   exact hn (by rw [r3];unfold Tb.fl;rw [q1])
 | .exc c,_,q=>by
  obtain ⟨b,o',r1,r2,r3⟩:=q
  exact ⟨b,o',r1,by rw [q0d (λz=>by rw [z,h] at r2;cases r2)];exact r2,r3⟩
theorem RepL.wr {K:PySem.W.Frag} {H:Hp} {y dx:Addr} {c:Nat} {fs:List (Str×V)} {o:HO} (h:H y=some (.ins (T.ca c) dx fs)) (hn:fs.map (·.1)≠T.fl c):∀(ds:List D) (us:List V),RepL T K H ds us->RepL T K (upd H y o) ds us
 | [],_,q=>q
 | d::ds,_,q=>by
  obtain ⟨v,r,r1,r2,r3⟩:=q
  exact ⟨v,r,r1,Rep.wr h hn d v r2,RepL.wr h hn ds r r3⟩
end
@[simp] noncomputable def q0H (c j:Nat) (fe:Ev) (ρ:Ro):Fl:=match (ρ[0]?:Option Sl) with
 | some (.me c' ds)=>if c'=c/\ds.length=j then (fe ρ).fl ρ λd=>.nx (ρ.set 0 (.me c (ds++[d]))) else .bad
 | _=>.bad
theorem q0J {a:Str} (j:Nat) (cl:Cls X.K (T.ca c)) (na:NoAttr X.K (T.ca c) a) (hj:(T.fl c)[j]?=some a) (hnd:(T.fl c).Nodup) (h1000:j < 1000) (he:DE T X e fe) (hN:X.N[0]?=some x:=by rfl) (hv:Vis X.env.scope x:=by walk_at "v0")
 (hs:swapsWith e (some (.Attribute (.Name x p) a pos')) pos.line X.env=pure false:=by exact q03 rfl) (hd:(x==("__debug__" : Str))=false:=by decide) (hcd:(x==("__classdict__" : Str))=false:=by decide) :
 DS T true X (.Assign [.Attribute (.Name x p) a pos'] e pos) (q0H c j fe):=.mk λG E hp=>by
 refine PS.imp (j0T (X:=X.wish E) (q0W (X:=X.wish E) hN hv hd hcd) (he.run G E hp) hs) λD σ H ⟨ρ,fr,h⟩=>?_
 have h:AccS T true X G E H (q0H c j fe ρ) D:=h
 unfold q0H at h
 cases e0:ρ[0]? with
 | none=>simp only [e0] at h;exact h.elim
 | some sl=>
  cases sl with
  | me c' ds=>
   simp only [e0] at h
   by_cases hc:c'=c/\ds.length=j
   ·rw [if_pos hc] at h
    obtain ⟨rfl,hl⟩:=hc
    refine ⟨ρ,fr,Acc.mono (AccS.fl fr h) λd _ hd2 v H1 s1 rd=>?_⟩
    obtain ⟨y,dx,fs,m0,e1,e2,e3,e4,r⟩:=(fr.mono s1).sl 0 _ e0
    have hjl:j < (T.fl c').length:=(List.getElem?_eq_some_iff.mp hj).1
    have hnm:a∉fs.map (·.1):=λz=>by
     rw [e4,hl] at z
     obtain ⟨i,hi⟩:=List.getElem?_of_mem z
     obtain ⟨hi1,_⟩:=List.getElem?_eq_some_iff.mp hi
     rw [List.length_take] at hi1
     rw [List.getElem?_take_of_lt (by omega)] at hi
     have:=q2C hnd hi hj
     omega
    have hfl:fs.length=ds.length:=by
     have:=RepL.length _ _ r;simpa using this
    have hnf:fs.map (·.1)≠T.fl c':=λz=>by
     have:=congrArg List.length z
     simp at this;omega
    refine ⟨_,e1,y,T.ca c',dx,fs,rfl,e2,cl,na,by omega,?_⟩
    have fr1:=fr.mono s1
    have h0:0 < ρ.length:=(List.getElem?_eq_some_iff.mp e0).1
    refine hd2 σ _ ⟨λb u q=>?_,by simp [fr1.len],λi s q=>?_,λi k s1 s2 b hik q1 q2 o1 o2=>?_,fr1.me,λi c2 es q=>?_⟩ (λb u q st=>?_)
    ·rw [q0d (λz=>by rw [z,e3] at q;cases q)];exact fr1.same b u q
    ·by_cases hi:i=0
     ·subst hi
      rw [List.getElem?_set_self h0] at q
      cases q
      refine ⟨y,dx,q2y a v fs,m0,e1,q0j,e3,?_,?_⟩
      ·rw [q19 hnm,List.map_append,e4,List.length_append,List.length_cons,List.length_nil,hl]
       rw [List.take_succ,hj];rfl
      ·rw [q19 hnm,List.map_append]
       exact RepL.append _ _ _ _ (RepL.wr e2 hnf _ _ r) ⟨v,[],rfl,Rep.wr e2 hnf _ _ rd,rfl⟩
     ·rw [List.getElem?_set_ne (Ne.symm hi)] at q
      have hs:=fr1.sl i s q
      cases s with
      | no=>trivial
      | sh d'=>obtain ⟨w,z1,z2⟩:=hs;exact ⟨w,z1,Rep.wr e2 hnf _ _ z2⟩
      | ow es=>
       obtain ⟨b,ws,z1,z2,z3,z4⟩:=hs
       exact ⟨b,ws,z1,by rw [q0d (λz=>by rw [z,e2] at z2;cases z2)];exact z2,z3,RepL.wr e2 hnf _ _ z4⟩
      | bo es=>obtain ⟨b,ws,z1,z2,z4⟩:=hs;exact ⟨b,ws,z1,z2,RepL.wr e2 hnf _ _ z4⟩
      | me c2 es=>
       exact absurd (fr1.me0 i c2 es q) hi
      | mo es=>
       obtain ⟨b,ws,z0,z1,z2,z3,z4⟩:=hs
       exact ⟨b,ws,z0,z1,by rw [q0d (λz=>by rw [z,e2] at z2;cases z2)];exact z2,z3,RepL.wr e2 hnf _ _ z4⟩
      | bi c2 es=>obtain ⟨b,dx2,fs2,z1,z2,z3,z4,z5⟩:=hs;exact ⟨b,dx2,fs2,z1,z2,z3,z4,RepL.wr e2 hnf _ _ z5⟩
      | lm ms=>
       obtain ⟨c2,us,z1,z2,z3,z4,z5⟩:=hs
       refine ⟨c2,us,z1,z2.keep (λu w _ n=>by rw [q0d (λz=>by subst z;rw [e2] at w;cases w;exact n _ _ _ rfl)];exact w),z3,λi' m v' q1 q2=>?_,z5⟩
       have z:=z4 i' m v' q1 q2
       match m,z with
       | (none,ks),⟨b,ws,y1,y2,y3,y4⟩=>exact ⟨b,ws,y1,by rw [q0d (λz=>by rw [z,e2] at y2;cases y2)];exact y2,y3,RepL.wr e2 hnf _ _ y4⟩
       | (some k,ks),⟨b,y1,y2,y3,dx3,fs3,w1,w2,w3,w4⟩=>exact ⟨b,y1,y2,y3,dx3,fs3,by rw [q0d (λz=>by subst z;exact y2 m0)];exact w1,w2,w3,RepL.wr e2 hnf _ _ w4⟩
      | ox t pre es post=>
       obtain ⟨c2,vp,b,vq,ws,z1,z2,z3,z4,z5,z6,z7⟩:=hs
       exact ⟨c2,vp,b,vq,ws,z1,z2.keep (λu w _ n=>by rw [q0d (λz=>by subst z;rw [e2] at w;cases w;exact n _ _ _ rfl)];exact w),RepL.wr e2 hnf _ _ z3,RepL.wr e2 hnf _ _ z4,by rw [q0d (λz=>by rw [z,e2] at z5;cases z5)];exact z5,z6,RepL.wr e2 hnf _ _ z7⟩
    ·have ni:i≠0:=by rintro rfl;rw [List.getElem?_set_self h0] at q1;cases q1;exact o1
     have nk:k≠0:=by rintro rfl;rw [List.getElem?_set_self h0] at q2;cases q2;exact o2
     rw [List.getElem?_set_ne (Ne.symm ni)] at q1
     rw [List.getElem?_set_ne (Ne.symm nk)] at q2
     have bk:∀(x:Addr) (u:HO),H1 x=some u->(∀xs,u≠.lst xs)->(∀x dx fs,u≠.ins x dx fs)->upd H1 y (.ins (T.ca c') dx (q2y a v fs)) x=some u:=λx u w _ n=>by
      rw [q0d (λz=>by subst z;rw [e2] at w;cases w;exact n _ _ _ rfl)];exact w
     exact fr1.ne i k s1 s2 b hik q1 q2 ((fr1.sl i s1 q1).back bk o1) ((fr1.sl k s2 q2).back bk o2)
    ·by_cases hi:i=0
     ·exact hi
     ·rw [List.getElem?_set_ne (Ne.symm hi)] at q;exact fr1.me0 i c2 es q
    ·have hb:b≠y:=λz=>by rw [z] at q;rw [s1 _ _ q] at e2;cases e2;cases st
     rw [q0d hb];exact s1 _ _ q
   ·rw [if_neg hc] at h;exact h.elim
  | _=>simp only [e0] at h;exact h.elim
end
section
variable {T:Tb} {ib:Bool} {X:Cx} {e o a b:Expr} {es:List Expr} {pos pos' p apos:Pos} {fe fo fa fb:Ev} {fs:Ro->Out (List Sl)} {k n c:Nat} {f:Addr} {fd:FuncData} {ps:List Str} {F:Fn} {ds:List Value} {dvs:List V} {dss:List Sl} {x:Str}
theorem j6U {pins:List (Addr×Obj)} {σ:L2.St} {H:Hp} {s:Shared} {E:Value->Shared->Prop} {Q:VK} {us:List Value} {vs:List V} {ss:List Sl} (M:Mk X.K (T.ca c) f) (FO:q0X X.prog X.w X.K X.mg X.base (CXE T X.prog X.w) k f fd ps (spI T X.K c ps.length F)) (hr:Room (k+1) X.A) (hb:Binds X.K fd ps ds) (hd:Vals dvs ds)
 (I:Inv (X.wish E) pins σ H s) (r:Vals vs us) (ha:ArgsOk T X.K H (vs++dvs) ss) (hl:(us++ds).length+1=ps.length)
 (h:Acc T X E σ H (F ss) (λr=>∀v H',Same H H'->q6n T X.K H H' v r->Q v H')) (hsh:∀r,F ss=.ok r->∃d,r=.sh d) :
 wpAny (model X.prog X.w) X.A (call (.ref (T.ca c)) us) (EP (X.wish E) pins σ Q) E s:=by
 have IX:Inv X pins σ H s:=I.unwish
 have I2:=Inv.made (C:=T.ca c) IX
 have hx:=IX.hok.fresh (a:=s.heap.objs.size+1) (Nat.le_succ _)
 have hdx:=IX.hok.fresh (a:=s.heap.objs.size) (Nat.le_refl _)
 have r2:Vals (V.ref (s.heap.objs.size+1)::(vs++dvs)) (Value.ref (s.heap.objs.size+1)::(us++ds)):=.cons rfl (r.append hd)
 let EX:XK:=λcls _ H'=>∃c',cls=.ref (T.ca c')/\F ss=.exc c'/\Same H H'
 have hsp:spI T X.K c ps.length F (V.ref (s.heap.objs.size+1)::(vs++dvs)) (upd (upd H s.heap.objs.size (.own (s.heap.objs.size+1))) (s.heap.objs.size+1) (.ins (T.ca c) s.heap.objs.size [])) (λv H2=>v=.non/\Q (.ref (s.heap.objs.size+1)) H2) EX:=by
  refine ⟨_,s.heap.objs.size,vs++dvs,ss,H,rfl,rfl,hx,hdx,Nat.ne_of_lt (Nat.lt_succ_self _),ha,?_,?_⟩
  ·have:=r2.length;rw [this];simpa using hl
  ·cases ef:F ss with
   | ok rr=>
    obtain ⟨d,rfl⟩:=hsh rr ef
    rw [ef] at h;exact λH' sm rd=>⟨rfl,h _ H' sm rd⟩
   | exc c'=>exact λH' sm=>⟨c',rfl,ef,sm⟩
   | bad=>rw [ef] at h;exact h.elim
 have hl2:(Value.ref (s.heap.objs.size+1)::us++ds).length=ps.length:=by simpa using hl
 refine wpAny_call (q5i (f:=f) IX.kIn M.makes M.init (beq_iff_eq.mp M.fn) (codeAny_mono (FO.run _ X.stack _ _ ⟨Value.ref (s.heap.objs.size+1)::us,[]⟩ (Value.ref (s.heap.objs.size+1)::(us++ds)) _ _ EX (hr.make (T.ca c) us [])
  (I2.env0.make (T.ca c) us []) (hb _ (Value.ref (s.heap.objs.size+1)::us) I2.kIn hl2) r2 hsp) λres s' hq=>?_))
 cases res with
 | error ev=>
  obtain ⟨c1,H',I',fl,c',ec,eF,sm⟩:=Inv.flown I2 hq
  rw [eF] at h
  refine h pins s' ev H' I' sm ?_
  obtain ⟨ea,rfl,h1,h2,nc,oe,vs',a0,he,hc,rest⟩:=fl
  exact ⟨ea,rfl,h1,h2,nc,oe,vs',a0,he,hc.trans ec,rest⟩
 | ok fl=>
  cases fl with
  | ret u=>
   obtain ⟨v,H',I3,rv,ev,q3⟩:=I2.after hq
   subst ev
   exact ⟨rv,⟨V.ref (s.heap.objs.size+1),H',I3.wish E,rfl,q3⟩⟩
  | next=>exact False.elim hq
  | brk=>exact False.elim hq
  | cont=>exact False.elim hq
theorem q10 (M:Mk X.K (T.ca c) f) (FO:q0X X.prog X.w X.K X.mg X.base (CXE T X.prog X.w) k f fd ps (spI T X.K c ps.length F)) (hsh:∀ss r,F ss=.ok r->∃d,r=.sh d) (hr:Room (k+1) X.A) (hg:Gl X x) (hm:X.mg x=some (.ref (T.ca c))) (hb:Binds X.K fd ps ds) (hd:Vals dvs ds)
 (hds:∀H,ArgsOk T X.K H dvs dss) (hn:n+1=ps.length) (ha:DG T X (e::es) fs) (hdb:(x==("__debug__" : Str))=false:=by decide) (he:starEach (e::es) X.env=(false,eval e X.env)::starEach es X.env:=by exact q0q rfl) (hpl:(backTo pos (starEach es X.env)).any (·.1)=false:=by exact q0r rfl) :
 DR T X (.Call (.Name x p) (e::es) [] pos) (q8n (n:=n) F dss fs):=.mk λG E hp=>by
 rintro pins s σ H Q I ⟨ρ,fr,h⟩
 refine wpAny_Call_Name_kw (q1E (X:=X.wish E) I hg hm ?_ hdb)
 refine PySem.W.callWith_K (h₀:=X.base) I.ok.mod.kin M.kp (thn (ha.run G E hp pos pins s σ H (λvs H1=>∃ss,ArgsOk T X.K H1 vs ss/\ss.length+dss.length=n/\Same H H1/\Acc T X E σ H1 (F (ss++dss)) (λr=>∀v H',Same H1 H'->q6n T X.K H1 H' v r->Q v H')) I ⟨ρ,fr,?_⟩) λus s1 ⟨vs,H1,I1,r,ss,ha1,hl1,s1',q⟩=>⟨I1.kIn,?_⟩) he hpl
 ·have h:Acc T X E σ H ((fs ρ).bind λss=>if ss.length+dss.length=n then F (ss++dss) else .bad) _:=h
  refine Acc.mono (Acc.bind h) λss _ hss vs H1 s1 r1=>?_
  by_cases hl:ss.length+dss.length=n
  ·rw [if_pos hl] at hss
   exact ⟨ss,r1,hl,s1,Acc.mono (Acc.heap s1 hss) λr _ hr' v H' s2 r2=>hr' v H' (s1.trans s2) (q4e s1 r2)⟩
  ·rw [if_neg hl] at hss;exact hss.elim
 ·have la:=ArgsOk.length ss vs ha1
  have lr:=r.length
  have ld:=ArgsOk.length dss dvs (hds H1)
  have lv:=hd.length
  exact j6U (X:=X) M FO hr hb hd I1 r (ArgsOk.append _ _ _ _ ha1 (hds H1)) (by simp only [List.length_append,List.nil_append];omega) q (hsh _)
theorem q1q {n c ar:Nat} {f:Ro->Fl} (ss:List Sl) (r:Rv) (h:q3f n c ar f ss=.ok r):∃d,r=.sh d:=by
 unfold q3f at h
 split at h
 ·split at h
  ·split at h
   ·cases h;exact ⟨_,rfl⟩
   ·cases h
  ·cases h
 ·cases h
 ·cases h
@[simp] noncomputable def j8V (cps:List (Nat×Nat)):D->Out D
 | .ins c ds=>(match cps.lookup c with
  | some j=>(match ds[j]? with | some d=>.ok d | none=>.bad)
  | none=>.bad)
 | _=>.bad
@[simp] noncomputable def q31 (cps:List (Nat×Nat)) (fo:Ev) (ρ:Ro):Out D:=(fo ρ).bind (j8V cps)
theorem q23 {a:Str} {j:Nat} {v:V}:∀{fs:List (Str×V)},(fs.map (·.1)).Nodup->(fs.map (·.1))[j]?=some a->(fs.map (·.2))[j]?=some v->fs.lookup a=some v
 | [],_,h,_=>by simp at h
 | (b,u)::r,nd,h1,h2=>by
  cases j with
  | zero=>
   simp at h1 h2
   subst h1 h2
   simp [List.lookup]
  | succ j=>
   rw [List.map_cons,List.getElem?_cons_succ] at h1 h2
   rw [List.map_cons,List.nodup_cons] at nd
   have hne:(a==b)=false:=by
    rw [beq_eq_false_iff_ne]
    rintro rfl
    exact nd.1 (List.mem_of_getElem? h1)
   rw [List.lookup_cons,hne]
   exact q23 nd.2 h1 h2
theorem q3e {cps:List (Nat×Nat)} {c j:Nat} (h:cps.lookup c=some j):(c,j)∈cps:=by
 induction cps with
 | nil=>cases h
 | cons q r ih=>
  obtain ⟨a,b⟩:=q
  rw [List.lookup_cons] at h
  by_cases z:c=a
  ·subst z
   simp at h;subst h;exact List.mem_cons_self
  ·have:(c==a)=false:=beq_eq_false_iff_ne.mpr z
   rw [this] at h
   exact List.mem_cons_of_mem _ (ih h)
theorem q1e {at_:Str} {cps:List (Nat×Nat)} (he:DE T X o fo) (hc:∀q∈cps,Cls X.K (T.ca q.1)/\NoAttr X.K (T.ca q.1) at_/\(T.fl q.1).Nodup/\(T.fl q.1)[q.2]?=some at_) (hb:attributeBase o at_ X.env (eval o X.env)=eval o X.env:=by rfl):DE T X (.Attribute o at_ pos) (q31 cps fo):=.mk λG E hp=>
 PE.imp (q9h (X:=X.wish E) (he.run G E hp) hb) fun σ H Q ⟨ρ,fr,q⟩=>⟨ρ,fr,Acc.mono (Acc.bind q) λd _ hd v H1 s1 r=>by
  cases d with
  | ins c ds=>
   obtain ⟨y,dx,fs,rfl,e2,e3,r4⟩:=r
   have hd:Acc T X E σ H (match cps.lookup c with | some j=>(match ds[j]? with | some d=>.ok d | none=>.bad) | none=>.bad) _:=hd
   cases el:cps.lookup c with
   | none=>simp only [el] at hd;exact hd.elim
   | some j=>
    simp only [el] at hd
    cases ed:ds[j]? with
    | none=>simp only [ed] at hd;exact hd.elim
    | some d=>
     simp only [ed] at hd
     obtain ⟨h1,h2,h3,h4⟩:=hc (c,j) (q3e el)
     obtain ⟨w,ew,rw'⟩:=RepL.get _ _ _ _ r4 ed
     exact ⟨y,T.ca c,dx,fs,w,rfl,e2,h1,h2,q23 (by rw [e3];exact h3) (by rw [e3];exact h4) ew,hd w H1 s1 rw'⟩
  | _=>exact hd.elim⟩
@[simp] noncomputable def q9y (cid:Nat):D->Out Bool
 | .ins c _=>if c=cid then .ok true else .bad
 | _=>.bad
theorem j2L {K:PySem.W.Frag} {cid:Nat} (h:j6j K (T.ca cid)):q5c T K (.ref (T.ca cid)) (q9y cid):=λd b hb=>by
 cases d with
 | ins c ds=>
  have hb:(if c=cid then Out.ok true else .bad)=.ok b:=hb
  by_cases z:c=cid
  ·rw [if_pos z] at hb
   cases hb
   subst z
   refine ⟨?_,(λc' ds' e=>by cases e;exact h),(λ_ e=>by cases e)⟩
   unfold PySem.W.kitOne
   rw [if_pos (by simp [j18])]
  ·rw [if_neg z] at hb;cases hb
 | _=>cases hb
theorem q6E (cid:Nat) (d:D) (c:Nat):q9y cid d≠.exc c:=by
 cases d<;>(intro h;first | cases h | (simp only [q9y] at h;split at h<;>cases h))
theorem j3z {cn:Str} {cid:Nat} {p2:Pos} {g:D->Out Bool} (hg:Gl X "isinstance") (hm:X.mg "isinstance" = none) (ha:DE T X e fe) (hgc:Gl X cn) (hmc:X.mg cn=some (.ref (T.ca cid))) (hi:q5c T X.K (.ref (T.ca cid)) g) (hng:∀d cc,g d≠.exc cc)
 (hs1:starEach [e,.Name cn p2] X.env=(false,eval e X.env)::starEach [.Name cn p2] X.env:=by rfl) (hd:(cn==("__debug__" : Str))=false:=by decide):DE T X (.Call (.Name "isinstance" p) [e,.Name cn p2] [] pos) (j3x g fe):=
 j0Q (cv:=.ref (T.ca cid)) (clsv:=.ref (T.ca cid)) hg hm ha (λE=>q7z (X:=X.wish E) hgc hmc rfl hd) (λu r=>r) hi hng hs1
@[simp] noncomputable def q7y (g g':D->D->Out D) (fa fb fc:Ev) (ρ:Ro):Out D:=(fa ρ).bind λx=>(fb ρ).bind λy=>(g x y).bind λz=>z.toB.bind λk=>if k=true then (fc ρ).bind λw=>g' y w else .ok (.bl false)
theorem q87 {G H:Hp} {E:Value->Shared->Prop} {σ:L2.St} {Q:VK} {g g':D->D->Out D} {r r':R2} {fc:Ev}
 (hg:∀(dx dy:D) (x y:V) (σ:L2.St) (H:Hp) (Q:VK),Rep T X.K H dx x->Rep T X.K H dy y->Acc T X E σ H (g dx dy) (kE T X.K H Q)->r x y H Q)
 (hg':∀(dx dy:D) (x y:V) (σ:L2.St) (H:Hp) (Q:VK),Rep T X.K H dx x->Rep T X.K H dy y->Acc T X E σ H (g' dx dy) (kE T X.K H Q)->r' x y H Q) {ρ:Ro} (fr:FR T X.K G H σ ρ) (h:Acc T X E σ H (q7y g g' fa fb fc ρ) (kE T X.K H Q)) :
 j0J r r' (tE T X G E fa) (tE T X G E fb) (tE T X G E fc) σ H Q:=by
 have h:Acc T X E σ H ((fa ρ).bind λx=>(fb ρ).bind λy=>(g x y).bind λz=>z.toB.bind λk=>if k=true then (fc ρ).bind λw=>g' y w else .ok (.bl false)) (kE T X.K H Q):=h
 refine ⟨ρ,fr,Acc.mono (Acc.bind h) λdx _ hx v H1 s1 r1=>⟨ρ,fr.mono s1,Acc.mono (Acc.bind (Acc.heap s1 hx)) λdy _ hy u H2 s2 r2=>?_⟩⟩
 refine hg dx dy v u σ H2 _ (Rep.mono s2 _ _ r1) r2 (Acc.mono (Acc.bind (Acc.heap s2 hy)) λdz _ hz w H3 s3 r3=>?_)
 obtain ⟨kk,rfl,hk⟩:=q3z hz
 refine ⟨kk,r3,?_⟩
 cases kk with
 | true=>
  refine ⟨ρ,((fr.mono s1).mono s2).mono s3,Acc.mono (Acc.bind (Acc.heap s3 hk)) λdw _ hw t H4 s4 r4=>?_⟩
  exact hg' dy dw u t σ H4 Q (Rep.mono s4 _ _ (Rep.mono s3 _ _ r2)) r4 (Acc.mono (Acc.heap s4 hw) λd _ hd z H5 s5 r5=>hd z H5 ((((s1.trans s2).trans s3).trans s4).trans s5) r5)
 | false=>exact hk _ H3 ((s1.trans s2).trans s3) rfl
theorem q2d {op op':CmpOp} {g g':D->D->Out D} {cc:Expr} {fc:Ev} (ho:OpD T X (compareOp op) g) (ho':OpD T X (compareOp op') g') (ha:DE T X a fa) (hb:DE T X b fb) (hc:DE T X cc fc) (hm:lastMarks [op,op'] [b,cc]=false:=by with_unfolding_all rfl) :
 DT T X (.Compare a [op,op'] [b,cc] pos) (fun ρ=>(q7y g g' fa fb fc ρ).bind D.toB):=.mk λG E hp=>by
 obtain ⟨r,hr,hg⟩:=ho E
 obtain ⟨r',hr',hg'⟩:=ho' E
 refine PT.imp (q9D (X:=X.wish E) hr hr' (ha.run G E hp) (hb.run G E hp) (hc.run G E hp) hm) fun σ H Q ⟨ρ,fr,h⟩=>q87 hg hg' fr (Acc.mono (Acc.bind h) λd _ hd v H1 s1 r1=>?_)
 cases d with
 | bl kk=>exact ⟨kk,r1,hd H1 s1⟩
 | _=>exact hd.elim
end
section
variable {T:Tb} {ib:Bool} {X:Cx} {e o a b:Expr} {es:List Expr} {pos pos' p apos:Pos} {fe fo fa fb:Ev} {x:Str}
@[simp] noncomputable def q8r:List Nat->Ro->List D->Out Ro
 | [],ρ,[]=>.ok ρ
 | i::is,ρ,d::ds=>q8r is (ρ.set i (.sh d)) ds
 | _,_,_=>.bad
noncomputable def j55 (T:Tb) (X:Cx) (ts:List Expr) (is:List Nat):Prop:=∀E:Value->Shared->Prop,∃tg:TGs,PGs (X.wish E) ts tg/\∀(G H:Hp) (σ:L2.St) (ρ ρ':Ro) (ds:List D) (vs:List V) (Q:L2.St->Hp->Prop),FR T X.K G H σ ρ->RepL T X.K H ds vs->q8r is ρ ds=.ok ρ'->(∀σ',FR T X.K G H σ' ρ'->Q σ' H)->tg vs σ H Q
theorem q4T:j55 T X [] []:=λE=>⟨_,j2r,λG H σ ρ ρ' ds vs Q fr r e k=>by
 cases ds with
 | nil=>cases e;cases r;exact ⟨rfl,k σ fr⟩
 | cons d ds=>cases e⟩
theorem q1O (i:Nat) {is:List Nat} {ts:List Expr} (hN:X.N.Nodup) (hr:j55 T X ts is) (hi:X.N[i]?=some x:=by rfl) (hx:Loc X.env.scope x:=by walk_at "v3") (hf:X.fn x=true∨X.env.scope.names.lookup x=some .local:=by walk_at "v2") (hz:T.me=none∨i≠0:=by walk_at "v1")
 (hs:(assignEach (.Name x p::ts) X.env).map (·.2)=assign (.Name x p) X.env::(assignEach ts X.env).map (·.2):=by rfl):j55 T X (.Name x p::ts) (i::is):=λE=>by
 obtain ⟨tg,h1,h2⟩:=hr E
 refine ⟨_,q9q (X:=X.wish E) (q3S (X:=X.wish E) (i:=i) hN hi hx hf) h1 (by first | exact hs | rfl),λG H σ ρ ρ' ds vs Q fr r e k=>?_⟩
 cases ds with
 | nil=>cases e
 | cons d ds=>
  obtain ⟨v,us,rfl,r1,r2⟩:=r
  exact ⟨v,us,rfl,h2 G H _ _ ρ' ds us Q (fr.set_sh r1 hz) r2 e k⟩
@[simp] noncomputable def j0S (is:List Nat) (ρ:Ro) (d:D):Out Ro:=match d with
 | .tup ds=>q8r is ρ ds
 | _=>.bad
theorem q4E:∀(is:List Nat) (ρ ρ':Ro) (ds:List D),q8r is ρ ds=.ok ρ'->ds.length=is.length
 | [],_,_,[],_=>rfl
 | [],_,_,_::_,e=>by cases e
 | _::_,_,_,[],e=>by cases e
 | i::is,ρ,ρ',d::ds,e=>by
  have:=q4E is _ ρ' ds e
  simp [this]
theorem q8X {ts:List Expr} {is:List Nat} {kk:Nat} (hc:X.calm=true) (h:j55 T X ts is) (hn:(assignEach ts X.env).length=is.length:=by rfl) (hst:(assignEach ts X.env).findIdx? (·.1)=none:=by rfl):TgD T X (.Tuple ts kk pos) (j0S is):=λE=>by
 obtain ⟨tg,h1,h2⟩:=h E
 refine ⟨_,j5j (X:=X.wish E) (n:=is.length) hc h1 hn hst,λG H σ ρ ρ' d v Q fr r e k=>?_⟩
 cases d with
 | tup ds=>
  obtain ⟨a,vs,rfl,sq,rl⟩:=r
  exact ⟨a,vs,rfl,sq,(RepL.length _ _ rl).trans (q4E is ρ ρ' ds e),h2 G H σ ρ ρ' ds vs Q fr rl e k⟩
 | _=>cases e
end
section
variable {T:Tb} {X:Cx} {pos:Pos} {x:Str}
theorem q0x {i:Int} (hg:Gl X x) (h:∃t,X.mg x=some (.int i t)) (hd:(x==("__debug__" : Str))=false:=by decide):DE T X (.Name x pos) (eC (.int i)):=by
 obtain ⟨t,h⟩:=h
 exact q4P (v:=.int i) hg h ⟨t,rfl⟩ (λ_=>rfl) hd
theorem q9U {z:Str} (hg:Gl X x) (h:∃t,X.mg x=some (.str z t)) (hd:(x==("__debug__" : Str))=false:=by decide):DE T X (.Name x pos) (eC (.str z)):=by
 obtain ⟨t,h⟩:=h
 exact q4P (v:=.str z) hg h ⟨t,rfl⟩ (λ_=>rfl) hd
theorem hsh1 {fe:Ev} (ρ:Ro) (ds:List D) (h:q0o fe q0O ρ=.ok ds):ds.length<=1000:=by
 simp only [q0o,q0O] at h
 cases e:fe ρ with
 | ok d=>rw [e] at h;cases h;show 1<=1000;decide
 | exc c=>rw [e] at h;cases h
 | bad=>rw [e] at h;cases h
theorem q2m {K:PySem.W.Frag} {k:Nat} {tab:List (Nat×Bool)} (h:∀q∈tab,PySem.W.exmOne K (.ref (T.ca q.1)) (.ref (T.ca k))=some q.2) (c:Nat) (b:Bool) (e:tab.lookup c=some b):PySem.W.exmOne K (.ref (T.ca c)) (.ref (T.ca k))=some b:=by
 have hm:(c,b)∈tab:=by
  induction tab with
  | nil=>cases e
  | cons q r ih=>
   obtain ⟨a,d⟩:=q
   rw [List.lookup_cons] at e
   by_cases z:c=a
   ·subst z
    simp at e;subst e;exact List.mem_cons_self
   ·have:(c==a)=false:=beq_eq_false_iff_ne.mpr z
    rw [this] at e
    exact List.mem_cons_of_mem _ (ih (λq hq=>h q (List.mem_cons_of_mem _ hq)) e)
 exact h _ hm
end
theorem q1L {K:PySem.W.Frag} {x qual:Str} {st:Stmt} {f:Addr} {fd:FuncData} (F:L2.Fun K x qual st f fd):∃(oc:Value) (od:Option Addr) (dV kV doc pm:Value) (an:Option Addr) (cdv ct:Value) (osl:Array (Option Value)),
 fd=PySem.W.fnOf x qual (q08 st) (q0Q st) (q0g st) dV kV doc pm an cdv ct/\K.lookup f=some ⟨oc,od,.func fd,osl⟩/\PySem.W.codeIn K cdv qual=true:=by
 obtain ⟨oc,od,kV,doc,pm,an,cdv,ct,osl,e1,e2,e3⟩:=F.ex
 exact ⟨oc,od,.none,kV,doc,pm,an,cdv,ct,osl,e1,e2,e3⟩
section
variable {T:Tb} {ib:Bool} {X:Cx} {e o a:Expr} {es:List Expr} {pos p apos cpos:Pos} {fe fo:Ev} {fs:Ro->Out (List D)}
noncomputable def MtD (T:Tb) (X:Cx) (t id:String) (g:D->List D->Out D):Prop:=∀E:Value->Shared->Prop,∃r:V->List V->Hp->VK->Prop,MtR (X.wish E) id r /\
 ∀(d:D) (ds:List D) (v:V) (vs:List V) (σ:L2.St) (H:Hp) (Q:VK),Rep T X.K H d v->RepL T X.K H ds vs->Acc T X E σ H (g d ds) (kE T X.K H Q)->r v vs H Q
@[simp] noncomputable def eMt (ty:D->Bool) (g:D->List D->Out D) (fo:Ev) (fs:Ro->Out (List D)) (ρ:Ro):Out D:=(fo ρ).bind λd=>if ty d=true then (fs ρ).bind λds=>g d ds else .bad
@[simp] noncomputable def q6q:D->Bool
 | .str _=>true
 | _=>false
theorem j5u {name:Str} {id:String} {g:D->List D->Out D} (hm:MtD T X "str" id g) (slot:Slot "str" name id) (hty:typeOf (.builtin id)=pure (.type "method_descriptor")) (ho:DE T X o fo) (ha:DA T X (e::es) fs)
 (hbase:attributeBase o name X.env (eval o X.env)=eval o X.env:=by rfl)
 (hfew:((backTo cpos (starEach (e::es) X.env)).all (λx=>!x.1) && (backToKw cpos (keywordEach [] X.env)).all (λx=>x.1.isSome)
  && decide ((e::es).length+([]:List Keyword).length+(if ([]:List Keyword).isEmpty then 0 else 1) < 30))=true:=by exact q55 rfl rfl)
 (hline:(apos.endLine==cpos.line)=true:=by rfl) (hs:starEach (e::es) X.env=(false,eval e X.env)::starEach es X.env:=by exact q0q rfl) (hplain:(backTo cpos (starEach es X.env)).any (·.1)=false:=by exact q0r rfl) :
 DE T X (.Call (.Attribute o name apos) (e::es) [] cpos) (eMt q6q g fo fs):=.mk λG E hp=>by
 obtain ⟨r,hr,hg⟩:=hm E
 refine PE.imp (q9N (X:=X.wish E) PySem.F.plainAttrs_str slot hty hr (ho.run G E hp) (ha.run G E hp) hbase hfew hline hs hplain) fun σ H Q ⟨ρ,fr,q⟩=>?_
 have q:Acc T X E σ H ((fo ρ).bind λd=>if q6q d=true then (fs ρ).bind λds=>g d ds else .bad) (kE T X.K H Q):=q
 refine ⟨ρ,fr,Acc.mono (Acc.bind q) λd _ hd v H1 s1 rd=>?_⟩
 by_cases z:q6q d=true
 ·rw [if_pos z] at hd
  cases d with
  | str x=>
   refine ⟨by rw [show v=V.str x from rd];exact rfl,ρ,fr.mono s1,Acc.mono (Acc.bind (Acc.heap s1 hd)) λds _ hds vs H2 s2 rl=>?_⟩
   exact hg _ ds v vs σ H2 Q (Rep.mono s2 _ _ rd) rl (Acc.mono (Acc.heap s2 hds) λd' _ k w H3 s3 r3=>k w H3 ((s1.trans s2).trans s3) r3)
  | _=>cases z
 ·rw [if_neg z] at hd;exact hd.elim
end
noncomputable def q6A:Expr->Option D
 | .Constant (.int i) _ _=>some (.int i)
 | .Constant (.str x) _ _=>some (.str x)
 | .Constant (.bool b) _ _=>some (.bl b)
 | .Constant .none _ _=>some .non
 | _=>none
noncomputable def litsOf:List Expr->Option (List D)
 | []=>some []
 | e::es=>match q6A e,litsOf es with
  | some d,some ds=>some (d::ds)
  | _,_=>none
@[simp] noncomputable def q33 (ds:List D) (ρ:Ro):Out (List D):=.ok ds
section
variable {T:Tb} {X:Cx}
theorem j5g:∀{e:Expr} {d:D},q6A e=some d->DE T X e (eC d):=by
 intro e d h
 unfold q6A at h
 split at h<;>cases h
 ·exact q0c
 ·exact q37
 ·exact q3B
 ·exact j5m
theorem q3W:∀{e:Expr} {d:D},q6A e=some d->q1G e=true:=by
 intro e d h
 unfold q6A at h
 split at h<;>first | rfl | cases h
theorem q1s:∀{es:List Expr} {ds:List D},litsOf es=some ds->DA T X es (q33 ds)
 | [],ds,h=>by
  cases h
  exact q0l
 | e::es,ds,h=>by
  unfold litsOf at h
  cases e1:q6A e with
  | none=>rw [e1] at h;cases h
  | some d=>
   cases e2:litsOf es with
   | none=>rw [e1,e2] at h;cases h
   | some rs=>
    rw [e1,e2] at h
    cases h
    exact q0i (j5g e1) (q1s e2) (q0q (q3W e1))
end
noncomputable def Walk (T:Tb) (K:PySem.W.Frag) (G:Hp) (J:It) (ds:List D) (H0:Hp):Prop:=∀(i:Nat) (H:Hp),Pers T false H0 H->Same G H ->
 (∀d,ds[i]?=some d->J.go i H/\∀x H1,J.yld i H x H1->Same H H1/\Rep T K H1 d x)/\(ds.length<=i->J.stop i H)
noncomputable def tI (T:Tb) (X:Cx) (G:Hp) (E:Value->Shared->Prop) (f:Ro->Out (List D)):TI:=fun σ H R=>∃ρ,FR T X.K G H σ ρ/\Acc T X E σ H (f ρ) (λds=>∀J H',Same H H'->Walk T X.K G J ds H'->R J H')
structure DI (T:Tb) (X:Cx) (tg e:Expr) (f:Ro->Out (List D)):Prop where
 mk ::
 run:∀(G:Hp) (E:Value->Shared->Prop),PassesOwn (model X.prog X.w) X.A X.env E->PI (X.wish E) tg e (tI T X G E f)
section
variable {T:Tb} {X:Cx} {tg iter e a b:Expr} {body:List Stmt} {pos p:Pos} {fb:Ro->Fl} {fl fm:Ro->Out (List D)} {fe fa fc:Ev}
theorem q1X {g:Ro->D->Out Ro} (hc:X.calm=true) (hi:DI T X tg iter fl) (hg:TgD T X tg g) (hb:DSs T false X body fb)
 (hs:∀x,foldedSetIterable iter X.env x=pure x:=by intro _;rfl):DS T false X (.For tg iter body [] pos) (q9l fl g fb):=.mk λG E hp=>by
 obtain ⟨tgr,hpg,hgr⟩:=hg E
 refine PS.imp (j40 (X:=X.wish E) hp hc (hi.run G E hp) hpg (hb.run G E hp) hs) λDD σ H ⟨ρ,fr,h⟩=>⟨ρ,fr,Acc.mono (AccS.fl fr h) λds _ hd J H1 s1 wk=>?_⟩
 refine ⟨λi m σ' H'=>m=ds.length-i/\i<=ds.length/\∃ρ',FR T X.K G H' σ' ρ'/\Pers T false H1 H'/\AccS T false X G E H' (q1Q (q0E g fb) (ds.drop i) ρ') DD,⟨ds.length,rfl,Nat.zero_le _,ρ,fr.mono s1,Pers.refl _,AccS.heap (Pers.of s1) hd⟩,?_⟩
 rintro i m σ' H' ⟨rfl,hi,ρ',fr',p',ha⟩
 obtain ⟨w1,w2⟩:=wk i H' p' fr'.same
 by_cases hlt:i < ds.length
 ·obtain ⟨d,e1⟩:∃d,ds[i]?=some d:=⟨ds[i],by simp [hlt]⟩
  obtain ⟨go,yl⟩:=w1 d e1
  refine .inr ⟨go,fun σ2 H2=>∃ρ2,FR T X.K G H2 σ2 ρ2/\Pers T false H1 H2/\AccS T false X G E H2 (q1Q (q0E g fb) (ds.drop (i+1)) ρ2) DD,fun σ2 H2 q=>⟨ds.length-(i+1),by omega,rfl,hlt,q⟩,λx H2 y=>?_⟩
  obtain ⟨s2,rd⟩:=yl x H2 y
  have e2:ds.drop i=d::ds.drop (i+1):=by
   obtain ⟨hi',e3⟩:=List.getElem?_eq_some_iff.mp e1
   rw [List.drop_eq_getElem_cons hi',e3]
  rw [e2] at ha
  exact j0r (ib:=false) hgr (λ_ _ _ q=>q) (fr'.mono s2) rd (AccS.heap (Pers.of s2) ha) fun ρ2 σ2 H3 fr2 p2 h2=>⟨ρ2,fr2,(p'.trans (Pers.of s2)).trans p2,h2⟩
 ·have e:i=ds.length:=by omega
  subst e
  rw [List.drop_length] at ha
  exact .inl ⟨w2 (Nat.le_refl _),ha σ' H' fr' (Pers.refl _)⟩
theorem q8L {G H1:Hp} {E:Value->Shared->Prop} {l:Addr} {vs:List V} {ds:List D} (st:Stb X.K G H1 l vs) (r:RepL T X.K H1 ds vs):Walk T X.K G (Itl X.K l) ds H1:=λi H p sm=>by
 have st':Stb X.K G H l vs:=st.pers p
 have sq:=st'.sq sm
 have r':=RepL.pers p _ _ r
 refine ⟨λd e=>?_,λh=>⟨vs,sq,by rw [RepL.length _ _ r'];exact h⟩⟩
 obtain ⟨v,e1,rd⟩:=RepL.get _ _ _ _ r' e
 refine ⟨⟨vs,v,sq,e1⟩,λx H2 ⟨e2,y⟩=>?_⟩
 subst e2
 have:=y vs sq
 rw [e1] at this;cases this
 exact ⟨Same.refl _,rd⟩
theorem q2f (hl:DP T X iter fl):DI T X tg iter fl:=.mk λG E hp=>
 PI.imp (j2D (hl.run G E hp)) fun σ H R ⟨ρ,fr,h⟩=>⟨ρ,fr,Acc.mono h λds _ hd l vs H1 s1 st r=>
  ⟨l,rfl,⟨vs,st.sq (fr.same.trans s1)⟩,hd _ H1 s1 (q8L (E:=E) st r)⟩⟩
@[simp] noncomputable def D.toT:D->Out (List D)
 | .tup ds=>.ok ds
 | _=>.bad
@[simp] noncomputable def j3f (f:Ev) (ρ:Ro):Out (List D):=(f ρ).bind D.toT
theorem q5R {K:PySem.W.Frag} {H H':Hp} {l:Addr} {vs:List V} (p:Pers T false H H') (h:SqT K H l vs):SqT K H' l vs:=by
 rcases h with (r2 | ⟨o,r2⟩) | r2
 ·exact .inl (.inl (p _ _ r2 rfl))
 ·exact .inl (.inr ⟨o,p _ _ r2 rfl⟩)
 ·exact .inr r2
theorem j1y (hl:DE T X iter fe):DI T X tg iter (j3f fe):=.mk λG E hp=>
 PI.imp (j4R (hl.run G E hp)) fun σ H R ⟨ρ,fr,h⟩=>⟨ρ,fr,Acc.mono (Acc.bind h) λd _ hd v H1 s1 r=>by
  cases d with
  | tup ds=>
   obtain ⟨l,vs,rfl,sq,rl⟩:=r
   refine ⟨l,rfl,⟨vs,sq⟩,hd _ H1 s1 λi H2 p sm=>?_⟩
   have sq':=q5R p sq
   have r':=RepL.pers p _ _ rl
   refine ⟨λd e=>?_,λh=>⟨vs,sq',by rw [RepL.length _ _ r'];exact h⟩⟩
   obtain ⟨v,e1,rd⟩:=RepL.get _ _ _ _ r' e
   refine ⟨⟨vs,v,sq',e1⟩,λx H3 ⟨e2,y⟩=>?_⟩
   subst e2
   have:=y vs sq'
   rw [e1] at this;cases this
   exact ⟨Same.refl _,rd⟩
  | _=>exact hd.elim⟩
noncomputable def rgS (lo step:Int) (n:Nat):List D:=(List.range n).map λ(k:Nat)=>D.int (lo+(k:Int)*step)
noncomputable def Its (lo step:Int) (n:Nat):It:=⟨λi _=>i < n,λi H x H'=>H'=H/\x=.int (lo+i*step),λi _=>n<=i⟩
theorem q40 {P:Program} {w:World} {K:PySem.W.Frag} {tg:Expr} (it:Addr) (lo step:Int) (n:Nat):Turn P w K tg (Its lo step n) [it] it (λi h=>IsRangeIter h it (lo+(i:Nat)*step) ((n:Int)-(i:Nat)) step) where
 mem:=by simp
 obj:=λi h st b hb=>by
  have e:b=it:=by simpa using hb
  subst e
  exact ⟨_,st,λv z=>by
   have z':Data.fields _=Data.cell v:=z
   cases z'⟩
 keep:=λi h h' st k=>k it (by simp) _ st
 item:=by
  intro X hP hw hK hc i pins s σ H E I hf st hg
  subst hP hw hK
  obtain ⟨f0,f1,f2,f3,f4,f5⟩:=hf it (by simp)
  have W:=Walks.range (prog:=X.prog) (w:=X.w) (I.ok.hd hc) it lo step n
  refine W.item i s _ _ hg st λv h' tk hv st' kk=>?_
  obtain ⟨t,rfl⟩:=hv
  have I1:Inv X pins σ H { s with heap:=h',toks:=tk }:=I.turned (λb o hb e=>kk b o (by simpa using hb) e) f0 f1 f3 f4 f5
  exact ⟨_,rfl,q7r (s:={ s with heap:=h',toks:=tk }) (n:="range_iterator") st' rfl rfl (by decide) ⟨.int (lo+i*step),H,I1,⟨t,rfl⟩,⟨rfl,rfl⟩,st',λb hb=>(hf b hb).1⟩⟩
 done:=by
  intro X hP hw hK hc i pins s σ H E I hf st hg
  subst hP hw hK
  obtain ⟨f0,f1,f2,f3,f4,f5⟩:=hf it (by simp)
  exact wpAny_pyNext_range_end (I.ok.hd hc) st (by have:n<=i:=hg;omega) λh' eb=>⟨rfl,I.turned (t':=s.toks) (λb o hb e=>eb b o hb e) f0 f1 f3 f4 f5⟩
 self:=λ_ _ _ _ _ st h=>wpAny_pyIter_rangeiter st h
theorem q3x {lo hi step:Int} (h1:-(2 ^ 40)<=lo) (h2:lo < 2 ^ 40) (h3:-(2 ^ 40)<=hi) (h4:hi < 2 ^ 40) (hs:step≠0):0<=Builtin.Range.rangeSize lo hi step/\Builtin.Range.rangeSize lo hi step < 2 ^ 42:=by
 have key:∀(u c:Int),0<=u->0 < c->0<=u / c/\u / c<=u:=λu c hu hc=>⟨Int.ediv_nonneg hu (by omega),Int.ediv_le_self _ hu⟩
 unfold Builtin.Range.rangeSize
 split
 ·split
  ·obtain ⟨k1,k2⟩:=key (hi-lo-1) step (by omega) (by omega)
   omega
  ·omega
 ·split
  ·obtain ⟨k1,k2⟩:=key (lo-hi-1) (-step) (by omega) (by omega)
   omega
  ·omega
theorem q9t {lo hi step:Int} (h1:-(2 ^ 40)<=lo) (h2:lo < 2 ^ 40) (h3:-(2 ^ 40)<=hi) (h4:hi < 2 ^ 40) (h5:-(2 ^ 40)<=step) (h6:step < 2 ^ 40) (hs:step≠0):Builtin.Range.small lo hi step=true:=by
 obtain ⟨k1,k2⟩:=q3x h1 h2 h3 h4 hs
 unfold Builtin.Range.small
 simp only [Builtin.Range.rangeFitsLong,Bool.and_eq_true,Bool.or_eq_true,decide_eq_true_eq,beq_iff_eq]
 refine ⟨⟨⟨⟨by omega,by omega⟩,by omega⟩,by omega⟩,.inr ?_⟩
 split<;>simp only [Builtin.Range.rangeFitsLong,Bool.and_eq_true,decide_eq_true_eq]<;>omega
theorem q81 {pins:List (Addr×Obj)} {σ:L2.St} {H:Hp} {s:Shared} {R:It->Hp->Prop} {E:Value->Shared->Prop} {lo hi step:Int} {t u v:Tok} {tk:Nat} (I:Inv X pins σ H s) (h1:-(2 ^ 40)<=lo) (h2:lo < 2 ^ 40) (h3:-(2 ^ 40)<=hi) (h4:hi < 2 ^ 40) (h5:-(2 ^ 40)<=step) (h6:step < 2 ^ 40) (hs:step≠0)
 (q:R (Its lo step (Builtin.Range.rangeSize lo hi step).toNat) H):wpAny (model X.prog X.w) X.A (pyIter (.ref s.heap.objs.size)) (PIE X pins σ tg R) E { s with heap:=s.heap.push { cls:=.type "range",data:=.fields #[.int lo t,.int hi u,.int step v] },toks:=tk }:=by
 refine wpAny_pyIter_range (IsRange.new ..) (q9t h1 h2 h3 h4 h5 h6 hs) ?_
 obtain ⟨k1,k2⟩:=q3x h1 h2 h3 h4 hs
 have I1:Inv X pins σ H { s with heap:=s.heap.push { cls:=.type "range",data:=.fields #[.int lo t,.int hi u,.int step v] },toks:=tk }:=I.kept λb o e=>Heap.get?_push_of_some _ e
 refine ⟨(s.heap.push { cls:=.type "range",data:=.fields #[.int lo t,.int hi u,.int step v] }).objs.size,[(s.heap.push { cls:=.type "range",data:=.fields #[.int lo t,.int hi u,.int step v] }).objs.size],_,_,H,rfl,
  I1.kept (t':=tk) λb o e=>Heap.get?_push_of_some _ e,q40 _ lo step (Builtin.Range.rangeSize lo hi step).toNat,?_,λb hb=>?_,q⟩
 ·have e1:lo+((0:Nat):Int)*step=lo:=by simp
  have e2:(((Builtin.Range.rangeSize lo hi step).toNat:Nat):Int)-((0:Nat):Int)=Builtin.Range.rangeSize lo hi step:=by omega
  show IsRangeIter _ _ (lo+((0:Nat):Int)*step) ((((Builtin.Range.rangeSize lo hi step).toNat:Nat):Int)-((0:Nat):Int)) step
  rw [e1,e2]
  exact Heap.get?_push_size _ rfl
 ·have e:b=(s.heap.push { cls:=.type "range",data:=.fields #[.int lo t,.int hi u,.int step v] }).objs.size:=by simpa using hb
  subst e
  exact I1.fpOk (Nat.le_refl _) (I1.hok.fresh (Nat.le_refl _))
theorem q6X {G H1:Hp} {lo step:Int} {n:Nat}:Walk T X.K G (Its lo step n) (rgS lo step n) H1:=λi H p sm=>by
 refine ⟨λd e=>?_,λh=>by show n<=i;simpa [rgS] using h⟩
 have hi:i < n:=by
  have:=(List.getElem?_eq_some_iff.mp e).1
  simpa [rgS] using this
 have ed:d=.int (lo+(i:Int)*step):=by
  rw [rgS,List.getElem?_map,List.getElem?_range hi] at e
  exact (Option.some.inj e).symm
 subst ed
 refine ⟨hi,λx H2 ⟨e2,y⟩=>?_⟩
 subst e2 y
 exact ⟨Same.refl _,rfl⟩
theorem q5a {G H1:Hp} {lo:Int} {n:Nat}:Walk T X.K G (Itr lo n) (rgD lo n) H1:=λi H p sm=>by
 refine ⟨λd e=>?_,λh=>by show n<=i;simpa [rgD] using h⟩
 have hi:i < n:=by
  have:=(List.getElem?_eq_some_iff.mp e).1
  simpa [rgD] using this
 have ed:d=.int (lo+(i:Int)):=by
  rw [rgD,List.getElem?_map,List.getElem?_range hi] at e
  exact (Option.some.inj e).symm
 subst ed
 refine ⟨hi,λx H2 ⟨e2,y⟩=>?_⟩
 subst e2 y
 exact ⟨Same.refl _,rfl⟩
@[simp] noncomputable def j0t (fn:Ro->Out (Int×Nat)) (ρ:Ro):Out (List D):=(fn ρ).bind λp=>.ok (rgD p.1 p.2)
theorem q5q {fn:Ro->Out (Int×Nat)} (hn:DN T X tg iter fn):DI T X tg iter (j0t fn):=.mk λG E hp=>
 PI.imp (hn.run G E hp) fun σ H R ⟨ρ,fr,h⟩=>⟨ρ,fr,Acc.mono (Acc.bind h) λp _ hd H1 s1=>hd _ H1 s1 q5a⟩
noncomputable def q4q (i j k:Int):Bool:=decide (-(2 ^ 40)<=i) && decide (i < 2 ^ 40) && decide (-(2 ^ 40)<=j) && decide (j < 2 ^ 40) && decide (-(2 ^ 20)<=k) && decide (k < 2 ^ 20) && decide (k≠0)
@[simp] noncomputable def j0k (fa fb fc:Ev) (ρ:Ro):Out (List D):=(fa ρ).bind λd=>(fb ρ).bind λd'=>(fc ρ).bind λd''=>match d,d',d'' with
 | .int i,.int j,.int k=>if q4q i j k=true then .ok (rgS i k (Builtin.Range.rangeSize i j k).toNat) else .bad
 | _,_,_=>.bad
theorem j2y {c:Expr} (hg:Gl X "range") (hm:X.mg "range" = none) (ha:DE T X a fa) (hb:DE T X b fe) (hc:DE T X c fc) (hs:starEach [a,b,c] X.env=(false,eval a X.env)::starEach [b,c] X.env:=by exact q0q rfl) (hs2:starEach [b,c] X.env=(false,eval b X.env)::starEach [c] X.env:=by exact q0q rfl) (hs3:starEach [c] X.env=(false,eval c X.env)::starEach [] X.env:=by exact q0q rfl)
 (hpl:(backTo pos (starEach [b,c] X.env)).any (·.1)=false:=by exact q0r rfl):DI T X tg (.Call (.Name "range" p) [a,b,c] [] pos) (j0k fa fe fc):=.mk λG E hp=>by
 rintro pins s σ H R I ⟨ρ,fr,h⟩
 refine Call_ (q2S (X:=X.wish E) I hg hm boot_range (PyProof.Rows.callWith_type1 (thn ((q0t (X:=X.wish E) (ha.run G E hp) (q0t (X:=X.wish E) (hb.run G E hp) (q0t (X:=X.wish E) (hc.run G E hp) q06 hs3) hs2) hs) pos pins s σ H (λvs H1=>∃i j k,vs=[.int i,.int j,.int k]/\q4q i j k=true/\R (Its i k (Builtin.Range.rangeSize i j k).toNat) H1) I ⟨ρ,fr,?_⟩) λus s1 ⟨vs,H1,I1,r1,i,j,k,e,ok,q⟩=>?_) hs hpl))
 ·refine Acc.mono (Acc.bind h) λd _ hd v H1 s1 r=>⟨ρ,fr.mono s1,Acc.mono (Acc.bind (Acc.heap s1 hd)) λd' _ hd' v' H2 s2 r'=>⟨ρ,(fr.mono s1).mono s2,Acc.mono (Acc.bind (Acc.heap s2 hd')) λd'' _ hd'' v'' H3 s3 r''=>?_⟩⟩
  cases d with
  | int i=>
   cases d' with
   | int j=>
    cases d'' with
    | int k=>
     have hd2:Acc T X E σ H2 (if q4q i j k=true then Out.ok (rgS i k (Builtin.Range.rangeSize i j k).toNat) else .bad) (λds=>∀J H',Same H H'->Walk T X.K G J ds H'->R J H'):=hd''
     by_cases z:q4q i j k=true
     ·rw [if_pos z] at hd2
      exact ⟨i,j,k,by rw [show v=V.int i from r,show v'=V.int j from r',show v''=V.int k from r''],z,hd2 _ H3 ((s1.trans s2).trans s3) q6X⟩
     ·rw [if_neg z] at hd2;exact hd2.elim
    | _=>exact hd''.elim
   | _=>first | exact hd''.elim | (cases d''<;>exact hd''.elim)
  | _=>first | exact hd''.elim | (cases d'<;>first | exact hd''.elim | (cases d''<;>exact hd''.elim))
 ·subst e
  cases r1 with
  | cons r rr=>
   cases rr with
   | cons r' rr=>
    cases rr with
    | cons r'' rr=>
     cases rr
     obtain ⟨t,rfl⟩:=r
     obtain ⟨t',rfl⟩:=r'
     obtain ⟨t'',rfl⟩:=r''
     simp only [q4q,Bool.and_eq_true,decide_eq_true_eq] at ok
     obtain ⟨⟨⟨⟨⟨⟨o1,o2⟩,o3⟩,o4⟩,o5⟩,o6⟩,o7⟩:=ok
     exact call_range_3 o7 (q81 (X:=X.wish E) I1 o1 o2 o3 o4 (by omega) (by omega) o7 q) (.inl (PyProof.noPylong_small (by omega)))
end
section
variable {T:Tb} {K:PySem.W.Frag} {G H:Hp} {σ:L2.St} {ρ:Ro}
theorem q1u {b:Bool} {a:Addr} {vs ws:List V} (h:H a=some (.lst vs)):Pers T b H (upd H a (.lst ws)):=λc o e st=>by
 rw [q0d (λz=>by rw [z,h] at e;cases e;cases st)];exact e
theorem FR.own_upd {i:Nat} {ds es:List D} {a:Addr} {vs ws:List V} (fr:FR T K G H σ ρ) (e:ρ[i]?=some (.ow ds)) (e1:σ[i]?=some (some (.ref a))) (e2:H a=some (.lst vs)) (e3:G a=none) (r:RepL T K H es ws) :
 FR T K G (upd H a (.lst ws)) σ (ρ.set i (.ow es)):=by
 have p:Pers T false H (upd H a (.lst ws)):=q1u e2
 have hl:i < ρ.length:=(List.getElem?_eq_some_iff.mp e).1
 have lt:∀{m:Nat} {z:Sl},(ρ.set i (.ow es))[m]?=some z->(m=i/\z=.ow es)∨(m≠i/\ρ[m]?=some z):=λ{m z} q=>by
  by_cases hm:m=i
  ·subst hm
   rw [List.getElem?_set_self hl] at q
   exact .inl ⟨rfl,(Option.some.inj q).symm⟩
  ·rw [List.getElem?_set_ne (Ne.symm hm)] at q;exact .inr ⟨hm,q⟩
 refine ⟨λb u q=>?_,by simp [fr.len],λj s q=>?_,λj k s1 s2 b hjk q1 q2 o1 o2=>?_,fr.me,q12 (λ_ _ z=>by cases z) fr.me0⟩
 ·rw [q0d (λz=>by rw [z,e3] at q;cases q)];exact fr.same b u q
 ·rcases lt q with ⟨rfl,rfl⟩ | ⟨hj,q⟩
  ·exact ⟨a,ws,e1,q0j,e3,RepL.pers p _ _ r⟩
  ·have h:=fr.sl j s q
   exact SlOk.off e2 (λ_ _=>RepL.pers p _ _) (λo1=>fr.ne j i _ _ a hj q e o1 e1) h
 ·have bk:∀(c:Addr) (u:HO),H c=some u->(∀xs,u≠.lst xs)->(∀x dx fs,u≠.ins x dx fs)->upd H a (.lst ws) c=some u:=λc u w n _=>by
   rw [q0d (λy=>by subst y;rw [e2] at w;cases w;exact n _ rfl)];exact w
  have own:∀(m:Nat) (z:Sl),(ρ.set i (.ow es))[m]?=some z->q2e (upd H a (.lst ws)) σ[m]? b z->∃z',ρ[m]?=some z'/\q2e H σ[m]? b z':=λm z q o=>by
   rcases lt q with ⟨rfl,rfl⟩ | ⟨_,q⟩
   ·exact ⟨_,e,o⟩
   ·exact ⟨_,q,(fr.sl m z q).back bk o⟩
  obtain ⟨_,p1,w1⟩:=own j _ q1 o1
  obtain ⟨_,p2,w2⟩:=own k _ q2 o2
  exact fr.ne j k _ _ b hjk p1 p2 w1 w2
end
section
variable {T:Tb} {ib:Bool} {X:Cx} {e e' o a b:Expr} {pos p p2 p3:Pos} {fe fa fb:Ev} {fl fm:Ro->Out (List D)} {x:Str}
@[simp] noncomputable def j6v (i:Nat) (fe:Ev) (ρ:Ro):Fl:=match ρ[i]? with
 | some (.ow ds)=>(fe ρ).fl ρ λd=>if ds.length < 1000000 then .nx (ρ.set i (.ow (ds++[d]))) else .bad
 | _=>.bad
theorem j4I (i:Nat) (he:DE T X e fe) (hN:X.N[i]?=some x:=by rfl) (hv:Vis X.env.scope x:=by walk_at "v0") (hd:(x==("__debug__" : Str))=false:=by decide)
 (hcd:(x==("__classdict__" : Str))=false:=by decide) (hs:starEach [e] X.env=(false,eval e X.env)::starEach [] X.env:=by exact q0q rfl) (hpl:(backTo p3 (starEach ([]:List Expr) X.env)).any (·.1)=false:=by exact q0r rfl) (hst:([e]:List Expr).all q1G=true:=by rfl)
 (hline:(p2.endLine==p3.line)=true:=by rfl) :
 DS T ib X (.Expr (.Call (.Attribute (.Name x p) "append" p2) [e] [] p3) pos) (j6v i fe):=.mk λG E hp=>
 PS.imp (q3E (X:=X.wish E) (q9N (X:=X.wish E) PySem.F.plainAttrs_list PySem.F.slot_list_append PySem.F.type_list_append q2U (q0W (X:=X.wish E) hN hv hd hcd) (q0t (X:=X.wish E) (he.run G E hp) q06 hs) rfl (q55 hst rfl) hline hs hpl) (q03 rfl)) λD σ H ⟨ρ,fr,h⟩=>by
  unfold j6v at h
  split at h
  ·rename_i ds e0
   obtain ⟨l,vs,e1,e2,e3,r⟩:=fr.sl i _ e0
   refine ⟨_,e1,.inl ⟨rfl,vs,SqL.of e2⟩,ρ,fr,Acc.mono (AccS.fl fr h) λd _ hd v H1 s1 r1=>?_⟩
   by_cases z:ds.length < 1000000
   ·rw [if_pos z] at hd
    have r':=RepL.mono s1 _ _ r
    refine ⟨l,vs,v,rfl,rfl,s1 _ _ e2,?_,hd σ _ ((fr.mono s1).own_upd e0 e1 (s1 _ _ e2) e3 (RepL.append _ _ _ _ r' ⟨v,[],rfl,r1,rfl⟩)) ((Pers.of s1).trans (q1u (s1 _ _ e2)))⟩
    rw [RepL.length _ _ r]
    have:=line6 (n:=1000000) (by omega)
    omega
   ·rw [if_neg z] at hd;exact hd.elim
  ·exact h.elim
noncomputable def tOI (T:Tb) (X:Cx) (G:Hp) (E:Value->Shared->Prop) (f:Ro->Out (Option Int)):TO:=fun σ H Q=>∃ρ,FR T X.K G H σ ρ/\Acc T X E σ H (f ρ) (λo=>∀H',Same H H'->Q o H')
structure DO (T:Tb) (X:Cx) (e:Option Expr) (f:Ro->Out (Option Int)):Prop where
 mk ::
 run:∀(G:Hp) (E:Value->Shared->Prop),PassesOwn (model X.prog X.w) X.A X.env E->PO (X.wish E) e (tOI T X G E f)
theorem PO.imp {X:Cx} {e:Option Expr} {t t':TO} (h:PO X e t) (k:∀σ H Q,t' σ H Q->t σ H Q):PO X e t':=λpins s σ H Q I q=>h pins s σ H Q I (k σ H Q q)
@[simp] noncomputable def oNo (ρ:Ro):Out (Option Int):=.ok none
@[simp] noncomputable def oSo (fe:Ev) (ρ:Ro):Out (Option Int):=(fe ρ).bind λd=>match d with
 | .int i=>.ok (some i)
 | _=>.bad
theorem q3c:DO T X none oNo:=.mk λG E hp=>PO.imp j3C fun σ H Q ⟨ρ,fr,h⟩=>h H (Same.refl H)
theorem q3i (he:DE T X e fe):DO T X (some e) (oSo fe):=.mk λG E hp=>PO.imp (j29 (he.run G E hp)) fun σ H Q ⟨ρ,fr,h⟩=>⟨ρ,fr,Acc.mono (Acc.bind h) λd _ hd v H1 s1 r=>by
 cases d with
 | int i=>exact ⟨i,r,hd H1 s1⟩
 | _=>exact hd.elim⟩
noncomputable def q4k {α:Type} (ds:List α) (lo hi:Option Int):List α:=(ds.drop (HT.sIx ds.length 0 lo)).take (HT.sIx ds.length ds.length hi-HT.sIx ds.length 0 lo)
@[simp] noncomputable def j3y (fl:Ro->Out (List D)) (fo fu:Ro->Out (Option Int)) (ρ:Ro):Out (List D):=(fl ρ).bind λds=>(fo ρ).bind λlo=>(fu ρ).bind λhi=>.ok (q4k ds lo hi)
theorem RepL.cut {K:PySem.W.Frag} {H:Hp} {ds:List D} {vs:List V} (r:RepL T K H ds vs) (lo hi:Option Int):RepL T K H (q4k ds lo hi) (j3M vs lo hi):=by
 unfold q4k j3M
 rw [RepL.length _ _ r]
 exact RepL.take _ _ _ (RepL.drop _ _ _ r)
theorem q4d {lo hi:Option Expr} {fo fu:Ro->Out (Option Int)} (hl:DL T X e fl) (ho:DO T X lo fo) (hu:DO T X hi fu):DF T X (.Subscript e (.Slice lo hi none p2) pos) (j3y fl fo fu):=.mk λG E hp=>
 PE.imp (q5z (X:=X.wish E) j2W (hl.run G E hp) (ho.run G E hp) (hu.run G E hp)) fun σ H Q ⟨ρ,fr,h⟩=>⟨ρ,fr,Acc.mono (Acc.bind h) λds _ hd l vs H1 s1 sq r=>⟨ρ,fr.mono s1,Acc.mono (Acc.bind (Acc.heap s1 hd)) λlo _ hlo H2 s2=>⟨ρ,(fr.mono s1).mono s2,Acc.mono (Acc.bind (Acc.heap s2 hlo)) λhi _ hhi H3 s3=>
  ⟨l,vs,rfl,s3.seq (s2.seq sq),λq hq=>hhi q _ _ (((s1.trans s2).trans s3).trans (q0B hq)) (((s1.trans s2).trans s3).free hq) q0j (RepL.mono (q0B hq) _ _ (RepL.cut (RepL.mono (s2.trans s3) _ _ r) lo hi))⟩⟩⟩⟩
theorem j3D:OpR X (binaryOp .Add) (λx y H Q=>∃l m xs zs,x=.ref l/\y=.ref m/\SqL X.K H l xs/\SqL X.K H m zs/\xs.length+zs.length<=sizeLine/\∀p,H p=none->Q (.ref p) (upd H p (.lst (xs++zs)))):=by
 intro pins s σ H x y v u Q I rx ry h
 obtain ⟨l,m,xs,zs,rfl,rfl,hH,hB,hz,q⟩:=h
 cases rx
 cases ry
 obtain ⟨its,r,pl,z1⟩:=I.list hH
 obtain ⟨its2,r2,pl2,z2⟩:=I.list hB
 have l1:=r.length
 have l2:=r2.length
 obtain ⟨⟨cls,dd,data,sl⟩,ho,hc,n,hd⟩:=pl.isList
 obtain ⟨⟨cls2,dd2,data2,sl2⟩,ho2,hc2,n2,hd2⟩:=pl2.isList
 simp only at hc hd hc2 hd2
 subst hc hd hc2 hd2
 have ea:its.toArray++its2.toArray=(its++its2).toArray:=by simp
 refine concat_meets ⟨_,ho,rfl⟩ ⟨_,ho2,rfl⟩ noFill_list_add seq_list_add PySem.F.slot_list_add PySem.F.entry_list_add (PySem.F.args_list_add_2 _ _) (list_addW l m its.toArray its2.toArray n n2 dd dd2 sl sl2 (by rw [List.size_toArray,List.size_toArray];omega)) ⟨ho,ho2,?_⟩
 rw [ea]
 exact ⟨.ref _,_,I.lnew (t':=s.toks) (r.append r2) (by rw [List.length_append];omega),rfl,q _ I.fresh⟩
@[simp] noncomputable def j3v (fl fm:Ro->Out (List D)) (ρ:Ro):Out (List D):=(fl ρ).bind λds=>(fm ρ).bind λes=>if ds.length+es.length<=1000000 then .ok (ds++es) else .bad
theorem q8C (ha:DL T X a fl) (hb:DL T X b fm):DF T X (.BinOp a .Add b pos) (j3v fl fm):=.mk λG E hp=>
 PE.imp (j4W (X:=X.wish E) j3D (ha.run G E hp) (hb.run G E hp)) fun σ H Q ⟨ρ,fr,h⟩=>⟨ρ,fr,Acc.mono (Acc.bind h) λds _ hd l vs H1 s1 sq r=>⟨ρ,fr.mono s1,Acc.mono (Acc.bind (Acc.heap s1 hd)) λes _ hes m ws H2 s2 sq2 r2=>by
  by_cases z:ds.length+es.length<=1000000
  ·rw [if_pos z] at hes
   refine ⟨l,m,vs,ws,rfl,rfl,s2.seq sq,sq2,?_,λq hq=>hes q _ _ ((s1.trans s2).trans (q0B hq)) ((s1.trans s2).free hq) q0j (RepL.mono (q0B hq) _ _ (RepL.append _ _ _ _ (RepL.mono s2 _ _ r) r2))⟩
   rw [RepL.length _ _ r,RepL.length _ _ r2];exact line6 z
  ·rw [if_neg z] at hes;exact hes.elim⟩⟩
@[simp] noncomputable def q5h (fl:Ro->Out (List D)) (ρ:Ro):Out D:=(fl ρ).bind λds=>.ok (.tup ds)
theorem q4Y (hg:Gl X "tuple") (hm:X.mg "tuple" = none) (hl:DL T X e fl) (hs:starEach [e] X.env=(false,eval e X.env)::starEach [] X.env:=by exact q0q rfl) (hpl:(backTo pos (starEach ([]:List Expr) X.env)).any (·.1)=false:=by exact q0r rfl):DE T X (.Call (.Name "tuple" p) [e] [] pos) (q5h fl):=.mk λG E hp=>
 PE.imp (q22 (X:=X.wish E) q3O hg hm rfl (q0t (X:=X.wish E) (hl.run G E hp) q06 hs) (by decide) (by decide) hs hpl) fun σ H Q ⟨ρ,fr,h⟩=>⟨ρ,fr,Acc.mono (Acc.bind h) λds _ hd l vs H1 s1 sq r=>
  ⟨l,vs,rfl,.inl ⟨sq,λq hq=>hd _ _ (s1.trans (q0B hq)) ⟨q,vs,rfl,SqT.of q0j,RepL.mono (q0B hq) _ _ r⟩⟩⟩⟩
end
section
variable {T:Tb} {X:Cx} {tg e a b:Expr} {pos p:Pos} {fl fm:Ro->Out (List D)}
end
section
variable {T:Tb} {X:Cx} {a b:Expr} {pos p tp:Pos} {fl fm:Ro->Out (List D)} {elts:List Expr} {x1:Nat}
end
section
variable {prog:Program} {w:World} {A:Around} {E:Value->Shared->Prop} {s:Shared}
end
section
variable {T:Tb} {X:Cx} {e:Expr} {pos p p2 pos2:Pos} {fl:Ro->Out (List D)}
end
section
variable {T:Tb} {X:Cx} {pos p p2 p3:Pos} {x:Str}
end
end L3
namespace L3
open PySem L2
theorem j3F {a b:Str} (h:a.cps.toList=b.cps.toList):a=b:=by
 cases a;cases b;simp at h;simp [h]
theorem j3a (a b:Str):(a++b).cps.toList=a.cps.toList++b.cps.toList:=by
 show (a.cps++b.cps).toList=_;simp
theorem q4Q (a:Str):a.cps.toList.length=a.length:=by simp [Str.length]
theorem log2_lt {n k:Nat} (h:n < 2 ^ k) (hk:0 < k):n.log2 < k:=by
 by_cases h0:n=0
 ·subst h0;simpa [Nat.log2_zero] using hk
 ·exact (Nat.log2_lt h0).mpr h
section
variable {b:Ro->D->Fl} {d:D} {ds:List D} {ρ ρ':Ro}
theorem q04:q1Q b [] ρ=.nx ρ:=by rw [q1Q]
theorem q1g (h:b ρ d=.nx ρ'):q1Q b (d::ds) ρ=q1Q b ds ρ':=by rw [q1Q,h]
theorem j24 {r:Rv} (h:b ρ d=.rt r):q1Q b (d::ds) ρ=.rt r:=by rw [q1Q,h]
theorem q5t {c:Nat} (h:b ρ d=.exc c ρ'):q1Q b (d::ds) ρ=.exc c ρ':=by rw [q1Q,h]
end
theorem q1w {fl:Ro->Out (List D)} {g:Ro->D->Out Ro} {fb:Ro->Fl} {ρ:Ro} {ds:List D} (h:fl ρ=.ok ds):q9l fl g fb ρ=q1Q (q0E g fb) ds ρ:=by rw [q9l,h,Out.ok_fl]
theorem q67 {fe:Ev} {ρ:Ro} {n:Nat} (h:fe ρ=.ok (.int n)) (hn:n < 1000000):j0t (n1 fe) ρ=.ok (rgD 0 n):=by
 have e:n1 fe ρ=.ok (0,n):=by
  rw [n1,h,Out.ok_bind]
  show (if _ then _ else _)=_
  rw [if_pos ⟨by omega,by omega⟩,Int.toNat_natCast]
 rw [j0t,e,Out.ok_bind]
theorem q90 (lo:Int) (n:Nat):rgD lo (n+1)=.int lo::rgD (lo+1) n:=by
 rw [rgD,List.range_succ_eq_map,List.map_cons,List.map_map,rgD]
 congr 1
 ·simp
 ·apply List.map_congr_left
  intro k _
  simp only [Function.comp_apply]
  congr 1
  omega
theorem q9z (lo:Int):rgD lo 0=[]:=by simp [rgD]
end L3
namespace L3
open PySem PySem.Spec PyProof.Rows L2
noncomputable def q36 (f:D->Out D):List D->Option (List D)
 | []=>some []
 | d::ds=>match f d with
  | .ok e=>(match q36 f ds with | some es=>some (e::es) | none=>none)
  | _=>none
theorem q5A {f:D->Out D}:∀{ds es:List D},q36 f ds=some es->es.length=ds.length/\∀(i:Nat) (d:D),ds[i]?=some d->∃e,f d=.ok e/\es[i]?=some e
 | [],es,h=>by cases h;exact ⟨rfl,λi d e=>by simp at e⟩
 | d::ds,es,h=>by
  rw [q36] at h
  cases e1:f d with
  | ok e=>
   rw [e1] at h
   cases e2:q36 f ds with
   | none=>rw [e2] at h;cases h
   | some es'=>
    rw [e2] at h
    cases h
    obtain ⟨l,g⟩:=q5A e2
    refine ⟨by simp [l],λi d' q=>?_⟩
    cases i with
    | zero=>cases q;exact ⟨e,e1,rfl⟩
    | succ i=>exact g i d' q
  | exc c=>rw [e1] at h;cases h
  | bad=>rw [e1] at h;cases h
theorem q6G (env:Env):∀(names:List (Str×NameKind)) (cs:List (Str×Addr)),(∀y∈names,y.2=.free->∃c,env.cells.lookup y.1=some c)->(∀y c,cs.lookup y=some c->env.cells.lookup y=some c) ->
 ∃cl:List (Str×Addr),(forIn names cs λ(x:Str×NameKind) (r:List (Str×Addr))=>(do if x.2==NameKind.free then do let c <-cellOf env x.1;pure (ForInStep.yield ((x.1,c)::r)) else pure (ForInStep.yield r):Sem (ForInStep (List (Str×Addr)))))=pure cl /\
  (∀y c,cl.lookup y=some c->env.cells.lookup y=some c)/\(∀y∈names,y.2=.free->∃c,cl.lookup y.1=some c)/\∀y c,cs.lookup y=some c->cl.lookup y=some c:=by
 intro names
 induction names with
 | nil=>intro cs _ h;exact ⟨cs,rfl,h,λy hy=>by simp at hy,λ_ _ e=>e⟩
 | cons z names ih=>
  obtain ⟨n,k⟩:=z
  intro cs hf h
  by_cases hk:k=.free
  ·subst hk
   obtain ⟨c,hc⟩:=hf (n,.free) (by simp) rfl
   have hc:env.cells.lookup n=some c:=hc
   have h':∀y c',((n,c)::cs).lookup y=some c'->env.cells.lookup y=some c':=λy c' e=>by
    rw [List.lookup_cons] at e
    cases ey:y==n with
    | true=>rw [ey] at e;cases e;rw [eq_of_beq ey];exact hc
    | false=>rw [ey] at e;exact h y c' e
   obtain ⟨cl,e1,e2,e3,e4⟩:=ih ((n,c)::cs) (λy hy=>hf y (by simp [hy])) h'
   have nn:cl.lookup n=some c:=e4 n c (by simp [List.lookup_cons])
   refine ⟨cl,?_,e2,λy hy hy2=>?_,λy c' e=>?_⟩
   ·rw [List.forIn_cons]
    have:cellOf env n=pure c:=by unfold cellOf;rw [hc]
    simp only [beq_self_eq_true,if_true,this,pure_bind]
    exact e1
   ·rcases List.mem_cons.mp hy with z | z
    ·rw [z];exact ⟨c,nn⟩
    ·exact e3 y z hy2
   ·by_cases ey:y=n
    ·subst ey
     have:=h y c' e
     rw [hc] at this;cases this
     exact nn
    ·exact e4 y c' (by rw [List.lookup_cons,show (y==n)=false by simpa using ey];exact e)
  ·obtain ⟨cl,e1,e2,e3,e4⟩:=ih cs (λy hy=>hf y (by simp [hy])) h
   have hb:(k==NameKind.free)=false:=by simpa using hk
   refine ⟨cl,?_,e2,λy hy hy2=>?_,e4⟩
   ·rw [List.forIn_cons]
    simp only [hb,Bool.false_eq_true,if_false,pure_bind]
    exact e1
   ·rcases List.mem_cons.mp hy with z | z
    ·rw [z] at hy2;exact absurd hy2 hk
    ·exact e3 y z hy2
theorem q6u (env:Env) (scope:Scope) (hf:∀y∈scope.names,y.2=.free->∃c,env.cells.lookup y.1=some c) :
 ∃cl:List (Str×Addr),closureFor scope env=pure cl/\(∀y c,cl.lookup y=some c->env.cells.lookup y=some c)/\∀y∈scope.names,y.2=.free->∃c,cl.lookup y.1=some c:=by
 obtain ⟨cl,e1,e2,e3,_⟩:=q6G env scope.names [] hf (λy c e=>by simp at e)
 refine ⟨cl,?_,e2,e3⟩
 rw [closureFor]
 show (forIn scope.names [] _ >>= λcs=>pure cs)=pure cl
 rw [bind_pure]
 exact e1
noncomputable abbrev CxC (X:Cx) (N':List Str) (scope:Scope) (cl:List (Str×Addr)) (C:Addr) (s₀:Shared) (H₀:Hp) (ex:List Addr):Cx:=
 { X with N:=N',env:=compEnvC scope cl C X.env,outer:=X.stack,s₀:=s₀,H₀:=H₀,ex:=ex,fn:=λ_=>false,pn:=[] }
structure Cap (X:Cx) (scope:Scope) (x:Str) (ys:List Str) (caps:List Nat):Prop where
 kind:scope.kind=.function
 own:scope.names.lookup x=some .local
 nocell:∀y∈scope.names,y.2≠.cell
 names:∀y∈scope.names,y.2=.local->scope.names.lookup y.1=some .local
 free:∀y∈scope.names,y.2=.free->X.env.kindOf y.1=some .cell∨X.env.kindOf y.1=some .free
 nodup:(x::ys).Nodup
 len:caps.length=ys.length
 cap:∀(j:Nat) (y:Str) (i:Nat),ys[j]?=some y->caps[j]?=some i->X.N[i]?=some y/\(X.env.kindOf y=some .cell∨X.env.kindOf y=some .free)/\scope.names.lookup y=some .free
theorem q0S {env:Env}:∀{names:List (Str×NameKind)} {x:Str} {k:NameKind},(names.map λ(n,k)=>if (k==NameKind.free && env.scope.kind==.function && env.kindOf n==some .cell) then (n,NameKind.cell) else (n,k)).lookup x=some k ->
 ∃k',names.lookup x=some k'/\(x,k')∈names/\(k=k'∨(k'=.free/\k=.cell))
 | [],_,_,h=>by simp at h
 | (n,k0)::r,x,k,h=>by
  have ih:=@q0S env r x k
  have h:List.lookup x ((if (k0==NameKind.free && env.scope.kind==.function && env.kindOf n==some .cell)=true then (n,NameKind.cell) else (n,k0))::_)=some k:=h
  cases hx:x==n with
  | true=>
   have e:=eq_of_beq hx
   subst e
   refine ⟨k0,by simp [List.lookup_cons],by simp,?_⟩
   by_cases hc:(k0==NameKind.free && env.scope.kind==.function && env.kindOf x==some .cell)=true
   ·rw [if_pos hc] at h
    simp only [List.lookup_cons,beq_self_eq_true] at h
    cases h
    right
    refine ⟨?_,rfl⟩
    simp only [Bool.and_eq_true] at hc
    exact eq_of_beq hc.1.1
   ·rw [if_neg hc] at h
    simp only [List.lookup_cons,beq_self_eq_true] at h
    cases h
    exact .inl rfl
  | false=>
   have h':List.lookup x (r.map λ(n,k)=>if (k==NameKind.free && env.scope.kind==.function && env.kindOf n==some .cell) then (n,NameKind.cell) else (n,k))=some k:=by
    by_cases hc:(k0==NameKind.free && env.scope.kind==.function && env.kindOf n==some .cell)=true
    ·rw [if_pos hc] at h;simpa [List.lookup_cons,hx] using h
    ·rw [if_neg hc] at h;simpa [List.lookup_cons,hx] using h
   obtain ⟨k',e1,e2,e3⟩:=ih h'
   exact ⟨k',by rw [List.lookup_cons,hx];exact e1,List.mem_cons_of_mem _ e2,e3⟩
section
variable {X:Cx} {pins:List (Addr×Obj)} {σ:L2.St} {H:Hp} {s:Shared} {scope:Scope} {x:Str} {ys:List Str} {caps:List Nat} {cl:List (Str×Addr)} {ex:List Addr}
theorem Cap.has (cp:Cap X scope x ys caps) (hcl:∀y∈scope.names,y.2=.free->∃c,cl.lookup y.1=some c):∀y,((relabel scope X.env).names.lookup y=some .cell∨(relabel scope X.env).names.lookup y=some .free)->∃c,cl.lookup y=some c:=by
 intro y h
 rcases h with h | h
 ·obtain ⟨k',_,e2,e3⟩:=q0S (env:=X.env) h
  rcases e3 with e3 | e3
  ·exact absurd e3.symm (cp.nocell _ e2)
  ·exact hcl _ e2 e3.1
 ·obtain ⟨k',_,e2,e3⟩:=q0S (env:=X.env) h
  rcases e3 with e3 | e3
  ·exact hcl _ e2 e3.symm
  ·cases e3.2
theorem j3q (I:Inv X pins σ H s) (cp:Cap X scope x ys caps) (h1:∀y c,cl.lookup y=some c->X.env.cells.lookup y=some c) (h2:∀y∈scope.names,y.2=.free->∃c,cl.lookup y.1=some c)
 (hx:∀b∈ex,q4K X pins H b/\b < s.heap.objs.size):(CxC X (x::ys) scope cl s.heap.objs.size s H ex).Ok where
 mod:=I.ok.mod
 kind:=cp.kind
 glob:=I.ok.glob
 blt:=I.ok.blt
 above:=Nat.le_refl _
 inj:=λa b c e1 e2=>I.ok.inj a b c (h1 _ _ e1) (h1 _ _ e2)
 has:=λy h=>cp.has h2 y h
 cab:=λy c e=>by cases e
 hd:=I.ok.hd
 frames:=I.ok.frames
 stk:=.inl rfl
 exf:=λb hb=>⟨Nat.ne_of_lt (hx b hb).2,λy c e=>(hx b hb).1.2.2.2.2.1 y c (h1 _ _ e)⟩
 bs:=I.bs
 bsz:=Nat.le_trans I.ok.bsz I.sz
 noex:=λb o e hb=>by
  rcases (hx b hb).1.2.2.2.1 with z | z
  ·exact I.ok.noex b o e z
  ·exact absurd (Nat.lt_of_lt_of_le (Heap.lt_size e) I.ok.bsz) (Nat.not_lt.mpr z)
 exfs:=λb hb hf=>by
  rcases List.mem_cons.mp (I.stkSub b hf) with z | z
  ·exact (hx b hb).1.2.1 z
  ·exact (hx b hb).1.2.2.1 z
 funs:=I.stack
 frf:=I.stkFree
theorem j0s {h':Heap} {tk:Nat} {m:Str->Option Value} (I:Inv X pins σ H s) (cp:Cap X scope x ys caps) (h1:∀y c,cl.lookup y=some c->X.env.cells.lookup y=some c) (h2:∀y∈scope.names,y.2=.free->∃c,cl.lookup y.1=some c)
 (hx:∀b∈ex,q4K X pins H b/\b < s.heap.objs.size) (hn:h'.Ns s.heap.objs.size m) (hk:∀b o,s.heap.get? b=some o->h'.get? b=some o) :
 Inv (CxC X (x::ys) scope cl s.heap.objs.size s H ex) [] (none::caps.map λi=>σ.getD i none) H { s with heap:=h',toks:=tk } where
 ok:=j3q I cp h1 h2 hx
 os:=rfl
 bare:=I.bare
 base:=Un.kept hk
 loc:=by
  refine ⟨m,hn,λj y v e1 e2 e3=>?_⟩
  cases j with
  | zero=>cases e2
  | succ j=>
   have e1:ys[j]?=some y:=e1
   have e2:(caps.map λi=>σ.getD i none)[j]?=some (some v):=e2
   rw [List.getElem?_map] at e2
   cases ei:caps[j]? with
   | none=>rw [ei] at e2;cases e2
   | some i=>
    rw [ei] at e2
    have e2:σ.getD i none=some v:=Option.some.inj e2
    obtain ⟨q1,q2,q3⟩:=cp.cap j y i e1 ei
    have e4:σ[i]?=some (some v):=by
     rw [List.getD_eq_getElem?_getD] at e2
     cases q:σ[i]? with
     | none=>rw [q] at e2;cases e2
     | some w=>rw [q] at e2;exact congrArg some e2
    obtain ⟨m0,hn0,hl⟩:=I.loc
    obtain ⟨u,r,lk⟩:=hl i y v q1 e4 (q2.elim (λz=>.inr (.inl z)) λz=>.inr (.inr z))
    refine ⟨u,r,.inr ?_⟩
    have lc:∃c,X.env.cells.lookup y=some c/\s.heap.IsCell c (some u):=by
     rcases lk with ⟨z,_⟩ | ⟨_,z⟩
     ·rcases q2 with q2 | q2<;>(rw [q2] at z;cases z)
     ·exact z
    obtain ⟨c,c1,c2⟩:=lc
    have mm:(y,NameKind.free)∈scope.names:=by
     have:∀(l:List (Str×NameKind)) (k:NameKind),l.lookup y=some k->(y,k)∈l:=by
      intro l
      induction l with
      | nil=>intro k e;simp at e
      | cons z l ih=>
       intro k e
       rw [List.lookup_cons] at e
       cases hz:y==z.1 with
       | true=>rw [hz] at e;cases e;rw [eq_of_beq hz];simp
       | false=>rw [hz] at e;exact List.mem_cons_of_mem _ (ih k e)
     exact this _ _ q3
    obtain ⟨c',c3⟩:=h2 _ mm rfl
    have:=h1 _ _ c3
    have this:X.env.cells.lookup y=some c':=this
    rw [c1] at this;cases this
    refine ⟨?_,c,c3,?_⟩
    ·rcases e3 with e3 | e3
     ·obtain ⟨k',z1,_,z3⟩:=q0S (env:=X.env) (show ((scope.names.map _).lookup y)=some NameKind.local from e3)
      rw [q3] at z1;cases z1
      rcases z3 with z3 | z3
      ·cases z3
      ·cases z3.2
     ·exact e3
    ·obtain ⟨o,ho,hd⟩:=c2
     exact ⟨o,hk _ _ ho,hd⟩
 cell:=λy c e=>by
  obtain ⟨v,o,ho,hd⟩:=I.cell y c (h1 _ _ e)
  exact ⟨v,o,hk _ _ ho,hd⟩
 free:=I.hok.fresh (Nat.le_refl _)
 freeC:=λy c e=>I.freeC y c (h1 _ _ e)
 pin:=λp hp=>by simp at hp
 hok:=I.hok.kept hk
 len:=by simp [cp.len]
theorem q6C {s3 s':Shared} {H':Hp} {σ':L2.St} {C:Addr} (I:Inv X pins σ H s3) (I':Inv (CxC X (x::ys) scope cl C s3 H ex) [] σ' H' s') (hx:∀b∈ex,q4K X pins H b):Inv X pins σ H' s':=
 I.call' (ch:=ex) I'.os I'.base I'.hok I'.bare λb hb=>⟨(hx b hb).2.2.2.1,(hx b hb).2.1,(hx b hb).2.2.2.2.1,(hx b hb).2.2.2.2.2⟩
end
noncomputable def q85:Sl->Sl
 | .sh d=>.sh d
 | _=>.no
noncomputable def q1p (caps:List Nat) (ρ:Ro) (d:D):Ro:=.sh d::caps.map λi=>q85 (ρ.getD i .no)
theorem q0y {T:Tb} (h:T.me=none):T={ T with me:=none }:=by
 cases T;cases h;rfl
theorem j2d {T T0:Tb} {K:PySem.W.Frag} {G H H':Hp} {σ:L2.St} {ρ:Ro} {caps:List Nat} {d:D} {v:V} {w:Option V} (hT:T0={ T with me:=none }) (fr:FR T K G H σ ρ) (p:Pers T false H H') (r:Rep T K H' d v) :
 FR T0 K (λ_=>none) H' ((w::caps.map λi=>σ.getD i none).set 0 (some v)) (q1p caps ρ d):=by
 refine ⟨λ_ _ e=>(by cases e),by simp [q1p],λi s e=>?_,λi j s t b _ e1 _ o1 _=>?_,λx e=>?_,λi c ds e=>?_⟩
 ·cases i with
  | zero=>
   have e:Sl.sh d=s:=Option.some.inj e
   subst e
   exact ⟨v,rfl,hT ▸ (q1z _ _).mpr r⟩
  | succ i=>
   have e:(caps.map λi=>q85 (ρ.getD i .no))[i]?=some s:=e
   show SlOk T0 K _ H' (caps.map λi=>σ.getD i none)[i]? s
   rw [List.getElem?_map] at e ⊢
   cases q:caps[i]? with
   | none=>rw [q] at e;cases e
   | some k=>
    rw [q] at e
    have e:q85 (ρ.getD k .no)=s:=Option.some.inj e
    subst e
    rw [List.getD_eq_getElem?_getD]
    cases qr:ρ[k]? with
    | none=>exact trivial
    | some z=>
     cases z with
     | sh d'=>
      obtain ⟨u,e1,r1⟩:=fr.sh_at qr
      refine ⟨u,?_,hT ▸ (q1z _ _).mpr (Rep.pers p _ _ r1)⟩
      show some (σ.getD k none)=_
      rw [List.getD_eq_getElem?_getD,e1]
      rfl
     | no=>exact trivial
     | ow _=>exact trivial
     | bo _=>exact trivial
     | me _ _=>exact trivial
     | ox _ _ _ _=>exact trivial
     | mo _=>exact trivial
     | lm _=>exact trivial
     | bi _ _=>exact trivial
 ·exfalso
  cases i with
  | zero=>
   have e1:Sl.sh d=s:=Option.some.inj e1
   subst e1;exact o1
  | succ i=>
   have e:(caps.map λi=>q85 (ρ.getD i .no))[i]?=some s:=e1
   rw [List.getElem?_map] at e
   cases q:caps[i]? with
   | none=>rw [q] at e;cases e
   | some k=>
    rw [q] at e
    have e:q85 (ρ.getD k .no)=s:=Option.some.inj e
    cases z:ρ.getD k .no<;>(rw [z] at e;subst e;exact o1)
 ·subst hT;cases e
 ·exfalso
  cases i with
  | zero=>cases e
  | succ i=>
   have e:(caps.map λi=>q85 (ρ.getD i .no))[i]?=some (.me c ds):=e
   rw [List.getElem?_map] at e
   cases q:caps[i]? with
   | none=>rw [q] at e;cases e
   | some k=>
    rw [q] at e
    have e:q85 (ρ.getD k .no)=.me c ds:=Option.some.inj e
    cases z:ρ.getD k .no<;>(rw [z] at e;cases e)
section
variable {T:Tb} {X:Cx} {elt iter:Expr} {x:Str} {px pos:Pos} {scope:Scope} {ys:List Str} {caps:List Nat} {fe:Ev} {cl:List (Str×Addr)} {pins:List (Addr×Obj)} {σ:L2.St} {G H2:Hp} {s2:Shared} {J:It} {fp:List Addr} {it:Addr} {tn:Nat->Heap->Prop} {ρ:Ro} {ds es:List D}
theorem q7d {T0:Tb} {RR:Value->Addr->Result->Shared->Prop} {E:Value->Shared->Prop} (hT:T0={ T with me:=none }) (hc:X.calm=true) (cp:Cap X scope x ys caps) (h1:∀y c,cl.lookup y=some c->X.env.cells.lookup y=some c) (h2:∀y∈scope.names,y.2=.free->∃c,cl.lookup y.1=some c)
 (he:∀(cl:List (Str×Addr)) (C:Addr) (s₀:Shared) (H₀:Hp) (ex:List Addr),DE T0 (CxC X (x::ys) scope cl C s₀ H₀ ex) elt fe)
 (I2:Inv X pins σ H2 s2) (Tn:Turn X.prog X.w X.K (.Name x px) J fp it tn) (t0:tn 0 s2.heap) (f2:∀b∈fp,q4K X pins H2 b)
 (fr:FR T X.K G H2 σ ρ) (wk:Walk T X.K G J ds H2) (hm:q36 (λd=>fe (q1p caps ρ d)) ds=some es) (hl:ds.length<=1000000)
 (hRR:∀(a C:Addr) (s':Shared) (m':Str->Option Value) (Hn:Hp) (vs:List V),Inv X pins σ Hn s'->q4K X pins Hn C->s'.heap.Ns C m'->Same H2 Hn->H2 a=none->Hn a=some (.lst vs)->RepL T X.K Hn es vs->RR (.ref a) C (.ok .next) s') :
 wpAny (model X.prog X.w) X.A (newList []) (λacc s3=>wpAny (model X.prog X.w) X.A (newFunctionEnv scope X.env.globals cl [] X.env.qual none .none (some X.env)) (λcenv s4=>
  codeAny (model X.prog X.w) X.A (.compStart (.ListComp elt [⟨.Name x px,iter,[],0⟩] scope pos) 0 (.ref it) acc { cenv with scope:=relabel scope X.env }) (RR acc cenv.locals) s4) E s3) E s2:=by
 obtain ⟨ml,mg⟩:=q5A hm
 refine wpAny_newList (wpAny_newFunctionEnv cp.nocell (by intro y hy;simp at hy) (λh' hns hsb=>?_) cp.kind)
 have I3:Inv X pins σ (upd H2 s2.heap.objs.size (.lst [])) { s2 with heap:=s2.heap.push { cls:=.type "list",data:=.seq ([]:List Value).toArray } }:=I2.lnew (t':=s2.toks) .nil (Nat.zero_le _)
 have bl:∀b∈fp,b < s2.heap.objs.size:=λb hb=>by
  obtain ⟨o,e,_⟩:=Tn.obj 0 _ t0 b hb
  exact Heap.lt_size e
 have ha0:H2 s2.heap.objs.size=none:=I2.hok.fresh (Nat.le_refl _)
 generalize hA:s2.heap.objs.size=a at *
 have f3:∀b∈fp,q4K X pins (upd H2 a (.lst [])) b:=λb hb=>⟨by rw [q0d (Nat.ne_of_lt (bl b hb))];exact (f2 b hb).1,(f2 b hb).2⟩
 have hs3:(s2.heap.push { cls:=.type "list",data:=.seq ([]:List Value).toArray }).objs.size=a+1:=by rw [Heap.size_push,hA]
 generalize hH:s2.heap.push { cls:=.type "list",data:=.seq ([]:List Value).toArray }=hp3 at *
 have up3:∀b o,s2.heap.get? b=some o->hp3.get? b=some o:=λb o e=>hH ▸ Heap.get?_push_of_some _ e
 have k3:∀b o,hp3.get? b=some o->h'.get? b=some o:=λb o e=>
  hsb.extBut b o (Nat.ne_of_lt (Heap.lt_size e)) (Heap.get?_push_of_some _ e)
 have t1:tn 0 h':=Tn.keep 0 _ _ t0 λb hb o e=>k3 b o (up3 b o e)
 generalize hC:hp3.objs.size=C at *
 have I4:Inv (CxC X (x::ys) scope cl C { s2 with heap:=hp3 } (upd H2 a (.lst [])) fp) [] (none::caps.map λi=>σ.getD i none) (upd H2 a (.lst [])) { s2 with heap:=h',toks:=s2.toks+([]:List (Str×Value)).length }:=by
  have:=j0s (ex:=fp) (tk:=s2.toks+([]:List (Str×Value)).length) (h':=h') I3 cp h1 h2 (λb hb=>⟨f3 b hb,by show b < hp3.objs.size;rw [hC,hs3];exact Nat.lt_succ_of_lt (bl b hb)⟩) (by show h'.Ns hp3.objs.size _;rw [hC];exact hns) k3
  have e:({ s2 with heap:=hp3 }:Shared).heap.objs.size=C:=hC
  rw [e] at this
  exact this
 have sm0:Same H2 (upd H2 a (.lst [])):=λb o e=>by
  have:b≠a:=λz=>by rw [z,ha0] at e;cases e
  rw [q0d this];exact e
 have own:(CxC X (x::ys) scope cl C { s2 with heap:=hp3 } (upd H2 a (.lst [])) fp).env.scope.names.lookup x=some .local:=lookup_relabel_local cp.own
 have Icf:q4K X pins (upd H2 a (.lst [])) C:=I3.fpOk (by show hp3.objs.size<=C;rw [hC];exact Nat.le_refl _) I4.free
 have fpc:∀{pn:List (Addr×Obj)} {H:Hp},(∀b∈fp,H b=none)->(∀b∈fp,∀p∈pn,p.1≠b)->∀b∈fp,q4K (CxC X (x::ys) scope cl C { s2 with heap:=hp3 } (upd H2 a (.lst [])) fp) pn H b:=λhn hp b hb=>
  ⟨hn b hb,(I4.ok.exf b hb).1,I4.ok.exfs b hb,.inl hb,(I4.ok.exf b hb).2,hp b hb⟩
 have loop:∀s':Shared,s'={ s2 with heap:=h',toks:=s2.toks+([]:List (Str×Value)).length } ->
  codeAny (model X.prog X.w) X.A (.compLoop (.ListComp elt [⟨.Name x px,iter,[],0⟩] scope pos) 0 (.ref it) (.ref a) (compEnvC scope cl C X.env)) (RR (.ref a) C) s':=by
  rintro s' rfl
  refine codeAny_compLoop_tests (λn s'=>∃(i:Nat) (w:Option V) (H':Hp) (vs:List V),n=ds.length-i/\i<=ds.length/\Inv (CxC X (x::ys) scope cl C { s2 with heap:=hp3 } (upd H2 a (.lst [])) fp) [] (w::caps.map λi=>σ.getD i none) H' s'/\tn i s'.heap/\(∀b∈fp,H' b=none) /\
   Same H2 H'/\H' a=some (.lst vs)/\RepL T X.K H' (es.take i) vs) ?_ ds.length ⟨0,none,_,[],rfl,Nat.zero_le _,I4,t1,λb hb=>(f3 b hb).1,sm0,q0j,by rw [List.take_zero];exact rfl⟩
  rintro n s' ⟨i,w,H',vs,rfl,hi,I',ti,fn,sm,hv,rp⟩
  obtain ⟨w1,w2⟩:=wk i H' (Pers.of sm) (fr.same.trans sm)
  by_cases hlt:i < ds.length
  ·obtain ⟨d,e1⟩:∃d,ds[i]?=some d:=⟨ds[i],by simp [hlt]⟩
   obtain ⟨go,yl⟩:=w1 d e1
   obtain ⟨e,ef,ee⟩:=mg i d e1
   refine wpAny_mono (Tn.item ((CxC X (x::ys) scope cl C { s2 with heap:=hp3 } (upd H2 a (.lst [])) fp).wish λ_ _=>False) rfl rfl rfl hc i [] s' _ H' (λ_ _=>False) (I'.wish _) (fpc fn λ_ _ p hp=>by cases hp) ti go) (λr s1 h=>?_) λ_ _ z=>z.elim
   obtain ⟨u,rfl,h⟩:=h
   show wpAny _ _ (assign (.Name x px) (compEnvC scope cl C X.env) u) _ _ s1
   refine (show wpAny (model X.prog X.w) X.A (letOwnedTupleGo (.Name x px) (.ref it) u >>= λ_=>assign (.Name x px) (compEnvC scope cl C X.env) u) _ _ s1 from wpAny_bind (wpAny_mono h (λ_ s5 h5=>?_) λ_ _ z=>z.elim))
   obtain ⟨y,H5,I5,r5,y5,t5,f5⟩:=h5
   obtain ⟨s5',rd⟩:=yl y H5 y5
   have I5':=I5.pinned (fpc f5 λ_ _ p hp=>by cases hp) (Tn.obj _ _ t5)
   refine wpAny_mono (q3S (X:=(CxC X (x::ys) scope cl C { s2 with heap:=hp3 } (upd H2 a (.lst [])) fp).wish λ_ _=>False) (i:=0) cp.nodup rfl (.inl own) (.inr own) _ s5 _ H5 y u (fun σ' H''=>σ'=(w::caps.map λi=>σ.getD i none).set 0 (some y)/\H''=H5) I5' r5 ⟨rfl,rfl⟩) (λ_ s6 h6=>?_) λ_ _ z=>z.elim
   obtain ⟨σ6,H6,I6,rfl,rfl⟩:=h6
   refine wpAny_pure ?_
   show wpAny (model X.prog X.w) X.A (eval elt (compEnvC scope cl C X.env)) _ _ s6
   have fr6:FR T0 X.K (λ_=>none) H6 ((w::caps.map λi=>σ.getD i none).set 0 (some y)) (q1p caps ρ d):=j2d hT fr (Pers.of (sm.trans s5')) rd
   refine wpAny_mono ((he cl C { s2 with heap:=hp3 } (upd H2 a (.lst [])) fp).run (λ_=>none) (λ_ _=>False) PassesOwn.never _ s6 _ H6 (λv H7=>Same H6 H7/\Rep T0 X.K H7 e v) I6 ⟨q1p caps ρ d,fr6,by rw [ef];exact λv H7 s7 r7=>⟨s7,r7⟩⟩) (λu7 s7 h7=>?_) λ_ _ z=>z.elim
   obtain ⟨v7,H7,I7,r7,sm7,rp7⟩:=h7
   have rp7:Rep T X.K H7 e v7:=by subst hT;exact (q1z _ _).mp rp7
   have hv7:H7 a=some (.lst vs):=sm7 _ _ (s5' _ _ hv)
   have lv:vs.length=i:=by rw [RepL.length _ _ rp,List.length_take,ml,Nat.min_eq_left hi]
   refine wpAny_mono (q2U (X:=(CxC X (x::ys) scope cl C { s2 with heap:=hp3 } (upd H2 a (.lst [])) fp).wish λ_ _=>False) _ s7 _ H7 (.ref a) [v7] (.ref a) [u7] (λ_ H8=>H8=upd H7 a (.lst (vs++[v7]))) I7 rfl (.cons r7 .nil) ⟨a,vs,v7,rfl,rfl,hv7,by rw [lv];exact Nat.lt_of_lt_of_le hlt (Nat.le_trans hl (by unfold sizeLine;decide)),rfl⟩) (λ_ s8 h8=>?_) λ_ _ z=>z.elim
   obtain ⟨_,H8,I8,_,rfl⟩:=h8
   have st:es.take (i+1)=es.take i++[e]:=by
    obtain ⟨q1,q2⟩:=List.getElem?_eq_some_iff.mp ee
    rw [List.take_succ_eq_append_getElem q1,q2]
   have p8:Pers T false H7 (upd H7 a (.lst (vs++[v7]))):=q1u hv7
   refine ⟨ds.length-(i+1),by omega,i+1,some y,_,vs++[v7],rfl,hlt,I8.unwish.unpinned,?_,λb hb=>?_,λb o q=>?_,q0j,?_⟩
   ·exact Tn.keep _ _ _ t5 λb hb o q=>(I8.pin (b,o) (List.mem_append_right _ (List.mem_append_right _ (q1N hb q)))).1
   ·obtain ⟨o,q,d'⟩:=Tn.obj _ _ t5 b hb
    exact (I8.pin (b,o) (List.mem_append_right _ (List.mem_append_right _ (q1N hb q)))).2.1
   ·have:b≠a:=λz=>by rw [z,ha0] at q;cases q
    rw [q0d this]
    exact sm7 _ _ (s5' _ _ (sm _ _ q))
   ·rw [st]
    exact RepL.append _ _ _ _ (RepL.pers p8 _ _ (RepL.mono sm7 _ _ (RepL.mono s5' _ _ rp))) ⟨v7,[],rfl,Rep.pers p8 _ _ rp7,rfl⟩
  ·have e:i=ds.length:=by omega
   refine wpAny_mono (Tn.done ((CxC X (x::ys) scope cl C { s2 with heap:=hp3 } (upd H2 a (.lst [])) fp).wish λ_ _=>False) rfl rfl rfl hc i [] s' _ H' (λ_ _=>False) (I'.wish _) (fpc fn λ_ _ p hp=>by cases hp) ti (w2 (by omega))) (λr s1 h=>?_) λ_ _ z=>z.elim
   obtain ⟨rfl,I1⟩:=h
   have I1:=I1.unwish
   obtain ⟨m',hn,_⟩:=I1.loc
   refine hRR a C s1 m' H' vs (q6C I3 I1 f3) ⟨I1.free,Icf.2⟩ hn sm ha0 hv ?_
   have:es.take i=es:=by rw [List.take_of_length_le (by omega)]
   rwa [this] at rp
 exact codeAny_compStart_list (loop _ rfl) (Tn.self _ 0 _ _ _ t1 (loop _ rfl))
end
noncomputable def CompOk (X:Cx) (e:Expr) (scope:Scope) (pos:Pos) (first:Sem Value) (t:TE):Prop:=
 ∀(pins:List (Addr×Obj)) (s:Shared) (σ:L2.St) (H:Hp) (Q:VK) (use:Option (Value->Sem Unit)) (QQ:Value->Shared->Prop),Inv X pins σ H s->t σ H Q ->
  (∀(a C:Addr) (s':Shared) (m:Str->Option Value) (Hn:Hp),Inv X pins σ Hn s'->q4K X pins Hn C->s'.heap.Ns C m->Q (.ref a) Hn->compPost (model X.prog X.w) X.A X.xe use QQ (.ref a) C (.ok .next) s') ->
  wpAny (model X.prog X.w) X.A (comprehension e scope X.env pos (newList []) false first use) QQ X.xe s
section
variable {X:Cx} {elt iter:Expr} {x y:Str} {px py pos spos p':Pos} {scope:Scope} {t:TE}
theorem CompOk.freeze {e:Expr} {first:Sem Value} (h:CompOk X e scope pos first t):CompOk X e scope pos first (fun σ H Q=>t σ H λv H1=>∃a vs,v=.ref a/\H1 a=some (.lst vs)/\∀o,Q v (upd H1 a (.frz o (.lst vs)))):=
 λpins s σ H Q use QQ I q k=>h pins s σ H _ use QQ I q λa C s' m Hn I' f hn ⟨a',vs,e,ha,kq⟩=>by
  cases e
  obtain ⟨o,I2⟩:=Inv.freeze I' ha
  exact k a C s' m _ I2 ⟨by rw [q0d (λz=>by rw [<-z,f.1] at ha;cases ha)];exact f.1,f.2⟩ hn (kq o)
theorem CompOk.pe {gs:List Comprehension} (h:CompOk X (.ListComp elt gs scope pos) scope (firstIterPos gs pos) (firstIter gs X.env) t) (ha:firstAsync gs=false:=by rfl):PE X (.ListComp elt gs scope pos) t:=λpins s σ H Q I q=>by
 rw [eval_ListComp,ha]
 refine h pins s σ H Q none _ I q λa C s' m Hn I' f hn hq=>⟨m,hn,λh' hs'=>?_⟩
 exact ⟨.ref a,Hn,I'.turned (t':=s'.toks) (λb o hb e=>hs'.extBut b o hb e) f.1 f.2.1 f.2.2.2.1 f.2.2.2.2.1 f.2.2.2.2.2,rfl,hq⟩
theorem CompOk.ps {gs:List Comprehension} {i:Nat} (h:CompOk X (.ListComp elt gs scope pos) scope (firstIterPos gs pos) (firstIter gs X.env) t) (hN:X.N.Nodup) (hi:X.N[i]?=some y) (hy:Loc X.env.scope y) (hf:X.fn y=true∨X.env.scope.names.lookup y=some .local)
 (hsw:swapsWith (.ListComp elt gs scope pos) (some (.Name y py)) spos.line X.env=pure true) (ha:firstAsync gs=false:=by rfl) :
 PS X (.Assign [.Name y py] (.ListComp elt gs scope pos) spos) (j6y t (j3s i)):=λpins s σ H D I q=>by
 rw [exec_Assign_Name_used _ _ _ _ hsw]
 refine wpAny_bind (wpAny_standAt (wpAny_bind ?_))
 show wpAny _ X.A (do let _ <-comprehension (.ListComp elt gs scope pos) scope X.env (firstIterPos gs pos) (newList []) (firstAsync gs) (firstIter gs X.env) (some (assign (.Name y py) X.env))) _ _ s
 rw [ha]
 refine wpAny_bind (wpAny_mono (h pins s σ H _ (some (assign (.Name y py) X.env)) (λ_ s'=>SP X pins D .next s') I q λa C s' m Hn I' f hn hq=>?_) (λ_ s' hq=>wpAny_pure (wpAny_pure hq)) λ_ _ z=>z)
 show wpAny (model X.prog X.w) X.A (assign (.Name y py) X.env (.ref a)) _ X.xe s'
 obtain ⟨o,es,ep,ho,hd⟩:=hn
 have hdc:∀v,o.data≠.cell v:=λv z=>by
  have:=hd.1
  rw [z] at this;cases this
 have I2:Inv X (pins++[(C,o)]) σ Hn s':=I'.pins_of λp hp=>(List.mem_append.mp hp).elim (λz=>I'.pin p (List.mem_append_right _ z)) λz=>by
  obtain rfl:p=(C,o):=by simpa using z
  exact ⟨ho,f.1,f.2.1,f.2.2.1,hdc⟩
 refine wpAny_mono (q3S (X:=X) (i:=i) hN hi hy hf _ s' σ Hn (.ref a) (.ref a) D.nx I2 rfl hq) (λ_ s'' h''=>?_) λ_ _ z=>z
 obtain ⟨σ',H',I3,q3⟩:=h''
 have hC:=I3.pin (C,o) (by simp)
 refine ⟨m,⟨o,es,ep,hC.1,hd⟩,λh' hs'=>?_⟩
 have I4:Inv X pins σ' H' s'':=I3.unpinned
 have I5:Inv X pins σ' H' { s'' with heap:=h' }:=I4.turned (t':=s''.toks) (λb o hb e=>hs'.extBut b o hb e) hC.2.1 f.2.1 f.2.2.2.1 f.2.2.2.2.1 f.2.2.2.2.2
 exact ⟨σ',H',I5,q3⟩
end
section
variable {T:Tb} {X:Cx} {elt iter:Expr} {x:Str} {px pos spos py:Pos} {scope:Scope} {ys:List Str} {caps:List Nat} {fe:Ev} {fl:Ro->Out (List D)}
@[simp] noncomputable def q0U (fl:Ro->Out (List D)) (caps:List Nat) (fe:Ev) (ρ:Ro):Out (List D):=(fl ρ).bind λds=>if ds.length<=1000000 then (match q36 (λd=>fe (q1p caps ρ d)) ds with | some es=>.ok es | none=>.bad) else .bad
theorem j05 {T0:Tb} {G:Hp} {E:Value->Shared->Prop} (hp:PassesOwn (model X.prog X.w) X.A X.env E) (hT:T0={ T with me:=none }) (hc:X.calm=true) (hi:DI T X (.Name x px) iter fl) (cp:Cap X scope x ys caps)
 (he:∀(cl:List (Str×Addr)) (C:Addr) (s₀:Shared) (H₀:Hp) (ex:List Addr),DE T0 (CxC X (x::ys) scope cl C s₀ H₀ ex) elt fe)
 (hs:∀x,foldedSetIterable iter X.env x=pure x) :
 CompOk (X.wish E) (.ListComp elt [⟨.Name x px,iter,[],0⟩] scope pos) scope (firstIterPos [⟨.Name x px,iter,[],0⟩] pos) (firstIter [⟨.Name x px,iter,[],0⟩] X.env) (tF T X G E (q0U fl caps fe)):=by
 rintro pins s σ H Q use QQ I ⟨ρ,fr,h⟩ k
 obtain ⟨cl,hclos,h1,h2⟩:=q6u X.env scope λy hy hf=>I.ok.has y.1 (cp.free y hy hf)
 refine wpAny_comprehension_free rfl hs hclos cp.kind cp.names ?_
 refine wpAny_mono (hi.run G E hp pins s σ H (λJ H'=>∃ds es,Same H H'/\Walk T X.K G J ds H'/\q36 (λd=>fe (q1p caps ρ d)) ds=some es/\ds.length<=1000000/\∀a vs H'',Same H H''->H a=none->H'' a=some (.lst vs)->RepL T X.K H'' es vs->Q (.ref a) H'') I
  ⟨ρ,fr,Acc.mono (Acc.bind h) λds _ hd J H1 s1 wk=>?_⟩) (λv s1 h1'=>wpAny_mono h1' (λitv s2 h2'=>?_) λ_ _ z=>z) λ_ _ z=>z
 ·by_cases hl:ds.length<=1000000
  ·rw [if_pos hl] at hd
   cases hm:q36 (λd=>fe (q1p caps ρ d)) ds with
   | none=>rw [hm] at hd;exact hd.elim
   | some es=>
    rw [hm] at hd
    exact ⟨ds,es,s1,wk,hm,hl,hd⟩
  ·rw [if_neg hl] at hd;exact hd.elim
 ·obtain ⟨it,fp,tn,J,H2,rfl,I2,Tn,t0,f2,ds,es,sm,wk,hm,hl,kq⟩:=h2'
  refine q7d (X:=X) (E:=E) (G:=G) (RR:=λacc C=>compPost (model X.prog X.w) X.A E use QQ acc C) hT hc cp h1 h2 he I2.unwish Tn t0 f2 (fr.mono sm) wk hm hl ?_
  intro a C s' m' Hn vs I' f hn smn ha hv rp
  exact k a C s' m' Hn (I'.wish E) f hn (kq a vs Hn (sm.trans smn) (sm.free ha) hv rp)
theorem q13 {T0:Tb} (hT:T0={ T with me:=none }) (hc:X.calm=true) (hi:DI T X (.Name x px) iter fl) (cp:Cap X scope x ys caps)
 (he:∀(cl:List (Str×Addr)) (C:Addr) (s₀:Shared) (H₀:Hp) (ex:List Addr),DE T0 (CxC X (x::ys) scope cl C s₀ H₀ ex) elt fe)
 (hs:∀x,foldedSetIterable iter X.env x=pure x:=by intro _;rfl):DF T X (.ListComp elt [⟨.Name x px,iter,[],0⟩] scope pos) (q0U fl caps fe):=.mk λG E hp=>
 CompOk.pe (X:=X.wish E) (j05 hp hT hc hi cp he hs)
variable {ib:Bool} {y:Str}
theorem q96 {T0:Tb} (i:Nat) (hT:T0={ T with me:=none }) (hc:X.calm=true) (hN:X.N.Nodup) (hi:DI T X (.Name x px) iter fl) (cp:Cap X scope x ys caps)
 (he:∀(cl:List (Str×Addr)) (C:Addr) (s₀:Shared) (H₀:Hp) (ex:List Addr),DE T0 (CxC X (x::ys) scope cl C s₀ H₀ ex) elt fe) (hiN:X.N[i]?=some y:=by rfl) (hy:Loc X.env.scope y:=by walk_at "v3")
 (hf:X.fn y=true∨X.env.scope.names.lookup y=some .local:=by walk_at "v2")
 (hz:T.me=none∨i≠0:=by walk_at "v1")
 (hsw:swapsWith (.ListComp elt [⟨.Name x px,iter,[],0⟩] scope pos) (some (.Name y py)) spos.line X.env=pure true:=by rfl) (hs:∀x,foldedSetIterable iter X.env x=pure x:=by intro _;rfl) :
 DS T ib X (.Assign [.Name y py] (.ListComp elt [⟨.Name x px,iter,[],0⟩] scope pos) spos) (q1U i (q1B (q0U fl caps fe))):=.mk λG E hp=>
 PS.imp (CompOk.ps (X:=X.wish E) (i:=i) (CompOk.freeze (j05 (G:=G) hp hT hc hi cp he hs)) hN hiN hy hf hsw) λD σ H ⟨ρ,fr,h⟩=>⟨ρ,fr,Acc.mono (Acc.bind (AccS.fl fr h)) λds _ hd a vs H1 s1 ha ha' r=>⟨a,vs,rfl,ha',λo=>by
  have s2:Same H (upd H1 a (.frz o (.lst vs))):=λb u e=>by
   rw [q0d (λz=>by rw [z,ha] at e;cases e)];exact s1 b u e
  exact hd _ _ ((fr.mono s2).set_sh ⟨a,vs,rfl,.inl ⟨o,q0j⟩,RepL.froz ha' _ _ r⟩ hz) (Pers.of s2)⟩⟩
end
section
variable {X:Cx}
theorem j4u:SlR X (λx lo hi H Q=>∃z,x=.str z/\z.length<=sizeLine/\Q (.str (Txt.slice z lo hi)) H):=by
 intro pins s σ H x v vl vu lo hi sl Q I rx hs pl pu h
 obtain ⟨z,rfl,hz,q⟩:=h
 obtain ⟨t,rfl⟩:=rx
 obtain ⟨o,ho,hc,hd⟩:=hs
 refine ⟨"str",_,F.slot_str_getitem.lookup,typeIs_str _ _ _,?_⟩
 have fin:∀t' k,EP X pins σ Q (.str (Txt.slice z lo hi) t') { s with toks:=k }:=λt' k=>⟨.str _,H,I.tok k,⟨t',rfl⟩,q⟩
 cases pl with
 | none=>
  cases pu with
  | none=>exact wpAny_getItem_str_slice (l:=none) (u:=none) (st:=none) ⟨o,ho,hc,hd⟩ rfl (post_val_or_str ⟨Nat.le_trans (Txt.slice_le z _ _) hz,fin⟩)
  | int j u=>exact wpAny_getItem_str_slice (l:=none) (u:=some (j,u)) (st:=none) ⟨o,ho,hc,hd⟩ rfl (post_val_or_str ⟨Nat.le_trans (Txt.slice_le z _ _) hz,fin⟩)
 | int i u=>
  cases pu with
  | none=>exact wpAny_getItem_str_slice (l:=some (i,u)) (u:=none) (st:=none) ⟨o,ho,hc,hd⟩ rfl (post_val_or_str ⟨Nat.le_trans (Txt.slice_le z _ _) hz,fin⟩)
  | int j u'=>exact wpAny_getItem_str_slice (l:=some (i,u)) (u:=some (j,u')) (st:=none) ⟨o,ho,hc,hd⟩ rfl (post_val_or_str ⟨Nat.le_trans (Txt.slice_le z _ _) hz,fin⟩)
end
section
variable {T:Tb} {X:Cx} {a b e:Expr} {pos p p2:Pos} {fa fb fe:Ev} {lo hi:Option Expr} {fo fu:Ro->Out (Option Int)}
@[simp] noncomputable def q6W (fe:Ev) (fo fu:Ro->Out (Option Int)) (ρ:Ro):Out D:=(fe ρ).bind λd=>(fo ρ).bind λlo=>(fu ρ).bind λhi=>match d with
 | .str z=>if z.length<=1000000 then .ok (.str (Txt.slice z lo hi)) else .bad
 | _=>.bad
theorem q2P (he:DE T X e fe) (hl:DO T X lo fo) (hu:DO T X hi fu):DE T X (.Subscript e (.Slice lo hi none p2) pos) (q6W fe fo fu):=.mk λG E hp=>by
 refine PE.imp (q5z (X:=X.wish E) j4u (he.run G E hp) (hl.run G E hp) (hu.run G E hp)) fun σ H Q ⟨ρ,fr,h⟩=>⟨ρ,fr,Acc.mono (Acc.bind h) λd _ hd v H1 s1 r1=>?_⟩
 refine ⟨ρ,fr.mono s1,Acc.mono (Acc.bind (Acc.heap s1 hd)) λl _ hl' H2 s2=>?_⟩
 refine ⟨ρ,(fr.mono s1).mono s2,Acc.mono (Acc.bind (Acc.heap s2 hl')) λu _ hu' H3 s3=>?_⟩
 cases d with
 | str z=>
  have hu'':Acc T X E σ H2 (if z.length<=1000000 then .ok (.str (Txt.slice z l u)) else .bad) (kE T X.K H Q):=hu'
  by_cases c:z.length<=1000000
  ·rw [if_pos c] at hu''
   exact ⟨z,r1,line6 c,hu'' _ H3 ((s1.trans s2).trans s3) rfl⟩
  ·rw [if_neg c] at hu'';exact hu''.elim
 | _=>exact hu'.elim
noncomputable def Itx (z:Str):It:=⟨λi _=>i < z.length,λi H x H'=>H'=H/\∃c,z.cps[i]?=some c/\x=.str ⟨#[c]⟩,λi _=>z.length<=i⟩
theorem q5m {P:Program} {w:World} {K:PySem.W.Frag} {tg:Expr} {ty:String} (it:Addr) (z:Str) (t:Tok) (hn:["enumerate","zip","dict_itemiterator","dict_reverseitemiterator","odict_iterator","itertools.zip_longest","itertools.pairwise"].contains ty=false)
 (W:∀A:Around,A.handled=none->Walks P w A it [it] [it] z.cps.size (SignAt z) (λi h=>h.IsStrIter it ty z t i))
 (hself:∀(A:Around) (i:Nat) (s:Shared) (Q:Value->Shared->Prop) (E:Value->Shared->Prop),s.heap.IsStrIter it ty z t i->Q (.ref it) s->wpAny (model P w) A (pyIter (.ref it)) Q E s):Turn P w K tg (Itx z) [it] it (λi h=>i<=z.cps.size/\h.IsStrIter it ty z t i) where
 mem:=by simp
 obj:=λi h st b hb=>by
  have e:b=it:=by simpa using hb
  subst e
  obtain ⟨_,o,ho,_,hd⟩:=st
  exact ⟨o,ho,λv q=>by rw [hd] at q;cases q⟩
 keep:=λi h h' st k=>by
  obtain ⟨l,o,ho,r⟩:=st
  exact ⟨l,o,k it (by simp) o ho,r⟩
 item:=by
  intro X hP hw hK hc i pins s σ H E I hf st hg
  subst hP hw hK
  obtain ⟨f0,f1,f2,f3,f4,f5⟩:=hf it (by simp)
  refine (W X.A (I.ok.hd hc)).item i s _ _ hg st.2 λv h' tk hv st' kk=>?_
  obtain ⟨c,u,hcx,rfl⟩:=hv
  have I1:Inv X pins σ H { s with heap:=h',toks:=tk }:=I.turned (λb o hb e=>kk b o (by simpa using hb) e) f0 f1 f3 f4 f5
  obtain ⟨o,ho,hcl,hd⟩:=id st'
  exact ⟨_,rfl,q7r (s:={ s with heap:=h',toks:=tk }) (n:=ty) ho hcl hd hn ⟨.str ⟨#[c]⟩,H,I1,⟨u,rfl⟩,⟨rfl,c,hcx,rfl⟩,⟨hg,st'⟩,λb hb=>(hf b hb).1⟩⟩
 done:=by
  intro X hP hw hK hc i pins s σ H E I hf st hg
  subst hP hw hK
  obtain ⟨f0,f1,f2,f3,f4,f5⟩:=hf it (by simp)
  have hi:i=z.cps.size:=Nat.le_antisymm st.1 hg
  subst hi
  exact (W X.A (I.ok.hd hc)).done s _ _ st.2 λh' tk kk=>⟨rfl,I.turned (t':=tk) (λb o hb e=>kk b o (by simpa using hb) e) f0 f1 f3 f4 f5⟩
 self:=λA i s Q E st h=>hself A i s Q E st.2 h
end
section
variable {X:Cx} {tg:Expr}
theorem j4g {l:Expr} {tl:TE} (hl:PE X l tl):PI X tg l (fun σ H R=>tl σ H λx H1=>∃z,x=.str z/\R (Itx z) H1):=by
 intro pins s σ H R I h
 refine thn (hl pins s σ H _ I h) λv s1 ⟨x,H1,I1,r1,q1⟩=>?_
 obtain ⟨z,rfl,q⟩:=q1
 obtain ⟨t,rfl⟩:=r1
 have fin:∀(ob:Obj),∀b∈[s1.heap.objs.size],q4K X pins H1 b:=λob b hb=>by
  have e:b=s1.heap.objs.size:=by simpa using hb
  subst e
  exact I1.fpOk (Nat.le_refl _) (I1.hok.fresh (Nat.le_refl _))
 cases ha:z.cps.all (· < 128) with
 | true=>
  refine wpAny_pyIter_ascii ha ?_
  exact ⟨s1.heap.objs.size,[s1.heap.objs.size],_,_,H1,rfl,I1.kept (t':=s1.toks) λb o e=>Heap.get?_push_of_some _ e,q5m _ z t (by decide) (λA' hA=>Walks.strAscii hA _ z t) (λ_ _ _ _ _ st hQ=>wpAny_pyIter_striter_ascii st hQ),⟨Nat.zero_le _,_,Heap.get?_push_size _ rfl,rfl,rfl⟩,fin default,q⟩
 | false=>
  refine wpAny_pyIter_wide ha ?_
  exact ⟨s1.heap.objs.size,[s1.heap.objs.size],_,_,H1,rfl,I1.kept (t':=s1.toks) λb o e=>Heap.get?_push_of_some _ e,q5m _ z t (by decide) (λA' hA=>Walks.strWide hA _ z t) (λ_ _ _ _ _ st hQ=>wpAny_pyIter_striter_wide st hQ),⟨Nat.zero_le _,_,Heap.get?_push_size _ rfl,rfl,rfl⟩,fin default,q⟩
end
section
variable {T:Tb} {X:Cx} {tg e:Expr} {fe:Ev}
noncomputable def signs (z:Str):List D:=z.cps.toList.map λc=>D.str ⟨#[c]⟩
@[simp] noncomputable def D.toS:D->Out (List D)
 | .str z=>.ok (signs z)
 | _=>.bad
@[simp] noncomputable def j3I (f:Ev) (ρ:Ro):Out (List D):=(f ρ).bind D.toS
theorem j4p (he:DE T X e fe):DI T X tg e (j3I fe):=.mk λG E hp=>
 PI.imp (j4g (X:=X.wish E) (he.run G E hp)) fun σ H R ⟨ρ,fr,h⟩=>⟨ρ,fr,Acc.mono (Acc.bind h) λd _ hd v H1 s1 r1=>by
  cases d with
  | str z=>
   refine ⟨z,r1,hd _ H1 s1 λi H' p sm=>⟨λd' e'=>?_,λhl=>?_⟩⟩
   ·have hd':z.cps.toList[i]?.map (λc=>D.str ⟨#[c]⟩)=some d':=by rw [<-e',signs,List.getElem?_map]
    cases q:z.cps.toList[i]? with
    | none=>rw [q] at hd';cases hd'
    | some c=>
     rw [q] at hd'
     obtain rfl:D.str ⟨#[c]⟩=d':=Option.some.inj hd'
     have q2:z.cps[i]?=some c:=by rw [<-Array.getElem?_toList];exact q
     refine ⟨?_,λx H2 ⟨e2,c',e3,e4⟩=>?_⟩
     ·obtain ⟨hl,_⟩:=Array.getElem?_eq_some_iff.mp q2
      exact hl
     ·subst e2
      rw [q2] at e3;cases e3
      exact ⟨Same.refl _,e4⟩
   ·have:(signs z).length=z.length:=by simp [signs,Str.length]
    rw [this] at hl
    exact hl
  | _=>exact hd.elim⟩
end
section
variable {X:Cx}
theorem Inv.walked {pins:List (Addr×Obj)} {σ:L2.St} {H:Hp} {s:Shared} {ob:Obj} {h':Heap} {tk:Nat} (I:Inv X pins σ H s) (k:∀b o,b∉[s.heap.objs.size]->(s.heap.push ob).get? b=some o->h'.get? b=some o):Inv X pins σ H { s with heap:=h',toks:=tk }:=
 I.kept λb u e=>k b u (by simpa using Nat.ne_of_lt (Heap.lt_size e)) (Heap.get?_push_of_some _ e)
theorem q8S:∀{bs:List Bool} {us:List Value},Vals (bs.map V.bl) us->us=bs.map Value.bool
 | [],_,.nil=>rfl
 | b::bs,_,.cons r t=>by rw [q8S t,show _=Value.bool b from r];rfl
theorem q7h (bs:List Bool):(List.range bs.length).all (λi=>bs.getD i false)=bs.all id:=by
 rw [Bool.eq_iff_iff]
 simp only [List.all_eq_true,List.mem_range,id]
 constructor
 ·intro h b hb
  obtain ⟨i,hi,rfl⟩:=List.mem_iff_getElem.mp hb
  have:=h i hi
  rwa [List.getD_eq_getElem?_getD,List.getElem?_eq_getElem hi] at this
 ·intro h i hi
  rw [List.getD_eq_getElem?_getD,List.getElem?_eq_getElem hi]
  exact h _ (List.getElem_mem hi)
theorem q9F {P:Program} {w:World} {A:Around} (bs:List Bool):TruthOf P w A (λi v=>(bs.map Value.bool).toArray[i]?=some v) (λi=>bs.getD i false):=λi v s Q E hP hQ=>by
 have hP:((bs.map Value.bool)[i]?)=some v:=by rw [<-hP];simp
 rw [List.getElem?_map] at hP
 cases q:bs[i]? with
 | none=>rw [q] at hP;cases hP
 | some b=>
  rw [q] at hP
  obtain rfl:Value.bool b=v:=Option.some.inj hP
  have hQ:Q (bs.getD i false) s:=hQ
  rw [List.getD_eq_getElem?_getD,q] at hQ
  exact wpAny_truthy_bool hQ
theorem j0e (hc:X.calm=true):q2l X (.builtin "all") (λxs H Q=>∃(a:Addr) (bs:List Bool),xs=[.ref a]/\SqL X.K H a (bs.map V.bl)/\Q (.bl (bs.all id)) H):=by
 intro pins s σ H xs us Q I rv h
 obtain ⟨a,bs,rfl,hq,q⟩:=h
 obtain ⟨u,rfl,ru⟩:=rv.one
 cases ru
 obtain ⟨its,r,pl,hz⟩:=I.list hq
 obtain rfl:=q8S r
 have ha:a≠s.heap.objs.size:=by
  obtain ⟨o,ho,_⟩:=pl.isList
  exact Nat.ne_of_lt (Heap.lt_size ho)
 have W:=Walks.list (prog:=X.prog) (w:=X.w) (A:=X.A.in1) (show X.A.in1.handled=none from I.ok.hd hc) s.heap.objs.size a ha (bs.map Value.bool).toArray
 refine call_all_walk (wpAny_pyIter_list pl.isList ⟨_,_,_,_,_,_,λi=>bs.getD i false,rfl,W,⟨⟨_,Heap.get?_push_size _ rfl,rfl,rfl⟩,?_⟩,q9F bs,λh' tk hk=>?_⟩)
 ·obtain ⟨o,ho,r'⟩:=pl.isList
  exact ⟨o,Heap.get?_push_of_some _ ho,r'⟩
 ·have I2:=Inv.walked (s:=s) (tk:=tk) I hk
  refine ⟨.bl (bs.all id),H,I2,?_,q⟩
  rw [List.size_toArray,List.length_map,q7h]
  rfl
noncomputable def isum:List Int->Int
 | []=>0
 | i::is=>i+isum is
theorem q2Y (is:List Int):∀j,j<=is.length->preSum (λi=>is.getD i 0) j=isum (is.take j):=by
 intro j
 induction j with
 | zero=>intro _;simp [preSum,isum]
 | succ j ih=>
  intro h
  rw [preSum,ih (by omega)]
  have e:is.take (j+1)=is.take j++[is.getD j 0]:=by
   rw [List.take_succ_eq_append_getElem (by omega),List.getD_eq_getElem?_getD,List.getElem?_eq_getElem (by omega)]
   rfl
  rw [e]
  have:∀(xs:List Int) (y:Int),isum (xs++[y])=isum xs+y:=by
   intro xs y
   induction xs with
   | nil=>simp [isum]
   | cons x xs ih=>simp [isum,ih];omega
  rw [this]
theorem q5O:∀{is:List Int} {us:List Value},Vals (is.map V.int) us->us.length=is.length/\∀(i:Nat) (v:Value),us[i]?=some v->∃t,v=.int (is.getD i 0) t
 | [],_,.nil=>⟨rfl,λi v e=>by simp at e⟩
 | j::is,_,.cons r t=>by
  obtain ⟨l,g⟩:=q5O t
  refine ⟨by simp [l],λi v e=>?_⟩
  cases i with
  | zero=>
   obtain ⟨tk,rfl⟩:=r
   cases e
   exact ⟨tk,rfl⟩
  | succ i=>exact g i v e
theorem j0B (hc:X.calm=true):q2l X (.builtin "sum") (λxs H Q=>∃(a:Addr) (is:List Int),xs=[.ref a]/\SqL X.K H a (is.map V.int)/\(∀j,j < is.length->InLong (is.getD j 0)/\InLong (isum (is.take (j+1))))/\Q (.int (isum is)) H):=by
 intro pins s σ H xs us Q I rv h
 obtain ⟨a,is,rfl,hq,hf,q⟩:=h
 obtain ⟨u,rfl,ru⟩:=rv.one
 cases ru
 obtain ⟨its,r,pl,hz⟩:=I.list hq
 obtain ⟨hl,hg⟩:=q5O r
 have ha:a≠s.heap.objs.size:=by
  obtain ⟨o,ho,_⟩:=pl.isList
  exact Nat.ne_of_lt (Heap.lt_size ho)
 have hlt:a < s.heap.objs.size:=by
  obtain ⟨o,ho,_⟩:=pl.isList
  exact Heap.lt_size ho
 have W:=Walks.list (prog:=X.prog) (w:=X.w) (A:=X.A.in1) (show X.A.in1.handled=none from I.ok.hd hc) s.heap.objs.size a ha its.toArray
 refine call_sum_walk (wpAny_pyIter_list pl.isList ⟨_,_,_,_,_,_,λi=>is.getD i 0,rfl,W,⟨⟨_,Heap.get?_push_size _ rfl,rfl,rfl⟩,?_⟩,?_,?_,?_,λh' tk t' hk=>?_⟩)
 ·obtain ⟨o,ho,r'⟩:=pl.isList
  exact ⟨o,Heap.get?_push_of_some _ ho,r'⟩
 ·intro b hb
  show b < (s.heap.push _).objs.size
  rw [Heap.size_push]
  simp only [List.mem_cons,List.not_mem_nil,or_false] at hb
  rcases hb with rfl | rfl
  ·exact Nat.lt_succ_self _
  ·exact Nat.lt_succ_of_lt hlt
 ·intro i v e
  exact hg i v (by rw [<-e];simp)
 ·intro j hj
  rw [List.size_toArray,hl] at hj
  rw [q2Y is (j+1) hj]
  exact hf j hj
 ·have I2:=Inv.walked (s:=s) (tk:=tk) I hk
  refine ⟨.int (isum is),H,I2,⟨t',?_⟩,q⟩
  rw [List.size_toArray,hl,q2Y is is.length (Nat.le_refl _),List.take_length]
end
section
variable {T:Tb} {X:Cx}
noncomputable def j0X:List D->Option (List Bool)
 | []=>some []
 | .bl b::ds=>(match j0X ds with | some bs=>some (b::bs) | none=>none)
 | _=>none
theorem q6b {K:PySem.W.Frag} {H:Hp}:∀{ds:List D} {bs:List Bool} {vs:List V},j0X ds=some bs->RepL T K H ds vs->vs=bs.map V.bl
 | [],bs,vs,h,r=>by cases h;exact r
 | d::ds,bs,vs,h,r=>by
  cases d with
  | bl b=>
   have h:(match j0X ds with | some bs=>some (b::bs) | none=>none)=some bs:=h
   cases q:j0X ds with
   | none=>rw [q] at h;cases h
   | some bs'=>
    rw [q] at h;cases h
    obtain ⟨v,r',rfl,r1,r2⟩:=r
    rw [q6b q r2,show v=V.bl b from r1];rfl
  | _=>cases h
noncomputable def q3g:List D->Option (List Int)
 | []=>some []
 | .int b::ds=>(match q3g ds with | some bs=>some (b::bs) | none=>none)
 | _=>none
theorem q2X {K:PySem.W.Frag} {H:Hp}:∀{ds:List D} {bs:List Int} {vs:List V},q3g ds=some bs->RepL T K H ds vs->vs=bs.map V.int
 | [],bs,vs,h,r=>by cases h;exact r
 | d::ds,bs,vs,h,r=>by
  cases d with
  | int b=>
   have h:(match q3g ds with | some bs=>some (b::bs) | none=>none)=some bs:=h
   cases q:q3g ds with
   | none=>rw [q] at h;cases h
   | some bs'=>
    rw [q] at h;cases h
    obtain ⟨v,r',rfl,r1,r2⟩:=r
    rw [q2X q r2,show v=V.int b from r1];rfl
  | _=>cases h
noncomputable def j3K:List D->Out D
 | [.lst ds]=>(match j0X ds with | some bs=>.ok (.bl (bs.all id)) | none=>.bad)
 | _=>.bad
theorem j4r (hc:X.calm=true):CaD T X (.builtin "all") j3K:=λE=>⟨_,j0e hc,λds vs σ H Q r h=>by
 unfold j3K at h
 split at h
 ·rename_i ds'
  obtain ⟨v,rfl,a,ws,rfl,fz,rl⟩:=r.one
  cases q:j0X ds' with
  | none=>rw [q] at h;exact h.elim
  | some bs=>
   rw [q] at h
   obtain rfl:=q6b q rl
   exact ⟨a,bs,rfl,fz.sq,h _ H (Same.refl H) rfl⟩
 ·exact h.elim⟩
noncomputable def q4V (is:List Int):Bool:=decide (is.length<=1000) && is.all λi=>decide (-1000000000<=i) && decide (i<=1000000000)
theorem q7x:∀(is:List Int),(∀i∈is,-1000000000<=i/\i<=1000000000)->-(1000000000*(is.length:Int))<=isum is/\isum is<=1000000000*(is.length:Int)
 | [],_=>by simp [isum]
 | i::is,h=>by
  have h1:=q7x is λj hj=>h j (by simp [hj])
  have h2:=h i (by simp)
  simp only [isum,List.length_cons,Int.natCast_add,Int.natCast_one]
  omega
theorem q6v {is:List Int} (h:q4V is=true):∀j,j < is.length->InLong (is.getD j 0)/\InLong (isum (is.take (j+1))):=by
 unfold q4V at h
 simp only [Bool.and_eq_true,decide_eq_true_eq,List.all_eq_true] at h
 intro j hj
 constructor
 ·rw [List.getD_eq_getElem?_getD,List.getElem?_eq_getElem hj]
  have:=h.2 _ (List.getElem_mem hj)
  unfold InLong
  show _<=is[j]/\is[j] < _
  omega
 ·have:=q7x (is.take (j+1)) λi hi=>h.2 i (List.mem_of_mem_take hi)
  have l:(is.take (j+1)).length<=1000:=by rw [List.length_take];omega
  unfold InLong
  omega
noncomputable def j3i:List D->Out D
 | [.lst ds]=>(match q3g ds with | some is=>if q4V is=true then .ok (.int (isum is)) else .bad | none=>.bad)
 | _=>.bad
theorem j4b (hc:X.calm=true):CaD T X (.builtin "sum") j3i:=λE=>⟨_,j0B hc,λds vs σ H Q r h=>by
 unfold j3i at h
 split at h
 ·rename_i ds'
  obtain ⟨v,rfl,a,ws,rfl,fz,rl⟩:=r.one
  cases q:q3g ds' with
  | none=>rw [q] at h;exact h.elim
  | some is=>
   rw [q] at h
   have h:Acc T X E σ H (if q4V is=true then .ok (.int (isum is)) else .bad) (kE T X.K H Q):=h
   by_cases c:q4V is=true
   ·rw [if_pos c] at h
    obtain rfl:=q2X q rl
    exact ⟨a,is,rfl,fz.sq,q6v c,h _ H (Same.refl H) rfl⟩
   ·rw [if_neg c] at h;exact h.elim
 ·exact h.elim⟩
noncomputable def q20:D->Option V
 | .non=>some .non
 | .bl b=>some (.bl b)
 | .int i=>some (.int i)
 | .str x=>some (.str x)
 | _=>none
theorem q2R {K:PySem.W.Frag} {H:Hp} {d:D} {v w:V} (h:q20 d=some w) (r:Rep T K H d v):v=w/\q3h w=true:=by
 cases d<;>first | (cases h;done) | (cases h;exact ⟨r,rfl⟩)
noncomputable def q0R:List D->Option (List V)
 | []=>some []
 | d::ds=>(match q20 d,q0R ds with | some v,some vs=>some (v::vs) | _,_=>none)
theorem q2r {K:PySem.W.Frag} {H:Hp}:∀{ds:List D} {vs ws:List V},q0R ds=some ws->RepL T K H ds vs->vs=ws/\ws.all q3h=true
 | [],vs,ws,h,r=>by cases h;exact ⟨r,rfl⟩
 | d::ds,vs,ws,h,r=>by
  rw [q0R] at h
  cases q1:q20 d with
  | none=>rw [q1] at h;cases h
  | some v=>
   cases q2:q0R ds with
   | none=>rw [q1,q2] at h;cases h
   | some vs'=>
    rw [q1,q2] at h;cases h
    obtain ⟨v',r',rfl,r1,r2⟩:=r
    obtain ⟨e1,e2⟩:=q2r q2 r2
    obtain ⟨e3,e4⟩:=q2R q1 r1
    rw [e1,e3]
    exact ⟨rfl,by rw [List.all_cons,e4,e2];rfl⟩
noncomputable def inD (neg:Bool):D->D->Out D
 | .str i,.str j=>.ok (.bl (if neg then !(!(Builtin.Str.occurrences j i 0 j.length 1).isEmpty) else (!(Builtin.Str.occurrences j i 0 j.length 1).isEmpty)))
 | d,.lst ds=>(match q20 d,q0R ds with | some x,some xs=>.ok (.bl (if neg then !inV x xs else inV x xs)) | _,_=>.bad)
 | d,.tup ds=>(match q20 d,q0R ds with | some x,some xs=>.ok (.bl (if neg then !inV x xs else inV x xs)) | _,_=>.bad)
 | _,_=>.bad
theorem j1A (neg:Bool) (op:CmpOp) (h1:∀E,OpR (X.wish E) (compareOp op) (λx y H Q=>∃i j,x=.str i/\y=.str j/\Q (.bl (if neg then !(!(Builtin.Str.occurrences j i 0 j.length 1).isEmpty) else (!(Builtin.Str.occurrences j i 0 j.length 1).isEmpty))) H))
 (h2:∀E,OpR (X.wish E) (compareOp op) (rIn X.K neg)):OpD T X (compareOp op) (inD neg):=λE=>⟨_,OpR.or (h1 E) (h2 E),λdx dy x y σ H Q rx ry q=>by
 cases dy with
 | str j=>
  cases dx with
  | str i=>exact .inl ⟨i,j,rx,ry,q _ H (Same.refl H) rfl⟩
  | _=>exact q.elim
 | lst ds=>
  right
  have q:Acc T X E σ H (match q20 dx,q0R ds with | some x,some xs=>.ok (.bl (if neg then !inV x xs else inV x xs)) | _,_=>.bad) (kE T X.K H Q):=by cases dx<;>exact q
  cases q1:q20 dx with
  | none=>rw [q1] at q;exact q.elim
  | some v=>
   cases q2:q0R ds with
   | none=>rw [q1,q2] at q;exact q.elim
   | some vs=>
    rw [q1,q2] at q
    obtain ⟨a,ws,rfl,fz,rl⟩:=ry
    obtain ⟨rfl,f2⟩:=q2r q2 rl
    obtain ⟨rfl,f1⟩:=q2R q1 rx
    exact ⟨a,_,rfl,.inl fz.sq,f1,f2,q _ H (Same.refl H) rfl⟩
 | tup ds=>
  right
  have q:Acc T X E σ H (match q20 dx,q0R ds with | some x,some xs=>.ok (.bl (if neg then !inV x xs else inV x xs)) | _,_=>.bad) (kE T X.K H Q):=by cases dx<;>exact q
  cases q1:q20 dx with
  | none=>rw [q1] at q;exact q.elim
  | some v=>
   cases q2:q0R ds with
   | none=>rw [q1,q2] at q;exact q.elim
   | some vs=>
    rw [q1,q2] at q
    obtain ⟨a,ws,rfl,fz,rl⟩:=ry
    obtain ⟨rfl,f2⟩:=q2r q2 rl
    obtain ⟨rfl,f1⟩:=q2R q1 rx
    exact ⟨a,_,rfl,.inr fz,f1,f2,q _ H (Same.refl H) rfl⟩
 | _=>cases dx<;>exact q.elim⟩
theorem j6B:OpD T X (compareOp .In) (inD false):=j1A false .In (λE=>q7K) λE=>q64
theorem q58:OpD T X (compareOp .NotIn) (inD true):=j1A true .NotIn (λE=>q4B) λE=>q4f
end
section
variable {X:Cx}
end
section
variable {T:Tb} {X:Cx} {x:Str} {pos:Pos}
noncomputable def j17 (K:PySem.W.Frag) (mg:Str->Option Value) (x:Str) (ds:List D):Prop:=∃(a:Addr) (vs:List V),mg x=some (.ref a)/\(∀H,SqT K H a vs)/\q0R ds=some vs
theorem q4C {K:PySem.W.Frag} {H:Hp}:∀{ds:List D} {vs:List V},q0R ds=some vs->RepL T K H ds vs
 | [],vs,h=>by cases h;exact rfl
 | d::ds,vs,h=>by
  rw [q0R] at h
  cases q1:q20 d with
  | none=>rw [q1] at h;cases h
  | some v=>
   cases q2:q0R ds with
   | none=>rw [q1,q2] at h;cases h
   | some ws=>
    rw [q1,q2] at h
    cases h
    refine ⟨v,ws,rfl,?_,q4C q2⟩
    cases d<;>first | (cases q1;done) | (cases q1;exact rfl)
theorem q9o {ds:List D} (hg:Gl X x) (h:j17 X.K X.mg x ds) (hd:(x==("__debug__" : Str))=false:=by decide):DE T X (.Name x pos) (eC (.tup ds)):=by
 obtain ⟨a,vs,hm,sq,hf⟩:=h
 exact q4P (v:=.ref a) hg hm rfl (λH=>⟨a,vs,rfl,sq H,q4C hf⟩) hd
theorem q95 {K:PySem.W.Frag} {mg:Str->Option Value} {a:Addr} {od:Option Addr} {its:Array Value} {n:Nat} {sl:Array (Option Value)} {ds:List D} {vs:List V} (hm:mg x=some (.ref a)) (hk:K.lookup a=some ⟨.type "tuple",od,.seq its n,sl⟩)
 (hz:its.size<=1000000) (hv:Vals vs its.toList) (hf:q0R ds=some vs):j17 K mg x ds:=
 ⟨a,vs,hm,λH=>.inr ⟨_,its,n,hk,rfl,rfl,line6 hz,hv⟩,hf⟩
structure j7i (K:PySem.W.Frag) (x qual:Str) (st:Stmt) (f:Addr) (fd:FuncData):Prop where
 ex:∃(oc:Value) (od:Option Addr) (dV kV doc pm:Value) (an:Option Addr) (cdv ct:Value) (osl:Array (Option Value)),
  fd=PySem.W.fnOf x qual (q08 st) (q0Q st) (q0g st) dV kV doc pm an cdv ct/\K.lookup f=some ⟨oc,od,.func fd,osl⟩/\PySem.W.codeIn K cdv qual=true
 kp:PySem.W.keepIn K (.ref f)=true
theorem q78 {K:PySem.W.Frag} {x qual:Str} {st:Stmt} {f:Addr} {oc:Value} {od an:Option Addr} {osl:Array (Option Value)} {dV kV doc pm cdv ct:Value} (l:K.lookup f=some ⟨oc,od,.func (PySem.W.fnOf x qual (q08 st) (q0Q st) (q0g st) dV kV doc pm an cdv ct),osl⟩)
 (c:PySem.W.codeIn K cdv qual=true) (k:PySem.W.keepIn K (.ref f)=true):j7i K x qual st f (PySem.W.fnOf x qual (q08 st) (q0Q st) (q0g st) dV kV doc pm an cdv ct):=⟨⟨oc,od,dV,kV,doc,pm,an,cdv,ct,osl,rfl,l,c⟩,k⟩
theorem q2k {K:PySem.W.Frag} {fd:FuncData} {ps:List Str} {ds:List Value} {dt:Addr} {oc:Value} {od:Option Addr} {items:Array Value} {n:Nat} {sl:Array (Option Value)} (hd:fd.defaults=.ref dt) (lk:K.lookup dt=some ⟨oc,od,.seq items n,sl⟩)
 (m:Nat) (hm:m+ds.length=ps.length) (h:∀us:List Value,us.length=m->∃k,bindArgs fd ⟨us,[]⟩=seqItems? fd.defaults >>= k/\k (some items)=pure (ps.zip (us++ds))):Binds K fd ps ds:=λs us kin hl=>by
 obtain ⟨k,h1,h2⟩:=h us (by rw [List.length_append] at hl;omega)
 exact BindsTo.of_defaults hd (kin dt _ lk) rfl h1 h2
end
end L3
namespace L3
open PySem L2
theorem j6k {X:Cx} {scope:Scope} {x:Str} (ys:List Str) (caps:List Nat) (hk:scope.kind=.function:=by rfl) (own:scope.names.lookup x=some .local:=by rfl)
 (h:(scope.names.all λy=>!(y.2==.cell) && (!(y.2==.local) || scope.names.lookup y.1==some .local))=true:=by decide +kernel) (hf:(scope.names.all λy=>!(y.2==.free) || X.env.kindOf y.1==some .cell)=true:=by rfl)
 (hn:(x::ys).Nodup:=by decide) (hl:caps.length=ys.length:=by rfl)
 (hc:∀(j:Nat) (y:Str) (i:Nat),ys[j]?=some y->caps[j]?=some i->X.N[i]?=some y/\X.env.kindOf y=some .cell/\scope.names.lookup y=some .free):Cap X scope x ys caps where
 kind:=hk
 own:=own
 nocell:=λy hy e=>by
  have:=List.all_eq_true.mp h y hy
  rw [e] at this;simp at this
 names:=λy hy e=>by
  have:=List.all_eq_true.mp h y hy
  rw [e] at this;simpa using this
 free:=λy hy e=>by
  have:=List.all_eq_true.mp hf y hy
  rw [e] at this;exact .inl (by simpa using this)
 nodup:=hn
 len:=hl
 cap:=λj y i e1 e2=>let ⟨a,b,c⟩:=hc j y i e1 e2;⟨a,.inl b,c⟩
theorem cap0 {X:Cx} {scope:Scope} {x:Str} (hk:scope.kind=.function:=by rfl) (own:scope.names.lookup x=some .local:=by rfl)
 (h:(scope.names.all λy=>!(y.2==.cell) && !(y.2==.free) && (!(y.2==.local) || scope.names.lookup y.1==some .local))=true:=by decide +kernel):Cap X scope x [] [] where
 kind:=hk
 own:=own
 nocell:=λy hy e=>by
  have:=List.all_eq_true.mp h y hy
  rw [e] at this;simp at this
 names:=λy hy e=>by
  have:=List.all_eq_true.mp h y hy
  rw [e] at this;simpa using this
 free:=λy hy e=>by
  have:=List.all_eq_true.mp h y hy
  rw [e] at this;simp at this
 nodup:=by simp
 len:=rfl
 cap:=λj y i e1 _=>by simp at e1
theorem q5x {X:Cx} {scope:Scope}:∀(j:Nat) (y:Str) (i:Nat),([]:List Str)[j]?=some y->([]:List Nat)[j]?=some i->X.N[i]?=some y/\X.env.kindOf y=some .cell/\scope.names.lookup y=some .free:=λj y i e _=>by simp at e
theorem q1r {X:Cx} {scope:Scope} {y0:Str} {ys:List Str} {i0:Nat} {caps:List Nat} (h1:X.N[i0]?=some y0) (h2:X.env.kindOf y0=some .cell) (h3:scope.names.lookup y0=some .free)
 (h:∀(j:Nat) (y:Str) (i:Nat),ys[j]?=some y->caps[j]?=some i->X.N[i]?=some y/\X.env.kindOf y=some .cell/\scope.names.lookup y=some .free) :
 ∀(j:Nat) (y:Str) (i:Nat),(y0::ys)[j]?=some y->(i0::caps)[j]?=some i->X.N[i]?=some y/\X.env.kindOf y=some .cell/\scope.names.lookup y=some .free:=λj y i e1 e2=>by
 cases j with
 | zero=>cases e1;cases e2;exact ⟨h1,h2,h3⟩
 | succ j=>exact h j y i e1 e2
theorem vcI {i:Int} {k:Tok} {xs:List V} {us:List Value} (h:Vals xs us):Vals (.int i::xs) (.int i k::us):=.cons ⟨k,rfl⟩ h
theorem vcS {z:Str} {k:Tok} {xs:List V} {us:List Value} (h:Vals xs us):Vals (.str z::xs) (.str z k::us):=.cons ⟨k,rfl⟩ h
end L3
namespace L3
open PySem PySem.Spec PyProof.Rows L2
theorem q1K {m:Str}:∀{fs:List (Str×V)},m∉fs.map (·.1)->fs.lookup m=none
 | [],_=>rfl
 | (n,v)::fs,h=>by
  simp only [List.map_cons,List.mem_cons,not_or] at h
  rw [List.lookup_cons,show (m==n)=false by simpa using h.1]
  exact q1K h.2
section
variable {T:Tb} {X:Cx} {e o:Expr} {es:List Expr} {m:Str} {pos apos:Pos} {fo:Ev} {fs:Ro->Out (List Sl)} {F:Fn} {k n c:Nat} {f:Addr} {fd:FuncData} {ps:List Str}
@[simp] noncomputable def j5t (c:Nat) (F:Fn) (fo:Ev) (fs:Ro->Out (List Sl)) (ρ:Ro):Out Rv:=(fo ρ).bind λd=>match d with
 | .ins c' xs=>if c'=c then (fs ρ).bind λss=>if ss.length+1=n then F (.sh (.ins c' xs)::ss) else .bad else .bad
 | _=>.bad
theorem j2b {pl:Sem Bool} (he:DE T X o fo) (cls:Cls X.K (T.ca c)) (hm:Meth X.K (T.ca c) m f) (hmf:m∉T.fl c) (FO:q0X X.prog X.w X.K X.mg X.base (CXE T X.prog X.w) k f fd ps (spD T X.K ps.length F)) (hr:Room k X.A) (hb:Binds X.K fd ps []) (hn:n=ps.length) (ha:DG T X (e::es) fs)
 (hst:starEach (e::es) X.env=(false,eval e X.env)::starEach es X.env:=by exact q0q rfl) (hpl:(backTo pos (starEach es X.env)).any (·.1)=false:=by exact q0r rfl)
 (ht:eval (.Call (.Attribute o m apos) (e::es) [] pos) X.env=(do
  let ov <-eval o X.env
  standAt apos.atName
  let (f,first) <-holding [ov] (getMethod ov m pl)
  callWith pos f first (backTo pos (starEach (e::es) X.env)) (backToKw pos (keywordEach [] X.env))):=by rfl) :
 DR T X (.Call (.Attribute o m apos) (e::es) [] pos) (j5t (n:=n) c F fo fs):=.mk λG E hp=>by
 rintro pins s σ H Q I ⟨ρ,fr,h⟩
 refine PySem.W.methodCall_KW (pl:=pl) (thn (he.run G E hp pins s σ H (λx H1=>∃ds,Same H H1/\Rep T X.K H1 (.ins c ds) x/\Acc T X E σ H1 ((fs ρ).bind λss=>if ss.length+1=n then F (.sh (.ins c ds)::ss) else .bad) (λr=>∀v H',Same H1 H'->q6n T X.K H1 H' v r->Q v H')) I ⟨ρ,fr,?_⟩) λu s1 ⟨x,H1,I1,rx,ds,sm,rp,q⟩=>?_) ht
 ·refine Acc.mono (Acc.bind h) λd _ hd v H1 s1 r1=>?_
  cases d with
  | ins c' xs=>
   have hd:Acc T X E σ H (if c'=c then (fs ρ).bind λss=>if ss.length+1=n then F (.sh (.ins c' xs)::ss) else .bad else .bad) _:=hd
   by_cases hc:c'=c
   ·subst hc
    rw [if_pos rfl] at hd
    exact ⟨xs,s1,r1,Acc.mono (Acc.heap s1 hd) λr _ hr' v H' s2 r2=>hr' v H' (s1.trans s2) (q4e s1 r2)⟩
   ·rw [if_neg hc] at hd;exact hd.elim
  | _=>exact hd.elim
 ·obtain ⟨a,dx,fl,rfl,ha',hf,rl⟩:=id rp
  obtain rfl:u=Value.ref a:=rx
  refine q3o (X:=X.wish E) I1 ha' cls hm (q1K (by rw [hf];exact hmf)) ?_
  refine PySem.W.callWith_K (first:=[.ref a]) (h₀:=X.base) I.ok.mod.kin hm.kp (thn (ha.run G E hp pos pins s1 σ H1 (λvs H2=>∃ss,ArgsOk T X.K H2 vs ss/\ss.length+1=n/\Same H1 H2/\Acc T X E σ H2 (F (.sh (.ins c ds)::ss)) (λr=>∀v H',Same H2 H'->q6n T X.K H2 H' v r->Q v H')) I1 ⟨ρ,fr.mono sm,?_⟩) λus s2 ⟨vs,H2,I2,r,ss,ha2,hl2,s2',q2⟩=>⟨I2.kIn,?_⟩) hst hpl
  ·refine Acc.mono (Acc.bind q) λss _ hss vs H2 s2 r2=>?_
   by_cases hl:ss.length+1=n
   ·rw [if_pos hl] at hss
    exact ⟨ss,r2,hl,s2,Acc.mono (Acc.heap s2 hss) λr _ hr' v H' s3 r3=>hr' v H' (s2.trans s3) (q4e s2 r3)⟩
   ·rw [if_neg hl] at hss;exact hss.elim
  ·have la:=ArgsOk.length ss vs ha2
   have lr:=r.length
   exact j5x (X:=X) (us:=.ref a::us) (vs:=.ref a::vs) (dvs:=[]) (ds:=[]) FO hr hb .nil I2 (.cons rfl r) (by rw [List.append_nil];exact ⟨_,vs,rfl,Rep.mono s2' _ _ rp,ha2⟩) (by simp only [List.length_append,List.length_cons,List.length_nil];omega) q2
end
open Sem (wp)
theorem q6B:typeLookup (.type "str") "__int__" = pure none:=by rw [typeLookup_type,builtinLookup_eq_fast];kernel_rfl
theorem q4y:typeLookup (.type "str") "__index__" = pure none:=by rw [typeLookup_type,builtinLookup_eq_fast];kernel_rfl
theorem q4n:typeLookup (.type "str") "__trunc__" = pure none:=by rw [typeLookup_type,builtinLookup_eq_fast];kernel_rfl
noncomputable def dgV (c:Nat):Option Nat:=
 if 48<=c && c<=57 then some (c-48)
 else if 97<=c && c<=122 then some (c-87)
 else if 65<=c && c<=90 then some (c-55)
 else none
noncomputable def blk (c:Nat):Bool:=c==32 || (9<=c && c<=13)
noncomputable def dgS (base:Nat) (cs:List Nat):Option (Array Nat):=do
 let (ds,afterDigit) <-cs.foldlM (init:=((#[]:Array Nat),false)) λ(ds,afterDigit) c=>
  if c==95 then (if afterDigit then some (ds,false) else none)
  else match dgV c with
   | some d=>if d < base then some (ds.push d,true) else none
   | none=>none
 if afterDigit then some ds else none
noncomputable def pfx:List Nat->Option Nat
 | 48::c::_=>
  if c==120 || c==88 then some 16 else if c==111 || c==79 then some 8 else if c==98 || c==66 then some 2 else none
 | _=>none
noncomputable def sgn (t:List Nat):Bool×List Nat:=match t with
 | 45::r=>(true,r)
 | 43::r=>(false,r)
 | _=>(false,t)
noncomputable def pr2 (t:List Nat):List Nat:=match t.drop 2 with
 | 95::r=>r
 | r=>r
noncomputable def rdN {N:Type} (inv:N) (tl:Nat->N) (lib:N) (val:Int->N) (limit base:Nat) (text:List Nat):N:=
 let t:=text.dropWhile blk
 let (negative,t):=sgn t
 let afterPrefix:=pr2 t
 let (b,zeroOnly,t):=match pfx t with
  | some p=>if base==0 || base==p then (p,false,afterPrefix) else (base,false,t)
  | none=>if base==0 then (10,t.head?==some 48,t) else (base,false,t)
 match dgS b (t.reverse.dropWhile blk).reverse with
 | none=>inv
 | some ds=>
  if ![2,4,8,16,32].contains b && limit != 0 && ds.size > limit then tl ds.size else
  if b==10 && ds.size > 6000 then lib else
  let n:=ds.foldl (λacc d=>acc*b+d) 0
  if zeroOnly && n != 0 then inv else val (if negative then -(n:Int) else n)
noncomputable def rd0 {N:Type} (inv:N) (tl:Nat->N) (lib:N) (val:Int->N) (limit base:Nat) (text:List Nat):N:=
 let t:=text.dropWhile blk
 let (negative,t):=match t with
  | 45::r=>(true,r)
  | 43::r=>(false,r)
  | _=>(false,t)
 let afterPrefix:=match t.drop 2 with
  | 95::r=>r
  | r=>r
 let (b,zeroOnly,t):=match pfx t with
  | some p=>if base==0 || base==p then (p,false,afterPrefix) else (base,false,t)
  | none=>if base==0 then (10,t.head?==some 48,t) else (base,false,t)
 match dgS b (t.reverse.dropWhile blk).reverse with
 | none=>inv
 | some ds=>
  if ![2,4,8,16,32].contains b && limit != 0 && ds.size > limit then tl ds.size else
  if b==10 && ds.size > 6000 then lib else
  let n:=ds.foldl (λacc d=>acc*b+d) 0
  if zeroOnly && n != 0 then inv else val (if negative then -(n:Int) else n)
theorem q5F {N:Type} (inv:N) (tl:Nat->N) (lib:N) (val:Int->N) (limit base:Nat) (text:List Nat):rd0 inv tl lib val limit base text=rdN inv tl lib val limit base text:=by
 unfold rd0 rdN sgn pr2
 rfl
noncomputable def figs (cs:List Nat):Bool:=cs.all λc=>decide (48<=c) && decide (c<=57)
noncomputable def j1d (cs:List Nat):Nat:=cs.foldl (λacc c=>acc*10+(c-48)) 0
theorem q3v {cs:List Nat} (h:figs cs=true) {c:Nat} (hc:c∈cs):48<=c/\c<=57:=by
 have:=List.all_eq_true.mp h c hc
 simpa using this
theorem j1E:∀(cs:List Nat),figs cs=true->∀(ds:Array Nat) (a:Bool),(cs.foldlM (init:=(ds,a)) λ(x:Array Nat×Bool) c=>
 (if c==95 then (if x.2 then some (x.1,false) else none) else match dgV c with | some d=>if d < 10 then some (x.1.push d,true) else none | none=>none:Option (Array Nat×Bool)))=some ((ds.toList++cs.map (· - 48)).toArray,a || !cs.isEmpty)
 | [],_,ds,a=>by simp
 | c::cs,h,ds,a=>by
  have hc:=q3v h (c:=c) (by simp)
  have hr:figs cs=true:=by
   unfold figs at h ⊢
   rw [List.all_cons,Bool.and_eq_true] at h
   exact h.2
  have e1:(c==95)=false:=by simp;omega
  have e2:dgV c=some (c-48):=by unfold dgV;rw [if_pos (by simp;omega)]
  have e3:c-48 < 10:=by omega
  rw [List.foldlM_cons]
  simp only [e1,e2,e3,Bool.false_eq_true,if_false,if_true]
  show ((some (ds.push (c-48),true):Option _) >>= _)=_
  rw [Option.bind_eq_bind,Option.bind_some,j1E cs hr]
  simp
theorem j0n {cs:List Nat} (h:figs cs=true) (hn:cs≠[]):dgS 10 cs=some (cs.map (· - 48)).toArray:=by
 unfold dgS
 have:=j1E cs h #[] false
 have e:(!cs.isEmpty)=true:=by cases cs<;>simp at hn ⊢
 show (cs.foldlM (init:=((#[]:Array Nat),false)) _ >>= _)=_
 rw [show (cs.foldlM (init:=((#[]:Array Nat),false)) λ(x:Array Nat×Bool) c=>(match x with | (ds,afterDigit)=>if c==95 then (if afterDigit then some (ds,false) else none) else match dgV c with | some d=>if d < 10 then some (ds.push d,true) else none | none=>none:Option (Array Nat×Bool)))=_ from this]
 simp [e]
theorem q5M {cs:List Nat} (h:figs cs=true):cs.dropWhile blk=cs:=by
 cases cs with
 | nil=>rfl
 | cons c cs=>
  have hc:=q3v h (c:=c) (by simp)
  have:blk c=false:=by unfold blk;simp;omega
  rw [List.dropWhile_cons,this]
  rfl
theorem q9E {cs:List Nat} (h:figs cs=true):figs cs.reverse=true:=by
 unfold figs at *
 rw [List.all_reverse];exact h
theorem q91 {N:Type} (inv:N) (tl:Nat->N) (lib:N) (val:Int->N) {cs:List Nat} (h:figs cs=true) (hn:cs≠[]) (hl:cs.length<=600):rdN inv tl lib val 0 10 cs=val (j1d cs):=by
 have e0:=q5M h
 have e1:(cs.reverse.dropWhile blk).reverse=cs:=by rw [q5M (q9E h),List.reverse_reverse]
 have e2:=j0n h hn
 have e3:pfx cs=none:=by
  unfold pfx
  split
  ·rename_i c r
   have hc:=q3v h (c:=c) (by simp)
   rw [if_neg (by simp;omega),if_neg (by simp;omega),if_neg (by simp;omega)]
  ·rfl
 have sg:sgn cs=(false,cs):=by
  cases cs with
  | nil=>rfl
  | cons c r=>
   have hc:=q3v h (c:=c) (by simp)
   unfold sgn
   split
   ·rename_i e;cases e;omega
   ·rename_i e;cases e;omega
   ·rfl
 unfold rdN
 simp only [e0,sg,e3]
 rw [show ((10:Nat)==0)=false from rfl]
 simp only [Bool.false_eq_true,if_false,e1,e2]
 have s1:(cs.map (· - 48)).toArray.size=cs.length:=by simp
 rw [s1]
 rw [if_neg (by simp),if_neg (by simp;omega),if_neg (by simp)]
 congr 2
 rw [j1d]
 simp [List.foldl_map]
theorem q8e:∀{cs:List Nat},figs cs=true->cs.takeWhile (λc=>c != 0)=cs
 | [],_=>rfl
 | c::cs,h=>by
  have hc:=q3v h (c:=c) (by simp)
  have hr:figs cs=true:=by
   unfold figs at h ⊢
   rw [List.all_cons,Bool.and_eq_true] at h
   exact h.2
  have e:(c != 0)=true:=by simp;omega
  rw [List.takeWhile_cons,e]
  simp [q8e hr]
set_option maxHeartbeats 2000000 in
theorem q3I (x:Str) (u:Tok) (h:figs x.cps.toList=true) (hn:x.cps.toList≠[]) (hl:x.length<=600):Meets (Builtin.«int.__new__» ⟨[.type "int",.str x u],[]⟩) (Made.int (j1d x.cps.toList)).spec:=
 Meets.of_wp λprog w A R s hs=>by
  obtain ⟨hp,g,d,tk,os⟩:=s
  have f1:=F.conv_sub_int
  have f2:=F.madeHere_int
  have hT:(⟨hp,g,d,tk,os⟩:Shared).TypeIs (.str x u) "str":=rfl
  have g1:=q6B
  have g2:=q4y
  have g3:=q4n
  have a1:(x.cps.all λc=>decide (c < 128))=true:=by
   rw [<-Array.all_toList,List.all_eq_true]
   intro c hc
   have:=q3v h hc
   simp;omega
  have a2:List.takeWhile (λc=>c != 0) x.cps.toList=x.cps.toList:=q8e h
  have a4:x.cps.toList.length=x.length:=by simp [Str.length]
  have a3:x.cps.toList.length<=640:=by omega
  have rd:∀{N:Type} (inv:N) (tl:Nat->N) (lib:N) (val:Int->N),rdN inv tl lib val 0 10 x.cps.toList=val (j1d x.cps.toList):=λinv tl lib val=>q91 inv tl lib val h hn (by omega)
  repeat (any_goals (first | assumption | wp_step))
  all_goals (rw [a1];simp only [if_true,a2,if_pos a3,pure_bind])
  split
  ·rename_i m heq
   have h2:=(show rd0 _ _ _ _ 0 10 x.cps.toList=_ from heq)
   rw [q5F,rd] at h2
   cases h2
  ·rename_i heq
   have h2:=(show rd0 _ _ _ _ 0 10 x.cps.toList=_ from heq)
   rw [q5F,rd] at h2
   cases h2
  ·rename_i i heq
   have h2:=(show rd0 _ _ _ _ 0 10 x.cps.toList=_ from heq)
   rw [q5F,rd] at h2
   cases h2
   rw [if_pos (by simp)]
   repeat (any_goals (first | assumption | wp_step))
   all_goals first | exact ⟨_,rfl,hs⟩ | skip
  ·rename_i heq
   have h2:=(show rd0 _ _ _ _ 0 10 x.cps.toList=_ from heq)
   rw [q5F,rd] at h2
   cases h2
section
variable {X:Cx}
theorem q8w:q2l X (.type "int") (λxs H Q=>∃x,xs=[.str x]/\figs x.cps.toList=true/\x.cps.toList≠[]/\x.length<=600/\Q (.int (j1d x.cps.toList)) H):=by
 intro pins s σ H xs us Q I rv h
 obtain ⟨x,rfl,h1,h2,h3,q⟩:=h
 obtain ⟨u,rfl,ru⟩:=rv.one
 obtain ⟨t,rfl⟩:=ru
 refine call_int_1 (q3I x t h1 h2 h3) (show (Made.int (j1d x.cps.toList)).post _ s from ⟨rfl,?_⟩)
 exact ⟨.int _,H,I.tok _,⟨_,rfl⟩,q⟩
end
end L3
namespace L3
open PySem PySem.Spec PyProof.Rows L2
section
variable {T:Tb} {X:Cx} {e o:Expr} {es:List Expr} {pos cpos apos p:Pos} {fe fo:Ev} {fs:Ro->Out (List D)}
@[simp] noncomputable def q38:List D->Out D
 | [.int i]=>.ok (.int i)
 | [.bl b]=>.ok (.int (if b then 1 else 0))
 | [.str x]=>if figs x.cps.toList=true/\x.cps.toList≠[]/\x.length<=600 then .ok (.int (j1d x.cps.toList)) else .bad
 | _=>.bad
theorem q2g:CaD T X (.type "int") q38:=λE=>⟨λvs H Q=>((∃i,vs=[.int i]/\Q (.int i) H)∨∃k,vs=[.bl k]/\Q (.int (if k then 1 else 0)) H)∨∃x,vs=[.str x]/\figs x.cps.toList=true/\x.cps.toList≠[]/\x.length<=600/\Q (.int (j1d x.cps.toList)) H,
 λpins s σ H xs us Q I rv h=>h.elim (λh=>q7u (X:=X.wish E) pins s σ H xs us Q I rv h) (λh=>q8w (X:=X.wish E) pins s σ H xs us Q I rv h),λds vs σ H Q r h=>by
 unfold q38 at h
 split at h
 ·rename_i i
  obtain ⟨v,rfl,rv⟩:=r.one
  exact .inl (.inl ⟨i,by rw [show v=V.int i from rv],h _ H (Same.refl H) rfl⟩)
 ·rename_i b
  obtain ⟨v,rfl,rv⟩:=r.one
  exact .inl (.inr ⟨b,by rw [show v=V.bl b from rv],h _ H (Same.refl H) rfl⟩)
 ·rename_i x
  obtain ⟨v,rfl,rv⟩:=r.one
  by_cases c:figs x.cps.toList=true/\x.cps.toList≠[]/\x.length<=600
  ·rw [if_pos c] at h
   exact .inr ⟨x,by rw [show v=V.str x from rv],c.1,c.2.1,c.2.2,h _ H (Same.refl H) rfl⟩
  ·rw [if_neg c] at h;exact h.elim
 ·exact h.elim⟩
noncomputable def q1W:List D->Option (List Str)
 | []=>some []
 | .str x::ds=>(match q1W ds with | some xs=>some (x::xs) | none=>none)
 | _=>none
theorem q17 {K:PySem.W.Frag} {H:Hp}:∀{ds:List D} {xs:List Str} {vs:List V},q1W ds=some xs->RepL T K H ds vs->vs=xs.map V.str
 | [],xs,vs,h,r=>by cases h;exact r
 | d::ds,xs,vs,h,r=>by
  cases d with
  | str b=>
   have h:(match q1W ds with | some bs=>some (b::bs) | none=>none)=some xs:=h
   cases q:q1W ds with
   | none=>rw [q] at h;cases h
   | some bs'=>
    rw [q] at h;cases h
    obtain ⟨v,r',rfl,r1,r2⟩:=r
    rw [q17 q r2,show v=V.str b from r1];rfl
  | _=>cases h
theorem q6a:∀{xs:List Str} {us:List Value},Vals (xs.map V.str) us->∃l:List (Str×Tok),us=strValues l/\l.map (·.1)=xs
 | [],_,.nil=>⟨[],rfl,rfl⟩
 | x::xs,_,.cons r t=>by
  obtain ⟨l,rfl,e⟩:=q6a t
  obtain ⟨k,rfl⟩:=r
  exact ⟨(x,k)::l,rfl,by rw [List.map_cons,e]⟩
noncomputable def q7b:D->List D->Out D
 | .str x,[.lst ds]=>(match q1W ds with | some ts=>if JoinOk x ts=true then .ok (.str (Txt.join x ts)) else .bad | none=>.bad)
 | _,_=>.bad
theorem j2q:MtD T X "str" "str.join" q7b:=λE=>by
 refine ⟨λv vs H Q=>∃x a ts,v=.str x/\vs=[.ref a]/\SqL X.K H a (ts.map V.str)/\JoinOk x ts=true/\Q (.str (Txt.join x ts)) H,?_,?_⟩
 ·intro pins s σ H x xs v us Q I rx rv h
  obtain ⟨z,a,ts,rfl,rfl,hq,ok,q⟩:=h
  obtain ⟨t,rfl⟩:=rx
  obtain ⟨u,rfl,ru⟩:=rv.one
  cases ru
  obtain ⟨its,r,pl,hz⟩:=I.list hq
  obtain ⟨l,rfl,e⟩:=q6a r
  exact SC.join pl.isList e ok λt' k=>⟨.str _,H,I.tok k,⟨t',rfl⟩,q⟩
 ·intro d ds v vs σ H Q rd rl q
  unfold q7b at q
  split at q
  ·rename_i x ds'
   obtain ⟨w,rfl,a,ws,rfl,fz,rl'⟩:=rl.one
   cases e:q1W ds' with
   | none=>rw [e] at q;exact q.elim
   | some ts=>
    rw [e] at q
    have q:Acc T X E σ H (if JoinOk x ts=true then .ok (.str (Txt.join x ts)) else .bad) (kE T X.K H Q):=q
    obtain rfl:=q17 e rl'
    by_cases c:JoinOk x ts=true
    ·rw [if_pos c] at q
     exact ⟨x,a,ts,rd,rfl,fz.sq,c,q _ H (Same.refl H) rfl⟩
    ·rw [if_neg c] at q;exact q.elim
  ·exact q.elim
end
theorem q1C:∀{is:List Int} {us:List Value},Vals (is.map V.int) us->∃l:List (Int×Tok),us=l.map (λp=>Value.int p.1 p.2)/\l.map (·.1)=is
 | [],_,.nil=>⟨[],rfl,rfl⟩
 | x::xs,_,.cons r t=>by
  obtain ⟨l,rfl,e⟩:=q1C t
  obtain ⟨k,rfl⟩:=r
  exact ⟨(x,k)::l,rfl,by rw [List.map_cons,e]⟩
noncomputable def q0Y (gt:Bool) (is:List Int):Int:=is.getD (argBest (λi j=>if gt then decide (is.getD i 0 > is.getD j 0) else decide (is.getD i 0 < is.getD j 0)) (is.length-1)) 0
section
variable {X:Cx}
theorem q5d (l:List (Int×Tok)) (i:Nat):numAt l.toArray i=(l.map (·.1)).getD i 0:=by
 unfold numAt
 rw [List.getD_eq_getElem?_getD,List.getElem?_map]
 simp
theorem q7D (hc:X.calm=true):q2l X (.builtin "max") (λxs H Q=>∃(a:Addr) (is:List Int),xs=[.ref a]/\SqL X.K H a (is.map V.int)/\is≠[]/\Q (.int (q0Y true is)) H):=by
 intro pins s σ H xs us Q I rv h
 obtain ⟨a,is,rfl,hq,hne,q⟩:=h
 obtain ⟨u,rfl,ru⟩:=rv.one
 cases ru
 obtain ⟨its,r,pl,hz⟩:=I.list hq
 obtain ⟨l,rfl,e⟩:=q1C r
 have hi:(l.map λp=>Value.int p.1 p.2).toArray=intItems l.toArray:=by simp [intItems]
 have hl:s.heap.IsList a (intItems l.toArray):=hi ▸ pl.isList
 refine max_intList (I.ok.hd hc) hl (by subst e;cases l with | nil=>exact absurd rfl hne | cons _ _=>simp) λv h' tk hv hk=>?_
 obtain ⟨t,rfl⟩:=intItems_at hv
 refine ⟨.int (q0Y true is),H,I.kept (t':=tk) hk,⟨t,?_⟩,q⟩
 subst e
 congr 1
 unfold q0Y
 rw [q5d]
 simp only [if_true,List.length_map]
 congr 2
 ·funext i j;rw [q5d,q5d]
end
section
variable {T:Tb} {X:Cx}
noncomputable def q89:List D->Out D
 | [.lst ds]=>(match q3g ds with | some is=>if is≠[] then .ok (.int (q0Y true is)) else .bad | none=>.bad)
 | _=>.bad
theorem j2S (hc:X.calm=true):CaD T X (.builtin "max") q89:=λE=>⟨_,q7D hc,λds vs σ H Q r h=>by
 unfold q89 at h
 split at h
 ·rename_i ds'
  obtain ⟨v,rfl,a,ws,rfl,fz,rl⟩:=r.one
  cases q:q3g ds' with
  | none=>rw [q] at h;exact h.elim
  | some is=>
   rw [q] at h
   have h:Acc T X E σ H (if is≠[] then .ok (.int (q0Y true is)) else .bad) (kE T X.K H Q):=h
   by_cases c:is≠[]
   ·rw [if_pos c] at h
    obtain rfl:=q2X q rl
    exact ⟨a,is,rfl,fz.sq,c,h _ H (Same.refl H) rfl⟩
   ·rw [if_neg c] at h;exact h.elim
 ·exact h.elim⟩
end
section
variable {T:Tb} {X:Cx} {elt iter:Expr} {x:Str} {px pos:Pos} {scope:Scope} {ys:List Str} {caps:List Nat} {fe:Ev} {ft:Ro->Out Bool} {tst:Expr} {cl:List (Str×Addr)} {pins:List (Addr×Obj)} {σ:L2.St} {G H2:Hp} {s2:Shared} {J:It} {fp:List Addr} {it:Addr} {tn:Nat->Heap->Prop} {ρ:Ro} {ds es:List D}
end
section
variable {T:Tb} {X:Cx} {elt iter tst:Expr} {x:Str} {px pos spos py:Pos} {scope:Scope} {ys:List Str} {caps:List Nat} {fe:Ev} {ft:Ro->Out Bool} {fl:Ro->Out (List D)}
variable {ib:Bool} {y:Str}
end
section
variable {X:Cx}
end
section
variable {T:Tb} {X:Cx} {e o:Expr} {es:List Expr} {cpos apos:Pos} {fe fo:Ev} {fs:Ro->Out (List D)}
end
section
variable {T:Tb} {X:Cx} {o:Expr} {cpos apos:Pos} {fo:Ev}
end
theorem Inv.unfrz {X:Cx} {pins:List (Addr×Obj)} {σ:L2.St} {H:Hp} {s:Shared} {b:Addr} {ws:List V} (I:Inv X pins σ H s) (h:H b=some (.lst ws)):∀o u,X.H₀ b≠some (.frz o u):=λo u z=>by
 have:=I.base.frzs b o u z
 rw [h] at this;cases this
theorem Inv.thaw {X:Cx} {pins:List (Addr×Obj)} {σ:L2.St} {H:Hp} {s:Shared} {b:Addr} {ws:List V} {o:Obj} (I:Inv X pins σ H s) (h:H b=some (.frz o (.lst ws))) (hx:∀o u,X.H₀ b≠some (.frz o u)):Inv X pins σ (upd H b (.lst ws)) s:=by
 have no:∀c,H c=none->upd H b (.lst ws) c=none:=λc q=>by
  rw [q0d (λz=>by rw [z,h] at q;cases q)];exact q
 have own:∀c y,H c=some (.own y)->upd H b (.lst ws) c=some (.own y):=λc y q=>by
  rw [q0d (λz=>by rw [z,h] at q;cases q)];exact q
 have tup:∀c xs,H c=some (.tup xs)->upd H b (.lst ws) c=some (.tup xs):=λc y q=>by
  rw [q0d (λz=>by rw [z,h] at q;cases q)];exact q
 refine ⟨I.ok,I.os,I.bare,⟨I.base.keep,I.base.slot,λc ob e n q=>no c (I.base.free c ob e n q),I.base.there,λc xs e=>tup c xs (I.base.tups c xs e),λc ob u e=>?_,λc ps e=>?_⟩,I.loc,I.cell,no _ I.free,λx c e=>no c (I.freeC x c e),λp hp=>?_,λc u e=>?_,I.len⟩
 ·have q:=I.base.frzs c ob u e
  rw [q0d (λz=>by subst z;exact hx ob u e)];exact q
 ·obtain ⟨more,q⟩:=I.base.tbls c ps e
  exact ⟨more,by rw [q0d (λz=>by rw [z,h] at q;cases q)];exact q⟩
 ·obtain ⟨p1,p2,p3⟩:=I.pin p hp
  exact ⟨p1,no _ p2,p3⟩
 ·by_cases hc:c=b
  ·subst hc
   rw [q0j] at e;cases e
   exact ((I.hok _ _ h).2).stay (λ_ _ _ q=>q) (λc=>own c _) tup
  ·rw [q0d hc] at e
   exact (I.hok c u e).stay (λ_ _ _ q=>q) (λc=>own c _) tup
theorem q70 {H H':Hp} {b:Addr} {ws:List V} {o:Obj} (h:H b=some (.lst ws)) (s1:Same (upd H b (.frz o (.lst ws))) H'):Same H (upd H' b (.lst ws)):=λc u e=>by
 by_cases hc:c=b
 ·subst hc;rw [q0j,<-h];exact e
 ·rw [q0d hc];exact s1 c u (by rw [q0d hc];exact e)
theorem XW.thaw {T:Tb} {X:Cx} {E:Value->Shared->Prop} {σ:L2.St} {H:Hp} {c:Nat} {b:Addr} {ws:List V} {o:Obj} (h:XW T X E σ H c) (hb:H b=some (.lst ws)) (hx:∀o u,X.H₀ b≠some (.frz o u)):XW T X E σ (upd H b (.frz o (.lst ws))) c:=λpins s u H' I sm fl=>by
 have hb':H' b=some (.frz o (.lst ws)):=sm b _ q0j
 have no:∀c,H' c=none->upd H' b (.lst ws) c=none:=λc q=>by
  rw [q0d (λz=>by rw [z,hb'] at q;cases q)];exact q
 refine h pins s u _ (Inv.thaw I hb' hx) (q70 hb sm) ?_
 obtain ⟨ea,rfl,h1,h2,nc,oe,vs,a0,he,hc,hd,h0,ht⟩:=fl
 refine ⟨ea,rfl,no _ h1,h2,nc,oe,vs,a0,he,hc,hd,h0,?_⟩
 rcases ht with ht | ⟨tb,ot,ts,t1,t2,t3,t4,t5,t6,t7⟩
 ·exact .inl ht
 ·exact .inr ⟨tb,ot,ts,t1,t2,t3,t4,t5,no _ t6,t7⟩
mutual
noncomputable def nl:D->Bool
 | .lst _=>false
 | .tup ds=>nlL ds
 | .ins _ ds=>nlL ds
 | _=>true
noncomputable def nlL:List D->Bool
 | []=>true
 | d::ds=>nl d && nlL ds
end
mutual
theorem Rep.thaw {T:Tb} {K:PySem.W.Frag} {H:Hp} {b:Addr} {ws:List V} {o:Obj} {u:HO} (h:H b=some (.frz o (.lst ws))):∀(d:D) (v:V),nl d=true->Rep T K H d v->Rep T K (upd H b u) d v
 | .non,_,_,q=>q
 | .bl _,_,_,q=>q
 | .int _,_,_,q=>q
 | .str _,_,_,q=>q
 | .tup ds,_,n,q=>by
  obtain ⟨a,vs,r1,r2,r3⟩:=q
  refine ⟨a,vs,r1,?_,RepL.thaw h ds vs n r3⟩
  rcases r2 with (r2 | ⟨o',r2⟩) | r2
  ·exact .inl (.inl (by rw [q0d (λz=>by rw [z,h] at r2;cases r2)];exact r2))
  ·exact .inl (.inr ⟨o',by rw [q0d (λz=>by rw [z,h] at r2;cases r2)];exact r2⟩)
  ·exact .inr r2
 | .lst ds,_,n,_=>by cases n
 | .ins c ds,_,n,q=>by
  obtain ⟨a,dx,fs,r1,r2,r3,r4⟩:=q
  exact ⟨a,dx,fs,r1,by rw [q0d (λz=>by rw [z,h] at r2;cases r2)];exact r2,r3,RepL.thaw h ds _ n r4⟩
 | .exc c,_,_,q=>by
  obtain ⟨a,o',r1,r2,r3⟩:=q
  exact ⟨a,o',r1,by rw [q0d (λz=>by rw [z,h] at r2;cases r2)];exact r2,r3⟩
theorem RepL.thaw {T:Tb} {K:PySem.W.Frag} {H:Hp} {b:Addr} {ws:List V} {o:Obj} {u:HO} (h:H b=some (.frz o (.lst ws))):∀(ds:List D) (vs:List V),nlL ds=true->RepL T K H ds vs->RepL T K (upd H b u) ds vs
 | [],_,_,q=>q
 | d::ds,_,n,q=>by
  obtain ⟨v,r,r1,r2,r3⟩:=q
  have n:(nl d && nlL ds)=true:=n
  rw [Bool.and_eq_true] at n
  exact ⟨v,r,r1,Rep.thaw h d v n.1 r2,RepL.thaw h ds r n.2 r3⟩
end
@[simp] noncomputable def vwR (i:Nat) (ρ:Ro):Ro:=match ρ[i]? with
 | some (.ox t pre ds post)=>ρ.set i (.sh (mkO t (pre++.lst ds::post)))
 | _=>ρ
section
variable {T:Tb} {ib:Bool} {X:Cx} {e:Expr} {f:Ro->Out Bool} {fe:Ev} {ff:Ro->Out (List D)}
theorem look {α:Type} {G H:Hp} {E:Value->Shared->Prop} {σ:L2.St} {ρ:Ro} {pins:List (Addr×Obj)} {s:Shared} (i:Nat) {g:Ro->Out α} {k:α->Prop} (I:Inv (X.wish E) pins σ H s) (fr:FR T X.K G H σ ρ) (q:Acc T X E σ H (g (vwR i ρ)) k) :
 (FR T X.K G H σ ρ/\Acc T X E σ H (g ρ) k/\vwR i ρ=ρ)∨∃(b:Addr) (ws:List V) (o:Obj),H b=some (.lst ws)/\(∀o u,X.H₀ b≠some (.frz o u))/\Inv (X.wish E) pins σ (upd H b (.frz o (.lst ws))) s/\FR T X.K G (upd H b (.frz o (.lst ws))) σ (vwR i ρ)/\Acc T X E σ (upd H b (.frz o (.lst ws))) (g (vwR i ρ)) k:=by
 cases e0:ρ[i]? with
 | none=>left;have z:vwR i ρ=ρ:=by simp [e0]
         rw [z] at q;exact ⟨fr,q,z⟩
 | some w=>
  cases w with
  | ox t pre ds post=>
   right
   obtain ⟨a,vp,b,vq,ws,e1,e2,r1,r2,e3,e4,r3⟩:=fr.sl i _ e0
   obtain ⟨o,I2⟩:=Inv.freeze I e3
   have hx:=Inv.unfrz I.unwish e3
   have z:vwR i ρ=ρ.set i (.sh (mkO t (pre++.lst ds::post))):=by simp [e0]
   refine ⟨b,ws,o,e3,hx,I2,?_,?_⟩
   ·rw [z];exact j5C fr e0 e1 e2 r1 r2 e3 e4 r3
   ·cases eg:g (vwR i ρ) with
    | ok a=>rw [eg] at q;exact q
    | exc c=>rw [eg] at q;exact XW.thaw q e3 hx
    | bad=>rw [eg] at q;exact q
  | _=>left;have z:vwR i ρ=ρ:=by simp [e0]
       rw [z] at q;exact ⟨fr,q,z⟩
end
inductive Bk where
 | sh (ds:List D) | ow (pre ds post:List D)
noncomputable def kB (T:Tb) (K:PySem.W.Frag) (G H:Hp) (Q:List V->Hp->Prop):Bk->Prop
 | .sh ds=>∀vs H',Same H H'->RepL T K H' ds vs->Q vs H'
 | .ow pre ds post=>∀vp b vq ws H',Same H H'->RepL T K H' pre vp->RepL T K H' post vq->H' b=some (.lst ws)->G b=none->RepL T K H' ds ws->Q (vp++.ref b::vq) H'
noncomputable def tB (T:Tb) (X:Cx) (G:Hp) (E:Value->Shared->Prop) (f:Ro->Out Bk):TA:=fun σ H Q=>∃ρ,FR T X.K G H σ ρ/\Acc T X E σ H (f ρ) (kB T X.K G H Q)
structure DB (T:Tb) (X:Cx) (es:List Expr) (f:Ro->Out Bk):Prop where
 mk ::
 run:∀(G:Hp) (E:Value->Shared->Prop),PassesOwn (model X.prog X.w) X.A X.env E->PA (X.wish E) es (tB T X G E f)
section
variable {T:Tb} {ib:Bool} {X:Cx} {e:Expr} {es:List Expr} {pos p:Pos} {fe:Ev} {fs:Ro->Out (List D)} {fb:Ro->Out Bk} {fr':Ro->Out Rv} {x:Str}
end
section
variable {T:Tb} {ib:Bool} {X:Cx} {e:Expr} {pos p:Pos} {fr':Ro->Out Rv} {x:Str}
end
section
variable {T:Tb} {K:PySem.W.Frag} {G H:Hp} {σ:L2.St} {ρ:Ro}
theorem FR.own_gen {i:Nat} {s0 s1:Sl} {a:Addr} {vs ws:List V} (fr:FR T K G H σ ρ) (e:ρ[i]?=some s0) (oa:q2e H σ[i]? a s0) (e2:H a=some (.lst vs)) (e3:G a=none) (h1:SlOk T K G (upd H a (.lst ws)) σ[i]? s1) (hb:∀b,q2e (upd H a (.lst ws)) σ[i]? b s1->q2e H σ[i]? b s0) (hm:∀c ds,s1≠.me c ds) :
 FR T K G (upd H a (.lst ws)) σ (ρ.set i s1):=by
 have p:Pers T false H (upd H a (.lst ws)):=q1u e2
 have hl:i < ρ.length:=(List.getElem?_eq_some_iff.mp e).1
 have lt:∀{m:Nat} {z:Sl},(ρ.set i s1)[m]?=some z->(m=i/\z=s1)∨(m≠i/\ρ[m]?=some z):=λ{m z} q=>by
  by_cases hm:m=i
  ·subst hm
   rw [List.getElem?_set_self hl] at q
   exact .inl ⟨rfl,(Option.some.inj q).symm⟩
  ·rw [List.getElem?_set_ne (Ne.symm hm)] at q;exact .inr ⟨hm,q⟩
 refine ⟨λb u q=>?_,by simp [fr.len],λj s q=>?_,λj k z1 z2 b hjk q1 q2 o1 o2=>?_,fr.me,q12 hm fr.me0⟩
 ·rw [q0d (λz=>by rw [z,e3] at q;cases q)];exact fr.same b u q
 ·rcases lt q with ⟨rfl,rfl⟩ | ⟨hj,q⟩
  ·exact h1
  ·have h:=fr.sl j s q
   exact SlOk.off e2 (λ_ _=>RepL.pers p _ _) (λo1=>fr.ne j i _ _ a hj q e o1 oa) h
 ·have bk:∀(c:Addr) (u:HO),H c=some u->(∀xs,u≠.lst xs)->(∀x dx fs,u≠.ins x dx fs)->upd H a (.lst ws) c=some u:=λc u w n _=>by
   rw [q0d (λy=>by subst y;rw [e2] at w;cases w;exact n _ rfl)];exact w
  have own:∀(m:Nat) (z:Sl),(ρ.set i s1)[m]?=some z->q2e (upd H a (.lst ws)) σ[m]? b z->∃z',ρ[m]?=some z'/\q2e H σ[m]? b z':=λm z q o=>by
   rcases lt q with ⟨rfl,rfl⟩ | ⟨_,q⟩
   ·exact ⟨_,e,hb b o⟩
   ·exact ⟨_,q,(fr.sl m z q).back bk o⟩
  obtain ⟨_,p1,w1⟩:=own j _ q1 o1
  obtain ⟨_,p2,w2⟩:=own k _ q2 o2
  exact fr.ne j k _ _ b hjk p1 p2 w1 w2
end
section
variable {T:Tb} {ib:Bool} {X:Cx} {e b:Expr} {pos p p2 p3 pc ps:Pos} {fe fb:Ev} {x:Str} {c:Int} {j:Nat}
end
section
variable {P:Program} {w:World} {A:Around}
noncomputable abbrev two (x:Value) (c:Nat):Obj:=⟨.type "list",none,.seq #[x,x] c,#[]⟩
end
open AutoSeq1 (wpAny_loadPart')
open SeqAt
end L3
namespace L3
open PySem PySem.Spec PyProof.Rows L2
section
variable {X:Cx}
end
section
variable {T:Tb} {X:Cx}
end
section
variable {T:Tb} {ib:Bool} {X:Cx} {e b:Expr} {pos pos' p p2:Pos} {fe fb:Ev} {x:Str}
end
section
variable {X:Cx}
end
section
variable {T:Tb} {X:Cx}
end
section
variable {K:Type} [DecidableEq K]
noncomputable def inK (σ:List K) (k:K):Bool:=σ.any λx=>decide (x=k)
noncomputable def q1i (σ:List K) (k:K):List K:=if inK σ k=true then σ else σ++[k]
noncomputable def dk (ks:List K):List K:=ks.foldl q1i []
theorem j2G (ks:List K) (k:K):dk (ks++[k])=q1i (dk ks) k:=by
 unfold dk;rw [List.foldl_append];rfl
theorem q14 {σ:List K} {k:K}:inK σ k=true↔k∈σ:=by
 unfold inK;simp
theorem q7O {σ:List K} {v k:K}:k∈q1i σ v↔k∈σ∨k=v:=by
 unfold q1i
 split
 ·rename_i h
  rw [q14] at h
  constructor
  ·exact .inl
  ·rintro (z | rfl)
   ·exact z
   ·exact h
 ·simp
theorem j0l (σ:List K) (v k:K):inK (q1i σ v) k=(inK σ k || decide (k=v)):=by
 rw [Bool.eq_iff_iff,q14,q7O,Bool.or_eq_true,q14,decide_eq_true_eq]
theorem q5I (σ:List K) (v:K):(q1i σ v).length=if inK σ v=true then σ.length else σ.length+1:=by
 unfold q1i
 split<;>simp
theorem q3N:∀(ks σ:List K),(ks.foldl q1i σ).length<=σ.length+ks.length
 | [],σ=>Nat.le_refl _
 | k::ks,σ=>by
  have h1:=q3N ks (q1i σ k)
  have h2:=q5I σ k
  rw [List.foldl_cons,List.length_cons]
  split at h2<;>omega
theorem j5o (ks:List K):(dk ks).length<=ks.length:=by
 have:=q3N ks []
 simpa [dk] using this
theorem q4M {σ:List K} {v:K} (h:σ.Nodup):(q1i σ v).Nodup:=by
 unfold q1i
 split
 ·exact h
 ·rename_i z
  rw [q14] at z
  rw [List.nodup_append]
  exact ⟨h,by simp,λa ha b hb e=>z (by rw [List.mem_singleton.mp hb] at e;exact e ▸ ha)⟩
theorem q4D:∀(ks σ:List K),(σ++ks).Nodup->ks.foldl q1i σ=σ++ks
 | [],σ,_=>by simp
 | k::ks,σ,h=>by
  have hk:k∉σ:=λz=>by
   rw [List.nodup_append] at h
   exact h.2.2 k z k (by simp) rfl
  have e:q1i σ k=σ++[k]:=by
   unfold q1i
   rw [if_neg (λz=>hk (q14.mp z))]
  rw [List.foldl_cons,e,q4D ks (σ++[k]) (by simpa using h)]
  simp
theorem q5L:∀(ks σ:List K),¬(σ++ks).Nodup->σ.Nodup->(ks.foldl q1i σ).length < σ.length+ks.length
 | [],σ,h,hs=>absurd (by simpa using hs) h
 | k::ks,σ,h,hs=>by
  by_cases hk:k∈σ
  ·have e:q1i σ k=σ:=by
    unfold q1i
    rw [if_pos (q14.mpr hk)]
   rw [List.foldl_cons,e,List.length_cons]
   have:=q3N ks σ
   omega
  ·have e:q1i σ k=σ++[k]:=by
    unfold q1i
    rw [if_neg (λz=>hk (q14.mp z))]
   have:=q5L ks (σ++[k]) (by simpa using h) (by rw [<-e];exact q4M hs)
   rw [List.foldl_cons,e,List.length_cons]
   simp at this
   omega
theorem q6P (ks:List K):(dk ks).length=ks.length↔ks.Nodup:=by
 constructor
 ·intro h
  refine Classical.byContradiction λz=>?_
  have:=q5L ks [] (by simpa using z) (by simp)
  simp only [List.length_nil,Nat.zero_add] at this
  have e:ks.foldl q1i []=dk ks:=rfl
  rw [e] at this
  omega
 ·intro h
  have:=q4D ks [] (by simpa using h)
  have e:ks.foldl q1i []=dk ks:=rfl
  rw [e] at this
  rw [this];simp
end
section
variable {K:Type} [DecidableEq K] {P:Program} {w:World} {knd:PySem.KeyKind P w K}
theorem q5y {h:Heap} {a:Addr} {S S':K->Bool} {n n':Nat} (x:h.SetOf knd a S n) (e1:∀k,S k=S' k) (e2:n=n'):h.SetOf knd a S' n':=by
 cases funext e1;cases e2;exact x
noncomputable def j02 (knd:PySem.KeyKind P w K) (items:Array Value) (ks:List K):Prop:=items.size=ks.length/\∀(i:Nat) (v:Value),items[i]?=some v->∃k,ks[i]?=some k/\knd.is k v=true/\v.scannable=true
theorem q8z {ks:List K} {i:Nat} {k:K} (h:ks[i]?=some k):ks.take (i+1)=ks.take i++[k]:=by
 obtain ⟨hi,e⟩:=List.getElem?_eq_some_iff.mp h
 rw [List.take_succ_eq_append_getElem hi,e]
section
variable {A:Around} {R:Result->Shared->Prop} {J:Addr} {fp wr:List Addr} {G:Array GenState->Array GenState->Prop} {St:Nat->Shared->Prop}
theorem q3a {S:Addr} {G:Array GenState->Array GenState->Prop} {wr:List Addr} {s s':Shared} {f:K->Bool} {n:Nat} (h:s.heap.SetOf knd S f n) (m:Moved wr G s s') (hS:S∉wr):s'.heap.SetOf knd S f n:=by
 obtain ⟨o,es,ep,t,ho,more⟩:=h
 exact ⟨o,es,ep,t,m.heap S _ hS ho,more⟩
theorem q9V {items:Array Value} {ks:List K} (W:WalksS P w A.in1 J fp wr G items.size (λi v=>items[i]?=some v) St) (S:Addr) (hSf:S∉fp) (hk:j02 knd items ks) (hb:ks.length+1 < scanBound) :
 ∀(m i:Nat) (s:Shared),i+m=items.size->St i s->s.heap.SetOf knd S (inK (dk (ks.take i))) (dk (ks.take i)).length ->
  (∀s',Moved (S::wr) G s s'->s'.heap.SetOf knd S (inK (dk ks)) (dk ks).length->R (.ok (.ret .none)) s')->codeAny (model P w) A (.builtin "set.update.loop" ⟨[.ref S,.ref J],[]⟩) R s:=by
 have nw:S∉wr:=λz=>hSf (W.sub _ z)
 have more:∀b∈wr,b∈S::wr:=λb z=>List.mem_cons_of_mem _ z
 intro m
 induction m with
 | zero=>
  intro i s hi hst hset fin
  obtain rfl:i=items.size:=by omega
  refine codeAny_builtin PyProof.Rows.F.entry_set_update_loop ?_
  rw [Around.under_plainId PyProof.Rows.F.plain_set_update_loop _]
  show wpAny _ A.in1 (pyNext (.ref J) >>= _) _ _ s
  refine wpAny_bind (W.done s _ _ hst λs' mv=>?_)
  show wpAny _ A.in1 (ret Value.none) _ _ s'
  refine wpAny_pure (fin s' (mv.mono more) ?_)
  have:=q3a hset mv nw
  rwa [List.take_of_length_le (by rw [hk.1];exact Nat.le_refl _)] at this
 | succ m ih=>
  intro i s hi hst hset fin
  refine codeAny_builtin PyProof.Rows.F.entry_set_update_loop ?_
  rw [Around.under_plainId PyProof.Rows.F.plain_set_update_loop _]
  show wpAny _ A.in1 (pyNext (.ref J) >>= _) _ _ s
  refine wpAny_bind (W.item i s _ _ (by omega) hst λv s' hv hst' mv=>?_)
  obtain ⟨k,ek,isk,sck⟩:=hk.2 i v hv
  have hset':=q3a hset mv nw
  show wpAny _ A.in1 (holding [v] (setAdd S v) >>= _) _ _ s'
  refine wpAny_bind (wpAny_holding ?_)
  unfold setAdd
  refine wpAny_holding (wpAny_bind (knd.pyHash (k:=k) isk ?_))
  have room:(dk (ks.take i)).length+1 < scanBound:=by
   have:=j5o (ks.take i)
   rw [List.length_take] at this;omega
  refine wpAny_setAddHashed_of (knd:=knd) (s:={ s' with toks:=s'.toks+1 }) isk sck hset' room λh' sb hset2=>?_
  have hset3:h'.SetOf knd S (inK (dk (ks.take (i+1)))) (dk (ks.take (i+1))).length:=by
   rw [q8z ek,j2G]
   exact q5y hset2 (λq=>(j0l _ _ _).symm) (q5I _ _).symm
  refine wpAny_pure ⟨plainId_quiet PyProof.Rows.F.plain_set_update_loop _,ih (i+1) _ (by omega) (W.frame _ s' _ _ hst' (Nat.le_succ _) λb hb' o e=>?_) hset3 λs2 mv2 hs2=>fin s2 ?_ hs2⟩
  ·rw [sb.2 b (λz:b=S=>hSf (z ▸ hb'))];exact e
  ·refine Moved.trans W.gtrans ((mv.mono more).then_heap (Nat.le_succ _) λb o hb' e=>?_) mv2
   rw [sb.2 b (λz:b=S=>hb' (z ▸ List.mem_cons_self))];exact e
end
section
variable {A:Around} {E:Value->Shared->Prop} {s:Shared}
set_option maxHeartbeats 3200000 in
theorem j0i {l:Addr} {items:Array Value} {ks:List K} {Q:Value->Shared->Prop} (hh:A.handled=none) (hl:s.heap.IsList l items) (hk:j02 knd items ks) (hb:ks.length+1 < scanBound)
 (fin:∀(h':Heap) (tk:Nat),h'.SetOf knd s.heap.objs.size (inK (dk ks)) (dk ks).length->(∀b o,s.heap.get? b=some o->h'.get? b=some o)->Q (.ref s.heap.objs.size) { s with heap:=h',toks:=tk }) :
 wpAny (model P w) A (call (.type "set") [.ref l]) Q E s:=by
 obtain ⟨c,tl,mro⟩:=PySem.F.called_set.mro
 have made:=PySem.F.called_set.made
 have subs:=PySem.F.called_set.sub
 refine wpAny_call (codeAny_of_tree ?_)
 show wpAny _ _ (callAny (.type "set") _) _ _ _
 refine wpAny_pure ⟨Code.quiet_builtin _ (by decide +kernel),codeAny_builtin PySem.F.entry_type_call ?_⟩
 rw [Around.under_plain (weight_type_call_type "set" [.ref l] []) rfl]
 have notT:=PySem.F.called_set.notType
 have canC:=PySem.F.called_set.canCreate
 have tcall:=PySem.F.typeCall_set_1 (.ref l)
 repeat (any_goals (first | assumption | wp_step))
 refine codeAny_mono (code_set_new_1 (.ref l) (E:=E) (Q₁:=λobj s₁=>∃led:Bool,obj=.ref s.heap.objs.size/\s₁={ s with heap:=s.heap.push { cls:=.type "set",dict:=none,data:=.set #[] 0 (.fresh 0 0 led) } }) λled=>⟨led,rfl,rfl⟩) λr s₁ hr=>?_
 rcases r with e | fl
 ·exact hr
 rcases fl with _ | _ | _ | obj
 any_goals exact hr.elim
 obtain ⟨led,rfl,rfl⟩:=hr
 generalize hO:({ cls:=.type "set",dict:=none,data:=.set #[] 0 (.fresh 0 0 led) }:Obj)=O
 have gO:(s.heap.push O).get? s.heap.objs.size=some O:=Heap.get?_push_size _ (by rw [<-hO];rfl)
 have tO:Shared.TypeIs { s with heap:=s.heap.push O } (.ref s.heap.objs.size) "set":=⟨_,gO,by rw [<-hO]⟩
 have look:=PySem.F.called_set.init.lookup
 have bnd:=PySem.F.called_set.init.bind (.ref s.heap.objs.size)
 repeat (any_goals (first | assumption | wp_step))
 refine codeAny_mono (codeAny_call_builtin (R:=wants (λr s₂=>r=.none/\∃h' tk,s₂={ s with heap:=h',toks:=tk }/\h'.SetOf knd s.heap.objs.size (inK (dk ks)) (dk ks).length/\∀b o,s.heap.get? b=some o->h'.get? b=some o) E) PySem.F.called_set.init.plain PySem.F.entry_set_init (check_set_init_1 tO ?_)) λr₂ s₂ hr₂=>?_
 ·obtain ⟨⟨oc,od,odt,osl⟩,ho,hc,n,hd⟩:=hl
  simp only at hc hd
  subst hc hd
  have lt:l < s.heap.objs.size:=Heap.lt_size ho
  have ho':(s.heap.push O).get? l=some { cls:=.type "list",dict:=od,data:=.seq items n,slots:=osl }:=Heap.get?_push_of_some _ ho
  have n1:=PySem.F.sub_list_set
  have n2:=PySem.F.sub_list_frozenset
  have n3:(Value.type "list"==Value.type "dict")=false:=by decide
  have isl:(s.heap.push O).IsList l items:=⟨_,ho',rfl,n,rfl⟩
  have sz:(s.heap.push O).objs.size=s.heap.objs.size+1:=Heap.size_push ..
  subst hO
  unfold Builtin.«set.__init__» noKeywords Builtin.Frozenset.updateFrom
  generalize hPI:pyIter=PI
  wp_walk
  subst hPI
  refine wpAny_pyIter_list isl ?_
  refine wpAny_bind (wpAny_runValue ?_)
  have h3:A.in1.in1.in1.handled=none:=by simp [hh]
  have ne1:l≠(s.heap.push { cls:=.type "set",dict:=none,data:=.set #[] 0 (.fresh 0 0 led) }).objs.size:=by rw [sz];exact Nat.ne_of_lt (Nat.lt_succ_of_lt lt)
  have nf:s.heap.objs.size∉[(s.heap.push { cls:=.type "set",dict:=none,data:=.set #[] 0 (.fresh 0 0 led) }).objs.size,l]:=by
   rw [sz];simp only [List.mem_cons,List.not_mem_nil,or_false,not_or]
   exact ⟨Nat.ne_of_lt (Nat.lt_succ_self _),Nat.ne_of_gt lt⟩
  refine q9V ((Walks.list h3 _ l ne1 items).toS) s.heap.objs.size nf hk hb items.size 0 _ (by simp) ⟨⟨_,Heap.get?_push_size _ rfl,rfl,rfl⟩,isl.push _⟩ ?_ λs' mv hs'=>?_
  ·exact q5y ((PyProof.Rows.setObjOf_fresh (knd:=knd) led).setOf (Heap.get?_push_of_some _ gO) (by unfold scanBound;omega)) (λ_=>rfl) rfl
  ·obtain ⟨h',g',d',tk',os'⟩:=s'
   obtain rfl:g'=s.gens:=mv.gens
   obtain rfl:d'=s.drawn:=mv.drawn
   obtain rfl:os'=s.os:=mv.os
   refine wpAny_pure (?_:wpAny _ _ (ret Value.none) _ _ _)
   refine wpAny_pure ⟨rfl,h',tk',rfl,hs',λb o e=>?_⟩
   have hb0:=Heap.lt_size e
   exact mv.heap b o (by rw [sz];simp only [List.mem_cons,List.not_mem_nil,or_false,not_or];exact ⟨Nat.ne_of_lt hb0,Nat.ne_of_lt (Nat.lt_succ_of_lt hb0)⟩) (Heap.get?_push_of_some _ (Heap.get?_push_of_some _ e))
 ·rcases r₂ with e | fl₂
  ·exact hr₂
  rcases fl₂ with _ | _ | _ | r
  any_goals exact hr₂.elim
  obtain ⟨rfl,h',tk,rfl,hs',kk⟩:=hr₂
  repeat (any_goals (first | assumption | wp_step))
  exact fin _ _ hs' kk
end
end
section
variable {X:Cx} {pins:List (Addr×Obj)} {σ:L2.St} {H:Hp} {s:Shared}
theorem Inv.enter {ea:Addr} {φ:Heap->Prop} {ob:Obj} (I:Inv X pins σ H s) (hn:H ea=none) (fe:Free X pins ea) (ho:s.heap.get? ea=some ob) (hφ:φ s.heap) (st:∀h1 h2:Heap,φ h1->(∀o,h1.get? ea=some o->h2.get? ea=some o)->φ h2) :
 Inv X pins σ (upd H ea (.ext φ)) s:=by
 obtain ⟨f1,f2,f3,f4⟩:=fe
 have ne:∀b o,H b=some o->b≠ea:=λb o e z=>by rw [z,hn] at e;cases e
 refine ⟨I.ok,I.os,I.bare,⟨I.base.keep,I.base.slot,λb o e n hx=>?_,I.base.there,λb xs e=>?_,λb o v e=>?_,λb ps e=>?_⟩,I.loc,I.cell,?_,λy cc e=>?_,λp hp=>?_,λb o e=>?_,I.len⟩
 ·rw [q0d (λz=>?_)]
  ·exact I.base.free b o e n hx
  ·rcases f1 with f1 | f1
   ·exact hx (z ▸ f1)
   ·rw [z] at e;rw [f1] at e;cases e
 ·have q:=I.base.tups b xs e;rw [q0d (ne b _ q)];exact q
 ·have q:=I.base.frzs b o v e;rw [q0d (ne b _ q)];exact q
 ·obtain ⟨more,q⟩:=I.base.tbls b ps e
  exact ⟨more,by rw [q0d (ne b _ q)];exact q⟩
 ·rw [q0d (Ne.symm f2)];exact I.free
 ·rw [q0d (f3 y cc e)];exact I.freeC y cc e
 ·obtain ⟨a1,a2,a3⟩:=I.pin p hp
  exact ⟨a1,by rw [q0d (f4 p hp)];exact a2,a3⟩
 ·have ow:∀b y,H b=some (.own y)->upd H ea (.ext φ) b=some (.own y):=λb y q=>by rw [q0d (ne b _ q)];exact q
  have tu:∀b y,H b=some (.tup y)->upd H ea (.ext φ) b=some (.tup y):=λb y q=>by rw [q0d (ne b _ q)];exact q
  by_cases hb:b=ea
  ·subst hb
   rw [q0j] at e;cases e
   exact ⟨hφ,⟨ob,ho⟩,st⟩
  ·rw [q0d hb] at e
   exact (I.hok b o e).stay (λ_ _ _ q=>q) (λcc=>ow cc _) tu
theorem q9u (I:Inv X pins σ H s) {b:Addr} (hb:s.heap.objs.size<=b):Free X pins b:=q4Z I (Heap.get?_none_of_le hb)
end
section
variable {K:Type} [DecidableEq K] {X:Cx} {knd:PySem.KeyKind X.prog X.w K}
noncomputable def q8M (knd:PySem.KeyKind X.prog X.w K) (p:Addr) (ks:List K) (h:Heap):Prop:=h.SetOf knd p (inK (dk ks)) (dk ks).length
theorem q94 {p:Addr} {ks:List K} {h1 h2:Heap} (x:q8M knd p ks h1) (k:∀o,h1.get? p=some o->h2.get? p=some o):q8M knd p ks h2:=by
 obtain ⟨o,es,ep,t,ho,more⟩:=x
 exact ⟨o,es,ep,t,k _ ho,more⟩
theorem Free.later {pins:List (Addr×Obj)} {σ:L2.St} {H:Hp} {s:Shared} (I:Inv X pins σ H s):Free X pins s.heap.objs.size:=q9u I (Nat.le_refl _)
theorem q7C {kv:K->V} (hc:X.calm=true) (hkv:∀(k:K) (v:Value),RelV (kv k) v->knd.is k v=true/\v.scannable=true):q2l X (.type "set") (λxs H Q=>∃(a:Addr) (ks:List K),xs=[.ref a]/\SqL X.K H a (ks.map kv)/\ks.length<=4000/\∀p,H p=none->Q (.ref p) (upd H p (.ext (q8M knd p ks)))):=by
 intro pins s σ H xs us Q I rv h
 obtain ⟨a,ks,rfl,hq,hl,q⟩:=h
 obtain ⟨u,rfl,ru⟩:=rv.one
 cases ru
 obtain ⟨its,r,pl,hz⟩:=I.list hq
 have len:=r.length
 rw [List.length_map] at len
 have fr:=I.fresh
 refine j0i (knd:=knd) (items:=its.toArray) (ks:=ks) (I.ok.hd hc) pl.isList ⟨by simp [len],λi v e=>?_⟩ (by unfold scanBound;omega) λh' tk hs kk=>?_
 ·have e':its[i]?=some v:=by simpa using e
  obtain ⟨hi,e2⟩:=List.getElem?_eq_some_iff.mp e'
  have hi':i < ks.length:=by omega
  obtain ⟨u,hu,ru⟩:=r.get (show (ks.map kv)[i]?=some (kv ks[i]) by simp [hi'])
  rw [e'] at hu;cases hu
  exact ⟨ks[i],by simp [hi'],hkv _ _ ru⟩
 ·have I2:Inv X pins σ H { s with heap:=h',toks:=tk }:=I.kept kk
  have f2:Free X pins s.heap.objs.size:=Free.later I
  obtain ⟨o,es,ep,t,ho,more⟩:=hs
  have hs':q8M knd s.heap.objs.size ks h':=⟨o,es,ep,t,ho,more⟩
  exact ⟨.ref s.heap.objs.size,_,Inv.enter I2 fr f2 ho hs' (λh1 h2 x k=>q94 x k),rfl,q _ fr⟩
theorem q4S:q2l X (.builtin "len") (λxs H Q=>∃(a:Addr) (ks:List K) (φ:Heap->Prop),xs=[.ref a]/\H a=some (.ext φ)/\(∀h,φ h->q8M knd a ks h)/\ks.length<=4000/\Q (.int (dk ks).length) H):=by
 intro pins s σ H xs us Q I rv h
 obtain ⟨a,ks,φ,rfl,ha,hφ,hl,q⟩:=h
 obtain ⟨u,rfl,ru⟩:=rv.one
 cases ru
 obtain ⟨p,_⟩:=(show ObjOk X.prog X.w H s.heap a (.ext φ) from I.hok a _ ha)
 obtain ⟨o,es,ep,t,ho,hex,hd,hel,hmem,hb,hf,hn⟩:=hφ _ p
 have:=j5o ks
 refine call_len_set ho hex hd hf (by rw [hn];omega) ?_
 rw [hn]
 exact ⟨.int _,H,I.tok _,⟨_,rfl⟩,q⟩
end
section
variable {T:Tb} {X:Cx} {e:Expr} {pos p pos2 p2:Pos} {fl:Ro->Out (List D)}
@[simp] noncomputable def q8E (fl:Ro->Out (List D)) (ρ:Ro):Out D:=(fl ρ).bind λds=>match q1W ds with
 | some ts=>if ts.length<=4000 then .ok (.int (dk ts).length) else .bad
 | none=>.bad
theorem q7s (hc:X.calm=true) (hg:Gl X "len") (hm:X.mg "len" = none) (hg2:Gl X "set") (hm2:X.mg "set" = none) (hl:DL T X e fl)
 (hs:starEach [e] X.env=(false,eval e X.env)::starEach [] X.env:=by exact q0q rfl) (hpl:(backTo pos2 (starEach ([]:List Expr) X.env)).any (·.1)=false:=by exact q0r rfl)
 (hsO:starEach [.Call (.Name "set" p2) [e] [] pos2] X.env=(false,eval (.Call (.Name "set" p2) [e] [] pos2) X.env)::starEach [] X.env:=by exact q0q rfl) (hplO:(backTo pos (starEach ([]:List Expr) X.env)).any (·.1)=false:=by exact q0r rfl) :
 DE T X (.Call (.Name "len" p) [.Call (.Name "set" p2) [e] [] pos2] [] pos) (q8E fl):=.mk λG E hp=>
 PE.imp (q3U (X:=X.wish E) (q4S (X:=X.wish E) (knd:=strKind (X.wish E).prog (X.wish E).w)) hg hm rfl (q0t (X:=X.wish E) (q22 (X:=X.wish E) (q7C (X:=X.wish E) (knd:=strKind (X.wish E).prog (X.wish E).w) (kv:=V.str) hc (λk v r=>by
  obtain ⟨t,rfl⟩:=r
  exact ⟨strKind_is _ _ _ _,rfl⟩)) hg2 hm2 rfl (q0t (X:=X.wish E) (hl.run G E hp) q06 hs) (by decide) (by decide) hs hpl) q06 hsO) (by decide) (by decide) hsO hplO) fun σ H Q ⟨ρ,fr,h⟩=>⟨ρ,fr,Acc.mono (Acc.bind h) λds _ hd l vs H1 s1 sq r=>by
  cases q:q1W ds with
  | none=>rw [q] at hd;exact hd.elim
  | some ts=>
   rw [q] at hd
   have hd:Acc T X E σ H (if ts.length<=4000 then Out.ok (.int (dk ts).length) else .bad) (kE T X.K H Q):=hd
   by_cases z:ts.length<=4000
   ·rw [if_pos z] at hd
    obtain rfl:=q17 q r
    exact ⟨l,ts,rfl,sq,z,λp hp=>⟨p,ts,_,rfl,q0j,λh x=>x,z,hd _ _ (s1.trans (q0B hp)) rfl⟩⟩
   ·rw [if_neg z] at hd;exact hd.elim⟩
end
noncomputable def q3j (tu:Bool) (l:Addr):Obj:={ cls:=.type (if tu then "tuple_iterator" else "list_iterator"),data:=.fields #[.ref l,.int 0 0] }
noncomputable def q1A (it:Addr) (i:Int) (old:Value):Obj:={ cls:=.type "enumerate",data:=.fields #[.none,.bool false,.ref it,rawInt i,.none,old] }
noncomputable def j1c (tu:Bool) (h:Heap) (l:Addr) (its:Array Value):Prop:=if tu=true then h.IsTuple l its else h.IsList l its
theorem q74 {P:Program} {w:World} {A:Around} {E:Value->Shared->Prop} {s:Shared} {tu:Bool} {l:Addr} {its:Array Value} {Q:Value->Shared->Prop} (h:j1c tu s.heap l its) (q:Q (.ref s.heap.objs.size) { s with heap:=s.heap.push (q3j tu l) }):wpAny (model P w) A (pyIter (.ref l)) Q E s:=by
 cases tu with
 | true=>exact wpAny_pyIter_tuple h q
 | false=>exact wpAny_pyIter_list h q
set_option maxHeartbeats 2000000 in
theorem j0g (tu:Bool) (l:Addr) (its:Array Value) (t:Tok) :
 Meets (Builtin.«enumerate.__new__» ⟨[.type "enumerate",.ref l],[(("start" : Str),.int 1 t)]⟩) (λ_ R s=>j1c tu s.heap l its /\
  R (.ok (.ret (.ref (s.heap.objs.size+1)))) { s with heap:=(s.heap.push (q3j tu l)).push (q1A s.heap.objs.size 1 .none) }):=
 .of_wp λprog w A R s h=>by
  obtain ⟨hp,g,d,tk,os⟩:=s
  obtain ⟨hl,h⟩:=h
  have sub:=sub_enumerate
  have sz:(hp.push (q3j tu l)).objs.size=hp.objs.size+1:=Heap.size_push ..
  wp_walk
  refine wpAny_stack_any λst=>wpAny_pure ?_
  split
  ·rename_i c _ _ _ _ _
   cases (c==Value.type "enumerate")<;>(wp_walk using q74 hl;exact ⟨_,rfl,by simp only [sz];exact h⟩)
  ·wp_walk using q74 hl
   exact ⟨_,rfl,by simp only [sz];exact h⟩
noncomputable def IsIt (tu:Bool) (h:Heap) (it l:Addr) (i:Nat):Prop:=if tu=true then h.IsTupleIter it l i else h.IsListIter it l i
section
variable {P:Program} {w:World} {A:Around} {E:Value->Shared->Prop} {s:Shared} {tu:Bool} {it l e:Addr} {i:Nat} {its:Array Value}
theorem IsIt.kept {h h':Heap} (x:IsIt tu h it l i) (k:∀o,h.get? it=some o->h'.get? it=some o):IsIt tu h' it l i:=by
 cases tu with
 | true=>
  obtain ⟨o,ho,r⟩:=(x:h.IsTupleIter it l i)
  exact (⟨o,k o ho,r⟩:h'.IsTupleIter it l i)
 | false=>
  obtain ⟨o,ho,r⟩:=(x:h.IsListIter it l i)
  exact (⟨o,k o ho,r⟩:h'.IsListIter it l i)
theorem IsIt.obj {h:Heap} (x:IsIt tu h it l i):∃o,h.get? it=some o/\∃vs,o.data=.fields vs:=by
 cases tu with
 | true=>
  obtain ⟨o,ho,_,d⟩:=(x:h.IsTupleIter it l i)
  exact ⟨o,ho,_,d⟩
 | false=>
  obtain ⟨o,ho,_,d⟩:=(x:h.IsListIter it l i)
  exact ⟨o,ho,_,d⟩
theorem q6z {x:Value} {Q:Value->Shared->Prop} (a:s.heap.IsTupleIter it l i) (b:s.heap.IsTuple l its) (c:its[i]?=some x) (q:∀h',h'.IsTupleIter it l (i+1)->Heap.SameBut it s.heap h'->Q x { s with heap:=h' }) :
 wpAny (model P w) A (Builtin.SmallTypes.nextOf (.ref it)) Q E s:=by
 obtain ⟨o,ho,hcl,hd⟩:=id a
 obtain ⟨ot,hot,_,n,hdt⟩:=b
 unfold Builtin.SmallTypes.nextOf
 refine wpAny_bind (wpAny_callSpecial?_slot (name:=Str.ofString "__next__") a.typeIs PySem.F.slot_tuple_iterator_next (wpAny_call_entry PySem.F.slot_tuple_iterator_next a.typeIs PySem.F.entry_tuple_iterator_next (show wpAny _ _ (field (.ref it) 0 >>= _) _ _ s from wpAny_bind (wpAny_field ho hd (x:=.ref l) rfl ?_)) (PySem.F.args_tuple_iterator_next_1 _)))
 show wpAny _ _ (if (Value.ref l==.none)=true then _ else field (.ref it) 1 >>= _) _ _ s
 rw [if_neg (λz=>by cases z)]
 refine wpAny_bind (wpAny_field ho hd (x:=.int i 0) rfl (show wpAny _ _ (seqItems? (.ref l) >>= _) _ _ s from wpAny_bind (wpAny_seqItems hot hdt ?_)))
 simp only [Int.toNat_natCast,c]
 refine wpAny_bind (wpAny_setField ho hd (by simp) (wpAny_pure ⟨x,rfl,wpAny_pure (q _ ⟨_,Heap.get?_update_self _ ho (Obj.isFreed_of_fields (Obj.data_mapFields hd _)),(Obj.cls_mapFields ..).trans hcl,?_⟩ (Heap.SameBut.update ..))⟩))
 rw [Obj.data_mapFields hd]
 simp [rawInt]
end
section
variable {P:Program} {w:World} {A:Around} {E:Value->Shared->Prop} {s:Shared} {tu:Bool} {it l e:Addr} {i:Nat} {its:Array Value}
theorem q8c {Q:Value->Shared->Prop} (hh:A.handled=none) (a:s.heap.IsTupleIter it l i) (b:s.heap.IsTuple l its) (c:its[i]?=none)
 (q:∀h' e,Heap.ExtBut it s.heap h'->(∃o,h'.get? e=some o/\o.cls=.type "StopIteration")->E (.ref e) { s with heap:=h' }):wpAny (model P w) A (Builtin.SmallTypes.nextOf (.ref it)) Q E s:=by
 obtain ⟨o,ho,hcl,hd⟩:=id a
 obtain ⟨ot,hot,_,n,hdt⟩:=b
 unfold Builtin.SmallTypes.nextOf
 refine wpAny_bind (wpAny_callSpecial?_slot (name:=Str.ofString "__next__") a.typeIs PySem.F.slot_tuple_iterator_next (wpAny_call_entry PySem.F.slot_tuple_iterator_next a.typeIs PySem.F.entry_tuple_iterator_next (show wpAny _ _ (field (.ref it) 0 >>= _) _ _ s from wpAny_bind (wpAny_field ho hd (x:=.ref l) rfl ?_)) (PySem.F.args_tuple_iterator_next_1 _)))
 show wpAny _ _ (if (Value.ref l==.none)=true then _ else field (.ref it) 1 >>= _) _ _ s
 rw [if_neg (λz=>by cases z)]
 refine wpAny_bind (wpAny_field ho hd (x:=.int i 0) rfl (show wpAny _ _ (seqItems? (.ref l) >>= _) _ _ s from wpAny_bind (wpAny_seqItems hot hdt ?_)))
 simp only [Int.toNat_natCast,c]
 refine wpAny_bind (wpAny_rule (wpAny_bind (wpAny_setField ho hd (by simp) (show wpAny _ _ (newExc (.type "StopIteration") [] >>= _) _ _ _ from wpAny_bind ?_))))
 simp only [newExc,newTuple]
 refine wpAny_bind (wpAny_newObj_type (wpAny_bind (m:=firstArgMember _ _) (wpAny_of_eq (a:=Value.none) (by first | rfl | (simp only [firstArgMember];rfl)) (wpAny_newObj_type ?_ (by size_fits)))) (by size_fits))
 simp only [raiseNew]
 refine wpAny_bind (wpAny_handled ?_)
 first | rw [show A.in1.handled=none from hh] | rw [hh]
 exact wpAny_bind (wpAny_pure (wpAny_throw (q _ _ (((Heap.SameBut.update ..).extBut.push _).push _) ⟨_,Heap.get?_push_size _ rfl,rfl⟩)))
theorem j3e {x:Value} {Q:Value->Shared->Prop} (a:IsIt tu s.heap it l i) (b:j1c tu s.heap l its) (c:its[i]?=some x) (q:∀h',IsIt tu h' it l (i+1)->Heap.SameBut it s.heap h'->Q x { s with heap:=h' }) :
 wpAny (model P w) A (Builtin.SmallTypes.nextOf (.ref it)) Q E s:=by
 cases tu with
 | true=>exact q6z a b c q
 | false=>exact wpAny_nextOf_list_item a b c q
theorem j41 {Q:Value->Shared->Prop} (hh:A.handled=none) (a:IsIt tu s.heap it l i) (b:j1c tu s.heap l its) (c:its[i]?=none)
 (q:∀h' e,Heap.ExtBut it s.heap h'->(∃o,h'.get? e=some o/\o.cls=.type "StopIteration")->E (.ref e) { s with heap:=h' }):wpAny (model P w) A (Builtin.SmallTypes.nextOf (.ref it)) Q E s:=by
 cases tu with
 | true=>exact q8c hh a b c q
 | false=>exact wpAny_nextOf_list_end hh a b c q
noncomputable def q9B (it:Addr) (n:Int) (x:Value) (a:Addr):Obj:={ cls:=.type "enumerate",data:=.fields #[rawInt a,.bool false,.ref it,rawInt n,.none,x] }
theorem j2Z {n:Int} {x old:Value} {Q:Option Value->Shared->Prop} (he:s.heap.get? e=some (q1A it n old)) (a:IsIt tu s.heap it l i) (b:j1c tu s.heap l its) (c:its[i]?=some x) (ne:e≠it)
 (q:∀h',h'.get? e=some (q9B it (n+1) x s.heap.objs.size)->IsIt tu h' it l (i+1)->h'.get? s.heap.objs.size=some { cls:=.type "tuple",data:=.seq #[.int n s.toks,x] } ->
  (∀b o,b≠e->b≠it->s.heap.get? b=some o->h'.get? b=some o)->Q (some (.ref s.heap.objs.size)) { s with heap:=h',toks:=s.toks+1 }):wpAny (model P w) A (pyNext (.ref e)) Q E s:=by
 have ty:s.TypeIs (.ref e) "enumerate":=⟨_,he,rfl⟩
 unfold pyNext
 refine wpAny_bind (wpAny_attempt (wpAny_callSpecial?_slot (name:=Str.ofString "__next__") ty PySem.F.slot_enumerate_next (wpAny_call_entry PySem.F.slot_enumerate_next ty PySem.F.entry_enumerate_next ?_ (PySem.F.args_enumerate_next_1 _))))
 obtain ⟨hp,g,d,tk,os⟩:=s
 refine wpAny_bind (m:=field (.ref e) 2) (wpAny_field he rfl (x:=.ref it) rfl (wpAny_bind (j3e a b c λh1 a1 sb1=>?_)))
 have sb1:Heap.SameBut it hp h1:=sb1
 have e1:h1.get? e=some (q1A it n old):=(sb1.2 e ne).trans he
 refine wpAny_bind (m:=field (.ref e) 3) (wpAny_field (s:=⟨h1,g,d,tk,os⟩) e1 rfl (x:=rawInt n) rfl (wpAny_bind (m:=field (.ref e) 4) (wpAny_field (s:=⟨h1,g,d,tk,os⟩) e1 rfl (x:=.none) rfl ?_)))
 refine wpAny_bind (m:=mkInt n) (wpAny_mkInt (wpAny_bind (m:=setField (.ref e) 3 (rawInt (n+1))) (wpAny_setField_rec e1 (by simp) λh2 e2 sb2=>?_)))
 have sb2:Heap.SameBut e h1 h2:=sb2
 have e2:h2.get? e=some (q1A it (n+1) old):=e2
 refine wpAny_bind (m:=setField (.ref e) 4 .none) (wpAny_setField_rec (s:=⟨h2,g,d,tk+1,os⟩) e2 (by simp) λh3 e3 sb3=>?_)
 have sb3:Heap.SameBut e h2 h3:=sb3
 have e3:h3.get? e=some (q1A it (n+1) old):=e3
 refine wpAny_bind (m:=newTuple [.int n tk,x]) (wpAny_newTuple ?_)
 have sz:h3.objs.size=hp.objs.size:=by rw [sb3.1,sb2.1,sb1.1]
 have lt:e < hp.objs.size:=Heap.lt_size he
 obtain ⟨h4,hh4⟩:∃h4,h4=h3.push { cls:=.type "tuple",data:=.seq #[.int n tk,x] }:=⟨_,rfl⟩
 have e4:h4.get? e=some (q1A it (n+1) old):=by rw [hh4];exact Heap.get?_push_of_some _ e3
 have t4:h4.get? hp.objs.size=some { cls:=.type "tuple",data:=.seq #[.int n tk,x] }:=by rw [hh4,<-sz];exact Heap.get?_push_size _ rfl
 have a4:IsIt tu h4 it l (i+1):=a1.kept λo ho=>by
  rw [hh4];exact Heap.get?_push_of_some _ ((sb3.2 it (Ne.symm ne)).trans ((sb2.2 it (Ne.symm ne)).trans ho))
 have k4:∀b o,b≠e->b≠it->hp.get? b=some o->h4.get? b=some o:=λb o b1 b2 hb=>by
  rw [hh4];exact Heap.get?_push_of_some _ ((sb3.2 b b1).trans ((sb2.2 b b1).trans ((sb1.2 b b2).trans hb)))
 show wpAny _ _ (Builtin.SmallTypes.ownedTupleIsFree (.ref e) >>= _) _ _ ⟨h3.push { cls:=.type "tuple",data:=.seq #[.int n tk,x] },g,d,tk+1,os⟩
 rw [<-hh4,sz]
 clear hh4 sb1 sb2 sb3 e1 e2 e3 a1 sz
 refine wpAny_bind ?_
 unfold Builtin.SmallTypes.ownedTupleIsFree
 refine wpAny_bind (wpAny_field (s:=⟨h4,g,d,tk+1,os⟩) e4 rfl (x:=.none) rfl (wpAny_pure ?_))
 simp only [if_true]
 refine wpAny_bind (wpAny_rule (wpAny_bind (wpAny_field (s:=⟨h4,g,d,tk+1,os⟩) e4 rfl (x:=old) rfl (wpAny_bind (wpAny_setField_rec (s:=⟨h4,g,d,tk+1,os⟩) e4 (by simp) λh5 e5 sb5=>?_)))))
 have sb5:Heap.SameBut e h4 h5:=sb5
 have e5:h5.get? e=some (q1A it (n+1) x):=e5
 refine wpAny_bind (m:=Builtin.SmallTypes.ownedTupleHandOut (.ref e) (.ref hp.objs.size)) ?_
 unfold Builtin.SmallTypes.ownedTupleHandOut
 refine wpAny_bind (wpAny_setField_rec (s:=⟨h5,g,d,tk+1,os⟩) e5 (by simp) λh6 e6 sb6=>?_)
 have sb6:Heap.SameBut e h5 h6:=sb6
 have e6:h6.get? e=some (q9B it (n+1) x hp.objs.size):=e6
 refine wpAny_setField_rec (s:=⟨h6,g,d,tk+1,os⟩) e6 (by simp) λh7 e7 sb7=>?_
 have sb7:Heap.SameBut e h6 h7:=sb7
 have e7:h7.get? e=some (q9B it (n+1) x hp.objs.size):=e7
 have kk:∀b o,b≠e->h4.get? b=some o->h7.get? b=some o:=λb o b1 hb=>(sb7.2 b b1).trans ((sb6.2 b b1).trans ((sb5.2 b b1).trans hb))
 exact wpAny_bind (wpAny_letGo (wpAny_pure ⟨_,rfl,wpAny_pure (q h7 e7 (a4.kept λo ho=>kk it o (Ne.symm ne) ho) (kk _ _ (Nat.ne_of_gt lt) t4) λb o b1 b2 hb=>kk b o b1 (k4 b o b1 b2 hb))⟩))
theorem j4k {n:Int} {old:Value} {Q:Option Value->Shared->Prop} (hh:A.handled=none) (he:s.heap.get? e=some (q1A it n old)) (a:IsIt tu s.heap it l i) (b:j1c tu s.heap l its) (c:its[i]?=none)
 (q:∀h',Heap.ExtBut it s.heap h'->Q none { s with heap:=h' }):wpAny (model P w) A (pyNext (.ref e)) Q E s:=by
 have ty:s.TypeIs (.ref e) "enumerate":=⟨_,he,rfl⟩
 unfold pyNext
 refine wpAny_bind (wpAny_attempt (wpAny_callSpecial?_slot (name:=Str.ofString "__next__") ty PySem.F.slot_enumerate_next (wpAny_call_entry PySem.F.slot_enumerate_next ty PySem.F.entry_enumerate_next ?_ (PySem.F.args_enumerate_next_1 _))))
 refine wpAny_bind (m:=field (.ref e) 2) (wpAny_field he rfl (x:=.ref it) rfl (wpAny_bind (j41 hh a b c λh' x ex ⟨o,ho,hc⟩=>?_)))
 exact wpAny_bind (wpAny_isInstance (T:="StopIteration") (b:=true) ⟨o,ho,hc⟩ isSubtype_stop (wpAny_pure (q _ ex)))
theorem j7s {elts:List Expr} {x1:Nat} {pos:Pos} {a:Addr} {n:Int} {x:Value} {Q:Unit->Shared->Prop} (he:s.heap.get? e=some (q9B it n x a)) (q:∀h',h'.get? e=some (q1A it n x)->Heap.SameBut e s.heap h'->Q () { s with heap:=h' }) :
 wpAny (model P w) A (letOwnedTupleGo (.Tuple elts x1 pos) (.ref e) (.ref a)) Q E s:=wpAny_letOwnedTupleGo_enum he q
theorem q8m {n:Int} {old:Value} {Q:Value->Shared->Prop} (he:s.heap.get? e=some (q1A it n old)) (h:Q (.ref e) s):wpAny (model P w) A (pyIter (.ref e)) Q E s:=wpAny_pyIter_enum he h
end
noncomputable def SqE (K:PySem.W.Frag) (tu:Bool) (H:Hp) (a:Addr) (xs:List V):Prop:=if tu=true then SqT K H a xs else SqL K H a xs
theorem q3C {X:Cx} {pins:List (Addr×Obj)} {σ:L2.St} {H:Hp} {s:Shared} {tu:Bool} {a:Addr} {xs:List V} (I:Inv X pins σ H s) (h:SqE X.K tu H a xs):∃its:List Value,Vals xs its/\j1c tu s.heap a its.toArray/\xs.length<=sizeLine:=by
 cases tu with
 | true=>
  obtain ⟨its,r,p,z⟩:=I.tuple (show SqT X.K H a xs from h)
  exact ⟨its,r,p,z⟩
 | false=>
  obtain ⟨its,r,p,z⟩:=I.list (show SqL X.K H a xs from h)
  exact ⟨its,r,p.isList,z⟩
theorem j2K {X:Cx} {pins:List (Addr×Obj)} {σ:L2.St} {H:Hp} {s:Shared} {tu:Bool} {a:Addr} {xs ys:List V} (I:Inv X pins σ H s) (h:SqE X.K tu H a xs) (h':SqE X.K tu H a ys):xs=ys:=by
 cases tu with
 | true=>exact I.tuple_inj (show SqT X.K H a xs from h) h'
 | false=>exact I.list_inj (show SqL X.K H a xs from h) h'
noncomputable def Ite (K:PySem.W.Frag) (tu:Bool) (a:Addr):It:=⟨λi H=>∃xs x,SqE K tu H a xs/\xs[i]?=some x,
 λi H v H'=>∃x p,(∀xs,SqE K tu H a xs->xs[i]?=some x)/\v=.ref p/\H p=none/\H'=upd H p (.tup [.int ((i:Int)+1),x]),
 λi H=>∃xs,SqE K tu H a xs/\xs[i]?=none⟩
theorem q8Y {P:Program} {w:World} {K:PySem.W.Frag} {elts:List Expr} {x1:Nat} {tp:Pos} (tu:Bool) (a e it:Addr) (ne:e≠it) :
 Turn P w K (.Tuple elts x1 tp) (Ite K tu a) [e,it] e (λi h=>(∃old,h.get? e=some (q1A it ((i:Int)+1) old))/\IsIt tu h it a i) where
 mem:=by simp
 obj:=λi h st c hc=>by
  obtain ⟨⟨old,s1⟩,s2⟩:=st
  simp only [List.mem_cons,List.not_mem_nil,or_false] at hc
  rcases hc with rfl | rfl
  ·exact ⟨_,s1,λv z=>by have z':Data.fields _=Data.cell v:=z;cases z'⟩
  ·obtain ⟨o,eo,vs,d⟩:=s2.obj
   exact ⟨o,eo,λv z=>by rw [d] at z;cases z⟩
 keep:=λi h h' st k=>by
  obtain ⟨⟨old,s1⟩,s2⟩:=st
  exact ⟨⟨old,k e (by simp) _ s1⟩,s2.kept λo eo=>k it (by simp) o eo⟩
 item:=by
  intro X hP hw hK hc i pins s σ H E I hf st hg
  subst hP hw hK
  obtain ⟨xs,x,hq,hx⟩:=hg
  obtain ⟨⟨old,t1⟩,t2⟩:=st
  obtain ⟨its,rv,pl,hz⟩:=q3C I hq
  obtain ⟨u,hu,ru⟩:=rv.get hx
  refine j2Z t1 t2 pl (x:=u) (by simpa using hu) ne λh' a1 a2 a3 a4=>⟨_,rfl,?_⟩
  refine j7s (s:={ s with heap:=h',toks:=s.toks+1 }) a1 λh'' b1 sb=>?_
  have sb:Heap.SameBut e h' h'':=sb
  have hfresh:H s.heap.objs.size=none:=I.hok.fresh (Nat.le_refl _)
  have sze:s.heap.objs.size≠e:=λz=>absurd (Heap.lt_size t1) (by rw [<-z];exact Nat.lt_irrefl _)
  have kk:∀c o,c∉[e,it]->s.heap.get? c=some o->h''.get? c=some o:=λc o hcm q=>by
   simp only [List.mem_cons,List.not_mem_nil,or_false,not_or] at hcm
   exact (sb.2 c hcm.1).trans (a4 c o hcm.1 hcm.2 q)
  have nfp:∀c v,H c=some v->c∉[e,it]:=λc v q hm=>by rw [(hf c hm).1] at q;cases q
  have nsz:∀c v,H c=some v->c≠s.heap.objs.size:=λc v q z=>by rw [z,hfresh] at q;cases q
  have tup:h''.get? s.heap.objs.size=some { cls:=.type "tuple",data:=.seq #[.int ((i:Int)+1) s.toks,u] }:=(sb.2 _ sze).trans a3
  have I1:Inv X pins σ (upd H s.heap.objs.size (.tup [.int ((i:Int)+1),x])) { s with heap:=h'',toks:=s.toks+1 }:=by
   refine I.step (g':=s.gens) (d':=s.drawn) (t':=s.toks+1) (ch:=[e,it]) (λc hcm=>?_) (λc o _ _ hcm q _=>kk c o hcm q) (λc o _ _ hcm q _=>⟨o.slots,kk c o hcm q⟩) (λc o _ q n=>?_)
    (λc o hcm q=>⟨o,kk c o hcm q⟩) (λc xs q=>?_) (λc o v q=>?_) (λc ps q=>⟨#[],?_⟩) (λm hm=>?_) (λc v q=>?_) I.bare
   ·obtain ⟨f0,f1,f2,f3,f4,f5⟩:=hf c hcm
    exact ⟨f3,f1,f4,f5⟩
   ·rw [q0d (Nat.ne_of_lt (Heap.lt_size q))];exact n
   ·rw [q0d (nsz c _ q)];exact q
   ·rw [q0d (nsz c _ q)];exact q
   ·rw [q0d (nsz c _ q),q];simp
   ·obtain ⟨o,es,ep,ho,r⟩:=hm
    exact ⟨o,es,ep,kk _ o (λhm=>(hf _ hm).2.1 rfl) ho,r⟩
   ·by_cases hcz:c=s.heap.objs.size
    ·subst hcz
     rw [q0j] at q;cases q
     exact ⟨by show 2<=sizeLine;decide,[.int ((i:Int)+1) s.toks,u],.cons ⟨_,rfl⟩ (.cons ru .nil),⟨_,tup,rfl,_,rfl⟩⟩
    ·rw [q0d hcz] at q
     refine (I.hok c v q).stay (λc' w' hc' z=>kk c' w' ?_ z) (λc' z=>?_) λc' xs z=>?_
     ·rcases hc' with hc' | hc'
      ·rw [hc'];exact nfp _ _ q
      ·exact nfp _ _ hc'
     ·rw [q0d (nsz c' _ z)];exact z
     ·rw [q0d (nsz c' _ z)];exact z
  refine ⟨.ref s.heap.objs.size,_,I1,rfl,⟨x,_,λws hw=>by rw [j2K I hw hq];exact hx,rfl,hfresh,rfl⟩,⟨⟨u,?_⟩,?_⟩,λc hcm=>?_⟩
  ·rw [show (((i+1:Nat):Int)+1)=(i:Int)+1+1 by omega]
   exact b1
  ·exact a2.kept λo eo=>(sb.2 _ (Ne.symm ne)).trans eo
  ·rw [q0d]
   ·exact (hf c hcm).1
   ·rintro rfl
    simp only [List.mem_cons,List.not_mem_nil,or_false] at hcm
    rcases hcm with z | z
    ·exact sze z
    ·obtain ⟨o,eo,_⟩:=t2.obj
     exact absurd (Heap.lt_size eo) (by rw [<-z];exact Nat.lt_irrefl _)
 done:=by
  intro X hP hw hK hc i pins s σ H E I hf st hg
  subst hP hw hK
  obtain ⟨xs,hq,hend⟩:=hg
  obtain ⟨⟨old,t1⟩,t2⟩:=st
  obtain ⟨its,rv,pl,hz⟩:=q3C I hq
  have l1:=rv.length
  refine j4k (I.ok.hd hc) t1 t2 pl ?_ λh' ex=>⟨rfl,?_⟩
  ·rw [List.getElem?_eq_none_iff] at hend
   simp;omega
  ·have kk:∀c o,c∉[e,it]->s.heap.get? c=some o->h'.get? c=some o:=λc o hcm q=>by
    simp only [List.mem_cons,List.not_mem_nil,or_false,not_or] at hcm
    exact ex c o hcm.2 q
   have nfp:∀c v,H c=some v->c∉[e,it]:=λc v q hm=>by rw [(hf c hm).1] at q;cases q
   refine I.step (g':=s.gens) (d':=s.drawn) (t':=s.toks) (ch:=[e,it]) (λc hcm=>?_) (λc o _ _ hcm q _=>kk c o hcm q) (λc o _ _ hcm q _=>⟨o.slots,kk c o hcm q⟩) (λc o _ q n=>n)
    (λc o hcm q=>⟨o,kk c o hcm q⟩) (λc xs q=>q) (λc o v q=>q) (λc ps q=>⟨#[],by rw [q];simp⟩) (λm hm=>?_) (λc v q=>?_) I.bare
   ·obtain ⟨f0,f1,f2,f3,f4,f5⟩:=hf c hcm
    exact ⟨f3,f1,f4,f5⟩
   ·obtain ⟨o,es,ep,ho,r⟩:=hm
    exact ⟨o,es,ep,kk _ o (λhm=>(hf _ hm).2.1 rfl) ho,r⟩
   ·refine (I.hok c v q).stay (λc' w' hc' z=>kk c' w' ?_ z) (λc' z=>z) λc' xs z=>z
    rcases hc' with hc' | hc'
    ·rw [hc'];exact nfp _ _ q
    ·exact nfp _ _ hc'
 self:=λ_ _ _ _ _ st h=>by
  obtain ⟨⟨old,t1⟩,_⟩:=st
  exact q8m t1 h
section
variable {P:Program} {w:World} {A:Around} {E:Value->Shared->Prop} {s:Shared}
theorem q6M (v:Value) (t:Tok):checkTypeCall "enumerate" ⟨[v],[(("start" : Str),.int 1 t)]⟩=pure ():=by kernel_rfl
theorem q6r (v:Value) (t:Tok):checkBuiltinCall "enumerate.__new__" ⟨[.type "enumerate",v],[(("start" : Str),.int 1 t)]⟩=pure ():=by kernel_rfl
theorem j3j {self v:Value} {kw:List (Str×Value)} (hl:typeLookup (.type "enumerate") "__init__" = pure (some (.builtin "object.__init__"))) (hm:Bind.madeBy (.type "enumerate")=pure (some "enumerate.__new__")) :
 Meets (Builtin.«object.__init__» ⟨[self,v],kw⟩) (λ_ R s=>s.TypeIs self "enumerate"/\R (.ok (.ret .none)) s):=
 .of_wp λprog w A R s hs=>by
  obtain ⟨hT,hq⟩:=hs
  have hne:(some "enumerate.__new__" != some "object.__new__")=true:=by decide
  repeat (any_goals (first | assumption | wp_step))
  exact ⟨_,rfl,hq⟩
end
section
variable {P:Program} {w:World} {A:Around} {E:Value->Shared->Prop} {s:Shared}
theorem q7T (obj v:Value) (t:Tok):argsOk "object.__init__" ⟨[obj,v],[(("start" : Str),.int 1 t)]⟩:=by kernel_rfl
set_option maxHeartbeats 2000000 in
theorem q6O {tu:Bool} {l:Addr} {its:Array Value} {t:Tok} {Q:Value->Shared->Prop} (hl:j1c tu s.heap l its)
 (q:∀h',h'.get? (s.heap.objs.size+1)=some (q1A s.heap.objs.size 1 .none)->IsIt tu h' s.heap.objs.size l 0->(∀b o,s.heap.get? b=some o->h'.get? b=some o)->Q (.ref (s.heap.objs.size+1)) { s with heap:=h' }) :
 wpAny (model P w) A (call (.type "enumerate") [.ref l] [(("start" : Str),.int 1 t)]) Q E s:=by
 obtain ⟨c,tl,mro⟩:=PySem.F.called_enumerate.mro
 have made:=PySem.F.called_enumerate.made
 have subs:=PySem.F.called_enumerate.sub
 refine wpAny_call (codeAny_of_tree ?_)
 show wpAny _ _ (callAny (.type "enumerate") _) _ _ _
 refine wpAny_pure ⟨Code.quiet_builtin _ (by decide +kernel),codeAny_builtin PySem.F.entry_type_call ?_⟩
 rw [Around.under_plain (weight_type_call_type "enumerate" [.ref l] _) (units_type_call_type "enumerate" [.ref l] _)]
 have notT:=PySem.F.called_enumerate.notType
 have canC:=PySem.F.called_enumerate.canCreate
 have tcall:=q6M (.ref l) t
 repeat (any_goals (first | assumption | wp_step))
 refine codeAny_mono (codeAny_call_builtin PySem.F.called_enumerate.plain PySem.F.entry_enumerate_new (wpAny_of_eq (q6r (.ref l) t) (j0g tu l its t P w A.in1 (wants (λobj s₁=>obj=.ref (s.heap.objs.size+1)/\s₁={ s with heap:=(s.heap.push (q3j tu l)).push (q1A s.heap.objs.size 1 .none) }) E) s ⟨hl,rfl,rfl⟩))) λr s₁ hr=>?_
 rcases r with e | fl
 ·exact hr
 rcases fl with _ | _ | _ | obj
 any_goals exact hr.elim
 obtain ⟨rfl,rfl⟩:=hr
 have sz:(s.heap.push (q3j tu l)).objs.size=s.heap.objs.size+1:=Heap.size_push ..
 have g1:((s.heap.push (q3j tu l)).push (q1A s.heap.objs.size 1 .none)).get? (s.heap.objs.size+1)=some (q1A s.heap.objs.size 1 .none):=by
  rw [<-sz];exact Heap.get?_push_size _ rfl
 have ty:Shared.TypeIs { s with heap:=(s.heap.push (q3j tu l)).push (q1A s.heap.objs.size 1 .none) } (.ref (s.heap.objs.size+1)) "enumerate":=⟨_,g1,rfl⟩
 have look:=PySem.F.called_enumerate.init.lookup
 have bnd:=PySem.F.called_enumerate.init.bind (.ref (s.heap.objs.size+1))
 repeat (any_goals (first | assumption | wp_step))
 refine codeAny_mono (codeAny_call_builtin PySem.F.called_enumerate.init.plain PySem.F.entry_object_init (PySem.F.called_enumerate.init.check _ _ _ _ _ _ _ _ ty (q7T _ _ t) (j3j look made P w A.in1 (wants (λr s₂=>r=.none/\s₂={ s with heap:=(s.heap.push (q3j tu l)).push (q1A s.heap.objs.size 1 .none) }) E) _ ⟨ty,rfl,rfl⟩))) λr₂ s₂ hr₂=>?_
 rcases r₂ with e | fl₂
 ·exact hr₂
 rcases fl₂ with _ | _ | _ | r
 any_goals exact hr₂.elim
 obtain ⟨rfl,rfl⟩:=hr₂
 repeat (any_goals (first | assumption | wp_step))
 refine q _ g1 ?_ λb o e=>Heap.get?_push_of_some _ (Heap.get?_push_of_some _ e)
 have gi:((s.heap.push (q3j tu l)).push (q1A s.heap.objs.size 1 .none)).get? s.heap.objs.size=some (q3j tu l):=Heap.get?_push_of_some _ (Heap.get?_push_size _ rfl)
 cases tu with
 | true=>exact (⟨_,gi,rfl,rfl⟩:Heap.IsTupleIter _ _ _ _)
 | false=>exact (⟨_,gi,rfl,rfl⟩:Heap.IsListIter _ _ _ _)
end
section
variable {M:Model} {A:Around} {E:Value->Shared->Prop} {s:Shared} {env:Env}
theorem q48 {pos:Pos} {T:String} {e:Expr} {rest:List Expr} {kws:List Keyword} {Q:Value->Shared->Prop}
 (h:wpAny M A (spliced (backTo pos (starEach (e::rest) env))) (λvs s₁=>wpAny M A (evalAll ((backToKw pos (keywordEach kws env)).map (·.2))) (λkvs s₂=>wpAny M A (call (.type T) vs (((backToKw pos (keywordEach kws env)).filterMap (·.1)).zip kvs)) Q E s₂) E s₁) E s)
 (he:backTo pos (starEach (e::rest) env)=(false,eval e env)::backTo pos (starEach rest env)) (hp:(backTo pos (starEach (e::rest) env)).any (·.1)=false)
 (ha:(backToKw pos (keywordEach kws env)).all (·.1.isSome)=true) (hk:(backToKw pos (keywordEach kws env)).any (·.1.isNone)=false) :
 wpAny M A (callWith pos (.type T) [] (backTo pos (starEach (e::rest) env)) (backToKw pos (keywordEach kws env))) Q E s:=by
 have h':wpAny M A (evalArgs (.type T) true (backTo pos (starEach (e::rest) env)) (backToKw pos (keywordEach kws env))) (λa s₁=>wpAny M A (call (.type T) ([]++a.pos) a.kw) Q E s₁) E s:=by
  rw [he] at h ⊢
  exact evalArgs_kwB ha h
 unfold callWith
 refine wpAny_bind (wpAny_holding (wpAny_mono h' (λa s₁ h₁=>wpAny_bind (wpAny_standAt ?_)) λ_ _ z=>z))
 rw [hp,hk]
 exact wpAny_bind (wpAny_pure (wpAny_bind (wpAny_mono h₁ (λr s₂ hr=>wpAny_bind (wpAny_holding (wpAny_point (wpAny_pure hr)))) λ_ _ z=>z)))
end
noncomputable def q6Q:Int->List D->List D
 | _,[]=>[]
 | n,d::ds=>.tup [.int n,d]::q6Q (n+1) ds
theorem q6o:∀(n:Int) (ds:List D),(q6Q n ds).length=ds.length
 | _,[]=>rfl
 | n,d::ds=>by simp [q6Q,q6o (n+1) ds]
theorem q8q:∀(n:Int) (ds:List D) (i:Nat),(q6Q n ds)[i]?=ds[i]?.map λd=>D.tup [.int (n+(i:Int)),d]
 | _,[],i=>by simp [q6Q]
 | n,d::ds,0=>by simp [q6Q]
 | n,d::ds,i+1=>by
  simp only [q6Q,List.getElem?_cons_succ,q8q (n+1) ds i]
  rw [show n+1+(i:Int)=n+((i+1:Nat):Int) by omega]
section
variable {T:Tb} {X:Cx} {a:Expr} {pos p tp cp kp:Pos} {fl:Ro->Out (List D)} {fe:Ev} {elts:List Expr} {x1:Nat} {ck:Nat}
noncomputable def StE (K:PySem.W.Frag) (tu:Bool) (G H:Hp) (l:Addr) (vs:List V):Prop:=if tu=true then SqT K H l vs else Stb K G H l vs
theorem StE.pers {K:PySem.W.Frag} {tu:Bool} {G H H':Hp} {l:Addr} {vs:List V} (p:Pers T false H H') (h:StE K tu G H l vs):StE K tu G H' l vs:=by
 cases tu with
 | true=>exact q5R p (show SqT K H l vs from h)
 | false=>exact (show Stb K G H l vs from h).pers p
theorem StE.sq {K:PySem.W.Frag} {tu:Bool} {G H:Hp} {l:Addr} {vs:List V} (h:StE K tu G H l vs) (sm:Same G H):SqE K tu H l vs:=by
 cases tu with
 | true=>exact (show SqT K H l vs from h)
 | false=>exact (show Stb K G H l vs from h).sq sm
theorem q8f {tu:Bool} {G H1:Hp} {l:Addr} {vs:List V} {ds:List D} (st:StE X.K tu G H1 l vs) (r:RepL T X.K H1 ds vs):Walk T X.K G (Ite X.K tu l) (q6Q 1 ds) H1:=λi H p sm=>by
 have sq:=(st.pers p).sq sm
 have r':=RepL.pers p _ _ r
 have hl:=RepL.length _ _ r'
 refine ⟨λd e=>?_,λh=>⟨vs,sq,?_⟩⟩
 ·rw [q8q] at e
  cases ed:ds[i]? with
  | none=>rw [ed] at e;cases e
  | some d1=>
   rw [ed] at e
   have e':D.tup [.int (1+(i:Int)),d1]=d:=Option.some.inj e
   subst e'
   obtain ⟨v,e1,rd⟩:=RepL.get _ _ _ _ r' ed
   refine ⟨⟨vs,v,sq,e1⟩,λx H2 ⟨x',q,h1,hx,hq,hH⟩=>?_⟩
   have z1:=h1 vs sq
   rw [e1] at z1;cases z1
   subst hx hH
   refine ⟨q0B hq,q,[.int ((i:Int)+1),v],rfl,SqT.of q0j,.int ((i:Int)+1),[v],rfl,?_,v,[],rfl,Rep.mono (q0B hq) _ _ rd,rfl⟩
   show V.int ((i:Int)+1)=.int (1+(i:Int))
   rw [Int.add_comm]
 ·rw [q6o] at h
  rw [List.getElem?_eq_none_iff]
  omega
theorem j3b {tu:Bool} {E:Value->Shared->Prop} {pins:List (Addr×Obj)} {σ:L2.St} {H1:Hp} {s1:Shared} {l:Addr} {vs:List V} {R:It->Hp->Prop} {t:Tok} (I1:Inv (X.wish E) pins σ H1 s1) (sq:SqE X.K tu H1 l vs) (q:R (Ite X.K tu l) H1) :
 wpAny (model X.prog X.w) X.A (call (.type "enumerate") [.ref l] [(("start" : Str),.int 1 t)]) (λv s2=>wpAny (model X.prog X.w) X.A (pyIter v) (PIE (X.wish E) pins σ (.Tuple elts x1 tp) R) E s2) E s1:=by
 obtain ⟨its,rv,pl,hz⟩:=q3C I1 sq
 refine q6O pl λh' z1 z2 kp=>?_
 have I2:Inv (X.wish E) pins σ H1 { s1 with heap:=h' }:=I1.kept (t':=s1.toks) kp
 have ne:s1.heap.objs.size+1≠s1.heap.objs.size:=Nat.succ_ne_self _
 refine q8m z1 ⟨_,_,_,_,H1,rfl,I2,q8Y tu l _ _ ne,⟨⟨.none,?_⟩,z2⟩,λc hcm=>?_,q⟩
 ·exact z1
 ·have ge:s1.heap.objs.size<=c:=by
   simp only [List.mem_cons,List.not_mem_nil,or_false] at hcm
   rcases hcm with rfl | rfl
   ·exact Nat.le_succ _
   ·exact Nat.le_refl _
  exact I1.fpOk ge (I1.hok.fresh ge)
@[simp] noncomputable def j7W (fl:Ro->Out (List D)) (ρ:Ro):Out (List D):=(fl ρ).bind λds=>.ok (q6Q 1 ds)
theorem j0b (hg:Gl X "enumerate") (hm:X.mg "enumerate" = none) (hl:DP T X a fl) (hs:starEach [a] X.env=(false,eval a X.env)::starEach [] X.env:=by exact q0q rfl) (hpl:(backTo pos (starEach ([a]:List Expr) X.env)).any (·.1)=false:=by exact q0r rfl) :
 DI T X (.Tuple elts x1 tp) (.Call (.Name "enumerate" p) [a] [⟨some "start",.Constant (.int 1) ck cp,kp⟩] pos) (j7W fl):=.mk λG E hp=>by
 rintro pins s σ H R I ⟨ρ,fr,h⟩
 refine wpAny_Call_Name_kw (q2S (X:=X.wish E) I hg hm rfl (q48 (thn ((q0t (X:=X.wish E) (hl.run G E hp) q06 hs) pos pins s σ H (λus H1=>∃l vs,us=[.ref l]/\SqE X.K false H1 l vs/\R (Ite X.K false l) H1) I ⟨ρ,fr,Acc.mono (Acc.bind h) λds _ hd l vs H1 s1 st r=>⟨l,vs,rfl,st.sq (fr.same.trans s1),hd _ H1 s1 (q8f (tu:=false) st r)⟩⟩) λus s1 ⟨xs,H1,I1,r1,l,vs,e1,sq,q⟩=>?_) (by rw [hs];rfl) hpl rfl rfl))
 subst e1
 obtain ⟨u,rfl,ru⟩:=Vals.one r1
 cases ru
 refine kws_cons (wpAny_Constant_int (kws_nil ?_))
 exact j3b (I1.tok _) sq q
end
section
variable {T:Tb} {ib:Bool} {X:Cx} {e b:Expr} {pos p p2:Pos} {fe fb:Ev} {x:Str}
end
end L3
namespace L3
open PySem L2
theorem q4r {is:List Int} (h:is≠[]):q0Y true is∈is/\∀x∈is,x<=q0Y true is:=by
 have l:0 < is.length:=List.length_pos_iff.mpr h
 have e:q0Y true is=is.getD (argBest (λi j=>decide (is.getD i 0 > is.getD j 0)) (is.length-1)) 0:=by
  unfold q0Y;simp
 obtain ⟨a1,a2⟩:=argBest_gt (λi=>is.getD i 0) (is.length-1)
 rw [e]
 generalize argBest (λi j=>decide (is.getD i 0 > is.getD j 0)) (is.length-1)=k at *
 have hk:k < is.length:=by omega
 refine ⟨?_,λx hx=>?_⟩
 ·rw [List.getD_eq_getElem?_getD,List.getElem?_eq_getElem hk];exact List.getElem_mem hk
 ·obtain ⟨j,hj,rfl⟩:=List.getElem_of_mem hx
  have:=a2 j (by omega)
  rw [List.getD_eq_getElem?_getD (l:=is) (i:=j),List.getElem?_eq_getElem hj] at this
  exact this
theorem q6d (is:List Int):q3g (is.map D.int)=some is:=by
 induction is with
 | nil=>rfl
 | cons i is ih=>rw [List.map_cons,q3g,ih]
theorem q9I {is:List Int} (h:is≠[]):q89 [.lst (is.map D.int)]=.ok (.int (q0Y true is)):=by
 rw [q89,q6d]
 show (if is≠[] then _ else _)=_
 rw [if_pos h]
theorem q9v {is:List Int} (hl:is.length<=1000) (h:∀i∈is,-1000000000<=i/\i<=1000000000):q4V is=true:=by
 unfold q4V
 simp only [Bool.and_eq_true,decide_eq_true_eq,List.all_eq_true]
 exact ⟨hl,λi hi=>h i hi⟩
theorem j2P {is:List Int} (hl:is.length<=1000) (h:∀i∈is,-1000000000<=i/\i<=1000000000):j3i [.lst (is.map D.int)]=.ok (.int (isum is)):=by
 rw [j3i,q6d]
 show (if _ then _ else _)=_
 rw [if_pos (q9v hl h)]
theorem q2B {α:Type} {f:D->Out D} {g:α->D} {k:α->D}:∀(l:List α),(∀a∈l,f (g a)=.ok (k a))->q36 f (l.map g)=some (l.map k)
 | [],_=>rfl
 | a::l,h=>by
  rw [List.map_cons,q36,h a (by simp),q2B l λb hb=>h b (by simp [hb])];rfl
theorem q2E {α:Type} {fl:Ro->Out (List D)} {caps:List Nat} {fe:Ev} {ρ:Ro} {g:α->D} {k:α->D} {l:List α} (h:fl ρ=.ok (l.map g)) (hl:l.length<=1000000) (he:∀a∈l,fe (q1p caps ρ (g a))=.ok (k a)) :
 q0U fl caps fe ρ=.ok (l.map k):=by
 rw [q0U,h,Out.ok_bind,if_pos (by simpa using hl),q2B l he]
theorem q8W {i:Nat} {f:Ev} {ρ:Ro} {v:D} (h:f ρ=.ok v):q1U i f ρ=.nx (ρ.set i (.sh v)):=by
 rw [q1U,h,Out.ok_fl]
theorem q0K {α:Type} (a:α) (l:List α):atI (a::l) 0=some a:=q1h (j:=0) rfl
theorem q0N {α:Type} (a b:α) (l:List α):atI (a::b::l) 1=some b:=q1h (j:=1) rfl
theorem q6k {α:Type} (a b c:α) (l:List α):atI (a::b::c::l) 2=some c:=q1h (j:=2) rfl
structure Tz (n:Nat) (z:Str):Prop where
 len:z.length<=n
 cps:∀c∈z.cps.toList,c < 128
theorem Tz.mono {n m:Nat} {z:Str} (h:Tz n z) (e:n<=m):Tz m z:=⟨Nat.le_trans h.len e,h.cps⟩
theorem Tz.repr {n:Nat} {z:Str} (h:Tz n z) (hn:n<=1000):(reprText z).length<=200000:=by
 have:=PySem.StrLaws.reprText_len z λc hc=>Nat.lt_of_lt_of_le (h.cps c hc) (by decide)
 have:=h.len
 omega
theorem j36 {α:Type} {xs:List α} {i:Int} (h0:0<=i) (h1:i < xs.length):∃v,atI xs i=some v/\v∈xs:=by
 obtain ⟨k,rfl⟩:=Int.eq_ofNat_of_zero_le h0
 have hk:k < xs.length:=by omega
 exact ⟨xs[k],q1h (by simp [hk]),List.getElem_mem hk⟩
theorem j7g:(Str.ofString "")=⟨#[]⟩:=by decide +kernel
theorem q4x:∀cs:List Nat,q1W (cs.map λc=>D.str ⟨#[c]⟩)=some (cs.map λc=>(⟨#[c]⟩:Str))
 | []=>rfl
 | c::cs=>by rw [List.map_cons,q1W,q4x cs];rfl
theorem q54 (sep:Str) (hs:sep.length=0):∀(cs:List Nat) (n:Nat),(cs.map λc=>(⟨#[c]⟩:Str)).foldl (λa t=>a+t.length+sep.length) n=n+cs.length
 | [],n=>rfl
 | c::cs,n=>by
  rw [List.map_cons,List.foldl_cons,q54 sep hs cs]
  have:(Str.mk #[c]).length=1:=rfl
  rw [this,hs]
  simp;omega
theorem j0o (cs:List Nat) (hl:cs.length<=100):q7b (.str (Str.ofString "")) [.lst (cs.map λc=>D.str ⟨#[c]⟩)]=.ok (.str ⟨cs.toArray⟩):=by
 have s0:(Str.ofString "").length=0:=by decide +kernel
 have ok:JoinOk (Str.ofString "") (cs.map λc=>(⟨#[c]⟩:Str))=true:=by
  unfold JoinOk
  rw [List.foldl_toArray',q54 _ s0]<;>try rfl
  unfold Builtin.Str.tooLong
  rw [sizeLine_eq]
  simp;omega
 have jn:Txt.join (Str.ofString "") (cs.map λc=>(⟨#[c]⟩:Str))=⟨cs.toArray⟩:=by
  show Builtin.Str.glued (Str.ofString "") _=_
  rw [PySem.StrLaws.glued_eq_join,j7g]
  exact PyProof.Rows.join_ones cs
 rw [q7b,q4x]
 show (if _ then _ else _)=_
 rw [if_pos ok,jn]
theorem j2H (ns:List Int) (lo hi:Option Int):q4k (ns.map D.int) lo hi=(q4k ns lo hi).map D.int:=by
 simp [q4k,List.map_take,List.map_drop]
theorem q3q {z:Str} {n:Nat} (h:Tz n z) (hn:n<=1000) {α:Type} {f:D->Out D} {g:α->D} {ix:α->Int}:∀(l:List α),(∀a∈l,0<=ix a/\ix a < z.length/\f (g a)=ixD (.str z) (.int (ix a)))->∃cs:List Nat,cs.length=l.length/\(∀c∈cs,c∈z.cps.toList)/\q36 f (l.map g)=some (cs.map λc=>D.str ⟨#[c]⟩)
 | [],_=>⟨[],rfl,by simp,rfl⟩
 | a::l,hl=>by
  obtain ⟨cs,h1,h2,h3⟩:=q3q h hn (f:=f) (g:=g) (ix:=ix) l λb hb=>hl b (by simp [hb])
  obtain ⟨p0,p1,p2⟩:=hl a (by simp)
  obtain ⟨c,e,m⟩:=j36 (xs:=z.cps.toList) p0 (by rw [q4Q];exact p1)
  have hz:z.length<=1000000:=by have:=h.len;omega
  refine ⟨c::cs,by simp [h1],λd hd=>?_,?_⟩
  ·rcases List.mem_cons.mp hd with rfl | hd
   ·exact m
   ·exact h2 d hd
  ·rw [List.map_cons,q36,p2,h3]
   simp only [ixD,if_pos hz,e,List.map_cons]
theorem j2n (a b:Str):eqV (.str a) (.str b)=decide (a=b):=by
 show (a==b)=_
 rw [Bool.eq_iff_iff,beq_iff_eq,decide_eq_true_eq]
theorem q26:∀zs:List Str,q0R (zs.map D.str)=some (zs.map V.str)
 | []=>rfl
 | z::zs=>by rw [List.map_cons,q0R,q26 zs];rfl
theorem q5Q (z:Str):∀zs:List Str,inV (.str z) (zs.map V.str)=decide (z∈zs)
 | []=>by simp [inV]
 | y::zs=>by
  have ih:=q5Q z zs
  unfold inV at ih ⊢
  rw [List.map_cons,List.any_cons,ih,j2n,Bool.eq_iff_iff,Bool.or_eq_true,decide_eq_true_eq,decide_eq_true_eq,decide_eq_true_eq,List.mem_cons]
  exact ⟨λh=>h.elim (λe=>.inl e.symm) .inr,λh=>h.elim (λe=>.inl e.symm) .inr⟩
theorem j0d (neg:Bool) (z:Str) (zs:List Str):inD neg (.str z) (.lst (zs.map D.str))=.ok (.bl (if neg then !decide (z∈zs) else decide (z∈zs))):=by
 show (match q20 (.str z),q0R (zs.map D.str) with | some x,some xs=>Out.ok (D.bl (if neg then !inV x xs else inV x xs)) | _,_=>.bad)=_
 rw [q26,<-q5Q]
 rfl
theorem q9n {n:Nat} {f:Ro->Fl} {ss:List Sl} {r:Rv} (ρ:Ro) (e:ss++List.replicate (n-ss.length) .no=ρ) (h:f ρ=.rt r):fnF n f ss=.ok r:=by
 rw [fnF,e,h]
theorem q71 {body:Ro->D->Fl} (S:Nat->Ro->Prop):∀(n i:Nat),(∀j ρ,i<=j->j < i+n->S j ρ->∃ρ',body ρ (.int j)=.nx ρ'/\S (j+1) ρ')->∀ρ,S i ρ->∃ρ',q1Q body (rgD (i:Int) n) ρ=.nx ρ'/\S (i+n) ρ'
 | 0,i,_,ρ,h=>⟨ρ,by rw [q9z,q04],h⟩
 | n+1,i,hb,ρ,h=>by
  obtain ⟨ρ1,e1,h1⟩:=hb i ρ (Nat.le_refl _) (by omega) h
  obtain ⟨ρ2,e2,h2⟩:=q71 S n (i+1) (λj ρ a b=>hb j ρ (by omega) (by omega)) ρ1 h1
  refine ⟨ρ2,?_,by rw [show i+(n+1)=i+1+n by omega];exact h2⟩
  rw [q90,q1g e1]
  exact e2
theorem j8X {body:Ro->D->Fl} (S:Nat->Ro->Prop) (n:Nat) (hb:∀j ρ,j < n->S j ρ->∃ρ',body ρ (.int j)=.nx ρ'/\S (j+1) ρ') {ρ:Ro} (h:S 0 ρ):∃ρ',q1Q body (rgD 0 n) ρ=.nx ρ'/\S n ρ':=by
 obtain ⟨ρ',e,h'⟩:=q71 S n 0 (λj ρ _ b=>hb j ρ (by omega)) ρ h
 exact ⟨ρ',e,by rwa [Nat.zero_add] at h'⟩
theorem q8R {α:Type} {body:Ro->D->Fl} (g:α->D) (S:Nat->Ro->Prop):∀(l:List α) (i:Nat),(∀j a ρ,l[j]?=some a->S (i+j) ρ->∃ρ',body ρ (g a)=.nx ρ'/\S (i+j+1) ρ')->∀ρ,S i ρ->∃ρ',q1Q body (l.map g) ρ=.nx ρ'/\S (i+l.length) ρ'
 | [],i,_,ρ,h=>⟨ρ,by rw [List.map_nil,q04],h⟩
 | a::l,i,hb,ρ,h=>by
  obtain ⟨ρ1,e1,h1⟩:=hb 0 a ρ rfl h
  obtain ⟨ρ2,e2,h2⟩:=q8R g S l (i+1) (λj a ρ e q=>by
   have:=hb (j+1) a ρ (by simpa using e) (by rwa [show i+(j+1)=i+1+j by omega])
   rwa [show i+(j+1)=i+1+j by omega] at this) ρ1 h1
  refine ⟨ρ2,by rw [List.map_cons,q1g e1,e2],?_⟩
  rwa [List.length_cons,show i+(l.length+1)=i+1+l.length by omega]
theorem j8K {α:Type} {body:Ro->D->Fl} (g:α->D) (S:Nat->Ro->Prop) (l:List α) (hb:∀j a ρ,l[j]?=some a->S j ρ->∃ρ',body ρ (g a)=.nx ρ'/\S (j+1) ρ') {ρ:Ro} (h:S 0 ρ):∃ρ',q1Q body (l.map g) ρ=.nx ρ'/\S l.length ρ':=by
 obtain ⟨ρ',e,h'⟩:=q8R g S l 0 (λj a ρ e q=>by rw [Nat.zero_add] at q ⊢; exact hb j a ρ e q) ρ h
 exact ⟨ρ',e,by rwa [Nat.zero_add] at h'⟩
theorem pick2 (a b i:Int):∃v,atI [D.int a,D.int b] (i % 2)=some (.int v)/\(v=a∨v=b):=by
 have:i % 2=0∨i % 2=1:=by omega
 rcases this with h | h<;>rw [h]
 ·exact ⟨a,q0K _ _,.inl rfl⟩
 ·exact ⟨b,q0N _ _ _,.inr rfl⟩
theorem pick3 (a b c i:Int):∃v,atI [D.int a,D.int b,D.int c] (i % 3)=some (.int v)/\(v=a∨v=b∨v=c):=by
 have:i % 3=0∨i % 3=1∨i % 3=2:=by omega
 rcases this with h | h | h<;>rw [h]
 ·exact ⟨a,q0K _ _,.inl rfl⟩
 ·exact ⟨b,q0N _ _ _,.inr (.inl rfl)⟩
 ·exact ⟨c,q6k _ _ _ _,.inr (.inr rfl)⟩
end L3
namespace L3
open PySem PySem.Spec PyProof.Rows L2
section
variable {P:Program} {w:World} {A:Around} {E:Value->Shared->Prop} {s:Shared} {tu tv:Bool} {z TI TO i1 i2 l1 l2:Addr} {k:Nat} {xs ys:Array Value}
end
section
variable {P:Program} {w:World} {A:Around} {E:Value->Shared->Prop} {s:Shared} {tu tv:Bool} {l1 l2:Addr} {xs ys:Array Value}
end
section
variable {T:Tb} {X:Cx} {a b:Expr} {pos p tp:Pos} {fe:Ev} {fm:Ro->Out (List D)} {elts:List Expr} {x1:Nat}
end
noncomputable def q2J (ts:List Str):Str:=(PyData.list (ts.map PyData.str)).shown
theorem q3s {h:Heap}:∀{ts:List Str} {us:List Value},Vals (ts.map V.str) us->ReadsAll h us (ts.map PyData.str) []
 | [],_,.nil=>.nil
 | t::ts,_,.cons r q=>by
  obtain ⟨k,rfl⟩:=r
  exact .cons (.str t k) (q3s q)
theorem q4b:∀ts:List Str,PyData.showableAll (ts.map PyData.str)=true
 | []=>rfl
 | t::ts=>by simp [PyData.showableAll,PyData.showable,q4b ts]
theorem q4j:∀ts:List Str,PyData.hasDictAll (ts.map PyData.str)=false
 | []=>rfl
 | t::ts=>by simp [PyData.hasDictAll,PyData.hasDict,q4j ts]
theorem q3p:∀ts:List Str,PyData.depthAll (ts.map PyData.str)=0
 | []=>rfl
 | t::ts=>by simp [PyData.depthAll,PyData.depth,q3p ts]
section
variable {T:Tb} {X:Cx} {v:Expr} {es:List Expr} {pos:Pos} {fl:Ro->Out (List D)} {fs:Ro->Option (List Str)} {k:Nat}
@[simp] noncomputable def j51 (fl:Ro->Out (List D)) (fs:Ro->Option (List Str)) (ρ:Ro):Option (List Str):=match fl ρ with
 | .ok ds=>(match q1W ds with
  | some ts=>if (q2J ts).length<=200000 then (match fs ρ with | some xs=>some (q2J ts::xs) | none=>none) else none
  | none=>none)
 | _=>none
theorem q9M {ρ:Ro} {ys:List Str} (e:j51 fl fs ρ=some ys):∃ds ts xs,fl ρ=.ok ds/\q1W ds=some ts/\(q2J ts).length<=200000/\fs ρ=some xs/\ys=q2J ts::xs:=by
 unfold j51 at e
 cases ed:fl ρ with
 | ok ds=>
  rw [ed] at e
  cases et:q1W ds with
  | some ts=>
   simp only [et] at e
   by_cases h:(q2J ts).length<=200000
   ·rw [if_pos h] at e
    cases ef:fs ρ with
    | some xs=>rw [ef] at e;cases e;exact ⟨ds,ts,xs,rfl,et,h,rfl,rfl⟩
    | none=>rw [ef] at e;cases e
   ·rw [if_neg h] at e;cases e
  | none=>simp only [et] at e;cases e
 | exc c=>rw [ed] at e;cases e
 | bad=>rw [ed] at e;cases e
theorem q9J (hr:Room k X.A) (he:DL T X v fl) (hj:DJ T X es fs):DJ T X (.FormattedValue v 114 none pos::es) (j51 fl fs):=.mk λG E hp pins s σ H acc Q I ⟨ρ,ys,fr,e,z,kk⟩=>by
 obtain ⟨ds,ts,xs,ed,et,hl,ef,rfl⟩:=q9M e
 refine wpAny_FormattedValue_repr (thn (he.run G E hp pins s σ H (λw H1=>∃l vs,w=.ref l/\Same H H1/\SqL X.K H1 l vs/\RepL T X.K H1 ds vs) I ⟨ρ,fr,?_⟩) λu s1 ⟨w,H1,I1,rv,l,vs,ew,sm,sq,rl⟩=>?_)
 ·rw [ed];exact λl vs H1 sm sq rl=>⟨l,vs,rfl,sm,sq,rl⟩
 ·subst ew
  cases rv
  obtain rfl:=q17 et rl
  obtain ⟨its,r,pl,hz⟩:=I1.list sq
  obtain ⟨o,ho,hc,n,hd⟩:=pl.isList
  have un:=hr.un
  refine pyReprObj_of_reads (d:=.list (ts.map PyData.str)) (.list ho hc hd (q3s r)) (by simp [PyData.showable,q4b]) (λq=>by simp [PyData.hasDict,q4j] at q) hr.gd (by simp only [PyData.depth,q3p];omega) (λb o q=>q) (λh' u tk kp=>?_) (by rw [sizeLine_eq];show (q2J ts).length<=_;omega)
  refine formatField_str (λt' tk'=>?_) (by rw [sizeLine_eq];show (q2J ts).length<=_;omega)
  have I2:Inv (X.wish E) pins σ H1 { s1 with heap:=h',toks:=tk' }:=I1.kept kp
  exact q3H hp hj I2 (fr.mono sm) sm hl ef z kk
end
section
variable {T:Tb} {ib:Bool} {X:Cx} {e:Expr} {pos pos':Pos} {x:Str}
end
section
variable {T:Tb} {X:Cx} {a b c:Expr} {pos p p2 pos2:Pos} {fa fe fc:Ev}
end
section
variable {T:Tb} {X:Cx} {elt iter:Expr} {x x2:Str} {px px2 pos pt:Pos} {kk:Nat} {scope:Scope} {ys:List Str} {caps:List Nat} {fe:Ev} {ft:Ro->Out Bool} {tst:Expr} {cl:List (Str×Addr)} {pins:List (Addr×Obj)} {σ:L2.St} {G H2:Hp} {s2:Shared} {J:It} {fp:List Addr} {it:Addr} {tn:Nat->Heap->Prop} {ρ:Ro} {ds es:List D}
end
section
variable {T:Tb} {X:Cx} {elt iter tst:Expr} {x x2:Str} {px px2 pos pt:Pos} {kk:Nat} {scope:Scope} {ys:List Str} {caps:List Nat} {fe:Ev} {ft:Ro->Out Bool} {fl:Ro->Out (List D)}
end
section
open PySem.SeqAt
open PySem.AutoSeq1 (wpAny_loadPart')
end
section
variable {T:Tb} {X:Cx} {o e:Expr} {cpos apos:Pos} {fo fe:Ev}
end
section
variable {T:Tb} {X:Cx}
end
end L3
namespace L3
open PySem PySem.Spec PyProof.Rows L2
section
variable {P:Program} {w:World} {A:Around} {E:Value->Shared->Prop} {s:Shared}
end
section
variable {P:Program} {w:World} {A:Around} {E:Value->Shared->Prop} {s:Shared}
end
section
variable {P:Program} {w:World} {A:Around} {E:Value->Shared->Prop} {s:Shared}
end
section
variable {T:Tb} {X:Cx} {e:Expr} {pos p pos2 p2:Pos} {fl:Ro->Out (List D)}
end
section
variable {P:Program} {w:World} {A:Around} {E:Value->Shared->Prop} {s:Shared}
noncomputable abbrev lit (l:Addr) (k:Int):Obj:={ cls:=.type "list_iterator",data:=.fields #[.ref l,.int k 0] }
noncomputable abbrev j8Z:Obj:={ cls:=.type "list",data:=.seq #[] }
structure Mm (h0:Heap) (l I S:Addr) (vs:Array Value) (h:Heap):Prop where
 up:∀b o,h0.get? b=some o->h.get? b=some o
 nI:h0.get? I=none
 nS:h0.get? S=none
 ne:S≠I
 lI:l≠I
 it:h.IsListIter I l 0
 ls:h.IsList l vs
 l0:∃o,h0.get? l=some o
 oS:h.get? S=some j8Z
end
section
variable {T:Tb} {X:Cx} {a d:Expr} {pos p kp:Pos} {fl:Ro->Out (List D)} {fd:Ev}
end
section
variable {P:Program} {w:World} {A:Around} {E:Value->Shared->Prop} {s:Shared}
end
section
variable {T:Tb} {X:Cx} {a d:Expr} {pos p px kp kp2:Pos} {fl:Ro->Out (List D)} {fv:Ev} {k:Nat} {f:Addr} {fd:FuncData} {ps:List Str} {F:Fn} {x:Str}
end
end L3
namespace L3
open PySem L2
end L3
namespace L3
open PySem PySem.Spec PyProof.Rows L2
section
variable {P:Program} {w:World} {A:Around} {E:Value->Shared->Prop} {s:Shared}
end
structure j6G (k:Nat) (A:Around) (H:Hp):Prop where
 hot:j8r A H
 dp:A.depth+3*k+5 < recursionLimit
structure j8G (P:Program) (w:World) (K:PySem.W.Frag) (mg:Str->Option Value) (base:Heap) (CX:CXT) (k:Nat) (f:Addr) (fd:FuncData) (ps:List Str) (sp:Sp):Prop where
 run:∀(A:Around) (outer:List Env) (s:Shared) (H:Hp) (args:Args) (us:List Value) (vs:List V) (Q:VK) (E:XK),j6G k A H->Env0 P w K mg base A outer s H->BindsTo s fd args (ps.zip us)->Vals vs us->sp vs H Q E ->
  codeAny (model P w) A (.call (.ref f) args) (CR CX outer P w H s Q E) s
section
variable {P:Program} {w:World} {K:PySem.W.Frag} {mg:Str->Option Value} {base:Heap} {T:Tb}
end
section
variable {T:Tb} {X:Cx} {e:Expr} {es:List Expr} {pos p:Pos} {fs:Ro->Out (List Sl)} {k n:Nat} {f:Addr} {fd:FuncData} {ps:List Str} {F:Fn} {x:Str}
end
section
variable {T:Tb} {X:Cx} {elt a tst:Expr} {x:Str} {px pos p rpos:Pos} {scope:Scope} {ys:List Str} {caps:List Nat} {fe fa:Ev} {ft:Ro->Out Bool}
end
theorem _root_.L2.Room.le {j k:Nat} {A:Around} (r:Room k A) (h:j<=k:=by decide):Room j A:=r.mono h
noncomputable def FoC (T:Tb) (K:PySem.W.Frag) (at_:Str) (q:Nat×Nat):Prop:=Cls K (T.ca q.1)/\NoAttr K (T.ca q.1) at_/\(T.fl q.1).Nodup/\(T.fl q.1)[q.2]?=some at_
theorem foN {T:Tb} {K:PySem.W.Frag} {a:Str}:∀q∈([]:List (Nat×Nat)),FoC T K a q:=List.forall_mem_nil _
theorem foC {T:Tb} {K:PySem.W.Frag} {a:Str} {c j:Nat} {l:List Str} {r:List (Nat×Nat)} (cl:Cls K (T.ca c)) (na:NoAttr K (T.ca c) a) (e:T.fl c=l) (h:∀q∈r,FoC T K a q) (hd:l.Nodup:=by decide) (hj:l[j]?=some a:=by rfl):∀q∈(c,j)::r,FoC T K a q:=
 List.forall_mem_cons.mpr ⟨⟨cl,na,by show (T.fl c).Nodup;rw [e];exact hd,by show (T.fl c)[j]?=_;rw [e];exact hj⟩,h⟩
theorem flA {T:Tb} {c j:Nat} {l:List Str} {a:Str} (e:T.fl c=l) (h:l[j]?=some a:=by rfl):(T.fl c)[j]?=some a:=by rw [e];exact h
theorem flN {T:Tb} {c:Nat} {l:List Str} (e:T.fl c=l) (h:l.Nodup:=by decide):(T.fl c).Nodup:=by rw [e];exact h
@[simp] noncomputable abbrev eI (i:Int):Ev:=eC (.int i)
@[simp] noncomputable abbrev eS (x:Str):Ev:=eC (.str x)
@[simp] noncomputable abbrev tEq (a b:Ev):Ro->Out Bool:=tB2 (λa b=>bD false (eqS a b)) a b
@[simp] noncomputable abbrev tNe (a b:Ev):Ro->Out Bool:=tB2 (λa b=>bD true (eqS a b)) a b
@[simp] noncomputable abbrev qLt:D->D->Out D:=i2 λi j=>.bl (decide (i < j))
@[simp] noncomputable abbrev qGt:D->D->Out D:=i2 λi j=>.bl (decide (j < i))
@[simp] noncomputable abbrev qLe:D->D->Out D:=i2 λi j=>.bl (decide (i<=j))
@[simp] noncomputable abbrev qGe:D->D->Out D:=i2 λi j=>.bl (decide (j<=i))
@[simp] noncomputable abbrev q46 (a b:Ev):Ev:=e2 (i2 λi j=>.int (i-j)) a b
@[simp] noncomputable abbrev j8p (a b:Ev):Ev:=e2 (i2c q49 λi j=>.int (i*j)) a b
@[simp] noncomputable abbrev q3t (a b:Ev):Ev:=e2 (i2c q6D λi j=>.int (i / j)) a b
@[simp] noncomputable abbrev q2z (a b:Ev):Ev:=e2 (i2c q6U λi j=>.int (i % j)) a b
@[simp] noncomputable abbrev q2D (a b:Ev):Ev:=e2 j3L a b
@[simp] noncomputable abbrev eIx (a b:Ev):Ev:=e2 ixD a b
@[simp] noncomputable abbrev tCh (g g':D->D->Out D) (a b c:Ev):Ro->Out Bool:=fun ρ=>(q7y g g' a b c ρ).bind D.toB
@[simp] noncomputable abbrev fFr (f:Ro->Out (List D)):Ro->Out Rv:=fun ρ=>(f ρ).bind λds=>.ok (.fr ds)
@[simp] noncomputable abbrev rC (n:Nat) (F:Fn) (fs:Ro->Out (List Sl)):Ro->Out Rv:=q8n (n:=n) F [] fs
noncomputable def hid (H:Hp) (y:Addr) (m:Option Addr):Hp:=λa=>if a=y∨m=some a then none else H a
section
variable {T:Tb} {K:PySem.W.Frag} {G H H':Hp} {σ:L2.St} {ρ:Ro} {y:Addr} {m:Option Addr} {c:Nat} {ds ks:List D}
theorem q6j {b:Addr} {o:HO} (h:H b=some o) (hy:b≠y) (hm:m≠some b):hid H y m b=some o:=by
 unfold hid
 rw [if_neg (λz=>z.elim hy hm)];exact h
theorem j2F {b:Addr} {o:HO} (h:hid H y m b=some o):H b=some o/\b≠y/\m≠some b:=by
 unfold hid at h
 by_cases z:b=y∨m=some b
 ·rw [if_pos z] at h;cases h
 ·rw [if_neg z] at h;exact ⟨h,λq=>z (.inl q),λq=>z (.inr q)⟩
theorem j0f:hid H y m y=none:=by unfold hid;rw [if_pos (.inl rfl)]
theorem q8o {a:Addr} (h:m=some a):hid H y m a=none:=by unfold hid;rw [if_pos (.inr h)]
theorem q2A:Same (hid H y m) H:=λb o e=>(j2F e).1
theorem q5B {o:HO} (h:InsAt T K H c y ds):Pers T false H (upd H y o):=λa u e st=>by
 by_cases z:a=y
 ·subst z
  obtain ⟨dx,fs,e1,e2,e3,_⟩:=h
  rw [e1] at e;cases e
  have st:(!false && decide (fs.map (·.1)=T.fl c))=true:=st
  rw [e2] at st
  have st:(T.fl c).take ds.length=T.fl c:=by simpa using st
  have:=congrArg List.length st
  rw [List.length_take] at this;omega
 ·rw [q0d z];exact e
theorem q3K (h:InsAt T K H c y ds) (hm:q4J T K H m ks) (s:Same (hid H y m) H'):Pers T false H H':=λa u e st=>by
 by_cases z:a=y
 ·have:=q5B (o:=.lst []) h a u e st
  subst z
  rw [q0j] at this;cases this;cases st
 ·by_cases q:m=some a
  ·subst q
   obtain ⟨vs,e1,_⟩:=hm
   rw [e1] at e;cases e;cases st
  ·exact s _ _ (q6j e z q)
theorem SlOk.hop {x:Option (Option V)} {s:Sl} {ex:Addr->Prop} (p:Pers T false H H') (hk:∀a o,H a=some o->¬ex a->H' a=some o) (ho:∀b,q2e H x b s->¬ex b) (hi:(∀ms,s≠.lm ms)∨∀b,T.me≠some b->∀c ds,InsAt T K H c b ds->¬ex b) (hm:∀c ds,s≠.me c ds) (h:SlOk T K G H x s):SlOk T K G H' x s:=by
 have oa:∀{t:Bool} {a:Addr} {us:List V},OutAt H t a us->OutAt H' t a us:=λ{t a us} q=>q.keep λo e n1 n2=>p a o e (by cases o with | lst xs=>exact absurd rfl (n1 xs) | ins C dx fs=>exact absurd rfl (n2 _ _ _) | _=>rfl)
 cases s with
 | no=>trivial
 | sh d=>obtain ⟨v,z1,z2⟩:=h;exact ⟨v,z1,Rep.pers p _ _ z2⟩
 | ow es=>obtain ⟨b,ws,z1,z2,z3,z4⟩:=h;exact ⟨b,ws,z1,hk _ _ z2 (ho b z1),z3,RepL.pers p _ _ z4⟩
 | mo es=>obtain ⟨b,ws,z0,z1,z2,z3,z4⟩:=h;exact ⟨b,ws,z0,z1,hk _ _ z2 (ho b z1),z3,RepL.pers p _ _ z4⟩
 | bo es=>obtain ⟨b,ws,z1,z2,z4⟩:=h;exact ⟨b,ws,z1,z2,RepL.pers p _ _ z4⟩
 | bi c es=>obtain ⟨b,dx,fs,z1,z2,z3,z4,z5⟩:=h;exact ⟨b,dx,fs,z1,z2,z3,z4,RepL.pers p _ _ z5⟩
 | me c es=>exact absurd rfl (hm c es)
 | lm ms=>
  obtain ⟨c,us,z1,z2,z3,z4,z5⟩:=h
  refine ⟨c,us,z1,oa z2,z3,λi m v q1 q2=>?_,z5⟩
  have z:=z4 i m v q1 q2
  match m,q1,z with
  | (none,ks),q1,⟨b,ws,y1,y2,y3,y4⟩=>
   subst y1
   exact ⟨b,ws,rfl,hk _ _ y2 (ho b ⟨c,us,i,ks,z1,z2,q2,q1⟩),y3,RepL.pers p _ _ y4⟩
  | (some k,ks),q1,⟨b,y1,y2,y3,dx,fs,w1,w2,w3,w4⟩=>
   refine ⟨b,y1,y2,y3,dx,fs,hk _ _ w1 ?_,w2,w3,RepL.pers p _ _ w4⟩
   rcases hi with hi | hi
   ·exact absurd rfl (hi ms)
   ·exact hi b y2 k ks ⟨dx,fs,w1,w2,w3,w4⟩
 | ox t pre es post=>
  obtain ⟨c,vp,b,vq,ws,z1,z2,z3,z4,z5,z6,z7⟩:=h
  exact ⟨c,vp,b,vq,ws,z1,oa z2,RepL.pers p _ _ z3,RepL.pers p _ _ z4,hk _ _ z5 (ho b (j3W z1 z2 z3)),z6,RepL.pers p _ _ z7⟩
theorem q1F (p:Pers T false H H'):∀(a:Addr) (o:HO),H a=some o->(∀xs,o≠.lst xs)->(∀c dx fs,o≠.ins c dx fs)->H' a=some o:=λa o e n1 n2=>
 p a o e (by cases o with | lst xs=>exact absurd rfl (n1 xs) | ins C dx fs=>exact absurd rfl (n2 _ _ _) | _=>rfl)
theorem FR.me_new {c':Nat} {ds':List D} (fr:FR T K G H σ ρ) (e:ρ[0]?=some (.me c ds)) (hi:T.me=some y->InsAt T K H c y ds) (p:Pers T false H H') (hk:∀a o,H a=some o->T.me≠some a->H' a=some o) (hn:∀a,T.me=some a->InsAt T K H' c' a ds'):FR T K G H' σ (ρ.set 0 (.me c' ds')):=by
 obtain ⟨a,dx,fs,m0,e1,e2,e3,e4,r⟩:=fr.sl 0 _ e
 have h0:0 < ρ.length:=(List.getElem?_eq_some_iff.mp e).1
 have lst:∀{b:Addr} {vs:List V},H b=some (.lst vs)->T.me≠some b:=λq z=>by
  rw [m0] at z;cases z;rw [e2] at q;cases q
 have at_:∀{j:Nat} {z:Sl},(ρ.set 0 (.me c' ds'))[j]?=some z->(j=0/\z=.me c' ds')∨(j≠0/\ρ[j]?=some z):=λ{j z} q=>by
  by_cases hj:j=0
  ·subst hj
   rw [List.getElem?_set_self h0] at q;exact .inl ⟨rfl,(Option.some.inj q).symm⟩
  ·rw [List.getElem?_set_ne (Ne.symm hj)] at q;exact .inr ⟨hj,q⟩
 refine ⟨λb o q=>hk b o (fr.same b o q) λz=>?_,by simp [fr.len],λj s q=>?_,λj k s1 s2 b hjk q1 q2 o1 o2=>?_,fr.me,λj c2 es q=>?_⟩
 ·rw [m0] at z;cases z;rw [e3] at q;cases q
 ·rcases at_ q with ⟨rfl,rfl⟩ | ⟨hj,q⟩
  ·obtain ⟨dx',fs',w1,w2,w3,w4⟩:=hn a m0
   exact ⟨a,dx',fs',m0,e1,w1,e3,w2,w4⟩
  ·refine SlOk.hop (ex:=λb=>T.me=some b) p hk (λb o=>?_) (.inr λb z _ _ _=>z) (λc2 es z=>?_) (fr.sl j s q)
   ·obtain ⟨⟨ws,w⟩,_⟩:=(fr.sl j s q).own o
    exact lst w
   ·subst z;exact hj (fr.me0 j c2 es q)
 ·rcases at_ q1 with ⟨rfl,rfl⟩ | ⟨hj,q1⟩
  ·exact o1
  ·rcases at_ q2 with ⟨rfl,rfl⟩ | ⟨hj2,q2⟩
   ·exact o2
   ·exact fr.ne j k s1 s2 b hjk q1 q2 ((fr.sl j s1 q1).back (q1F p) o1) ((fr.sl k s2 q2).back (q1F p) o2)
 ·rcases at_ q with ⟨rfl,_⟩ | ⟨hj,q⟩
  ·rfl
  ·exact fr.me0 j c2 es q
end
inductive j2z where
 | ok (r:D) (ds ks:List D) | exc (c:Nat) (ds ks:List D) | bad
noncomputable abbrev FnM:=List D->List D->List Sl->j2z
noncomputable def j2V (T:Tb) (K:PySem.W.Frag) (c:Nat) (H:Hp) (y:Addr) (m:Option Addr) (Q:VK) (E:Nat->Hp->Prop):j2z->Prop
 | .ok r ds ks=>∀v H',Same (hid H y m) H'->InsAt T K H' c y ds->q4J T K H' m ks->Rep T K H' r v->Q v H'
 | .exc x ds ks=>∀H',Same (hid H y m) H'->InsAt T K H' c y ds->q4J T K H' m ks->E x H'
 | .bad=>False
noncomputable def spM (T:Tb) (K:PySem.W.Frag) (c:Nat) (mo:Bool) (n:Nat) (F:FnM):Sp:=λvs H Q E=>∃(y:Addr) (m:Option Addr) (rest:List V) (ds ks:List D) (ss:List Sl),vs=.ref y::(m.toList.map V.ref++rest)/\m.isSome=mo/\InsAt T K H c y ds/\q4J T K H m ks/\ArgsOk T K (hid H y m) rest ss/\vs.length=n /\
 j2V T K c H y m Q (λx H'=>E (.ref (T.ca x)) none H') (F ds ks ss)
section
variable {T:Tb} {z u:Option Addr} {K:PySem.W.Frag}
theorem q2i {H:Hp} {m:Option Addr} {ks:List D}:q4J { T with me:=z,mo:=u } K H m ks↔q4J T K H m ks:=by
 cases m with
 | none=>exact Iff.rfl
 | some a=>exact ⟨λ⟨vs,e,r⟩=>⟨vs,e,(repL_me _ _).mp r⟩,λ⟨vs,e,r⟩=>⟨vs,e,(repL_me _ _).mpr r⟩⟩
theorem j0E {c n:Nat} {mo:Bool} {F:FnM} {vs:List V} {H:Hp} {Q:VK} {E:XK} (h:spM { T with me:=z,mo:=u } K c mo n F vs H Q E):spM T K c mo n F vs H Q E:=by
 obtain ⟨y,m,rest,ds,ks,ss,h1,h2,h3,h4,h5,h6,h7⟩:=h
 refine ⟨y,m,rest,ds,ks,ss,h1,h2,q1c.mp h3,q2i.mp h4,(q1M ss rest).mp h5,h6,?_⟩
 cases e:F ds ks ss with
 | ok r ds' ks'=>rw [e] at h7;exact λv H' s a b r=>h7 v H' s (q1c.mpr a) (q2i.mpr b) ((q1z _ _).mpr r)
 | exc x ds' ks'=>rw [e] at h7;exact λH' s a b=>h7 H' s (q1c.mpr a) (q2i.mpr b)
 | bad=>rw [e] at h7;exact h7
theorem q5l {P:Program} {w:World} {mg:Str->Option Value} {base:Heap} {k:Nat} {f:Addr} {fd:FuncData} {ps:List Str} {c n:Nat} {mo:Bool} {F:FnM} (h:q0X P w K mg base (CXE T P w) k f fd ps (spM T K c mo n F)):q0X P w K mg base (CXE { T with me:=z,mo:=u } P w) k f fd ps (spM { T with me:=z,mo:=u } K c mo n F):=
 ⟨λvs H Q E q=>h.len vs H Q E (j0E q),λA outer s H args us vs Q E hr he hb hv hs=>h.run A outer s H args us vs Q E hr he hb hv (j0E hs)⟩
end
@[simp] noncomputable def q72 (mo:Bool) (ρ:Ro):Option (List D):=if mo=true then (match (ρ[1]?:Option Sl) with | some (.mo ks)=>some ks | _=>none) else some []
@[simp] noncomputable def j2c {α:Type} (c ar:Nat) (mo:Bool) (ρ:Ro) (bad:α) (k:List D->List D->α):α:=match (ρ[0]?:Option Sl) with
 | some (.me c' ds)=>if c'=c/\ds.length=ar then (match q72 mo ρ with | some ks=>k ds ks | none=>bad) else bad
 | _=>bad
@[simp] noncomputable def q4A (mo:Bool) (ks:List D):List Sl:=if mo=true then [.mo ks] else []
@[simp] noncomputable def mF (n c ar:Nat) (mo:Bool) (f:Ro->Fl) (ds ks:List D) (ss:List Sl):j2z:=match f (.me c ds::(q4A mo ks++ss)++List.replicate (n-((q4A mo ks++ss).length+1)) .no) with
 | .nx ρ=>j2c c ar mo ρ .bad λds ks=>.ok .non ds ks
 | .rm r c' ds ks=>if c'=c then .ok r ds ks else .bad
 | .exc x ρ=>j2c c ar mo ρ .bad λds ks=>.exc x ds ks
 | _=>.bad
section
variable {P:Program} {w:World} {K:PySem.W.Frag} {mg:Str->Option Value} {base:Heap} {T:Tb}
theorem q3Y {G H:Hp} {σ:L2.St} {ρ:Ro} {c ar:Nat} {mo:Bool} {α:Type} {bad:α} {k:List D->List D->α} {R:α->Prop} (hb:¬R bad) (har:ar < (T.fl c).length) (hmo:T.mo.isSome=mo) (fr:FR T K G H σ ρ) (h:R (j2c c ar mo ρ bad k)) :
 ∃y ds ks,T.me=some y/\ρ[0]?=some (.me c ds)/\ds.length=ar/\q72 mo ρ=some ks/\InsAt T K H c y ds/\q4J T K H T.mo ks/\R (k ds ks):=by
 cases e0:ρ[0]? with
 | none=>simp only [j2c,e0] at h;exact absurd h hb
 | some sl=>
  cases sl with
  | me c' ds=>
   simp only [j2c,e0] at h
   by_cases hc:c'=c/\ds.length=ar
   ·rw [if_pos hc] at h
    obtain ⟨rfl,hl⟩:=hc
    cases ek:q72 mo ρ with
    | none=>simp only [ek] at h;exact absurd h hb
    | some ks=>
     simp only [ek] at h
     obtain ⟨a,dx,fs,m0,e1,e2,e3,e4,r⟩:=fr.sl 0 _ e0
     refine ⟨a,ds,ks,m0,rfl,hl,rfl,⟨dx,fs,e2,e4,by omega,r⟩,?_,h⟩
     cases mo with
     | false=>
      cases em:T.mo with
      | some _=>rw [em] at hmo;cases hmo
      | none=>cases ek;rfl
     | true=>
      have ek:(match (ρ[1]?:Option Sl) with | some (.mo ks)=>some ks | _=>none)=some ks:=ek
      cases e5:ρ[1]? with
      | none=>rw [e5] at ek;cases ek
      | some s1=>
       rw [e5] at ek
       cases s1 with
       | mo ks'=>
        cases ek
        obtain ⟨b,vs,q0,q1,q2,q3,q4⟩:=fr.sl 1 _ e5
        rw [q0];exact ⟨vs,q2,q4⟩
       | _=>cases ek
   ·rw [if_neg hc] at h;exact absurd h hb
  | _=>simp only [j2c,e0] at h;exact absurd h hb
theorem j8z {H:Hp} {N:List Str} {y:Addr} {m:Option Addr} {rest:List V} {ss:List Sl} {ds ks:List D} {c:Nat} {mo:Bool} (hmo:m.isSome=mo) (hi:InsAt T K H c y ds) (hk:q4J T K H m ks) (h:ArgsOk T K (hid H y m) rest ss) (hN:(m.toList.map V.ref++rest).length+1<=N.length) :
 FR { T with me:=some y,mo:=m } K (hid H y m) H (L2.start N (.ref y::(m.toList.map V.ref++rest))) (.me c ds::(q4A mo ks++ss)++List.replicate (N.length-((q4A mo ks++ss).length+1)) .no):=by
 have hl:=ArgsOk.length ss rest h
 have st:∀(i:Nat) (v:V),(V.ref y::(m.toList.map V.ref++rest))[i]?=some v->(L2.start N (.ref y::(m.toList.map V.ref++rest)))[i]?=some (some v):=λi v e=>by
  unfold L2.start
  have hi:i < (V.ref y::(m.toList.map V.ref++rest)).length:=(List.getElem?_eq_some_iff.mp e).1
  rw [List.getElem?_append_left (by simpa using hi),List.getElem?_map,e];rfl
 have hlm:(q4A mo ks).length=(m.toList.map V.ref).length:=by
  cases m with
  | none=>subst hmo;rfl
  | some a=>subst hmo;rfl
 have cases_:∀(i:Nat) (s:Sl),(Sl.me c ds::(q4A mo ks++ss)++List.replicate (N.length-((q4A mo ks++ss).length+1)) Sl.no)[i]?=some s->(i=0/\s=.me c ds)∨(i=1/\mo=true/\s=.mo ks)∨(∃j,i=(q4A mo ks).length+j+1/\ss[j]?=some s)∨s=.no:=λi s e=>by
  cases i with
  | zero=>exact .inl ⟨rfl,by simpa using e.symm⟩
  | succ j=>
   rw [List.cons_append,List.getElem?_cons_succ] at e
   by_cases hj:j < (q4A mo ks++ss).length
   ·rw [List.getElem?_append_left hj] at e
    by_cases hj2:j < (q4A mo ks).length
    ·rw [List.getElem?_append_left hj2] at e
     cases mo with
     | false=>exact absurd hj2 (Nat.not_lt_zero _)
     | true=>
      have:j=0:=by
       have:j < 1:=hj2
       omega
      subst this
      exact .inr (.inl ⟨rfl,rfl,(Option.some.inj e).symm⟩)
    ·rw [List.getElem?_append_right (by omega)] at e
     exact .inr (.inr (.inl ⟨j-(q4A mo ks).length,by omega,e⟩))
   ·rw [List.getElem?_append_right (by omega),List.getElem?_replicate] at e
    split at e
    ·cases e;exact .inr (.inr (.inr rfl))
    ·cases e
 have arg:∀(j:Nat) (s:Sl),ss[j]?=some s->∃v,(V.ref y::(m.toList.map V.ref++rest))[(q4A mo ks).length+j+1]?=some v/\ArgOk T K (hid H y m) v s:=λj s q=>by
  obtain ⟨v,e1,r⟩:=ArgsOk.get ss rest j s h q
  refine ⟨v,?_,r⟩
  rw [List.getElem?_cons_succ,List.getElem?_append_right (by omega),hlm,Nat.add_sub_cancel_left]
  exact e1
 have ow:∀(i:Nat) (s:Sl) (x:Option (Option V)) (b:Addr),(Sl.me c ds::(q4A mo ks++ss)++List.replicate (N.length-((q4A mo ks++ss).length+1)) Sl.no)[i]?=some s->q2e H x b s->i=1:=λi s x b q o=>by
  rcases cases_ i s q with ⟨_,z⟩ | ⟨z,_⟩ | ⟨j,_,z⟩ | z
  ·subst z;exact o.elim
  ·exact z
  ·obtain ⟨v,_,r⟩:=arg j s z
   cases s with
   | sh d=>exact o.elim
   | bo ds=>exact o.elim
   | bi c ds=>exact o.elim
   | _=>exact r.elim
  ·subst z;exact o.elim
 refine ⟨q2A,?_,λi s e=>?_,λi j s t b hij q1 q2 o1 o2=>?_,λx e=>?_,λi c' es q=>?_⟩
 ·unfold L2.start;simp only [List.length_append,List.length_cons,List.length_replicate,List.length_map] at hN ⊢
  have:(q4A mo ks++ss).length=(m.toList.map V.ref++rest).length:=by rw [List.length_append,List.length_append,hlm,hl]
  simp only [List.length_append,List.length_map] at this
  omega
 ·rcases cases_ i s e with ⟨rfl,rfl⟩ | ⟨rfl,rfl,rfl⟩ | ⟨j,rfl,q⟩ | rfl
  ·obtain ⟨dx,fs,e1,e2,e3,r⟩:=hi
   exact ⟨y,dx,fs,rfl,st 0 _ rfl,e1,j0f,e2,(repL_me _ _).mpr r⟩
  ·cases m with
   | none=>cases hmo
   | some a=>
    obtain ⟨vs,e1,r⟩:=hk
    exact ⟨a,vs,rfl,st 1 _ rfl,e1,q8o rfl,(repL_me _ _).mpr r⟩
  ·obtain ⟨v,e1,r⟩:=arg j s q
   rw [st _ v e1]
   cases s with
   | sh d=>exact ⟨v,rfl,(q1z d v).mpr (Rep.mono q2A _ _ r)⟩
   | bo ds=>
    obtain ⟨a,us,rfl,r2,r3⟩:=r
    exact ⟨a,us,rfl,r2,(repL_me ds us).mpr (RepL.mono q2A _ _ r3)⟩
   | bi c ds=>
    obtain ⟨a,rfl,dx,fs,r2,r3,r4,r5⟩:=r
    exact ⟨a,dx,fs,rfl,r2,r3,r4,(repL_me ds _).mpr (RepL.mono q2A _ _ r5)⟩
   | _=>exact r.elim
  ·trivial
 ·exact hij ((ow i s _ b q1 o1).trans (ow j t _ b q2 o2).symm)
 ·cases e;exact st 0 _ rfl
 ·rcases cases_ i _ q with ⟨z,_⟩ | ⟨_,_,z⟩ | ⟨j,_,z⟩ | z
  ·exact z
  ·cases z
  ·obtain ⟨v,_,r⟩:=arg j _ z;exact r.elim
  ·cases z
theorem j3O {c ar:Nat} {mo:Bool} {x qual:Str} {st:Stmt} {fa:Addr} {fd:FuncData} {N ps:List Str} {k:Nat} {f:Ro->Fl} (har:ar < (T.fl c).length) (F:∃(oc:Value) (od:Option Addr) (dV kV doc pm:Value) (an:Option Addr) (cdv ct:Value) (osl:Array (Option Value)),
 fd=PySem.W.fnOf x qual (q08 st) (q0Q st) (q0g st) dV kV doc pm an cdv ct/\K.lookup fa=some ⟨oc,od,.func fd,osl⟩/\PySem.W.codeIn K cdv qual=true) (S:q0p N ps (q0g st))
 (hb:∀(y:Addr) (m:Option Addr) (cdv:Value) (A:Around) (outer:List Env) (s:Shared) (H:Hp) (E:XK),m.isSome=mo->Room k (A.deeper (envOfC qual (q0g st) s.heap.objs.size fa cdv))->DSs { T with me:=some y,mo:=m } false (CxD T P w K mg base N qual (q0g st) fa cdv A outer s H E) (q0Q st) f) :
 q0X P w K mg base (CXE T P w) (k+1) fa fd ps (spM T K c mo ps.length (mF N.length c ar mo f)):=by
 obtain ⟨oc,od,dV,kV,doc,pm,an,cdv,ct,osl,rfl,lk,hcd⟩:=F
 refine j21 lk hcd S (λvs H Q E ⟨_,_,_,_,_,_,_,_,_,_,_,e,_⟩=>e) λA outer s H vs Q E hr ⟨y,m,rest,ds,ks,ss,ev,hmo,hi,hk,ha,hl,ho⟩=>?_
 subst ev
 have hpl:ps.length<=N.length:=by have:=congrArg List.length S.pre;rw [List.length_take] at this;omega
 have fr:=j8z (N:=N) hmo hi hk ha (by rw [List.length_cons] at hl;omega)
 refine ⟨_,(hb y m cdv A outer s H E hmo hr).run (hid H y m) (CxD T P w K mg base N qual (q0g st) fa cdv A outer s H E).xe PassesOwn.leaving,_,fr,?_⟩
 have ho:j2V T K c H y m Q (λx H'=>E (.ref (T.ca x)) none H') (mF N.length c ar mo f ds ks ss):=ho
 unfold mF at ho
 cases e:f (.me c ds::(q4A mo ks++ss)++List.replicate (N.length-((q4A mo ks++ss).length+1)) .no) with
 | nx ρ=>
  rw [e] at ho
  intro σ H' fr' _
  obtain ⟨y',ds',ks',m0,_,_,_,h1,h2,h3⟩:=q3Y (T:={ T with me:=some y,mo:=m }) (R:=j2V T K c H y m Q (λx H'=>E (.ref (T.ca x)) none H')) (bad:=j2z.bad) (λz=>z) har hmo fr' ho
  cases m0
  exact h3 .non H' fr'.same (q1c.mp h1) (q2i.mp h2) rfl
 | rm r c' ds' ks'=>
  rw [e] at ho
  have ho:j2V T K c H y m Q _ (if c'=c then .ok r ds' ks' else .bad):=ho
  by_cases hc:c'=c
  ·rw [if_pos hc] at ho
   subst hc
   intro v H' sm rv ⟨a,m0,h1⟩ h2
   cases m0
   exact ho v H' sm (q1c.mp h1) (q2i.mp h2) ((q1z _ _).mp rv)
  ·rw [if_neg hc] at ho;exact ho.elim
 | exc x ρ=>
  rw [e] at ho
  intro σ' H' fr' _ pins s' u H'' I hs fl
  obtain ⟨y',ds',ks',m0,_,_,_,h1,h2,h3⟩:=q3Y (T:={ T with me:=some y,mo:=m }) (R:=j2V T K c H y m Q (λx H'=>E (.ref (T.ca x)) none H')) (bad:=j2z.bad) (λz=>z) har hmo fr' ho
  cases m0
  refine q21 I rfl rfl rfl fl (h3 H'' (fr'.same.trans hs) (q1c.mp (h1.mono hs)) ?_)
  refine (q2i (T:=T) (z:=some y) (u:=m)).mp ?_
  revert h2
  show q4J _ K H' m ks'->q4J _ K H'' m ks'
  cases m with
  | none=>exact λz=>z
  | some a=>exact λ⟨vs,e1,r⟩=>⟨vs,hs _ _ e1,RepL.mono hs _ _ r⟩
 | rt r=>rw [e] at ho;exact ho.elim
 | bk ρ=>rw [e] at ho;exact ho.elim
 | ct ρ=>rw [e] at ho;exact ho.elim
 | bad=>rw [e] at ho;exact ho.elim
end
inductive OutE where
 | ok (d:D) (ρ:Ro) | exc (c:Nat) (ρ:Ro) | bad
noncomputable def AccE (T:Tb) (X:Cx) (G:Hp) (E:Value->Shared->Prop) (σ:L2.St) (H:Hp) (Q:VK):OutE->Prop
 | .ok d ρ=>∀v H',FR T X.K G H' σ ρ->Pers T false H H'->Rep T X.K H' d v->Q v H'
 | .exc c ρ=>∀H',FR T X.K G H' σ ρ->Pers T false H H'->XW T X E σ H' c
 | .bad=>False
noncomputable def tM (T:Tb) (X:Cx) (G:Hp) (E:Value->Shared->Prop) (f:Ro->OutE):TE:=fun σ H Q=>∃ρ,FR T X.K G H σ ρ/\AccE T X G E σ H Q (f ρ)
structure DM (T:Tb) (X:Cx) (e:Expr) (f:Ro->OutE):Prop where
 mk ::
 run:∀(G:Hp) (E:Value->Shared->Prop),PassesOwn (model X.prog X.w) X.A X.env E->PE (X.wish E) e (tM T X G E f)
@[simp] noncomputable def OutE.fl (o:OutE) (k:D->Ro->Fl):Fl:=match o with
 | .ok d ρ=>k d ρ
 | .exc c ρ=>.exc c ρ
 | .bad=>.bad
section
variable {T:Tb} {X:Cx} {G H:Hp} {σ:L2.St} {E:Value->Shared->Prop} {Q:VK} {D₀:Ends}
theorem AccE.fl {o:OutE} {k:D->Ro->Fl} (h:AccS T false X G E H (o.fl k) D₀) (hk:∀d ρ,o=.ok d ρ->∀v H',FR T X.K G H' σ ρ->Pers T false H H'->Rep T X.K H' d v->AccS T false X G E H' (k d ρ) D₀->Q v H'):AccE T X G E σ H Q o:=by
 cases o with
 | ok d ρ=>exact λv H' fr p r=>hk d ρ rfl v H' fr p r (AccS.heap p h)
 | exc c ρ=>exact λH' fr p=>h σ H' fr p
 | bad=>exact h
end
section
variable {T:Tb} {X:Cx} {e a b:Expr} {es:List Expr} {pos p p2 p3 apos:Pos} {fe fa fb:Ev} {fs:Ro->Out (List Sl)} {k n c ar:Nat} {f:Addr} {fd:FuncData} {ps:List Str} {F:FnM} {x z:Str} {fM:Ro->OutE} {body:List Stmt} {fbo:Ro->Fl}
theorem j2Q {mo:Bool} {pins:List (Addr×Obj)} {σ:L2.St} {H:Hp} {s:Shared} {E:Value->Shared->Prop} {Q:VK} {us:List Value} {y:Addr} {m:Option Addr} {rest:List V} {ds ks:List D} {ss:List Sl} (FO:q0X X.prog X.w X.K X.mg X.base (CXE T X.prog X.w) k f fd ps (spM T X.K c mo ps.length F)) (hr:Room k X.A) (hb:Binds X.K fd ps [])
 (I:Inv (X.wish E) pins σ H s) (r:Vals (.ref y::(m.toList.map V.ref++rest)) us) (hmo:m.isSome=mo) (hi:InsAt T X.K H c y ds) (hk:q4J T X.K H m ks) (ha:ArgsOk T X.K (hid H y m) rest ss) (hl:us.length=ps.length)
 (h:j2V T X.K c H y m Q (λx H'=>XW T X E σ H' x) (F ds ks ss)) :
 wpAny (model X.prog X.w) X.A (call (.ref f) us) (EP (X.wish E) pins σ Q) E s:=by
 have IX:Inv X pins σ H s:=I.unwish
 let EX:XK:=λcls _ H'=>∃x,cls=.ref (T.ca x)/\XW T X E σ H' x
 refine wpAny_call (codeAny_mono (FO.run X.A X.stack s H ⟨us,[]⟩ us _ Q EX hr IX.env0 (by have:=hb s us IX.kIn (by simpa using hl);simpa using this) r ⟨y,m,rest,ds,ks,ss,rfl,hmo,hi,hk,ha,r.length.trans hl,?_⟩) λres s' hq=>?_)
 ·cases e:F ds ks ss with
  | ok r ds' ks'=>rw [e] at h;exact h
  | exc x ds' ks'=>rw [e] at h;exact λH' s i k=>⟨x,rfl,h H' s i k⟩
  | bad=>rw [e] at h;exact h.elim
 ·cases res with
  | error ev=>
   obtain ⟨c1,H',I',fl,c',ec,hx⟩:=Inv.flown IX hq
   refine hx pins s' ev H' I' (Same.refl _) ?_
   obtain ⟨ea,rfl,h1,h2,nc,oe,vs',a0,he,hc,rest⟩:=fl
   exact ⟨ea,rfl,h1,h2,nc,oe,vs',a0,he,hc.trans ec,rest⟩
  | ok fl=>
   cases fl with
   | ret u=>
    obtain ⟨v,H',I',rv,q⟩:=IX.after hq
    exact ⟨v,H',I'.wish E,rv,q⟩
   | next=>exact False.elim hq
   | brk=>exact False.elim hq
   | cont=>exact False.elim hq
noncomputable def q3P:Sl->Bool
 | .sh _=>true
 | _=>false
theorem q6h {H H':Hp} (p:Pers T false H H'):∀(ss:List Sl) (vs:List V),ss.all q3P=true->ArgsOk T X.K H vs ss->ArgsOk T X.K H' vs ss
 | [],_,_,h=>h
 | s::ss,_,q,⟨v,r,e,h1,h2⟩=>by
  rw [List.all_cons,Bool.and_eq_true] at q
  refine ⟨v,r,e,?_,q6h p ss r q.2 h2⟩
  cases s with
  | sh d=>exact Rep.pers p _ _ h1
  | _=>cases q.1
theorem pers0 {K:PySem.W.Frag} {H H':Hp} {y:Addr} {ds:List D} (h:InsAt T K H c y ds) (s:Same (hid H y none) H'):Pers T false H H':=q3K (m:=none) (ks:=[]) h rfl s
@[simp] noncomputable def j0p (c:Nat) (ρ:Ro):j2z->OutE
 | .ok r ds _=>.ok r (ρ.set 0 (.me c ds))
 | .exc x ds _=>.exc x (ρ.set 0 (.me c ds))
 | .bad=>.bad
@[simp] noncomputable def j3V (n:Nat) (o:Out (List Sl)) (ρ:Ro) (k:List Sl->OutE):OutE:=match o with
 | .ok ss=>if ss.length=n/\ss.all q3P=true then k ss else .bad
 | .exc x=>.exc x ρ
 | .bad=>.bad
@[simp] noncomputable def eM (n c ar:Nat) (F:FnM) (fs:Ro->Out (List Sl)) (ρ:Ro):OutE:=match (ρ[0]?:Option Sl) with
 | some (.me c' ds)=>if c'=c/\ds.length=ar then j3V n (fs ρ) ρ λss=>j0p c ρ (F ds [] ss) else .bad
 | _=>.bad
theorem j0O {G H H1:Hp} {σ:L2.St} {ρ:Ro} {E:Value->Shared->Prop} {Q:VK} {y:Addr} {ds:List D} {ss:List Sl} (fr:FR T X.K G H1 σ ρ) (e0:ρ[0]?=some (.me c ds)) (m0:T.me=some y) (hi:InsAt T X.K H1 c y ds) (p:Pers T false H H1) (h:AccE T X G E σ H Q (j0p c ρ (F ds [] ss))) :
 j2V T X.K c H1 y none Q (λx H'=>XW T X E σ H' x) (F ds [] ss):=by
 have nw:∀{ds':List D} {H':Hp},Same (hid H1 y none) H'->InsAt T X.K H' c y ds'->FR T X.K G H' σ (ρ.set 0 (.me c ds')):=λ{ds' H'} s i=>
  fr.me_new e0 (λz=>by rw [m0] at z;cases z;exact hi) (pers0 hi s) (λa o q n=>s _ _ (q6j q (λz=>n (z ▸ m0)) (by simp))) (λa z=>by rw [m0] at z;cases z;exact i)
 cases e:F ds [] ss with
 | ok r ds' ks'=>rw [e] at h;exact λv H' s i _ rv=>h v H' (nw s i) (p.trans (pers0 hi s)) rv
 | exc x ds' ks'=>rw [e] at h;exact λH' s i _=>h H' (nw s i) (p.trans (pers0 hi s))
 | bad=>rw [e] at h;exact h.elim
theorem j1W {G H:Hp} {σ:L2.St} {ρ:Ro} {ds:List D} (har:ar < (T.fl c).length) (fr:FR T X.K G H σ ρ) (e0:ρ[0]?=some (.me c ds)) (hl:ds.length=ar):∃y,T.me=some y/\σ[0]?=some (some (.ref y))/\InsAt T X.K H c y ds:=by
 obtain ⟨a,dx,fs,m0,e1,e2,e3,e4,r⟩:=fr.sl 0 _ e0
 exact ⟨a,m0,e1,dx,fs,e2,e4,by omega,r⟩
theorem q7l {g:Str} {pg:Pos} (har:ar < (T.fl c).length) (FO:q0X X.prog X.w X.K X.mg X.base (CXE T X.prog X.w) k f fd ps (spM T X.K c false ps.length F)) (hr:Room k X.A) (hg:Gl X g) (hm:X.mg g=some (.ref f)) (hk:PySem.W.keepIn X.K (.ref f)=true) (hb:Binds X.K fd ps []) (hn:n+1=ps.length) (ha:DG T X es fs)
 (hN:X.N[0]?=some x:=by rfl) (hv:Vis X.env.scope x:=by walk_at "v0") (hd:(x==("__debug__" : Str))=false:=by decide) (hcd:(x==("__classdict__" : Str))=false:=by decide)
 (hdb:(g==("__debug__" : Str))=false:=by decide) (he:starEach (.Name x p::es) X.env=(false,eval (.Name x p) X.env)::starEach es X.env:=by exact q0q rfl) (hpl:(backTo pos (starEach es X.env)).any (·.1)=false:=by exact q0r rfl) :
 DM T X (.Call (.Name g pg) (.Name x p::es) [] pos) (eM n c ar F fs):=.mk λG E hp=>by
 rintro pins s σ H Q I ⟨ρ,fr,h⟩
 have h:AccE T X G E σ H Q (eM n c ar F fs ρ):=h
 unfold eM at h
 cases e0:ρ[0]? with
 | none=>simp only [e0] at h;exact h.elim
 | some sl=>
  cases sl with
  | me c' ds=>
   simp only [e0] at h
   by_cases hc:c'=c/\ds.length=ar
   ·rw [if_pos hc] at h
    obtain ⟨rfl,hl⟩:=hc
    obtain ⟨y,m0,e1,hi⟩:=j1W har fr e0 hl
    refine wpAny_Call_Name_kw (q1E (X:=X.wish E) I hg hm ?_ hdb)
    refine PySem.W.callWith_K (h₀:=X.base) I.ok.mod.kin hk (thn (q0t (X:=X.wish E) (q0W (X:=X.wish E) hN hv hd hcd) (ha.run G E hp) he pos pins s σ H (λvs H1=>∃rest ss,vs=.ref y::rest/\ArgsOk T X.K H1 rest ss/\ss.length=n/\ss.all q3P=true/\Same H H1/\AccE T X G E σ H Q (j0p c' ρ (F ds [] ss))) I ⟨_,e1,ρ,fr,?_⟩) λus s1 ⟨vs,H1,I1,r,rest,ss,ev,ha1,hl1,hsh,s1',q⟩=>⟨I1.kIn,?_⟩) he hpl
    ·cases ef:fs ρ with
     | ok ss=>
      rw [ef] at h
      by_cases hls:ss.length=n/\ss.all q3P=true
      ·simp only [j3V,if_pos hls] at h
       exact λvs H1 s1 r1=>⟨vs,ss,rfl,r1,hls.1,hls.2,s1,h⟩
      ·simp only [j3V,if_neg hls] at h;exact h.elim
     | exc x=>rw [ef] at h;exact h H fr (Pers.refl H)
     | bad=>rw [ef] at h;exact h.elim
    ·subst ev
     have hi1:=hi.mono s1'
     have la:=ArgsOk.length ss rest ha1
     have lr:=r.length
     rw [List.length_cons] at lr
     exact j2Q (X:=X) (m:=none) (ks:=[]) FO hr hb I1 r rfl hi1 rfl (q6h (pers0 hi1 (Same.refl _)) _ _ hsh ha1) (by rw [List.nil_append];omega) (j0O (fr.mono s1') e0 m0 hi1 (Pers.of s1') q)
   ·rw [if_neg hc] at h;exact h.elim
  | _=>simp only [e0] at h;exact h.elim
theorem q7a {mth:Str} {pl:Sem Bool} (har:ar < (T.fl c).length) (cls:Cls X.K (T.ca c)) (hm:Meth X.K (T.ca c) mth f) (hmf:mth∉T.fl c) (FO:q0X X.prog X.w X.K X.mg X.base (CXE T X.prog X.w) k f fd ps (spM T X.K c false ps.length F)) (hr:Room k X.A) (hb:Binds X.K fd ps []) (hn:n+1=ps.length) (ha:DG T X (e::es) fs)
 (hN:X.N[0]?=some x:=by rfl) (hv:Vis X.env.scope x:=by walk_at "v0") (hd:(x==("__debug__" : Str))=false:=by decide) (hcd:(x==("__classdict__" : Str))=false:=by decide)
 (hst:starEach (e::es) X.env=(false,eval e X.env)::starEach es X.env:=by exact q0q rfl) (hpl:(backTo pos (starEach es X.env)).any (·.1)=false:=by exact q0r rfl)
 (ht:eval (.Call (.Attribute (.Name x p) mth apos) (e::es) [] pos) X.env=(do
  let ov <-eval (.Name x p) X.env
  standAt apos.atName
  let (f,first) <-holding [ov] (getMethod ov mth pl)
  callWith pos f first (backTo pos (starEach (e::es) X.env)) (backToKw pos (keywordEach [] X.env))):=by rfl) :
 DM T X (.Call (.Attribute (.Name x p) mth apos) (e::es) [] pos) (eM n c ar F fs):=.mk λG E hp=>by
 rintro pins s σ H Q I ⟨ρ,fr,h⟩
 have h:AccE T X G E σ H Q (eM n c ar F fs ρ):=h
 unfold eM at h
 cases e0:ρ[0]? with
 | none=>simp only [e0] at h;exact h.elim
 | some sl=>
  cases sl with
  | me c' ds=>
   simp only [e0] at h
   by_cases hc:c'=c/\ds.length=ar
   ·rw [if_pos hc] at h
    obtain ⟨rfl,hl⟩:=hc
    obtain ⟨y,m0,e1,hi⟩:=j1W har fr e0 hl
    refine PySem.W.methodCall_KW (pl:=pl) (thn (q0W (X:=X.wish E) hN hv hd hcd pins s σ H (λx H1=>x=.ref y/\H1=H) I ⟨_,e1,rfl,rfl⟩) λu s1 ⟨xv,H1,I1,rx,ex,eH⟩=>?_) ht
    subst ex eH
    obtain rfl:u=Value.ref y:=rx
    obtain ⟨dx,fl,q1,q2,q3,q4⟩:=id hi
    refine q3o (X:=X.wish E) I1 q1 cls hm (q1K (by rw [q2];exact λz=>hmf (List.mem_of_mem_take z))) ?_
    refine PySem.W.callWith_K (first:=[.ref y]) (h₀:=X.base) I.ok.mod.kin hm.kp (thn (ha.run G E hp pos pins s1 σ H1 (λvs H2=>∃ss,ArgsOk T X.K H2 vs ss/\ss.length=n/\ss.all q3P=true/\Same H1 H2/\AccE T X G E σ H1 Q (j0p c' ρ (F ds [] ss))) I1 ⟨ρ,fr,?_⟩) λus s2 ⟨vs,H2,I2,r,ss,ha2,hl2,hsh,s2',q2⟩=>⟨I2.kIn,?_⟩) hst hpl
    ·cases ef:fs ρ with
     | ok ss=>
      rw [ef] at h
      by_cases hls:ss.length=n/\ss.all q3P=true
      ·simp only [j3V,if_pos hls] at h
       exact λvs H1 s1 r1=>⟨ss,r1,hls.1,hls.2,s1,h⟩
      ·simp only [j3V,if_neg hls] at h;exact h.elim
     | exc x=>rw [ef] at h;exact h H1 fr (Pers.refl H1)
     | bad=>rw [ef] at h;exact h.elim
    ·have hi1:=hi.mono s2'
     have la:=ArgsOk.length ss vs ha2
     have lr:=r.length
     exact j2Q (X:=X) (us:=.ref y::us) (m:=none) (ks:=[]) FO hr hb I2 (.cons rfl r) rfl hi1 rfl (q6h (pers0 hi1 (Same.refl _)) _ _ hsh ha2) (by rw [List.length_cons];omega) (j0O (fr.mono s2') e0 m0 hi1 (Pers.of s2') q2)
   ·rw [if_neg hc] at h;exact h.elim
  | _=>simp only [e0] at h;exact h.elim
@[simp] noncomputable def j3r (is:List Nat) (fM:Ro->OutE) (ρ:Ro):Fl:=(fM ρ).fl λd ρ'=>match j0S is ρ' d with
 | .ok ρ'=>.nx ρ'
 | _=>.bad
theorem q7p {tg:Expr} {is:List Nat} (he:DM T X e fM) (hg:TgD T X tg (j0S is)) (hs:swapsWithSole [tg] e pos.line X.env=pure false:=by rfl) (hw:swappedStores [tg] e X.env=pure none:=by rfl)
 (h1:(assignEach [tg] X.env).map (·.2)=[assign tg X.env]:=by rfl):DS T false X (.Assign [tg] e pos) (j3r is fM):=.mk λG E hp=>by
 obtain ⟨tgr,hpg,hgr⟩:=hg E
 refine PS.imp (j4Y (X:=X.wish E) (he.run G E hp) hpg hs hw h1) λD σ H ⟨ρ,fr,h⟩=>⟨ρ,fr,AccE.fl (o:=fM ρ) h λd ρ' _ v H1 fr1 p1 r1 hd=>?_⟩
 cases eg:j0S is ρ' d with
 | ok ρ2=>
  simp only [eg] at hd
  exact hgr G H1 σ ρ' ρ2 d v _ fr1 r1 eg fun σ' fr'=>hd σ' H1 fr' (Pers.refl H1)
 | exc c=>simp only [eg] at hd;exact hd.elim
 | bad=>simp only [eg] at hd;exact hd.elim
@[simp] noncomputable def j7m (c ar:Nat) (mo:Bool) (d:D) (ρ:Ro):Fl:=j2c c ar mo ρ .bad λds ks=>.rm d c ds ks
theorem q5G {mo:Bool} {G H:Hp} {σ:L2.St} {ρ:Ro} {E:Value->Shared->Prop} {d:D} {v:V} {D₀:Ends} (har:ar < (T.fl c).length) (hmo:T.mo.isSome=mo) (fr:FR T X.K G H σ ρ) (r:Rep T X.K H d v) (h:AccS T false X G E H (j7m c ar mo d ρ) D₀):D₀.rt v H:=by
 obtain ⟨y,ds,ks,m0,_,_,_,h1,h2,h3⟩:=q3Y (T:=T) (R:=λo=>AccS T false X G E H o D₀) (bad:=Fl.bad) (λz=>z) har hmo fr h
 exact h3 v H fr.same r ⟨y,m0,h1⟩ h2
@[simp] noncomputable def q2L (c ar:Nat) (mo:Bool) (fe:Ev) (ρ:Ro):Fl:=(fe ρ).fl ρ λd=>j7m c ar mo d ρ
theorem q1j {mo:Bool} (har:ar < (T.fl c).length) (hmo:T.mo.isSome=mo) (he:DE T X e fe):DS T false X (.Return (some e) pos) (q2L c ar mo fe):=.mk λG E hp=>
 PS.imp (q4a (he.run G E hp)) λD σ H ⟨ρ,fr,h⟩=>⟨ρ,fr,Acc.mono (AccS.fl fr h) λd _ hd v H1 s1 r1=>q5G har hmo (fr.mono s1) r1 (AccS.heap (Pers.of s1) hd)⟩
@[simp] noncomputable def j3A (c ar:Nat) (mo:Bool) (w:Str) (fM:Ro->OutE) (ρ:Ro):Fl:=(fM ρ).fl λd ρ'=>j7m c ar mo (.tup [.str w,d]) ρ'
theorem q69 {mo:Bool} {w:Str} {j:Nat} {pc:Pos} {x1:Nat} (har:ar < (T.fl c).length) (hmo:T.mo.isSome=mo) (he:DM T X e fM)
 (h1:starEach [.Constant (.str w) j pc,e] X.env=(false,eval (.Constant (.str w) j pc) X.env)::starEach [e] X.env:=by exact q0q rfl) (h2:starEach [e] X.env=(false,eval e X.env)::starEach [] X.env:=by exact q0q rfl) :
 DS T false X (.Return (some (.Tuple [.Constant (.str w) j pc,e] x1 p)) pos) (j3A c ar mo w fM):=.mk λG E hp=>
 PS.imp (q4a (j10 (X:=X.wish E) (q0t (X:=X.wish E) j1H (q0t (X:=X.wish E) (he.run G E hp) q06 h2) h1))) λD σ H ⟨ρ,fr,h⟩=>⟨ρ,fr,AccE.fl (o:=fM ρ) h λd ρ' _ v H1 fr1 p1 r1 hd=>
  ⟨by show 2<=sizeLine;decide,λq hq=>q5G har hmo (fr1.mono (q0B hq)) (show Rep T X.K _ (.tup [.str w,d]) (.ref q) from ⟨q,[.str w,v],rfl,SqT.of q0j,_,_,rfl,rfl,_,_,rfl,Rep.mono (q0B hq) _ _ r1,rfl⟩) (AccS.heap (Pers.of (q0B hq)) hd)⟩⟩
@[simp] noncomputable def j7V (fM:Ro->OutE) (fb:Ro->Fl) (ρ:Ro):Fl:=(fM ρ).fl λd ρ'=>match d with
 | .bl true=>.nx ρ'
 | .bl false=>fb ρ'
 | _=>.bad
theorem j5c {pn:Pos} (he:DM T X e fM) (hb:DSs T false X body fbo) (ht:∀whole,isTrue e X.env whole=(do let v <-whole;standAt e.pos;holding [v] (truthy v)):=by intro _;rfl):DS T false X (.If (.UnaryOp .Not e pn) body [] pos) (j7V fM fbo):=.mk λG E hp=>
 PS.imp (j4K (j1s (X:=X.wish E) (q6c (X:=X.wish E) (he.run G E hp) ht)) (hb.run G E hp) q9i) λD σ H ⟨ρ,fr,h⟩=>⟨ρ,fr,AccE.fl (o:=fM ρ) h λd ρ' _ v H1 fr1 p1 r1 hd=>by
  cases d with
  | bl b=>
   refine ⟨b,j7I (X:=X) (d:=.bl b) (H:=H1) (k:=b) r1 rfl,?_⟩
   cases b with
   | true=>exact hd σ H1 fr1 (Pers.refl H1)
   | false=>exact ⟨ρ',fr1,hd⟩
  | _=>exact hd.elim⟩
end
section
variable {T:Tb} {ib:Bool} {X:Cx} {e o a b:Expr} {es:List Expr} {pos pos' p p1 p2 p3 p4 apos:Pos} {fe fa fb:Ev} {fs:Ro->Out (List Sl)} {k n c ar:Nat} {f:Addr} {fd:FuncData} {ps:List Str} {F:FnM} {x z:Str} {fl:Ro->Out (List D)}
theorem q5r {a:Str} {v:V}:∀{fs:List (Str×V)} {j:Nat},(fs.map (·.1)).Nodup->(fs.map (·.1))[j]?=some a->(q2y a v fs).map (·.1)=fs.map (·.1)/\(q2y a v fs).map (·.2)=(fs.map (·.2)).set j v
 | [],_,_,h=>by simp at h
 | (b,u)::r,0,_,h=>by
  obtain rfl:b=a:=by simpa using h
  rw [q2y,if_pos rfl];exact ⟨rfl,rfl⟩
 | (b,u)::r,j+1,nd,h=>by
  rw [List.map_cons,List.nodup_cons] at nd
  rw [List.map_cons,List.getElem?_cons_succ] at h
  have hb:¬b=a:=λz=>nd.1 (z ▸ List.mem_of_getElem? h)
  obtain ⟨q1,q2⟩:=q5r (v:=v) nd.2 h
  rw [q2y,if_neg hb]
  exact ⟨by rw [List.map_cons,List.map_cons,q1],by rw [List.map_cons,List.map_cons,List.set_cons_succ,q2]⟩
@[simp] noncomputable def q8b (c j ar:Nat) (fe:Ev) (ρ:Ro):Fl:=(fe ρ).fl ρ λd=>match (ρ[0]?:Option Sl) with
 | some (.me c' ds)=>if c'=c/\j<=ds.length/\ds.length<=ar then .nx (ρ.set 0 (.me c (if j < ds.length then ds.set j d else ds++[d]))) else .bad
 | _=>.bad
theorem q3A {at_:Str} (j:Nat) (har:ar < (T.fl c).length) (hja:j < ar) (cl:Cls X.K (T.ca c)) (na:NoAttr X.K (T.ca c) at_) (hj:(T.fl c)[j]?=some at_) (hnd:(T.fl c).Nodup) (h1000:ar < 1000) (he:DE T X e fe) (hN:X.N[0]?=some x:=by rfl) (hv:Vis X.env.scope x:=by walk_at "v0")
 (hs:swapsWith e (some (.Attribute (.Name x p) at_ pos')) pos.line X.env=pure false:=by exact q03 rfl) (hd:(x==("__debug__" : Str))=false:=by decide) (hcd:(x==("__classdict__" : Str))=false:=by decide) :
 DS T false X (.Assign [.Attribute (.Name x p) at_ pos'] e pos) (q8b c j ar fe):=.mk λG E hp=>by
 refine PS.imp (j0T (X:=X.wish E) (q0W (X:=X.wish E) hN hv hd hcd) (he.run G E hp) hs) λD σ H ⟨ρ,fr,h⟩=>⟨ρ,fr,Acc.mono (AccS.fl fr h) λd _ hd2 v H1 s1 rd=>?_⟩
 have fr1:=fr.mono s1
 cases e0:ρ[0]? with
 | none=>simp only [e0] at hd2;exact hd2.elim
 | some sl=>
  cases sl with
  | me c' ds=>
   simp only [e0] at hd2
   by_cases hc:c'=c/\j<=ds.length/\ds.length<=ar
   ·rw [if_pos hc] at hd2
    obtain ⟨rfl,hjl,hla⟩:=hc
    obtain ⟨y,dx,fs,m0,e1,e2,e3,e4,r⟩:=fr1.sl 0 _ e0
    have hi:InsAt T X.K H1 c' y ds:=⟨dx,fs,e2,e4,by omega,r⟩
    have hfl:fs.length=ds.length:=by have:=RepL.length _ _ r;simpa using this
    have hnds:(fs.map (·.1)).Nodup:=by rw [e4];exact hnd.sublist (List.take_sublist _ _)
    refine ⟨_,e1,y,T.ca c',dx,fs,rfl,e2,cl,na,by omega,?_⟩
    have p:Pers T false H1 (upd H1 y (.ins (T.ca c') dx (q2y at_ v fs))):=q5B hi
    refine hd2 σ _ (fr1.me_new e0 (λz=>by rw [m0] at z;cases z;exact hi) p (λa o q n=>by rw [q0d (λz=>by subst z;exact n m0)];exact q) λa z=>?_) ((Pers.of s1).trans p)
    rw [m0] at z;cases z
    by_cases hlt:j < ds.length
    ·rw [if_pos hlt]
     have ej:(fs.map (·.1))[j]?=some at_:=by rw [e4,List.getElem?_take_of_lt hlt];exact hj
     obtain ⟨q1,q2⟩:=q5r (v:=v) hnds ej
     refine ⟨dx,_,q0j,by rw [q1,e4,List.length_set],by rw [List.length_set];omega,?_⟩
     rw [q2]
     exact RepL.set _ _ _ _ _ (RepL.pers p _ _ r) (Rep.pers p _ _ rd)
    ·rw [if_neg hlt]
     have hjj:ds.length=j:=by omega
     have hnm:at_∉fs.map (·.1):=λz=>by
      rw [e4,hjj] at z
      obtain ⟨i,hi⟩:=List.getElem?_of_mem z
      obtain ⟨hi1,_⟩:=List.getElem?_eq_some_iff.mp hi
      rw [List.length_take] at hi1
      rw [List.getElem?_take_of_lt (by omega)] at hi
      have:=q2C hnd hi hj
      omega
     refine ⟨dx,_,q0j,?_,by rw [List.length_append,List.length_cons,List.length_nil];omega,?_⟩
     ·rw [q19 hnm,List.map_append,e4,List.length_append,List.length_cons,List.length_nil,hjj,List.take_succ,hj];rfl
     ·have q:(q2y at_ v fs).map (·.2)=fs.map (·.2)++[v]:=by rw [q19 hnm,List.map_append];rfl
      rw [q]
      exact RepL.append _ _ _ _ (RepL.pers p _ _ r) ⟨v,[],rfl,Rep.pers p _ _ rd,rfl⟩
   ·rw [if_neg hc] at hd2;exact hd2.elim
  | _=>simp only [e0] at hd2;exact hd2.elim
@[simp] noncomputable def atN (ds:List D) (j:Nat):Out D:=match ds[j]? with
 | some d=>.ok d
 | none=>.bad
@[simp] noncomputable def q3d (i c j:Nat) (ρ:Ro):Out D:=match ρ[i]? with
 | some (.me c' ds)=>if c'=c then atN ds j else .bad
 | some (.bi c' ds)=>if c'=c then atN ds j else .bad
 | _=>.bad
theorem q8T {K:PySem.W.Frag} {H:Hp} {at_:Str} {j:Nat} {ds:List D} {fs:List (Str×V)} {d:D} (e:fs.map (·.1)=(T.fl c).take ds.length) (r:RepL T K H ds (fs.map (·.2))) (hj:(T.fl c)[j]?=some at_) (hnd:(T.fl c).Nodup) (ed:ds[j]?=some d):∃w,fs.lookup at_=some w/\Rep T K H d w:=by
 obtain ⟨w,ew,rw'⟩:=RepL.get _ _ _ _ r ed
 have hl:j < ds.length:=(List.getElem?_eq_some_iff.mp ed).1
 exact ⟨w,q23 (by rw [e];exact hnd.sublist (List.take_sublist _ _)) (by rw [e,List.getElem?_take_of_lt hl];exact hj) ew,rw'⟩
theorem q1I {at_:Str} (i j:Nat) (cl:Cls X.K (T.ca c)) (na:NoAttr X.K (T.ca c) at_) (hj:(T.fl c)[j]?=some at_) (hnd:(T.fl c).Nodup) (hN:X.N[i]?=some x:=by rfl) (hv:Vis X.env.scope x:=by walk_at "v0")
 (hb:attributeBase (.Name x p) at_ X.env (eval (.Name x p) X.env)=eval (.Name x p) X.env:=by rfl) (hd:(x==("__debug__" : Str))=false:=by decide) (hcd:(x==("__classdict__" : Str))=false:=by decide):DE T X (.Attribute (.Name x p) at_ pos) (q3d i c j):=.mk λG E hp=>
 PE.imp (q9h (X:=X.wish E) (q0W (X:=X.wish E) hN hv hd hcd) hb) fun σ H Q ⟨ρ,fr,q⟩=>by
  unfold q3d at q
  have key:∀{ds:List D} {y dx:Addr} {fs:List (Str×V)},σ[i]?=some (some (.ref y))->H y=some (.ins (T.ca c) dx fs)->fs.map (·.1)=(T.fl c).take ds.length->RepL T X.K H ds (fs.map (·.2))->Acc T X E σ H (atN ds j) (kE T X.K H Q)->j7P X.K (j62 i) at_ σ H Q:=λ{ds y dx fs} e1 e2 e4 r q=>by
   unfold atN at q
   cases ed:ds[j]? with
   | none=>simp only [ed] at q;exact q.elim
   | some d=>
    simp only [ed] at q
    obtain ⟨w,ew,rw'⟩:=q8T e4 r hj hnd ed
    exact ⟨_,e1,y,T.ca c,dx,fs,w,rfl,e2,cl,na,ew,q w H (Same.refl H) rw'⟩
  split at q
  ·rename_i c' ds e0
   by_cases hc:c'=c
   ·rw [if_pos hc] at q;subst hc
    obtain ⟨y,dx,fs,m0,e1,e2,e3,e4,r⟩:=fr.sl i _ e0
    exact key e1 e2 e4 r q
   ·rw [if_neg hc] at q;exact q.elim
  ·rename_i c' ds e0
   by_cases hc:c'=c
   ·rw [if_pos hc] at q;subst hc
    obtain ⟨y,dx,fs,e1,e2,e4,e5,r⟩:=fr.sl i _ e0
    exact key e1 (fr.same _ _ e2) e4 r q
   ·rw [if_neg hc] at q;exact q.elim
  ·exact q.elim
@[simp] noncomputable def gMe (i c ar:Nat) (fs:Ro->Out (List Sl)) (ρ:Ro):Out (List Sl):=match ρ[i]? with
 | some (.me c' ds)=>if c'=c/\ds.length=ar then (fs ρ).bind λss=>.ok (.bi c ds::ss) else .bad
 | some (.bi c' ds)=>if c'=c/\ds.length=ar then (fs ρ).bind λss=>.ok (.bi c ds::ss) else .bad
 | _=>.bad
theorem j6Q (i:Nat) (har:ar < (T.fl c).length) (hr:DG T X es fs) (hs:starEach (.Name x pos::es) X.env=(false,eval (.Name x pos) X.env)::starEach es X.env:=by exact q0q rfl) (hN:X.N[i]?=some x:=by rfl) (hv:Vis X.env.scope x:=by walk_at "v0") (hd:(x==("__debug__" : Str))=false:=by decide)
 (hcd:(x==("__classdict__" : Str))=false:=by decide):DG T X (.Name x pos::es) (gMe i c ar fs):=.mk λG E hp=>by
 refine PA.imp (q0t (X:=X.wish E) (q0W (X:=X.wish E) hN hv hd hcd) (hr.run G E hp) hs) fun σ H Q ⟨ρ,fr,h⟩=>?_
 unfold gMe at h
 have key:∀{ds:List D} {y:Addr},σ[i]?=some (some (.ref y))->InsAt T X.K H c y ds->Acc T X E σ H ((fs ρ).bind λss=>.ok (.bi c ds::ss)) (λds=>∀vs H',Same H H'->ArgsOk T X.K H' vs ds->Q vs H')->j5p (j62 i) (tG T X G E fs) σ H Q:=λ{ds y} e1 hi q=>
  ⟨_,e1,ρ,fr,Acc.mono (Acc.bind q) λss _ hss us H2 s2 r2=>hss (.ref y::us) H2 s2 ⟨_,us,rfl,⟨y,rfl,hi.mono s2⟩,r2⟩⟩
 split at h
 ·rename_i c' ds e0
  by_cases hc:c'=c/\ds.length=ar
  ·rw [if_pos hc] at h
   obtain ⟨rfl,hl⟩:=hc
   obtain ⟨y,dx,fs,m0,e1,e2,e3,e4,r⟩:=fr.sl i _ e0
   exact key e1 ⟨dx,fs,e2,e4,by omega,r⟩ h
  ·rw [if_neg hc] at h;exact h.elim
 ·rename_i c' ds e0
  by_cases hc:c'=c/\ds.length=ar
  ·rw [if_pos hc] at h
   obtain ⟨rfl,hl⟩:=hc
   obtain ⟨y,dx,fs,e1,e2,e4,e5,r⟩:=fr.sl i _ e0
   exact key e1 ⟨dx,fs,fr.same _ _ e2,e4,e5,r⟩ h
  ·rw [if_neg hc] at h;exact h.elim
 ·exact h.elim
theorem j1D {G H:Hp} {σ:L2.St} {ρ:Ro} {i:Nat} {ds es:List D} {a:Addr} {vs ws:List V} (fr:FR T X.K G H σ ρ) (e:ρ[i]?=some (.mo ds)) (m0:T.mo=some a) (e1:σ[i]?=some (some (.ref a))) (e2:H a=some (.lst vs)) (e3:G a=none) (r:RepL T X.K H es ws):FR T X.K G (upd H a (.lst ws)) σ (ρ.set i (.mo es)):=
 fr.own_gen e e1 e2 e3 ⟨a,ws,m0,e1,q0j,e3,RepL.pers (q1u (b:=false) e2) _ _ r⟩ (λ_ o=>o) (λ_ _ z=>by cases z)
@[simp] noncomputable def j28 (i:Nat) (fe:Ev) (ρ:Ro):Fl:=match ρ[i]? with
 | some (.mo ds)=>(fe ρ).fl ρ λd=>if ds.length < 1000000 then .nx (ρ.set i (.mo (ds++[d]))) else .bad
 | _=>.bad
theorem j3B (i:Nat) (he:DE T X e fe) (hN:X.N[i]?=some x:=by rfl) (hv:Vis X.env.scope x:=by walk_at "v0") (hd:(x==("__debug__" : Str))=false:=by decide)
 (hcd:(x==("__classdict__" : Str))=false:=by decide) (hs:starEach [e] X.env=(false,eval e X.env)::starEach [] X.env:=by exact q0q rfl) (hpl:(backTo p3 (starEach ([]:List Expr) X.env)).any (·.1)=false:=by exact q0r rfl) (hst:([e]:List Expr).all q1G=true:=by rfl)
 (hline:(p2.endLine==p3.line)=true:=by rfl) :
 DS T ib X (.Expr (.Call (.Attribute (.Name x p) "append" p2) [e] [] p3) pos) (j28 i fe):=.mk λG E hp=>
 PS.imp (q3E (X:=X.wish E) (q9N (X:=X.wish E) PySem.F.plainAttrs_list PySem.F.slot_list_append PySem.F.type_list_append q2U (q0W (X:=X.wish E) hN hv hd hcd) (q0t (X:=X.wish E) (he.run G E hp) q06 hs) rfl (q55 hst rfl) hline hs hpl) (q03 rfl)) λD σ H ⟨ρ,fr,h⟩=>by
  unfold j28 at h
  split at h
  ·rename_i ds e0
   obtain ⟨l,vs,m0,e1,e2,e3,r⟩:=fr.sl i _ e0
   refine ⟨_,e1,.inl ⟨rfl,vs,SqL.of e2⟩,ρ,fr,Acc.mono (AccS.fl fr h) λd _ hd v H1 s1 r1=>?_⟩
   by_cases z:ds.length < 1000000
   ·rw [if_pos z] at hd
    have r':=RepL.mono s1 _ _ r
    refine ⟨l,vs,v,rfl,rfl,s1 _ _ e2,?_,hd σ _ (j1D (fr.mono s1) e0 m0 e1 (s1 _ _ e2) e3 (RepL.append _ _ _ _ r' ⟨v,[],rfl,r1,rfl⟩)) ((Pers.of s1).trans (q1u (s1 _ _ e2)))⟩
    rw [RepL.length _ _ r]
    have:=line6 (n:=1000000) (by omega)
    omega
   ·rw [if_neg z] at hd;exact hd.elim
  ·exact h.elim
theorem RepL.eraseIdx {K:PySem.W.Frag} {H:Hp}:∀(ds:List D) (vs:List V) (i:Nat),RepL T K H ds vs->RepL T K H (ds.eraseIdx i) (vs.eraseIdx i)
 | [],_,_,h=>by cases h;exact rfl
 | d::ds,_,0,⟨v,r,e,_,h⟩=>by subst e;exact h
 | d::ds,_,i+1,⟨v,r,e,h1,h⟩=>by subst e;exact ⟨v,_,rfl,h1,RepL.eraseIdx ds r i h⟩
@[simp] noncomputable def j2w (i:Nat) (fe:Ev) (ρ:Ro):Fl:=match ρ[i]? with
 | some (.mo ds)=>(fe ρ).fl ρ λd=>match d with
  | .int k=>if ds.length < 1000000 then (match ixN ds.length k with | some j=>.nx (ρ.set i (.mo (ds.eraseIdx j))) | none=>.bad) else .bad
  | _=>.bad
 | _=>.bad
theorem j2O (i:Nat) (he:DE T X e fe) (hN:X.N[i]?=some x:=by rfl) (hv:Vis X.env.scope x:=by walk_at "v0") (hd:(x==("__debug__" : Str))=false:=by decide)
 (hcd:(x==("__classdict__" : Str))=false:=by decide) (hs:starEach [e] X.env=(false,eval e X.env)::starEach [] X.env:=by exact q0q rfl) (hpl:(backTo p3 (starEach ([]:List Expr) X.env)).any (·.1)=false:=by exact q0r rfl) (hst:([e]:List Expr).all q1G=true:=by rfl)
 (hline:(p2.endLine==p3.line)=true:=by rfl) :
 DS T ib X (.Expr (.Call (.Attribute (.Name x p) "pop" p2) [e] [] p3) pos) (j2w i fe):=.mk λG E hp=>
 PS.imp (q3E (X:=X.wish E) (q9N (X:=X.wish E) PySem.F.plainAttrs_list PySem.F.slot_list_pop PySem.F.type_list_pop j0m (q0W (X:=X.wish E) hN hv hd hcd) (q0t (X:=X.wish E) (he.run G E hp) q06 hs) rfl (q55 hst rfl) hline hs hpl) (q03 rfl)) λD σ H ⟨ρ,fr,h⟩=>by
  unfold j2w at h
  split at h
  ·rename_i ds e0
   obtain ⟨l,vs,m0,e1,e2,e3,r⟩:=fr.sl i _ e0
   refine ⟨_,e1,.inl ⟨rfl,vs,SqL.of e2⟩,ρ,fr,Acc.mono (AccS.fl fr h) λd _ hd v H1 s1 r1=>?_⟩
   cases d with
   | int k=>
    by_cases z:ds.length < 1000000
    ·simp only [if_pos z] at hd
     cases ek:ixN ds.length k with
     | none=>simp only [ek] at hd;exact hd.elim
     | some j=>
      simp only [ek] at hd
      obtain ⟨q1,q2,q3,q4⟩:=q3M ek
      have hl:=RepL.length _ _ r
      have r':=RepL.mono s1 _ _ r
      obtain ⟨w,hw⟩:∃w,vs[j]?=some w:=⟨vs[j]'(by omega),List.getElem?_eq_getElem (by omega)⟩
      exact ⟨l,vs,k,j,w,rfl,by cases r1;rfl,s1 _ _ e2,by omega,by omega,by rw [hl];exact q1,hw,hd σ _ (j1D (fr.mono s1) e0 m0 e1 (s1 _ _ e2) e3 (RepL.eraseIdx _ _ _ r')) ((Pers.of s1).trans (q1u (s1 _ _ e2)))⟩
    ·simp only [if_neg z] at hd;exact hd.elim
   | _=>exact hd.elim
  ·exact h.elim
end
noncomputable abbrev Mu:=Option Nat×List D
noncomputable def MuF (T:Tb) (K:PySem.W.Frag) (H H':Hp) (ms:List Mu) (vs:List V):Prop:=vs.length=ms.length/\(∀(i:Nat) (m:Mu) (v:V),ms[i]?=some m->vs[i]?=some v->MuAt T K H H' v m)/\∀(i j:Nat) (v:V),vs[i]?=some v->vs[j]?=some v->i=j
noncomputable def tU (T:Tb) (X:Cx) (G:Hp) (E:Value->Shared->Prop) (f:Ro->Out (List Mu)):TA:=fun σ H Q=>∃ρ,FR T X.K G H σ ρ/\Acc T X E σ H (f ρ) (λms=>∀vs H',Same H H'->MuF T X.K H H' ms vs->Q vs H')
structure DU (T:Tb) (X:Cx) (es:List Expr) (f:Ro->Out (List Mu)):Prop where
 mk ::
 run:∀(G:Hp) (E:Value->Shared->Prop),PassesOwn (model X.prog X.w) X.A X.env E->PA (X.wish E) es (tU T X G E f)
section
variable {T:Tb} {X:Cx} {e o a b:Expr} {es:List Expr} {pos pos' p p1 p2 p3 p4 apos:Pos} {fe fa fb:Ev} {fs:Ro->Out (List Sl)} {fu:Ro->Out (List Mu)} {fl:Ro->Out (List D)} {k n c ar:Nat} {f:Addr} {fd:FuncData} {ps:List Str} {F:FnM} {x z:Str}
theorem MuAt.there {K:PySem.W.Frag} {G H:Hp} {v:V}:∀{m:Mu},MuAt T K G H v m->∃a o,v=.ref a/\H a=some o/\G a=none
 | (none,_),⟨a,vs,e,h,g,_⟩=>⟨a,_,e,h,g⟩
 | (some _,_),⟨a,e,_,g,dx,fs,h,_⟩=>⟨a,_,e,h,g⟩
theorem MuAt.base {K:PySem.W.Frag} {G G' H:Hp} {v:V} (g:∀a,G a=none->G' a=none):∀{m:Mu},MuAt T K G H v m->MuAt T K G' H v m
 | (none,_),⟨a,vs,e,h,q,r⟩=>⟨a,vs,e,h,g _ q,r⟩
 | (some _,_),⟨a,e,t,q,r⟩=>⟨a,e,t,g _ q,r⟩
theorem j0x {K:PySem.W.Frag} {H H1 H2:Hp} {m:Mu} {ms:List Mu} {v:V} {vs:List V} (s1:Same H H1) (s2:Same H1 H2) (h1:MuAt T K H H1 v m) (h2:MuF T K H1 H2 ms vs):MuF T K H H2 (m::ms) (v::vs):=by
 obtain ⟨l,g,d⟩:=h2
 have nv:∀(i:Nat),vs[i]?≠some v:=λi q=>by
  have hl:i < ms.length:=l ▸ (List.getElem?_eq_some_iff.mp q).1
  obtain ⟨a,o,e,h,n⟩:=(g i _ v (List.getElem?_eq_getElem hl) q).there
  obtain ⟨a',o',e',h',n'⟩:=h1.there
  rw [e] at e';cases e';rw [h'] at n;cases n
 refine ⟨by simp [l],λi m' w q1 q2=>?_,λi j w q1 q2=>?_⟩
 ·cases i with
  | zero=>
   cases q1;cases q2
   exact h1.mono s2
  | succ i=>
   rw [List.getElem?_cons_succ] at q1 q2
   exact (g i m' w q1 q2).base λa q=>s1.free q
 ·cases i with
  | zero=>
   cases j with
   | zero=>rfl
   | succ j=>
    cases q1
    rw [List.getElem?_cons_succ] at q2
    exact absurd q2 (nv j)
  | succ i=>
   cases j with
   | zero=>
    cases q2
    rw [List.getElem?_cons_succ] at q1
    exact absurd q1 (nv i)
   | succ j=>
    rw [List.getElem?_cons_succ] at q1 q2
    rw [d i j w q1 q2]
@[simp] noncomputable def j7e (ρ:Ro):Out (List Mu):=.ok []
@[simp] noncomputable def q7W (f:Ro->Out Mu) (fu:Ro->Out (List Mu)) (ρ:Ro):Out (List Mu):=(f ρ).bind λm=>(fu ρ).bind λms=>.ok (m::ms)
@[simp] noncomputable def j6P (fl:Ro->Out (List D)) (ρ:Ro):Out Mu:=(fl ρ).bind λds=>.ok (none,ds)
@[simp] noncomputable def uMk (n c:Nat) (F:FnM) (fs:Ro->Out (List Sl)) (ρ:Ro):Out Mu:=(fs ρ).bind λss=>if ss.length=n then (match F [] [] ss with | .ok .non ds _=>.ok (some c,ds) | .exc x _ _=>.exc x | _=>.bad) else .bad
theorem j13:DU T X [] j7e:=.mk λG E hp=>PA.imp q06 fun σ H Q ⟨ρ,fr,h⟩=>h [] H (Same.refl H) ⟨rfl,λ_ _ _ q=>by simp at q,λ_ _ _ q=>by simp at q⟩
noncomputable def tU1 (T:Tb) (X:Cx) (G:Hp) (E:Value->Shared->Prop) (f:Ro->Out Mu):TE:=fun σ H Q=>∃ρ,FR T X.K G H σ ρ/\Acc T X E σ H (f ρ) (λm=>∀v H',Same H H'->MuAt T X.K H H' v m->Q v H')
theorem q3T {f:Ro->Out Mu} (h:∀(G:Hp) (E:Value->Shared->Prop),PassesOwn (model X.prog X.w) X.A X.env E->PE (X.wish E) e (tU1 T X G E f)) (hr:DU T X es fu) (hs:starEach (e::es) X.env=(false,eval e X.env)::starEach es X.env:=by exact q0q rfl):DU T X (e::es) (q7W f fu):=.mk λG E hp=>
 PA.imp (q0t (X:=X.wish E) (h G E hp) (hr.run G E hp) hs) fun σ H Q ⟨ρ,fr,h⟩=>⟨ρ,fr,Acc.mono (Acc.bind h) λm _ hm v H1 s1 r1=>⟨ρ,fr.mono s1,Acc.mono (Acc.bind (Acc.heap s1 hm)) λms _ hms vs H2 s2 r2=>hms (v::vs) H2 (s1.trans s2) (j0x s1 s2 r1 r2)⟩⟩
theorem j04 (he:DF T X e fl) (G:Hp) (E:Value->Shared->Prop) (hp:PassesOwn (model X.prog X.w) X.A X.env E):PE (X.wish E) e (tU1 T X G E (j6P fl)):=
 PE.imp (he.run G E hp) fun σ H Q ⟨ρ,fr,h⟩=>⟨ρ,fr,Acc.mono (Acc.bind h) λds _ hd a vs H1 s1 ha ha' r=>hd (.ref a) H1 s1 ⟨a,vs,rfl,ha',ha,r⟩⟩
theorem j4Q {pins:List (Addr×Obj)} {σ:L2.St} {H:Hp} {s:Shared} {E:Value->Shared->Prop} {Q:VK} {us:List Value} {vs:List V} {ss:List Sl} (M:Mk X.K (T.ca c) f) (FO:q0X X.prog X.w X.K X.mg X.base (CXE T X.prog X.w) k f fd ps (spM T X.K c false ps.length F)) (hr:Room (k+1) X.A) (hb:Binds X.K fd ps []) (h0:0 < (T.fl c).length)
 (I:Inv (X.wish E) pins σ H s) (r:Vals vs us) (ha:ArgsOk T X.K H vs ss) (hl:us.length+1=ps.length)
 (h:match F [] [] ss with | .ok .non ds _=>∀a H',Same H H'->H a=none->InsAt T X.K H' c a ds->Q (.ref a) H' | .exc x _ _=>∀H',Same H H'->XW T X E σ H' x | _=>False) :
 wpAny (model X.prog X.w) X.A (call (.ref (T.ca c)) us) (EP (X.wish E) pins σ Q) E s:=by
 have IX:Inv X pins σ H s:=I.unwish
 have I2:=Inv.made (C:=T.ca c) IX
 have hx:=IX.hok.fresh (a:=s.heap.objs.size+1) (Nat.le_succ _)
 have hdx:=IX.hok.fresh (a:=s.heap.objs.size) (Nat.le_refl _)
 have r2:Vals (V.ref (s.heap.objs.size+1)::vs) (Value.ref (s.heap.objs.size+1)::us):=.cons rfl r
 have hi:InsAt T X.K (upd (upd H s.heap.objs.size (.own (s.heap.objs.size+1))) (s.heap.objs.size+1) (.ins (T.ca c) s.heap.objs.size [])) c (s.heap.objs.size+1) []:=⟨s.heap.objs.size,[],q0j,by simp,h0,rfl⟩
 have sm:Same H (hid (upd (upd H s.heap.objs.size (.own (s.heap.objs.size+1))) (s.heap.objs.size+1) (.ins (T.ca c) s.heap.objs.size [])) (s.heap.objs.size+1) none):=λb o e=>by
  have n1:b≠s.heap.objs.size+1:=λz=>by rw [z,hx] at e;cases e
  have n2:b≠s.heap.objs.size:=λz=>by rw [z,hdx] at e;cases e
  exact q6j (by rw [q0d n1,q0d n2];exact e) n1 (by simp)
 let EX:XK:=λcls _ H'=>∃x,cls=.ref (T.ca x)/\XW T X E σ H' x
 have hsp:spM T X.K c false ps.length F (V.ref (s.heap.objs.size+1)::vs) (upd (upd H s.heap.objs.size (.own (s.heap.objs.size+1))) (s.heap.objs.size+1) (.ins (T.ca c) s.heap.objs.size [])) (λv H2=>v=.non/\Q (.ref (s.heap.objs.size+1)) H2) EX:=by
  refine ⟨_,none,vs,[],[],ss,rfl,rfl,hi,rfl,ha.mono sm,by rw [r2.length];simpa using hl,?_⟩
  cases ef:F [] [] ss with
  | ok rr ds' ks'=>
   rw [ef] at h
   cases rr with
   | non=>exact λv H' s' i' _ rv=>⟨rv,h _ H' (sm.trans s') hx i'⟩
   | _=>exact h.elim
  | exc x ds' ks'=>rw [ef] at h;exact λH' s' i' _=>⟨x,rfl,h H' (sm.trans s')⟩
  | bad=>rw [ef] at h;exact h.elim
 have hl2:(Value.ref (s.heap.objs.size+1)::us++[]).length=ps.length:=by simpa using hl
 refine wpAny_call (q5i (f:=f) IX.kIn M.makes M.init (beq_iff_eq.mp M.fn) (codeAny_mono (FO.run _ X.stack _ _ ⟨Value.ref (s.heap.objs.size+1)::us,[]⟩ (Value.ref (s.heap.objs.size+1)::us) _ _ EX (hr.make (T.ca c) us [])
  (I2.env0.make (T.ca c) us []) (by have:=hb _ (Value.ref (s.heap.objs.size+1)::us) I2.kIn hl2;simpa using this) r2 hsp) λres s' hq=>?_))
 cases res with
 | error ev=>
  obtain ⟨c1,H',I',fl,c',ec,hx'⟩:=Inv.flown I2 hq
  refine hx' pins s' ev H' I' (Same.refl _) ?_
  obtain ⟨ea,rfl,h1,h2,nc,oe,vs',a0,he,hc,rest⟩:=fl
  exact ⟨ea,rfl,h1,h2,nc,oe,vs',a0,he,hc.trans ec,rest⟩
 | ok fl=>
  cases fl with
  | ret u=>
   obtain ⟨v,H',I3,rv,ev,q3⟩:=I2.after hq
   subst ev
   exact ⟨rv,⟨V.ref (s.heap.objs.size+1),H',I3.wish E,rfl,q3⟩⟩
  | next=>exact False.elim hq
  | brk=>exact False.elim hq
  | cont=>exact False.elim hq
theorem q8V (hT:T.me=none) (M:Mk X.K (T.ca c) f) (FO:q0X X.prog X.w X.K X.mg X.base (CXE T X.prog X.w) k f fd ps (spM T X.K c false ps.length F)) (hr:Room (k+1) X.A) (h0:0 < (T.fl c).length) (hg:Gl X x) (hm:X.mg x=some (.ref (T.ca c))) (hb:Binds X.K fd ps [])
 (hn:n+1=ps.length) (ha:DG T X (e::es) fs) (hdb:(x==("__debug__" : Str))=false:=by decide) (he:starEach (e::es) X.env=(false,eval e X.env)::starEach es X.env:=by exact q0q rfl) (hpl:(backTo pos (starEach es X.env)).any (·.1)=false:=by exact q0r rfl)
 (G:Hp) (E:Value->Shared->Prop) (hp:PassesOwn (model X.prog X.w) X.A X.env E):PE (X.wish E) (.Call (.Name x p) (e::es) [] pos) (tU1 T X G E (uMk n c F fs)):=by
 rintro pins s σ H Q I ⟨ρ,fr,h⟩
 refine wpAny_Call_Name_kw (q1E (X:=X.wish E) I hg hm ?_ hdb)
 refine PySem.W.callWith_K (h₀:=X.base) I.ok.mod.kin M.kp (thn (ha.run G E hp pos pins s σ H (λvs H1=>∃ss,ArgsOk T X.K H1 vs ss/\ss.length=n/\Same H H1/\Acc T X E σ H1 (match F [] [] ss with | .ok .non ds _=>.ok (some c,ds) | .exc x _ _=>.exc x | _=>.bad) (λm=>∀v H',Same H H'->MuAt T X.K H H' v m->Q v H')) I ⟨ρ,fr,?_⟩) λus s1 ⟨vs,H1,I1,r,ss,ha1,hl1,s1',q⟩=>⟨I1.kIn,?_⟩) he hpl
 ·refine Acc.mono (Acc.bind h) λss _ hss vs H1 s1 r1=>?_
  by_cases hl:ss.length=n
  ·rw [if_pos hl] at hss
   exact ⟨ss,r1,hl,s1,Acc.heap s1 hss⟩
  ·rw [if_neg hl] at hss;exact hss.elim
 ·have la:=ArgsOk.length ss vs ha1
  have lr:=r.length
  refine j4Q (X:=X) M FO hr hb h0 I1 r ha1 (by simp only [List.nil_append];omega) ?_
  cases ef:F [] [] ss with
  | ok rr ds' ks'=>
   rw [ef] at q
   cases rr with
   | non=>exact λa H' s2 hn' i'=>q (.ref a) H' (s1'.trans s2) ⟨a,rfl,by rw [hT];simp,s1'.free hn',i'⟩
   | _=>exact q.elim
  | exc x' ds' ks'=>rw [ef] at q;exact λH' s2=>XW.mono s2 q
  | bad=>rw [ef] at q;exact q.elim
@[simp] noncomputable def j2B (i:Nat) (fu:Ro->Out (List Mu)) (ρ:Ro):Fl:=(fu ρ).fl ρ λms=>if ms.length<=1000000 then .nx (ρ.set i (.lm ms)) else .bad
theorem q8D (i:Nat) (hN:X.N.Nodup) (he:DU T X es fu) (hi:X.N[i]?=some x:=by rfl) (hx:Loc X.env.scope x:=by walk_at "v3") (hs:swapsWith (.List es p) (some (.Name x pos')) pos.line X.env=pure false:=by exact q03 rfl) (hf:X.fn x=true∨X.env.scope.names.lookup x=some .local:=by walk_at "v2")
 (hz:T.me=none∨i≠0:=by walk_at "v1") :
 DS T false X (.Assign [.Name x pos'] (.List es p) pos) (j2B i fu):=.mk λG E hp=>
 PS.imp (q9d (X:=X.wish E) hN hi hx (PE.freeze (j1k (he.run G E hp))) hs hf) λD σ H ⟨ρ,fr,h⟩=>⟨ρ,fr,Acc.mono (AccS.fl fr h) λms _ hd vs H1 s1 ⟨l,g,dd⟩=>by
  by_cases hl:ms.length<=1000000
  ·rw [if_pos hl] at hd
   refine ⟨by rw [l];exact line6 hl,λq hq=>⟨q,vs,rfl,q0j,λo=>?_⟩⟩
   have s2:Same H1 (upd (upd H1 q (.lst vs)) q (.frz o (.lst vs))):=λb u e=>by
    have n:b≠q:=λz=>by rw [z,hq] at e;cases e
    rw [q0d n,q0d n];exact e
   refine hd _ _ ((fr.mono (s1.trans s2)).set_own (.lm ms) (λ_=>⟨q,vs,rfl,⟨o,q0j⟩,l,λi m v q1 q2=>?_,dd⟩) (λj s b hj q1 o1 o2=>?_) (λc ds z=>by cases z) hz) (Pers.of (s1.trans s2))
   ·exact ((g i m v q1 q2).mono s2).base λa n=>fr.same.free n
   ·obtain ⟨a',us,i',ks,w1,w2,w3,w4⟩:=o1
    cases w1
    have:=OutAt.uniq (t:=false) ⟨o,q0j⟩ w2
    subst this
    obtain ⟨a2,o2',e2,_,n2⟩:=(g i' _ _ w4 w3).there
    cases e2
    exact q3R fr (s1.trans s2) n2 j s q1 o2
  ·rw [if_neg hl] at hd;exact hd.elim⟩
theorem j2m {K:PySem.W.Frag} {G H:Hp} {ms:List Mu} {us:List V} {kk:Int} {m:Mu} (l:us.length=ms.length) (g:∀(i:Nat) (m:Mu) (v:V),ms[i]?=some m->us[i]?=some v->MuAt T K G H v m) (e:atI ms kk=some m):∃j v,ixN ms.length kk=some j/\ms[j]?=some m/\us[j]?=some v/\atI us kk=some v/\MuAt T K G H v m:=by
 unfold atI at e ⊢
 cases ej:ixN ms.length kk with
 | none=>rw [ej] at e;cases e
 | some j=>
  rw [ej] at e
  have e:ms[j]?=some m:=e
  have hl:j < us.length:=l ▸ (List.getElem?_eq_some_iff.mp e).1
  refine ⟨j,us[j],rfl,e,List.getElem?_eq_getElem hl,?_,g j m _ e (List.getElem?_eq_getElem hl)⟩
  rw [l,ej]
  exact List.getElem?_eq_getElem hl
theorem q9C {K:PySem.W.Frag} {H:Hp} {a:Addr} {us:List V} (h:OutAt H false a us):SqL K H a us:=by
 obtain ⟨o,h⟩:=h
 exact (show FzL K H a us from .inl ⟨o,h⟩).sq
@[simp] noncomputable def j2I (i c j:Nat) (fe:Ev) (ρ:Ro):Out D:=match ρ[i]? with
 | some (.lm ms)=>(fe ρ).bind λd=>match d with
  | .int kk=>(match atI ms kk with
   | some (some c',ds)=>if c'=c then atN ds j else .bad
   | _=>.bad)
  | _=>.bad
 | _=>.bad
theorem j2a {at_:Str} (i j:Nat) (cl:Cls X.K (T.ca c)) (na:NoAttr X.K (T.ca c) at_) (hj:(T.fl c)[j]?=some at_) (hnd:(T.fl c).Nodup) (he:DE T X e fe) (hN:X.N[i]?=some x:=by rfl) (hv:Vis X.env.scope x:=by walk_at "v0")
 (hs:q1V e:=by exact λ_ _=>rfl) (hb:attributeBase (.Subscript (.Name x p) e p2) at_ X.env (eval (.Subscript (.Name x p) e p2) X.env)=eval (.Subscript (.Name x p) e p2) X.env:=by rfl) (hd:(x==("__debug__" : Str))=false:=by decide) (hcd:(x==("__classdict__" : Str))=false:=by decide):DE T X (.Attribute (.Subscript (.Name x p) e p2) at_ pos) (j2I i c j fe):=.mk λG E hp=>
 PE.imp (q9h (X:=X.wish E) (q6H (X:=X.wish E) q2h (q0W (X:=X.wish E) hN hv hd hcd) (he.run G E hp) hs) hb) fun σ H Q ⟨ρ,fr,q⟩=>by
  unfold j2I at q
  split at q
  ·rename_i ms e0
   obtain ⟨a,us,e1,e2,l,g,dd⟩:=fr.sl i _ e0
   refine ⟨_,e1,ρ,fr,Acc.mono (Acc.bind q) λd _ hd v H1 s1 r1=>?_⟩
   cases d with
   | int kk=>
    cases r1
    dsimp only at hd
    split at hd
    ·rename_i c' ds ea
     by_cases hc:c'=c
     ·rw [if_pos hc] at hd;subst hc
      obtain ⟨j',w,q1,q2,q3,q4,y,rfl,_,_,hi⟩:=j2m l g ea
      obtain ⟨dx,fs,h1,h2,h3,h4⟩:=hi.mono s1
      unfold atN at hd
      cases ed:ds[j]? with
      | none=>simp only [ed] at hd;exact hd.elim
      | some d=>
       simp only [ed] at hd
       obtain ⟨w,ew,rw'⟩:=q8T h2 h4 hj hnd ed
       exact ⟨a,us,kk,_,rfl,rfl,s1.seq (q9C e2),q4,y,T.ca c',dx,fs,w,rfl,h1,cl,na,ew,hd w H1 s1 rw'⟩
     ·rw [if_neg hc] at hd;exact hd.elim
    ·exact hd.elim
   | _=>exact hd.elim
  ·exact q.elim
@[simp] noncomputable def gLm (i:Nat) (fe:Ev) (fs:Ro->Out (List Sl)) (ρ:Ro):Out (List Sl):=match ρ[i]? with
 | some (.lm ms)=>(fe ρ).bind λd=>match d with
  | .int kk=>(match atI ms kk with
   | some (some c,ds)=>(fs ρ).bind λss=>.ok (.bi c ds::ss)
   | some (none,ds)=>(fs ρ).bind λss=>.ok (.bo ds::ss)
   | none=>.bad)
  | _=>.bad
 | _=>.bad
theorem q76 (i:Nat) (he:DE T X e fe) (hr:DG T X es fs) (hN:X.N[i]?=some x:=by rfl) (hv:Vis X.env.scope x:=by walk_at "v0") (hs:q1V e:=by exact λ_ _=>rfl) (hd:(x==("__debug__" : Str))=false:=by decide) (hcd:(x==("__classdict__" : Str))=false:=by decide)
 (hst:starEach (.Subscript (.Name x p) e p2::es) X.env=(false,eval (.Subscript (.Name x p) e p2) X.env)::starEach es X.env:=by exact q0q rfl):DG T X (.Subscript (.Name x p) e p2::es) (gLm i fe fs):=.mk λG E hp=>
 PA.imp (q0t (X:=X.wish E) (q6H (X:=X.wish E) q2h (q0W (X:=X.wish E) hN hv hd hcd) (he.run G E hp) hs) (hr.run G E hp) hst) fun σ H Q ⟨ρ,fr,q⟩=>by
  unfold gLm at q
  split at q
  ·rename_i ms e0
   obtain ⟨a,us,e1,e2,l,g,dd⟩:=fr.sl i _ e0
   refine ⟨_,e1,ρ,fr,Acc.mono (Acc.bind q) λd _ hd v H1 s1 r1=>?_⟩
   cases d with
   | int kk=>
    cases r1
    dsimp only at hd
    split at hd
    ·rename_i c ds ea
     obtain ⟨j',w,q1,q2,q3,q4,y,rfl,_,_,hi⟩:=j2m l g ea
     exact ⟨a,us,kk,_,rfl,rfl,s1.seq (q9C e2),q4,ρ,fr.mono s1,Acc.mono (Acc.bind (Acc.heap s1 hd)) λss _ hss vs H2 s2 r2=>hss (.ref y::vs) H2 (s1.trans s2) ⟨_,vs,rfl,⟨y,rfl,hi.mono (s1.trans s2)⟩,r2⟩⟩
    ·rename_i ds ea
     obtain ⟨j',w,q1,q2,q3,q4,y,ws,rfl,h1,_,h2⟩:=j2m l g ea
     exact ⟨a,us,kk,_,rfl,rfl,s1.seq (q9C e2),q4,ρ,fr.mono s1,Acc.mono (Acc.bind (Acc.heap s1 hd)) λss _ hss vs H2 s2 r2=>hss (.ref y::vs) H2 (s1.trans s2) ⟨_,vs,rfl,⟨y,ws,rfl,(s1.trans s2) _ _ h1,RepL.mono (s1.trans s2) _ _ h2⟩,r2⟩⟩
    ·exact hd.elim
   | _=>exact hd.elim
  ·exact q.elim
end
noncomputable def q6L:Sl->Bool
 | .lm _=>false
 | _=>true
section
variable {T:Tb} {X:Cx} {e o a b:Expr} {es:List Expr} {pos pos' p p1 p2 p3 p4 apos:Pos} {fe fa fb:Ev} {fs:Ro->Out (List Sl)} {k n c ar:Nat} {f:Addr} {fd:FuncData} {ps:List Str} {F:FnM} {x z:Str}
theorem FR.lm_new {K:PySem.W.Frag} {G H H':Hp} {σ:L2.St} {ρ:Ro} {i j q r:Nat} {ms ls:List Mu} {ds ds' ks ks':List D} {a b y m:Addr} {us ws:List V} (hT:T.me=none) (fr:FR T K G H σ ρ) (hij:i≠j) (hi:ρ[i]?=some (.lm ms)) (hj:ρ[j]?=some (.lm ls))
 (ho:((ρ.set i .no).set j .no).all q6L=true) (hms:ms.all (λm=>m.1.isSome)=true) (hls:ls.all (λm=>m.1.isNone)=true)
 (ei:σ[i]?=some (some (.ref a))) (oi:OutAt H false a us) (ej:σ[j]?=some (some (.ref b))) (oj:OutAt H false b ws)
 (mq:ms[q]?=some (some c,ds)) (uq:us[q]?=some (.ref y)) (lr:ls[r]?=some (none,ks)) (wr:ws[r]?=some (.ref m))
 (s:Same (hid H y (some m)) H') (h1:InsAt T K H' c y ds') (h2:q4J T K H' (some m) ks') :
 FR T K G H' σ ((ρ.set i (.lm (ms.set q (some c,ds')))).set j (.lm (ls.set r (none,ks'))))/\Pers T false H H':=by
 obtain ⟨a',us',e1,e2,e3,e4,e5⟩:=fr.sl i _ hi
 rw [ei] at e1;cases e1
 cases oi.uniq e2
 obtain ⟨b',ws',f1,f2,f3,f4,f5⟩:=fr.sl j _ hj
 rw [ej] at f1;cases f1
 cases oj.uniq f2
 obtain ⟨y',ey,_,gy,hy⟩:=e4 q _ _ mq uq
 cases ey
 obtain ⟨m',vm,em,hm,gm,rm⟩:=f4 r _ _ lr wr
 cases em
 have hmo:q4J T K H (some m) ks:=⟨vm,hm,rm⟩
 have P:=q3K hy hmo s
 obtain ⟨dxy,fsy,hy1,_⟩:=id hy
 have hk:∀(b:Addr) (o:HO),H b=some o->¬(b=y∨b=m)->H' b=some o:=λb o q n=>s _ _ (q6j q (λz=>n (.inl z)) (λz=>n (.inr (Option.some.inj z).symm)))
 have oa:∀{a:Addr} {us:List V},OutAt H false a us->OutAt H' false a us:=λ{a us} q=>q.keep (q1F P a)
 have lty:∀{b:Addr} {vs:List V},H b=some (.lst vs)->b≠y:=λq z=>by rw [z,hy1] at q;cases q
 have own_m:q2e H σ[j]? m (.lm ls):=⟨b,ws,r,ks,ej,oj,wr,lr⟩
 have hil:i < ρ.length:=(List.getElem?_eq_some_iff.mp hi).1
 have hjl:j < ρ.length:=(List.getElem?_eq_some_iff.mp hj).1
 have at_:∀{t:Nat} {z:Sl},((ρ.set i (.lm (ms.set q (some c,ds')))).set j (.lm (ls.set r (none,ks'))))[t]?=some z->(t=j/\z=.lm (ls.set r (none,ks')))∨(t=i/\z=.lm (ms.set q (some c,ds')))∨(t≠i/\t≠j/\ρ[t]?=some z/\q6L z=true):=λ{t z} w=>by
  by_cases hj':t=j
  ·subst hj'
   rw [List.getElem?_set_self (by simpa using hjl)] at w;exact .inl ⟨rfl,(Option.some.inj w).symm⟩
  ·rw [List.getElem?_set_ne (Ne.symm hj')] at w
   by_cases hi':t=i
   ·subst hi'
    rw [List.getElem?_set_self hil] at w;exact .inr (.inl ⟨rfl,(Option.some.inj w).symm⟩)
   ·rw [List.getElem?_set_ne (Ne.symm hi')] at w
    refine .inr (.inr ⟨hi',hj',w,?_⟩)
    have:((ρ.set i .no).set j .no)[t]?=some z:=by rw [List.getElem?_set_ne (Ne.symm hj'),List.getElem?_set_ne (Ne.symm hi')];exact w
    exact List.all_eq_true.mp ho z (List.mem_of_getElem? this)
 have noI:∀{H:Hp} {x:Option (Option V)} {b:Addr},¬q2e H x b (.lm (ms.set q (some c,ds'))):=λ{H x b} ⟨_,_,t,kk,_,_,_,w⟩=>by
  by_cases ht:t=q
  ·subst ht
   rw [List.getElem?_set_self (List.getElem?_eq_some_iff.mp mq).1] at w;cases w
  ·rw [List.getElem?_set_ne (Ne.symm ht)] at w
   have:=List.all_eq_true.mp hms _ (List.mem_of_getElem? w)
   cases this
 have ownJ:∀{H:Hp} {x:Option (Option V)} {b:Addr},q2e H x b (.lm (ls.set r (none,ks')))->q2e H x b (.lm ls):=λ{H x b} ⟨a1,u1,t,kk,w1,w2,w3,w⟩=>by
  by_cases ht:t=r
  ·subst ht;exact ⟨a1,u1,t,ks,w1,w2,w3,lr⟩
  ·rw [List.getElem?_set_ne (Ne.symm ht)] at w;exact ⟨a1,u1,t,kk,w1,w2,w3,w⟩
 refine ⟨⟨λb0 o w=>hk b0 o (fr.same b0 o w) λz=>?_,by simp [fr.len],λt z w=>?_,λt t' z z' b0 htt w w' o1 o2=>?_,fr.me,?_⟩,P⟩
 ·rcases z with z | z
  ·rw [z,gy] at w;cases w
  ·rw [z,gm] at w;cases w
 ·rcases at_ w with ⟨rfl,rfl⟩ | ⟨rfl,rfl⟩ | ⟨n1,n2,w,nl⟩
  ·refine ⟨b,ws,ej,oa oj,by simpa using f3,λt' m0 v q1 q2=>?_,f5⟩
   by_cases ht:t'=r
   ·subst ht
    rw [List.getElem?_set_self (List.getElem?_eq_some_iff.mp lr).1] at q1
    cases q1
    rw [wr] at q2;cases q2
    obtain ⟨vs',g1,g2⟩:=h2
    exact ⟨m,vs',rfl,g1,gm,g2⟩
   ·rw [List.getElem?_set_ne (Ne.symm ht)] at q1
    have g:=f4 t' m0 v q1 q2
    have hn:=List.all_eq_true.mp hls _ (List.mem_of_getElem? q1)
    match m0,hn,g with
    | (none,kk),_,⟨b2,v2,ev,g1,g2,g3⟩=>
     subst ev
     refine ⟨b2,v2,rfl,hk _ _ g1 λz=>?_,g2,RepL.pers P _ _ g3⟩
     rcases z with z | z
     ·exact lty g1 z
     ·subst z;exact ht (f5 t' r _ q2 wr)
  ·refine ⟨a,us,ei,oa oi,by simpa using e3,λt' m0 v q1 q2=>?_,e5⟩
   by_cases ht:t'=q
   ·subst ht
    rw [List.getElem?_set_self (List.getElem?_eq_some_iff.mp mq).1] at q1
    cases q1
    rw [uq] at q2;cases q2
    exact ⟨y,rfl,by rw [hT];simp,gy,h1⟩
   ·rw [List.getElem?_set_ne (Ne.symm ht)] at q1
    have g:=e4 t' m0 v q1 q2
    have hn:=List.all_eq_true.mp hms _ (List.mem_of_getElem? q1)
    match m0,hn,g with
    | (some c2,kk),_,⟨b2,ev,g1,g2,dx,fs,g3,g4,g5,g6⟩=>
     subst ev
     refine ⟨b2,rfl,g1,g2,dx,fs,hk _ _ g3 λz=>?_,g4,g5,RepL.pers P _ _ g6⟩
     rcases z with z | z
     ·subst z;exact ht (e5 t' q _ q2 uq)
     ·rw [z,hm] at g3;cases g3
  ·refine SlOk.hop (ex:=λb=>b=y∨b=m) P hk (λb0 o1 z=>?_) (.inl λms z=>by subst z;cases nl) (λc2 es z=>?_) (fr.sl t z w)
   ·rcases z with z | z
    ·obtain ⟨⟨vs0,w0⟩,_⟩:=(fr.sl t _ w).own o1
     exact lty w0 z
    ·subst z;exact fr.ne t j _ _ _ n2 w hj o1 own_m
   ·subst z
    obtain ⟨_,_,_,z,_⟩:=fr.sl t _ w
    rw [hT] at z;cases z
 ·have back:∀{t:Nat} {z:Sl},((ρ.set i (.lm (ms.set q (some c,ds')))).set j (.lm (ls.set r (none,ks'))))[t]?=some z->q2e H' σ[t]? b0 z->∃z0,ρ[t]?=some z0/\q2e H σ[t]? b0 z0:=λ{t z} w o=>by
   rcases at_ w with ⟨rfl,rfl⟩ | ⟨rfl,rfl⟩ | ⟨n1,n2,w,nl⟩
   ·exact ⟨_,hj,(fr.sl t _ hj).back (q1F P) (ownJ o)⟩
   ·exact absurd o noI
   ·exact ⟨z,w,(fr.sl t z w).back (q1F P) o⟩
  obtain ⟨_,g1,g2⟩:=back w o1
  obtain ⟨_,g3,g4⟩:=back w' o2
  exact fr.ne t t' _ _ b0 htt g1 g3 g2 g4
 ·exact q12 (λ_ _ z=>by cases z) (q12 (λ_ _ z=>by cases z) fr.me0)
@[simp] noncomputable def ixO (n:Nat):D->Option Nat
 | .int kk=>ixN n kk
 | _=>none
@[simp] noncomputable def j6M (i j c q r:Nat) (ms ls:List Mu) (ρ:Ro):j2z->OutE
 | .ok d ds ks=>.ok d ((ρ.set i (.lm (ms.set q (some c,ds)))).set j (.lm (ls.set r (none,ks))))
 | .exc x ds ks=>.exc x ((ρ.set i (.lm (ms.set q (some c,ds)))).set j (.lm (ls.set r (none,ks))))
 | .bad=>.bad
@[simp] noncomputable def Out.oe {α:Type} (o:Out α) (ρ:Ro) (k:α->OutE):OutE:=match o with
 | .ok a=>k a
 | .exc x=>.exc x ρ
 | .bad=>.bad
theorem AccE.oe {α:Type} {G H:Hp} {σ:L2.St} {E:Value->Shared->Prop} {Q:VK} {o:Out α} {ρ:Ro} {k:α->OutE} (fr:FR T X.K G H σ ρ) (h:AccE T X G E σ H Q (o.oe ρ k)):Acc T X E σ H o (λa=>AccE T X G E σ H Q (k a)):=by
 cases o with
 | ok a=>exact h
 | exc c=>exact h H fr (Pers.refl H)
 | bad=>exact h
@[simp] noncomputable def j5P (ms:List Mu) (d:D) (k:Nat->OutE):OutE:=match ixO ms.length d with
 | some q=>k q
 | none=>.bad
@[simp] noncomputable def j19 (n i j c q r:Nat) (F:FnM) (ms ls:List Mu) (ss:List Sl) (ρ:Ro):OutE:=match ms[q]?,ls[r]? with
 | some (some c',ds),some (none,ks)=>if c'=c/\ss.length=n/\ss.all q3P=true then j6M i j c q r ms ls ρ (F ds ks ss) else .bad
 | _,_=>.bad
@[simp] noncomputable def eML (n c i j:Nat) (F:FnM) (fa fb:Ev) (fs:Ro->Out (List Sl)) (ρ:Ro):OutE:=match ρ[i]?,ρ[j]? with
 | some (.lm ms),some (.lm ls)=>if i≠j/\((ρ.set i .no).set j .no).all q6L=true/\ms.all (λm=>m.1.isSome)=true/\ls.all (λm=>m.1.isNone)=true then
  (fa ρ).oe ρ λda=>j5P ms da λq=>(fb ρ).oe ρ λdb=>j5P ls db λr=>(fs ρ).oe ρ λss=>j19 n i j c q r F ms ls ss ρ else .bad
 | _,_=>.bad
theorem j33 {α:Type} {xs:List α} {kk:Int} {q:Nat} {v:α} (h:ixN xs.length kk=some q) (e:xs[q]?=some v):atI xs kk=some v:=by
 unfold atI;rw [h];exact e
theorem q5P {G H H1:Hp} {σ:L2.St} {E:Value->Shared->Prop} {Q Z:VK} {ms:List Mu} {d:D} {k:Nat->OutE} {a:Addr} {us:List V} {v:V} (o:OutAt H false a us) (l:us.length=ms.length) (s1:Same H H1) (rv:Rep T X.K H1 d v) (h:AccE T X G E σ H Q (j5P ms d k)) (hz:∀q w,q < ms.length->us[q]?=some w->AccE T X G E σ H Q (k q)->Z w H1):j73 X.K (.ref a) v H1 Z:=by
 unfold j5P at h
 cases d with
 | int kk=>
  cases rv
  cases eq:ixN ms.length kk with
  | none=>simp only [ixO,eq] at h;exact h.elim
  | some q=>
   simp only [ixO,eq] at h
   obtain ⟨_,lt,_⟩:=q3M eq
   exact ⟨a,us,kk,us[q]'(by omega),rfl,rfl,s1.seq (q9C o),j33 (by rw [l];exact eq) (List.getElem?_eq_getElem (by omega)),hz q _ lt (List.getElem?_eq_getElem (by omega)) h⟩
 | _=>exact h.elim
theorem q9G {g:Str} {pg:Pos} (i j:Nat) (hT:T.me=none) (FO:q0X X.prog X.w X.K X.mg X.base (CXE T X.prog X.w) k f fd ps (spM T X.K c true ps.length F)) (hr:Room k X.A) (hg:Gl X g) (hm:X.mg g=some (.ref f)) (hk:PySem.W.keepIn X.K (.ref f)=true) (hb:Binds X.K fd ps []) (hn:n+2=ps.length)
 (ha:DE T X a fa) (hb':DE T X b fb) (has:DG T X es fs)
 (hN:X.N[i]?=some x:=by rfl) (hv:Vis X.env.scope x:=by walk_at "v0") (hN2:X.N[j]?=some z:=by rfl) (hv2:Vis X.env.scope z:=by walk_at "v0")
 (hd:(x==("__debug__" : Str))=false:=by decide) (hcd:(x==("__classdict__" : Str))=false:=by decide) (hd2:(z==("__debug__" : Str))=false:=by decide) (hcd2:(z==("__classdict__" : Str))=false:=by decide)
 (hsa:q1V a:=by exact λ_ _=>rfl) (hsb:q1V b:=by exact λ_ _=>rfl) (hdb:(g==("__debug__" : Str))=false:=by decide)
 (he:starEach (.Subscript (.Name x p) a p1::.Subscript (.Name z p2) b p3::es) X.env=(false,eval (.Subscript (.Name x p) a p1) X.env)::starEach (.Subscript (.Name z p2) b p3::es) X.env:=by exact q0q rfl)
 (he2:starEach (.Subscript (.Name z p2) b p3::es) X.env=(false,eval (.Subscript (.Name z p2) b p3) X.env)::starEach es X.env:=by exact q0q rfl)
 (hpl:(backTo pos (starEach (.Subscript (.Name z p2) b p3::es) X.env)).any (·.1)=false:=by exact q0r rfl) :
 DM T X (.Call (.Name g pg) (.Subscript (.Name x p) a p1::.Subscript (.Name z p2) b p3::es) [] pos) (eML n c i j F fa fb fs):=.mk λG E hp=>by
 rintro pins s σ H Q I ⟨ρ,fr,h⟩
 have h:AccE T X G E σ H Q (eML n c i j F fa fb fs ρ):=h
 unfold eML at h
 split at h
 ·rename_i ms ls hi hj
  by_cases hc:i≠j/\((ρ.set i .no).set j .no).all q6L=true/\ms.all (λm=>m.1.isSome)=true/\ls.all (λm=>m.1.isNone)=true
  ·rw [if_pos hc] at h
   obtain ⟨hij,ho,hms,hls⟩:=hc
   obtain ⟨ax,us,e1,e2,e3,e4,e5⟩:=fr.sl i _ hi
   obtain ⟨bx,ws,f1,f2,f3,f4,f5⟩:=fr.sl j _ hj
   refine wpAny_Call_Name_kw (q1E (X:=X.wish E) I hg hm ?_ hdb)
   refine PySem.W.callWith_K (h₀:=X.base) I.ok.mod.kin hk (thn (q0t (X:=X.wish E) (q6H (X:=X.wish E) q2h (q0W (X:=X.wish E) hN hv hd hcd) (ha.run G E hp) hsa) (q0t (X:=X.wish E) (q6H (X:=X.wish E) q2h (q0W (X:=X.wish E) hN2 hv2 hd2 hcd2) (hb'.run G E hp) hsb) (has.run G E hp) he2) he pos pins s σ H
    (λvs H1=>∃(u w:V) (q r:Nat) (rest:List V) (ss:List Sl),vs=u::w::rest/\Same H H1/\ArgsOk T X.K H1 rest ss/\us[q]?=some u/\ws[r]?=some w/\AccE T X G E σ H Q (j19 n i j c q r F ms ls ss ρ)) I ⟨_,e1,ρ,fr,?_⟩) λus1 s1 ⟨vs,H1,I1,r1,u,w,q,r,rest,ss,ev,s1',ha1,uq,wr,acc⟩=>⟨I1.kIn,?_⟩) he hpl
   ·refine Acc.mono (AccE.oe fr h) λda _ hda va H1 s1 ra=>q5P (X:=X) e2 e3 s1 ra hda λq u lq uq h=>⟨_,f1,ρ,fr.mono s1,?_⟩
    refine Acc.mono (Acc.heap s1 (AccE.oe fr h)) λdb _ hdb vb H2 s2 rb=>q5P (X:=X) f2 f3 (s1.trans s2) rb hdb λr w lr' wr h=>⟨ρ,(fr.mono s1).mono s2,?_⟩
    exact Acc.mono (Acc.heap (s1.trans s2) (AccE.oe fr h)) λss _ hss vs H3 s3 rs=>⟨u,w,q,r,vs,ss,rfl,(s1.trans s2).trans s3,rs,uq,wr,hss⟩
   ·subst ev
    unfold j19 at acc
    split at acc
    ·rename_i c' ds ks em el
     by_cases hcc:c'=c/\ss.length=n/\ss.all q3P=true
     ·rw [if_pos hcc] at acc
      obtain ⟨rfl,hl1,hsh⟩:=hcc
      have fr1:=fr.mono s1'
      obtain ⟨y,ey,_,gy,hy⟩:=(e4 q _ _ em uq).mono s1'
      subst ey
      obtain ⟨m,vm,ew,hm1,gm,rm⟩:=(f4 r _ _ el wr).mono s1'
      subst ew
      have hmo:q4J T X.K H1 (some m) ks:=⟨vm,hm1,rm⟩
      have nw:=λ{ds' ks':List D} {H':Hp} (s:Same (hid H1 y (some m)) H') (h1:InsAt T X.K H' c' y ds') (h2:q4J T X.K H' (some m) ks')=>
       fr1.lm_new hT hij hi hj ho hms hls e1 (e2.keep λo q _ _=>s1' _ _ q) f1 (f2.keep λo q _ _=>s1' _ _ q) em uq el wr s h1 h2
      have la:=ArgsOk.length ss rest ha1
      have lr:=r1.length
      simp only [List.length_cons] at lr
      refine j2Q (X:=X) (m:=some m) FO hr hb I1 r1 rfl hy hmo (q6h (q3K hy hmo (Same.refl _)) _ _ hsh ha1) (by rw [List.nil_append];omega) ?_
      cases e:F ds ks ss with
      | ok d ds' ks'=>rw [e] at acc;exact λv H' s h1 h2 rv=>acc v H' (nw s h1 h2).1 ((Pers.of s1').trans (nw s h1 h2).2) rv
      | exc x ds' ks'=>rw [e] at acc;exact λH' s h1 h2=>acc H' (nw s h1 h2).1 ((Pers.of s1').trans (nw s h1 h2).2)
      | bad=>rw [e] at acc;exact acc.elim
     ·rw [if_neg hcc] at acc;exact acc.elim
    ·exact acc.elim
  ·rw [if_neg hc] at h;exact h.elim
 ·exact h.elim
end
theorem q0z {T:Tb} {c ar:Nat} {l:List Str} (e:T.fl c=l) (h:ar < l.length:=by decide):ar < (T.fl c).length:=by rw [e];exact h
theorem j0U {T:Tb} {z u:Option Addr} {K:PySem.W.Frag} {c n:Nat} {F:Fn} {vs:List V} {H:Hp} {Q:VK} {E:XK} (h:spI { T with me:=z,mo:=u } K c n F vs H Q E):spI T K c n F vs H Q E:=by
 obtain ⟨x,dx,rest,ss,G,h1,h2,h3,h4,h5,h6,h7,h8⟩:=h
 refine ⟨x,dx,rest,ss,G,h1,h2,h3,h4,h5,(q1M ss rest).mp h6,h7,?_⟩
 cases e:F ss with
 | ok r=>
  rw [e] at h8
  cases r with
  | sh d=>exact λH' s r=>h8 H' s ((q1z _ _).mpr r)
  | _=>exact h8.elim
 | exc x=>rw [e] at h8;exact h8
 | bad=>rw [e] at h8;exact h8
theorem j3Q {T:Tb} {z u:Option Addr} {K:PySem.W.Frag} {P:Program} {w:World} {mg:Str->Option Value} {base:Heap} {k:Nat} {f:Addr} {fd:FuncData} {ps:List Str} {c n:Nat} {F:Fn} (h:q0X P w K mg base (CXE T P w) k f fd ps (spI T K c n F)):q0X P w K mg base (CXE { T with me:=z,mo:=u } P w) k f fd ps (spI { T with me:=z,mo:=u } K c n F):=
 ⟨λvs H Q E q=>h.len vs H Q E (j0U q),λA outer s H args us vs Q E hr he hb hv hs=>h.run A outer s H args us vs Q E hr he hb hv (j0U hs)⟩
end L3
namespace L3
open PySem L2
theorem j4a {l:PySem.W.OpenLaw} {k:Nat} {q:Program} {loose:List Str} {XP:(Str->Option Value)->Heap->Prop} {YP:World->Heap->Prop} {d:DefRec} {x:Str} {F:Fn}
 (hn:l.most=some 63) (hdf:d.params.defaults=[]) (hr:Room k callerA)
 (FF:∀(w:World) (mg:Str->Option Value) (fa:Addr) (h:Heap),YP w h->h.Ns mainGlobals mg->mg d.name=some (.ref fa) ->
  ∃K:PySem.W.Frag,K.In h/\∃fd:FuncData,(∀(s:Shared) (u:Value),BindsTo s fd ⟨[u],[]⟩ [(x,u)])/\∃T:Tb,∀base:Heap,K.In base->base.Ns mainGlobals mg->q0X l.prog w K mg base (CXE T l.prog w) k fa fd [x] (spD T K 1 F))
 (hL:∀ns:List Int,ns.length<=63->F [.sh (.lst (ns.map D.int))]=.ok (.sh (.bl true))) :
 PySem.W.WalkO q loose XP YP l.row.toRowW d [] (λf vs=>PySem.call f vs):=by
 refine Att.attach_call hn hdf λw s₀ s₁ mg mb fa o pm cd doc a vs ns G Y ho hd hcd hmg hobj hints hlen hg=>?_
 obtain ⟨K,KX,fd,hb,T,hF⟩:=FF w mg fa _ Y G.T.g hmg
 refine q93 KX G.T.g G.T.b G.T.builtins G.T.nolimit hg hobj hints (Nat.le_trans hlen (by rw [sizeLine_eq];decide)) hr hF hb (λH hO hS=>?_) λH e s' h=>?_
 ·refine ⟨[.sh (.lst (ns.map D.int))],⟨_,[],rfl,⟨a,ns.map V.int,rfl,?_,RepL.ints ns⟩,rfl⟩,rfl,?_⟩
  ·rcases hS with (h | ⟨ob,h⟩) | h
   ·rcases hO a with z | ⟨_,_,z⟩
    ·rw [h] at z;cases z
    ·rw [h] at z;cases z
   ·exact .inl ⟨ob,h⟩
   ·exact .inr h
  ·rw [hL ns hlen]
   exact λv H' _ r=>r
 ·obtain ⟨_,_,_,_,_,_,_,_,_,z⟩:=h
  exact z
end L3
namespace Lw
open PySem L2 L3
structure Tx (K:PySem.W.Frag) (mg:Str->Option Value) (fa:Nat->Addr) (fd:Nat->FuncData) (T:Tb):Prop where
 me:T.me=none
 F1:L2.Fun K "check_name" "check_name" s_1 (fa 1) (fd 1)
 b1:Binds K (fd 1) ["name"] []
 m1:mg "check_name" = some (.ref (fa 1))
 F2:L2.Fun K "check_number" "check_number" s_2 (fa 2) (fd 2)
 b2:Binds K (fd 2) ["number","lowest","highest"] []
 m2:mg "check_number" = some (.ref (fa 2))
 F3:L2.Fun K "check_count" "check_count" s_3 (fa 3) (fd 3)
 b3:Binds K (fd 3) ["count","lowest","highest"] []
 m3:mg "check_count" = some (.ref (fa 3))
 F4:L2.Fun K "__init__" "Oven.__init__" s_4 (fa 4) (fd 4)
 b4:Binds K (fd 4) ["self","room","rate","heat"] []
 F6:L2.Fun K "__init__" "Order.__init__" s_6 (fa 6) (fd 6)
 b6:Binds K (fd 6) ["self","bread","loaves","due"] []
 F7:L2.Fun K "__init__" "Batch.__init__" s_7 (fa 7) (fd 7)
 b7:Binds K (fd 7) ["self","order","first","loaves"] []
 F8:L2.Fun K "greatest" "greatest" s_8 (fa 8) (fd 8)
 b8:Binds K (fd 8) ["bakery"] []
 m8:mg "greatest" = some (.ref (fa 8))
 F9:L2.Fun K "check_due" "check_due" s_9 (fa 9) (fd 9)
 b9:Binds K (fd 9) ["due","night"] []
 m9:mg "check_due" = some (.ref (fa 9))
 F10:L2.Fun K "accept" "accept" j6m (fa 10) (fd 10)
 b10:Binds K (fd 10) ["bakery","orders"] []
 m10:mg "accept" = some (.ref (fa 10))
 F11:L2.Fun K "batches_of" "batches_of" j5Y (fa 11) (fd 11)
 b11:Binds K (fd 11) ["orders","most"] []
 m11:mg "batches_of" = some (.ref (fa 11))
 F13:j7i K "__init__" "Run.__init__" j6x (fa 13) (fd 13)
 b13:Binds K (fd 13) ["self","begin","lengths","oven"] []
 F16:L2.Fun K "__init__" "Part.__init__" j6E (fa 16) (fd 16)
 b16:Binds K (fd 16) ["self","batch","stage","begin","until","loaves","oven"] []
 F45:L2.Fun K "__init__" "Night.__init__" j6f (fa 45) (fd 45)
 b45:Binds K (fd 45) ["self","bakery"] []
 F46:L2.Fun K "put" "Night.put" j56 (fa 46) (fd 46)
 b46:Binds K (fd 46) ["self","bread","loaves","due"] []
 mt46:Meth K (T.ca 18) "put" (fa 46)
 F47:L2.Fun K "strike" "Night.strike" j6e (fa 47) (fd 47)
 b47:Binds K (fd 47) ["self","number"] []
 mt47:Meth K (T.ca 18) "strike" (fa 47)
 F50:L2.Fun K "__init__" "Bakery.__init__" j5N (fa 50) (fd 50)
 b50:Binds K (fd 50) ["self","night","hands","benches","ovens","breads"] []
 F51:L2.Fun K "bread_of" "Bakery.bread_of" j5Z (fa 51) (fd 51)
 b51:Binds K (fd 51) ["self","name"] []
 mt51:Meth K (T.ca 19) "bread_of" (fa 51)
 F52:L2.Fun K "check_names_apart" "check_names_apart" j5O (fa 52) (fd 52)
 b52:Binds K (fd 52) ["names"] []
 m52:mg "check_names_apart" = some (.ref (fa 52))
 F53:j7i K "__init__" "Stage.__init__" j53 (fa 53) (fd 53)
 b53:Binds K (fd 53) ["self","name","least","most","want","heat"] []
 bd53:∃t,Binds K (fd 53) ["self","name","least","most","want","heat"] [.int 0 t]
 F54:L2.Fun K "__init__" "Bread.__init__" j5Q (fa 54) (fd 54)
 b54:Binds K (fd 54) ["self","name","stages"] []
 F58:L2.Fun K "_law_at" "_law_at" j52 (fa 58) (fd 58)
 b58:Binds K (fd 58) ["_law_script","_law_k"] []
 m58:mg "_law_at" = some (.ref (fa 58))
 F59:L2.Fun K "_law_is" "_law_is" j5R (fa 59) (fd 59)
 b59:Binds K (fd 59) ["_law_found","_law_due_here"] []
 m59:mg "_law_is" = some (.ref (fa 59))
 F60:L2.Fun K "_law_names" "_law_names" j6a (fa 60) (fd 60)
 b60:Binds K (fd 60) ["_law_cell","_law_many"] []
 m60:mg "_law_names" = some (.ref (fa 60))
 F61:L2.Fun K "_law_put" "_law_put" j6l (fa 61) (fd 61)
 b61:Binds K (fd 61) ["_law_book","_law_name","_law_loaves","_law_due_here"] []
 m61:mg "_law_put" = some (.ref (fa 61))
 F62:L2.Fun K "_law_strike" "_law_strike" j5S (fa 62) (fd 62)
 b62:Binds K (fd 62) ["_law_book","_law_number"] []
 m62:mg "_law_strike" = some (.ref (fa 62))
 F63:L2.Fun K "_law_due" "_law_due" j6d (fa 63) (fd 63)
 b63:Binds K (fd 63) ["_law_kept","_law_row_here","_law_night","_law_names_here","_law_most"] []
 m63:mg "_law_due" = some (.ref (fa 63))
 F64:L2.Fun K "_law_same" "_law_same" j6c (fa 64) (fd 64)
 b64:Binds K (fd 64) ["_law_book","_law_kept"] []
 m64:mg "_law_same" = some (.ref (fa 64))
 F65:L2.Fun K "_law_row" "_law_row" j54 (fa 65) (fd 65)
 b65:Binds K (fd 65) ["_law_cell","_law_night","_law_names_here"] []
 m65:mg "_law_row" = some (.ref (fa 65))
 F66:L2.Fun K "_law_deed" "_law_deed" j6i (fa 66) (fd 66)
 b66:Binds K (fd 66) ["_law_book","_law_kept","_law_cell","_law_night","_law_names_here","_law_most"] []
 m66:mg "_law_deed" = some (.ref (fa 66))
 F67:L2.Fun K "law" "law" j6h (fa 67) (fd 67)
 b67:Binds K (fd 67) ["_law_script"] []
 m67:mg "law" = some (.ref (fa 67))
 mC0:mg "DoughError" = some (.ref (T.ca 0))
 xc0:q4G K (T.ca 0)
 mC1:mg "BadName" = some (.ref (T.ca 1))
 xc1:q4G K (T.ca 1)
 mC2:mg "BadWant" = some (.ref (T.ca 2))
 xc2:q4G K (T.ca 2)
 mC3:mg "BadNumber" = some (.ref (T.ca 3))
 xc3:q4G K (T.ca 3)
 mC4:mg "BadCount" = some (.ref (T.ca 4))
 xc4:q4G K (T.ca 4)
 mC5:mg "TwiceNamed" = some (.ref (T.ca 5))
 xc5:q4G K (T.ca 5)
 mC6:mg "NoBread" = some (.ref (T.ca 6))
 xc6:q4G K (T.ca 6)
 mC7:mg "BeyondNight" = some (.ref (T.ca 7))
 xc7:q4G K (T.ca 7)
 mC8:mg "TooMany" = some (.ref (T.ca 8))
 xc8:q4G K (T.ca 8)
 mC9:mg "BadPlan" = some (.ref (T.ca 9))
 xc9:q4G K (T.ca 9)
 mC10:mg "NoOrder" = some (.ref (T.ca 10))
 xc10:q4G K (T.ca 10)
 mC11:mg "TooWide" = some (.ref (T.ca 11))
 xc11:q4G K (T.ca 11)
 mC12:mg "NoPlan" = some (.ref (T.ca 12))
 xc12:q4G K (T.ca 12)
 mC13:mg "Oven" = some (.ref (T.ca 13))
 cC13:Cls K (T.ca 13)
 mk13:Mk K (T.ca 13) (fa 4)
 fl13:T.fl 13=(["room","rate","heat"]:List Str)
 na13_room:NoAttr K (T.ca 13) "room"
 na13_rate:NoAttr K (T.ca 13) "rate"
 na13_heat:NoAttr K (T.ca 13) "heat"
 mC14:mg "Order" = some (.ref (T.ca 14))
 cC14:Cls K (T.ca 14)
 mk14:Mk K (T.ca 14) (fa 6)
 fl14:T.fl 14=(["bread","loaves","due"]:List Str)
 na14_bread:NoAttr K (T.ca 14) "bread"
 na14_loaves:NoAttr K (T.ca 14) "loaves"
 na14_due:NoAttr K (T.ca 14) "due"
 ii14:j6j K (T.ca 14)
 mC15:mg "Batch" = some (.ref (T.ca 15))
 cC15:Cls K (T.ca 15)
 mk15:Mk K (T.ca 15) (fa 7)
 fl15:T.fl 15=(["order","first","loaves"]:List Str)
 na15_order:NoAttr K (T.ca 15) "order"
 na15_first:NoAttr K (T.ca 15) "first"
 na15_loaves:NoAttr K (T.ca 15) "loaves"
 mC16:mg "Run" = some (.ref (T.ca 16))
 cC16:Cls K (T.ca 16)
 mk16:Mk K (T.ca 16) (fa 13)
 fl16:T.fl 16=(["begin","lengths","oven"]:List Str)
 na16_begin:NoAttr K (T.ca 16) "begin"
 na16_lengths:NoAttr K (T.ca 16) "lengths"
 na16_oven:NoAttr K (T.ca 16) "oven"
 mC17:mg "Part" = some (.ref (T.ca 17))
 cC17:Cls K (T.ca 17)
 mk17:Mk K (T.ca 17) (fa 16)
 fl17:T.fl 17=(["batch","stage","begin","until","loaves","oven"]:List Str)
 na17_batch:NoAttr K (T.ca 17) "batch"
 na17_stage:NoAttr K (T.ca 17) "stage"
 na17_begin:NoAttr K (T.ca 17) "begin"
 na17_until:NoAttr K (T.ca 17) "until"
 na17_loaves:NoAttr K (T.ca 17) "loaves"
 na17_oven:NoAttr K (T.ca 17) "oven"
 mC18:mg "Night" = some (.ref (T.ca 18))
 cC18:Cls K (T.ca 18)
 mk18:Mk K (T.ca 18) (fa 45)
 fl18:T.fl 18=(["bakery","orders","$"]:List Str)
 na18_bakery:NoAttr K (T.ca 18) "bakery"
 na18_orders:NoAttr K (T.ca 18) "orders"
 mC19:mg "Bakery" = some (.ref (T.ca 19))
 cC19:Cls K (T.ca 19)
 mk19:Mk K (T.ca 19) (fa 50)
 fl19:T.fl 19=(["night","hands","benches","ovens","breads"]:List Str)
 na19_night:NoAttr K (T.ca 19) "night"
 na19_hands:NoAttr K (T.ca 19) "hands"
 na19_benches:NoAttr K (T.ca 19) "benches"
 na19_ovens:NoAttr K (T.ca 19) "ovens"
 na19_breads:NoAttr K (T.ca 19) "breads"
 mC20:mg "Stage" = some (.ref (T.ca 20))
 cC20:Cls K (T.ca 20)
 mk20:Mk K (T.ca 20) (fa 53)
 fl20:T.fl 20=(["name","least","most","want","heat"]:List Str)
 na20_name:NoAttr K (T.ca 20) "name"
 na20_least:NoAttr K (T.ca 20) "least"
 na20_most:NoAttr K (T.ca 20) "most"
 na20_want:NoAttr K (T.ca 20) "want"
 na20_heat:NoAttr K (T.ca 20) "heat"
 mC21:mg "Bread" = some (.ref (T.ca 21))
 cC21:Cls K (T.ca 21)
 mk21:Mk K (T.ca 21) (fa 54)
 fl21:T.fl 21=(["name","stages"]:List Str)
 na21_name:NoAttr K (T.ca 21) "name"
 na21_stages:NoAttr K (T.ca 21) "stages"
 exm0_3:PySem.W.exmOne K (.ref (T.ca 0)) (.ref (T.ca 3))=some false
 exm0_4:PySem.W.exmOne K (.ref (T.ca 0)) (.ref (T.ca 4))=some false
 exm0_6:PySem.W.exmOne K (.ref (T.ca 0)) (.ref (T.ca 6))=some false
 exm0_7:PySem.W.exmOne K (.ref (T.ca 0)) (.ref (T.ca 7))=some false
 exm0_8:PySem.W.exmOne K (.ref (T.ca 0)) (.ref (T.ca 8))=some false
 exm0_10:PySem.W.exmOne K (.ref (T.ca 0)) (.ref (T.ca 10))=some false
 exm1_3:PySem.W.exmOne K (.ref (T.ca 1)) (.ref (T.ca 3))=some false
 exm1_4:PySem.W.exmOne K (.ref (T.ca 1)) (.ref (T.ca 4))=some false
 exm1_6:PySem.W.exmOne K (.ref (T.ca 1)) (.ref (T.ca 6))=some false
 exm1_7:PySem.W.exmOne K (.ref (T.ca 1)) (.ref (T.ca 7))=some false
 exm1_8:PySem.W.exmOne K (.ref (T.ca 1)) (.ref (T.ca 8))=some false
 exm1_10:PySem.W.exmOne K (.ref (T.ca 1)) (.ref (T.ca 10))=some false
 exm2_3:PySem.W.exmOne K (.ref (T.ca 2)) (.ref (T.ca 3))=some false
 exm2_4:PySem.W.exmOne K (.ref (T.ca 2)) (.ref (T.ca 4))=some false
 exm2_6:PySem.W.exmOne K (.ref (T.ca 2)) (.ref (T.ca 6))=some false
 exm2_7:PySem.W.exmOne K (.ref (T.ca 2)) (.ref (T.ca 7))=some false
 exm2_8:PySem.W.exmOne K (.ref (T.ca 2)) (.ref (T.ca 8))=some false
 exm2_10:PySem.W.exmOne K (.ref (T.ca 2)) (.ref (T.ca 10))=some false
 exm3_3:PySem.W.exmOne K (.ref (T.ca 3)) (.ref (T.ca 3))=some true
 exm3_4:PySem.W.exmOne K (.ref (T.ca 3)) (.ref (T.ca 4))=some false
 exm3_6:PySem.W.exmOne K (.ref (T.ca 3)) (.ref (T.ca 6))=some false
 exm3_7:PySem.W.exmOne K (.ref (T.ca 3)) (.ref (T.ca 7))=some false
 exm3_8:PySem.W.exmOne K (.ref (T.ca 3)) (.ref (T.ca 8))=some false
 exm3_10:PySem.W.exmOne K (.ref (T.ca 3)) (.ref (T.ca 10))=some false
 exm4_3:PySem.W.exmOne K (.ref (T.ca 4)) (.ref (T.ca 3))=some false
 exm4_4:PySem.W.exmOne K (.ref (T.ca 4)) (.ref (T.ca 4))=some true
 exm4_6:PySem.W.exmOne K (.ref (T.ca 4)) (.ref (T.ca 6))=some false
 exm4_7:PySem.W.exmOne K (.ref (T.ca 4)) (.ref (T.ca 7))=some false
 exm4_8:PySem.W.exmOne K (.ref (T.ca 4)) (.ref (T.ca 8))=some false
 exm4_10:PySem.W.exmOne K (.ref (T.ca 4)) (.ref (T.ca 10))=some false
 exm5_3:PySem.W.exmOne K (.ref (T.ca 5)) (.ref (T.ca 3))=some false
 exm5_4:PySem.W.exmOne K (.ref (T.ca 5)) (.ref (T.ca 4))=some false
 exm5_6:PySem.W.exmOne K (.ref (T.ca 5)) (.ref (T.ca 6))=some false
 exm5_7:PySem.W.exmOne K (.ref (T.ca 5)) (.ref (T.ca 7))=some false
 exm5_8:PySem.W.exmOne K (.ref (T.ca 5)) (.ref (T.ca 8))=some false
 exm5_10:PySem.W.exmOne K (.ref (T.ca 5)) (.ref (T.ca 10))=some false
 exm6_3:PySem.W.exmOne K (.ref (T.ca 6)) (.ref (T.ca 3))=some false
 exm6_4:PySem.W.exmOne K (.ref (T.ca 6)) (.ref (T.ca 4))=some false
 exm6_6:PySem.W.exmOne K (.ref (T.ca 6)) (.ref (T.ca 6))=some true
 exm6_7:PySem.W.exmOne K (.ref (T.ca 6)) (.ref (T.ca 7))=some false
 exm6_8:PySem.W.exmOne K (.ref (T.ca 6)) (.ref (T.ca 8))=some false
 exm6_10:PySem.W.exmOne K (.ref (T.ca 6)) (.ref (T.ca 10))=some false
 exm7_3:PySem.W.exmOne K (.ref (T.ca 7)) (.ref (T.ca 3))=some false
 exm7_4:PySem.W.exmOne K (.ref (T.ca 7)) (.ref (T.ca 4))=some false
 exm7_6:PySem.W.exmOne K (.ref (T.ca 7)) (.ref (T.ca 6))=some false
 exm7_7:PySem.W.exmOne K (.ref (T.ca 7)) (.ref (T.ca 7))=some true
 exm7_8:PySem.W.exmOne K (.ref (T.ca 7)) (.ref (T.ca 8))=some false
 exm7_10:PySem.W.exmOne K (.ref (T.ca 7)) (.ref (T.ca 10))=some false
 exm8_3:PySem.W.exmOne K (.ref (T.ca 8)) (.ref (T.ca 3))=some false
 exm8_4:PySem.W.exmOne K (.ref (T.ca 8)) (.ref (T.ca 4))=some false
 exm8_6:PySem.W.exmOne K (.ref (T.ca 8)) (.ref (T.ca 6))=some false
 exm8_7:PySem.W.exmOne K (.ref (T.ca 8)) (.ref (T.ca 7))=some false
 exm8_8:PySem.W.exmOne K (.ref (T.ca 8)) (.ref (T.ca 8))=some true
 exm8_10:PySem.W.exmOne K (.ref (T.ca 8)) (.ref (T.ca 10))=some false
 exm9_3:PySem.W.exmOne K (.ref (T.ca 9)) (.ref (T.ca 3))=some false
 exm9_4:PySem.W.exmOne K (.ref (T.ca 9)) (.ref (T.ca 4))=some false
 exm9_6:PySem.W.exmOne K (.ref (T.ca 9)) (.ref (T.ca 6))=some false
 exm9_7:PySem.W.exmOne K (.ref (T.ca 9)) (.ref (T.ca 7))=some false
 exm9_8:PySem.W.exmOne K (.ref (T.ca 9)) (.ref (T.ca 8))=some false
 exm9_10:PySem.W.exmOne K (.ref (T.ca 9)) (.ref (T.ca 10))=some false
 exm10_3:PySem.W.exmOne K (.ref (T.ca 10)) (.ref (T.ca 3))=some false
 exm10_4:PySem.W.exmOne K (.ref (T.ca 10)) (.ref (T.ca 4))=some false
 exm10_6:PySem.W.exmOne K (.ref (T.ca 10)) (.ref (T.ca 6))=some false
 exm10_7:PySem.W.exmOne K (.ref (T.ca 10)) (.ref (T.ca 7))=some false
 exm10_8:PySem.W.exmOne K (.ref (T.ca 10)) (.ref (T.ca 8))=some false
 exm10_10:PySem.W.exmOne K (.ref (T.ca 10)) (.ref (T.ca 10))=some true
 exm11_3:PySem.W.exmOne K (.ref (T.ca 11)) (.ref (T.ca 3))=some false
 exm11_4:PySem.W.exmOne K (.ref (T.ca 11)) (.ref (T.ca 4))=some false
 exm11_6:PySem.W.exmOne K (.ref (T.ca 11)) (.ref (T.ca 6))=some false
 exm11_7:PySem.W.exmOne K (.ref (T.ca 11)) (.ref (T.ca 7))=some false
 exm11_8:PySem.W.exmOne K (.ref (T.ca 11)) (.ref (T.ca 8))=some false
 exm11_10:PySem.W.exmOne K (.ref (T.ca 11)) (.ref (T.ca 10))=some false
 exm12_3:PySem.W.exmOne K (.ref (T.ca 12)) (.ref (T.ca 3))=some false
 exm12_4:PySem.W.exmOne K (.ref (T.ca 12)) (.ref (T.ca 4))=some false
 exm12_6:PySem.W.exmOne K (.ref (T.ca 12)) (.ref (T.ca 6))=some false
 exm12_7:PySem.W.exmOne K (.ref (T.ca 12)) (.ref (T.ca 7))=some false
 exm12_8:PySem.W.exmOne K (.ref (T.ca 12)) (.ref (T.ca 8))=some false
 exm12_10:PySem.W.exmOne K (.ref (T.ca 12)) (.ref (T.ca 10))=some false
 c_FASTEST:∃t,mg "FASTEST" = some (.int 300 t)
 c_HOTTEST:∃t,mg "HOTTEST" = some (.int 300 t)
 c_LETTERS:∃t,mg "LETTERS" = some (.str "abcdefghijklmnopqrstuvwxyz" t)
 c_LONGEST_NAME:∃t,mg "LONGEST_NAME" = some (.int 12 t)
 c_MOST_BATCHES:∃t,mg "MOST_BATCHES" = some (.int 24 t)
 c_MOST_BENCHES:∃t,mg "MOST_BENCHES" = some (.int 6 t)
 c_MOST_BREADS:∃t,mg "MOST_BREADS" = some (.int 8 t)
 c_MOST_HANDS:∃t,mg "MOST_HANDS" = some (.int 6 t)
 c_MOST_LOAVES:∃t,mg "MOST_LOAVES" = some (.int 60 t)
 c_MOST_ORDERS:∃t,mg "MOST_ORDERS" = some (.int 12 t)
 c_MOST_OVENS:∃t,mg "MOST_OVENS" = some (.int 3 t)
 c_MOST_ROOM:∃t,mg "MOST_ROOM" = some (.int 30 t)
 c_MOST_STAGES:∃t,mg "MOST_STAGES" = some (.int 6 t)
 c_NIGHT:∃t,mg "NIGHT" = some (.int 720 t)
 c_WANTS:j17 K mg "WANTS" [.str "nothing",.str "hands",.str "bench",.str "oven"]
 n_all:mg "all" = none
 n_bool:mg "bool" = none
 n_enumerate:mg "enumerate" = none
 n_int:mg "int" = none
 n_isinstance:mg "isinstance" = none
 n_len:mg "len" = none
 n_list:mg "list" = none
 n_max:mg "max" = none
 n_min:mg "min" = none
 n_range:mg "range" = none
 n_set:mg "set" = none
 n_sum:mg "sum" = none
 n_tuple:mg "tuple" = none
local macro_rules | `(tactic| walk_at "sc")=>`(tactic| exact ⟨rfl,rfl,rfl,by decide +kernel,rfl,by decide +kernel,by decide +kernel⟩)
section
variable {P:Program} {w:World} {K:PySem.W.Frag} {mg:Str->Option Value} {base:Heap} {fa:Nat->Addr} {fd:Nat->FuncData} {T:Tb}
theorem fo0 (x:Tx K mg fa fd T):∀q∈[(19,0)],FoC T K "night" q:=foC x.cC19 x.na19_night x.fl19 foN
theorem fo1 (x:Tx K mg fa fd T):∀q∈[(14,0)],FoC T K "bread" q:=foC x.cC14 x.na14_bread x.fl14 foN
theorem fo2 (x:Tx K mg fa fd T):∀q∈[(14,1),(15,2),(17,4)],FoC T K "loaves" q:=foC x.cC14 x.na14_loaves x.fl14 (foC x.cC15 x.na15_loaves x.fl15 (foC x.cC17 x.na17_loaves x.fl17 foN))
theorem fo3 (x:Tx K mg fa fd T):∀q∈[(14,2)],FoC T K "due" q:=foC x.cC14 x.na14_due x.fl14 foN
theorem fo4 (x:Tx K mg fa fd T):∀q∈[(19,4)],FoC T K "breads" q:=foC x.cC19 x.na19_breads x.fl19 foN
theorem fo5 (x:Tx K mg fa fd T):∀q∈[(20,0),(21,0)],FoC T K "name" q:=foC x.cC20 x.na20_name x.fl20 (foC x.cC21 x.na21_name x.fl21 foN)
theorem fo6 (x:Tx K mg fa fd T):∀q∈[(19,3)],FoC T K "ovens" q:=foC x.cC19 x.na19_ovens x.fl19 foN
theorem fo7 (x:Tx K mg fa fd T):∀q∈[(13,0)],FoC T K "room" q:=foC x.cC13 x.na13_room x.fl13 foN
theorem j63:q0p ["_law_script","_law_k"] ["_law_script","_law_k"] (q0g j52):=by walk_at "sc"
noncomputable def q8U (ρ:Ro):Fl:=(q3m (eIx (q0f 0) (q0f 1))) ρ
noncomputable def q8l (ρ:Ro):Fl:=(q3m (eI 0)) ρ
noncomputable def q7I (ρ:Ro):Fl:=((sIf (tB2 qLt (q0f 1) (eCB q4H (q0o (q0f 0) q0O))) q8U Fl.nx) ρ).bind q8l
noncomputable def q62:Fn:=fnF 2 q7I
theorem q9X (x:Tx K mg fa fd T):q0X P w K mg base (CXE T P w) 1 (fa 58) (fd 58) ["_law_script","_law_k"] (spD T K 2 q62):=
 have hT:=x.me
 have hT0:=q0y x.me
 q4I x.me x.F58 j63 λcdv A outer s H E hr=>
  (q0b (q0V (q0L q9g (q0a 1) (q0v q1a rfl x.n_len rfl (q0i (q0a 0) q0l)) (nomark _)) (q0e (q0P (q00 (q0a 0) (q0a 1)))) q0s)
   (q0e (q0P q0c)))
theorem q6T:q0p ["_law_cell","_law_many","_law_letters","_law_shift","_law_stem","_law_place","_law_row_here"] ["_law_cell","_law_many"] (q0g j6a):=by walk_at "sc"
noncomputable def q51 (ρ:Ro):Fl:=(j0A (fFr (q0U (j0t (n1 (q0f 1))) [6,0] (q6W (q0f 1) oNo (oSo (q2D (q2D (q0f 0) (eI 1)) (q2z (q3t (q0f 2) (eI 2)) (eI 3)))))))) ρ
noncomputable def j1F (ρ:Ro):Fl:=((q1U 6 (q2D (q6W (q0f 2) (oSo (q0f 3)) oNo) (q6W (q0f 2) oNo (oSo (q0f 3))))) ρ).bind q51
noncomputable def q5o (ρ:Ro):Fl:=(j0A (fFr (q0U (j0t (n1 (q0f 1))) [4,2,5,3] (q2D (q2D (q6W (q0f 1) oNo (oSo (q0f 3))) (eIx (q0f 2) (q2z (q2D (q0f 4) (q0f 0)) (eI 26)))) (q6W (q0f 1) (oSo (q0f 3)) oNo))))) ρ
noncomputable def j1U (ρ:Ro):Fl:=((q1U 5 (q2z (q3t (q0f 0) (eI 24)) (q2D (eCB q4H (q0o (q0f 4) q0O)) (eI 1)))) ρ).bind q5o
noncomputable def q5u (ρ:Ro):Fl:=((q1U 4 (eMt q6q q7b (eS "") (q0o (q1B (q0U (j0t (n1 (q2z (q3t (q0f 0) (eI 2)) (eI 12)))) [2,0] (eIx (q0f 1) (q2z (q2D (q3t (q0f 2) (eI 7)) (j8p (q0f 0) (q2D (q0f 0) (eI 2)))) (eI 26))))) q0O))) ρ).bind j1U
noncomputable def q8u (ρ:Ro):Fl:=((sIf (tEq (q2z (q0f 0) (eI 2)) (eI 1)) j1F Fl.nx) ρ).bind q5u
noncomputable def q8a (ρ:Ro):Fl:=((q1U 3 (q2z (q3t (q0f 0) (eI 288)) (eI 26))) ρ).bind q8u
noncomputable def q7X (ρ:Ro):Fl:=((q1U 2 (eS "abcdefghijklmnopqrstuvwxyz")) ρ).bind q8a
noncomputable def j5i:Fn:=fnF 7 q7X
theorem j7l (x:Tx K mg fa fd T):q0X P w K mg base (CXE T P w) 1 (fa 60) (fd 60) ["_law_cell","_law_many"] (spD T K 2 j5i):=
 have hT:=x.me
 have hT0:=q0y x.me
 q4I x.me x.F60 q6T λcdv A outer s H E hr=>
  (q0b (q0D 2 q6T.nd q37)
   (q0b (q0D 3 q6T.nd (q0m q0G (q0m q0I (q0a 0) q0c) q0c))
   (q0b (q0V (q0L q2o (q0m q0G (q0a 0) q0c) q0c (nomark _)) (q0b (q0D 6 q6T.nd (q0m q0M (q2P (q0a 2) (q3i (q0a 3)) q3c) (q2P (q0a 2) q3c (q3i (q0a 3)))))
   (q0e (q4R (DF.dr (q13 hT0 rfl (q5q (j6g rfl x.n_range (q0a 1))) (j6k ["_law_row_here","_law_cell"] [6,0] (hc:=(q1r rfl rfl rfl (q1r rfl rfl rfl q5x)))) (λcl C s₀ H₀ ex=>(q2P (q0a 1) q3c (q3i (q0m q0M (q0m q0M (q0a 0) q0c) (q0m q0G (q0m q0I (q0a 2) q0c) q0c)))))))))) q0s)
   (q0b (q0D 4 q6T.nd (j5u j2q PySem.F.slot_str_join PySem.F.type_str_join q37 (q0i (DF.de (q13 hT0 rfl (q5q (j6g rfl x.n_range (q0m q0G (q0m q0I (q0a 0) q0c) q0c))) (j6k ["_law_letters","_law_cell"] [2,0] (hc:=(q1r rfl rfl rfl (q1r rfl rfl rfl q5x)))) (λcl C s₀ H₀ ex=>(q00 (q0a 1) (q0m q0G (q0m q0M (q0m q0I (q0a 2) q0c) (q0m j5d (q0a 0) (q0m q0M (q0a 0) q0c))) q0c))))) q0l)))
   (q0b (q0D 5 q6T.nd (q0m q0G (q0m q0I (q0a 0) q0c) (q0m q0M (q0v q1a rfl x.n_len rfl (q0i (q0a 4) q0l)) q0c)))
   (q0e (q4R (DF.dr (q13 hT0 rfl (q5q (j6g rfl x.n_range (q0a 1))) (j6k ["_law_stem","_law_letters","_law_place","_law_shift"] [4,2,5,3] (hc:=(q1r rfl rfl rfl (q1r rfl rfl rfl (q1r rfl rfl rfl (q1r rfl rfl rfl q5x)))))) (λcl C s₀ H₀ ex=>(q0m q0M (q0m q0M (q2P (q0a 1) q3c (q3i (q0a 3))) (q00 (q0a 2) (q0m q0G (q0m q0M (q0a 4) (q0a 0)) q0c))) (q2P (q0a 1) (q3i (q0a 3)) q3c))))))))))))
theorem j7a:q0p ["_law_found","_law_due_here"] ["_law_found","_law_due_here"] (q0g j5R):=by walk_at "sc"
noncomputable def j1q (ρ:Ro):Fl:=(q3m (q9R (j3x j3E (q0f 0)) (q9R (j4s (j3x q8t (q0f 0))) (e2 (λa b=>bD false (eqS a b)) (q0f 0) (q0f 1))))) ρ
noncomputable def j2v:Fn:=fnF 2 j1q
theorem j0u (x:Tx K mg fa fd T):q0X P w K mg base (CXE T P w) 1 (fa 59) (fd 59) ["_law_found","_law_due_here"] (spD T K 2 j2v):=
 have hT:=x.me
 have hT0:=q0y x.me
 q4I x.me x.F59 j7a λcdv A outer s H E hr=>
  (q0e (q0P (q7n (q4N rfl x.n_isinstance (q0a 0) rfl x.n_int rfl j2N q6Y) (q7n (j4q (q4N rfl x.n_isinstance (q0a 0) rfl x.n_bool rfl q99 q41)) (q4m (q1x q2o (q0a 0) (q0a 1) (nomark _)))))))
theorem j2x:q0p ["_law_book","_law_kept","_law_k","_law_order"] ["_law_book","_law_kept"] (q0g j6c):=by walk_at "sc"
noncomputable def j48 (ρ:Ro):Fl:=(q3m (eC (.bl false))) ρ
noncomputable def j5B (ρ:Ro):Fl:=(q3m (eC (.bl false))) ρ
noncomputable def j4V (ρ:Ro):Fl:=(q3m (eC (.bl false))) ρ
noncomputable def j07 (ρ:Ro):Fl:=(sIf (q9m (q1Y (q9k (rD (rC 2 j2v (gSh (q31 [(14,1),(15,2),(17,4)] (q0f 3)) (gSh (eIx (j50 (q4p 1) (q0f 2)) (eI 1)) gN0)))))) (q1Y (q9k (rD (rC 2 j2v (gSh (q31 [(14,2)] (q0f 3)) (gSh (eIx (j50 (q4p 1) (q0f 2)) (eI 2)) gN0))))))) j4V Fl.nx) ρ
noncomputable def j1B (ρ:Ro):Fl:=((sIf (q9m (q1Y (q9k (j3x (q9y 14) (q0f 3)))) (tNe (q31 [(14,0)] (q0f 3)) (eIx (j50 (q4p 1) (q0f 2)) (eI 0)))) j5B Fl.nx) ρ).bind j07
noncomputable def q9c (ρ:Ro):Fl:=((q1U 3 (eIx (q3d 0 18 1) (q0f 2))) ρ).bind j1B
noncomputable def j1z (ρ:Ro):Fl:=(q3m (eC (.bl true))) ρ
noncomputable def q5v (ρ:Ro):Fl:=((q9l (j0t (n1 (j0G (q4p 1)))) (q3k 2) q9c) ρ).bind j1z
noncomputable def q8y (ρ:Ro):Fl:=((sIf (q9m (q1Y (q9k (j3x q7t (q3d 0 18 1)))) (tNe (eCB q4H (q0o (q3d 0 18 1) q0O)) (j0G (q4p 1)))) j48 Fl.nx) ρ).bind q5v
noncomputable def j3N:Fn:=fnF 4 q8y
theorem q9L (x:Tx K mg fa fd T):q0X P w K mg base (CXE T P w) 2 (fa 64) (fd 64) ["_law_book","_law_kept"] (spD T K 2 j3N):=
 have hT:=x.me
 have hT0:=q0y x.me
 q4I x.me x.F64 j2x λcdv A outer s H E hr=>
  (q0b (q0V (DW.dt (q3L (q1b (q05 (q4N rfl x.n_isinstance (q1I (c:=18) 0 1 x.cC18 x.na18_orders (flA x.fl18) (flN x.fl18)) rfl x.n_list rfl q9Y q45))) (q2c (q0L q9Z (q0v q1a rfl x.n_len rfl (q0i (q1I (c:=18) 0 1 x.cC18 x.na18_orders (flA x.fl18) (flN x.fl18)) q0l)) (q15 rfl x.n_len (q1H 1)) (nomark _))))) (q0e (q0P q3B)) q0s)
   (q0b (q1X rfl (q5q (j6g rfl x.n_range (q15 rfl x.n_len (q1H 1)))) (q2q 2 j2x.nd) (q0b (q0D 3 j2x.nd (q00 (q1I (c:=18) 0 1 x.cC18 x.na18_orders (flA x.fl18) (flN x.fl18)) (q0a 2)))
   (q0b (q0V (DW.dt (q3L (q1b (q05 (j3z rfl x.n_isinstance (q0a 3) rfl x.mC14 (j2L x.ii14) (q6E _)))) (q2c (q0L q9Z (q1e (q0a 3) (fo1 x)) (q00 (q7i (q1H 1) (q0a 2)) q0c) (nomark _))))) (q0e (q0P q3B)) q0s)
   (q0e (q0V (DW.dt (q3L (q1b (q05 (DR.de (q0n (j0u x) hr.le rfl x.m59 x.F59.kp x.b59 .nil (λ_=>rfl) rfl (q0h (q1e (q0a 3) (fo2 x)) (q0h (q00 (q7i (q1H 1) (q0a 2)) q0c) q0k)))))) (q2c (q1b (q05 (DR.de (q0n (j0u x) hr.le rfl x.m59 x.F59.kp x.b59 .nil (λ_=>rfl) rfl (q0h (q1e (q0a 3) (fo3 x)) (q0h (q00 (q7i (q1H 1) (q0a 2)) q0c) q0k))))))))) (q0e (q0P q3B)) q0s)))))
   (q0e (q0P q3B))))
theorem q6R:q0p ["_law_cell","_law_night","_law_names_here","_law_part","_law_name","_law_loaves","_law_due_here"] ["_law_cell","_law_night","_law_names_here"] (q0g j54):=by walk_at "sc"
noncomputable def q5D (ρ:Ro):Fl:=(q1U 6 (eIx (q1B (q09 (q0o (q2D (q2D (q0f 1) (eI 1)) (q2z (q3t (q0f 0) (eI 72)) (eI 99))) (q0o (q46 (q46 (eI 0) (eI 1)) (q2z (q3t (q0f 0) (eI 72)) (eI 99))) q0O)))) (q2z (q3t (q0f 0) (eI 144)) (eI 2)))) ρ
noncomputable def q2W (ρ:Ro):Fl:=(q3m (j1S (q0o (q0f 4) (q0o (q0f 5) (q0o (q0f 6) q0O))))) ρ
noncomputable def q2I (ρ:Ro):Fl:=((sIf (q9m (tEq (q0f 3) (eI 9)) (tEq (q0f 3) (eI 11))) q5D Fl.nx) ρ).bind q2W
noncomputable def q2K (ρ:Ro):Fl:=((q1U 6 (q2z (q3t (q0f 0) (eI 11)) (q2D (q0f 1) (eI 1)))) ρ).bind q2I
noncomputable def q2Z (ρ:Ro):Fl:=((q1U 5 (eIx (q1B (q09 (q0o (q2D (eI 1) (q2z (q3t (q0f 0) (eI 72)) (eI 60))) (q0o (eIx (q1B (q09 (q33 [.int 0,.int 61]))) (q2z (q3t (q0f 0) (eI 72)) (eI 2))) q0O)))) (eCB q38 (q0o (j5X (e2 (λa b=>bD false (eqS a b)) (q0f 3) (eI 10)) (q9R (e2 (λa b=>bD false (eqS a b)) (q0f 3) (eI 11)) (e2 (λa b=>bD false (eqS a b)) (q2z (q3t (q0f 0) (eI 72)) (eI 3)) (eI 0)))) q0O)))) ρ).bind q2K
noncomputable def q18 (ρ:Ro):Fl:=((q1U 4 (eIx (q0f 2) (eIx (q1B (q09 (q0o (q2z (q0f 3) (q46 (eCB q4H (q0o (q0f 2) q0O)) (eI 1))) (q0o (q46 (eCB q4H (q0o (q0f 2) q0O)) (eI 1)) q0O)))) (eCB q38 (q0o (j5X (e2 (λa b=>bD false (eqS a b)) (q0f 3) (eI 8)) (e2 (λa b=>bD false (eqS a b)) (q0f 3) (eI 11))) q0O))))) ρ).bind q2Z
noncomputable def q7Z (ρ:Ro):Fl:=((q1U 3 (q2z (q3t (q0f 0) (eI 6)) (eI 12))) ρ).bind q18
noncomputable def j64:Fn:=fnF 7 q7Z
theorem j7o (x:Tx K mg fa fd T):q0X P w K mg base (CXE T P w) 1 (fa 65) (fd 65) ["_law_cell","_law_night","_law_names_here"] (spD T K 3 j64):=
 have hT:=x.me
 have hT0:=q0y x.me
 q4I x.me x.F65 q6R λcdv A outer s H E hr=>
  (q0b (q0D 3 q6R.nd (q0m q0G (q0m q0I (q0a 0) q0c) q0c))
   (q0b (q0D 4 q6R.nd (q00 (q0a 2) (q00 (DF.de (q0T (q0i (q0m q0G (q0a 3) (q0m q1y (q0v q1a rfl x.n_len rfl (q0i (q0a 2) q0l)) q0c)) (q0i (q0m q1y (q0v q1a rfl x.n_len rfl (q0i (q0a 2) q0l)) q0c) q0l)))) (q1m q2g rfl x.n_int rfl (q0i (j3w (q1x q2o (q0a 3) q0c (nomark _)) (q4m (q1x q2o (q0a 3) q0c (nomark _)))) q0l)))))
   (q0b (q0D 5 q6R.nd (q00 (DF.de (q0T (q0i (q0m q0M q0c (q0m q0G (q0m q0I (q0a 0) q0c) q0c)) (q0i (q00 (DF.de (q0T (q1s rfl))) (q0m q0G (q0m q0I (q0a 0) q0c) q0c)) q0l)))) (q1m q2g rfl x.n_int rfl (q0i (j3w (q1x q2o (q0a 3) q0c (nomark _)) (q4m (q7n (q1x q2o (q0a 3) q0c (nomark _)) (q4m (q1x q2o (q0m q0G (q0m q0I (q0a 0) q0c) q0c) q0c (nomark _)))))) q0l))))
   (q0b (q0D 6 q6R.nd (q0m q0G (q0m q0I (q0a 0) q0c) (q0m q0M (q0a 1) q0c)))
   (q0b (q0V (DW.dt (q3L (q0L q2o (q0a 3) q0c (nomark _)) (q2c (q0L q2o (q0a 3) q0c (nomark _))))) (q0e (q0D 6 q6R.nd (q00 (DF.de (q0T (q0i (q0m q0M (q0m q0M (q0a 1) q0c) (q0m q0G (q0m q0I (q0a 0) q0c) q0c)) (q0i (q0m q1y (q0m q1y q0c q0c) (q0m q0G (q0m q0I (q0a 0) q0c) q0c)) q0l)))) (q0m q0G (q0m q0I (q0a 0) q0c) q0c)))) q0s)
   (q0e (q0P (q2G (q0i (q0a 4) (q0i (q0a 5) (q0i (q0a 6) q0l)))))))))))
theorem j6X:q0p ["_law_kept","_law_row_here","_law_night","_law_names_here","_law_most"] ["_law_kept","_law_row_here","_law_night","_law_names_here","_law_most"] (q0g j6d):=by walk_at "sc"
noncomputable def q7j (ρ:Ro):Fl:=(q3m (eI 1)) ρ
noncomputable def j1j (ρ:Ro):Fl:=(q3m (eI 2)) ρ
noncomputable def j0K (ρ:Ro):Fl:=(q3m (eI 3)) ρ
noncomputable def q80 (ρ:Ro):Fl:=(q3m (eI 4)) ρ
noncomputable def j1M (ρ:Ro):Fl:=(q3m (eI 5)) ρ
noncomputable def j1Q (ρ:Ro):Fl:=(q3m (eI 0)) ρ
noncomputable def q6i (ρ:Ro):Fl:=((sIf (tB2 qGt (eCB j3i (q0o (q1B (q0U (q2x (q1B (j3v (q4p 0) (q09 (q0o (q0f 1) q0O))))) [4] (q3t (q46 (q2D (eIx (q0f 0) (eI 1)) (q0f 1)) (eI 1)) (q0f 1)))) q0O)) (eI 24)) j1M Fl.nx) ρ).bind j1Q
noncomputable def q6m (ρ:Ro):Fl:=((sIf (q9m (tB2 qLt (eIx (q0f 1) (eI 2)) (eI 0)) (tB2 qGt (eIx (q0f 1) (eI 2)) (q0f 2))) q80 Fl.nx) ρ).bind q6i
noncomputable def q4o (ρ:Ro):Fl:=((sIf (tB2 (inD true) (eIx (q0f 1) (eI 0)) (q1B (j3y (q2x (q0f 3)) oNo (oSo (j5T (eI 1)))))) j0K Fl.nx) ρ).bind q6m
noncomputable def q2j (ρ:Ro):Fl:=((sIf (tB2 qGe (j0G (q4p 0)) (eI 12)) j1j Fl.nx) ρ).bind q4o
noncomputable def q1t (ρ:Ro):Fl:=((sIf (q9m (tB2 qLt (eIx (q0f 1) (eI 1)) (eI 1)) (tB2 qGt (eIx (q0f 1) (eI 1)) (eI 60))) q7j Fl.nx) ρ).bind q2j
noncomputable def j7q:Fn:=fnF 5 q1t
theorem j65 (x:Tx K mg fa fd T):q0X P w K mg base (CXE T P w) 1 (fa 63) (fd 63) ["_law_kept","_law_row_here","_law_night","_law_names_here","_law_most"] (spD T K 5 j7q):=
 have hT:=x.me
 have hT0:=q0y x.me
 q4I x.me x.F63 j6X λcdv A outer s H E hr=>
  (q0b (q0V (DW.dt (q3L (q0L q9g (q00 (q0a 1) q0c) q0c (nomark _)) (q2c (q0L q44 (q00 (q0a 1) q0c) q0c (nomark _))))) (q0e (q0P q0c)) q0s)
   (q0b (q0V (q0L j6Z (q15 rfl x.n_len (q1H 0)) q0c (nomark _)) (q0e (q0P q0c)) q0s)
   (q0b (q0V (q0L q58 (q00 (q0a 1) q0c) (DF.de (q4d (DE.dl (q0a 3)) q3c (q3i (j0N q0c)))) rfl) (q0e (q0P q0c)) q0s)
   (q0b (q0V (DW.dt (q3L (q0L q9g (q00 (q0a 1) q0c) q0c (nomark _)) (q2c (q0L q44 (q00 (q0a 1) q0c) (q0a 2) (nomark _))))) (q0e (q0P q0c)) q0s)
   (q0b (q0V (q0L q44 (q0v (j4b rfl) rfl x.n_sum rfl (q0i (DF.de (q13 hT0 rfl (q2f (DE.dp (DF.de (q8C (q1H 0) (DF.dl (q0T (q0i (q0a 1) q0l))))))) (j6k ["_law_most"] [4] (hc:=(q1r rfl rfl rfl q5x))) (λcl C s₀ H₀ ex=>(q0m q0I (q0m q1y (q0m q0M (q00 (q0a 0) q0c) (q0a 1)) q0c) (q0a 1))))) q0l)) q0c (nomark _)) (q0e (q0P q0c)) q0s)
   (q0e (q0P q0c)))))))
theorem j8P:q0p ["count","lowest","highest"] ["count","lowest","highest"] (q0g s_3):=by walk_at "sc"
noncomputable def j20 (ρ:Ro):Fl:=(q1R 4 (q0o (eJ (q3l q43 (q0f 0) (q4L " of them, not " (q3l q43 (q0f 1) (q4L " to " (q3l q43 (q0f 2) jN0)))))) q0O)) ρ
noncomputable def q9H (ρ:Ro):Fl:=(sIf (q1Y (tCh qLe qLe (q0f 1) (q0f 0) (q0f 2))) j20 Fl.nx) ρ
noncomputable def F_3:Fn:=fnF 3 q9H
theorem j6n (x:Tx K mg fa fd T):q0X P w K mg base (CXE T P w) 1 (fa 3) (fd 3) ["count","lowest","highest"] (spD T K 3 F_3):=
 have hT:=x.me
 have hT0:=q0y x.me
 q4I x.me x.F3 j8P λcdv A outer s H E hr=>
  (q0e (q0V (q1b (q2d q3b q3b (q0a 1) (q0a 0) (q0a 2))) (q0e (q02 (c:=4) rfl x.xc4 rfl x.mC4 (q0i (q1v (q1n (q0a 0) (q1d (q1n (q0a 1) (q1d (q1n (q0a 2) q2a)))))) q0l) hsh1)) q0s))
theorem j4N:q0p ["self","name","bread"] ["self","name"] (q0g j5Z):=by walk_at "sc"
noncomputable def q88 (ρ:Ro):Fl:=(q3m (q0f 2)) ρ
noncomputable def q5C (ρ:Ro):Fl:=(sIf (tEq (q31 [(20,0),(21,0)] (q0f 2)) (q0f 1)) q88 Fl.nx) ρ
noncomputable def j1o (ρ:Ro):Fl:=(q1R 6 (q0o (eJ (q4L "the bakery has no bread " (q3l q7N (q0f 1) jN0))) q0O)) ρ
noncomputable def q5Z (ρ:Ro):Fl:=((q9l (j3f (q31 [(19,4)] (q0f 0))) (q3k 2) q5C) ρ).bind j1o
noncomputable def j57:Fn:=fnF 3 q5Z
theorem j6z (x:Tx K mg fa fd T):q0X P w K mg base (CXE T P w) 1 (fa 51) (fd 51) ["self","name"] (spD T K 2 j57):=
 have hT:=x.me
 have hT0:=q0y x.me
 q4I x.me x.F51 j4N λcdv A outer s H E hr=>
  (q0b (q1X rfl (j1y (q1e (q0a 0) (fo4 x))) (q2q 2 j4N.nd) (q0e (q0V (q0L q2o (q1e (q0a 2) (fo5 x)) (q0a 1) (nomark _)) (q0e (q0P (q0a 2))) q0s)))
   (q0e (q02 (c:=6) rfl x.xc6 rfl x.mC6 (q0i (q1v (q1d (q5b (q0a 1) q2a))) q0l) hsh1)))
theorem j78:q0p ["due","night"] ["due","night"] (q0g s_9):=by walk_at "sc"
noncomputable def j3G (ρ:Ro):Fl:=(q1R 7 (q0o (eJ (q4L "minute " (q3l q43 (q0f 0) (q4L " does not lie from 0 to " (q3l q43 (q0f 1) jN0))))) q0O)) ρ
noncomputable def j0h (ρ:Ro):Fl:=(sIf (q1Y (tCh qLe qLe (eI 0) (q0f 0) (q0f 1))) j3G Fl.nx) ρ
noncomputable def F_9:Fn:=fnF 2 j0h
theorem j8M (x:Tx K mg fa fd T):q0X P w K mg base (CXE T P w) 1 (fa 9) (fd 9) ["due","night"] (spD T K 2 F_9):=
 have hT:=x.me
 have hT0:=q0y x.me
 q4I x.me x.F9 j78 λcdv A outer s H E hr=>
  (q0e (q0V (q1b (q2d q3b q3b q0c (q0a 0) (q0a 1))) (q0e (q02 (c:=7) rfl x.xc7 rfl x.mC7 (q0i (q1v (q1d (q1n (q0a 0) (q1d (q1n (q0a 1) q2a))))) q0l) hsh1)) q0s))
theorem j8e:q0p ["self","order","first","loaves"] ["self","order","first","loaves"] (q0g s_7):=by walk_at "sc"
noncomputable def j5r (ρ:Ro):Fl:=(q0H 15 2 (q0f 3)) ρ
noncomputable def j3Y (ρ:Ro):Fl:=((q0H 15 1 (q0f 2)) ρ).bind j5r
noncomputable def j49 (ρ:Ro):Fl:=((q0H 15 0 (q0f 1)) ρ).bind j3Y
noncomputable def F_7:Fn:=q3f 4 15 3 j49
theorem j8N (x:Tx K mg fa fd T):q0X P w K mg base (CXE T P w) 1 (fa 7) (fd 7) ["self","order","first","loaves"] (spI T K 15 4 F_7):=
 have hT0:=q0y x.me
 j3J x.me (by rw [x.fl15];rfl) (q1L x.F7) j8e λy cdv A outer s H E hr=>
  (q0b (q0J (c:=15) 0 x.cC15 x.na15_order (flA x.fl15) (flN x.fl15) (by decide) (q0a 1))
   (q0b (q0J (c:=15) 1 x.cC15 x.na15_first (flA x.fl15) (flN x.fl15) (by decide) (q0a 2))
   (q0e (q0J (c:=15) 2 x.cC15 x.na15_loaves (flA x.fl15) (flN x.fl15) (by decide) (q0a 3)))))
theorem q6y:q0p ["orders","most","row","number","order","first","left"] ["orders","most"] (q0g j5Y):=by walk_at "sc"
noncomputable def j1f (ρ:Ro):Fl:=(j6v 2 (rD (rC 3 F_7 (gSh (q0f 3) (gSh (q0f 5) (gSh (eCB j68 (q0o (q0f 1) (q0o (q0f 6) q0O))) gN0)))))) ρ
noncomputable def q7c (ρ:Ro):Fl:=((q1U 6 (q2D (q46 (q31 [(14,1),(15,2),(17,4)] (q0f 4)) (q0f 5)) (eI 1))) ρ).bind j1f
noncomputable def q8i (ρ:Ro):Fl:=(q9l (j0k (eI 1) (q2D (q31 [(14,1),(15,2),(17,4)] (q0f 4)) (eI 1)) (q0f 1)) (q3k 5) q7c) ρ
noncomputable def j1C (ρ:Ro):Fl:=(j2k 2) ρ
noncomputable def q5J (ρ:Ro):Fl:=((q9l (j7W (q2x (q0f 0))) (j0S [3,4]) q8i) ρ).bind j1C
noncomputable def j1Z (ρ:Ro):Fl:=((j4x 2 (fFr (q09 q0O))) ρ).bind q5J
noncomputable def j5V:Fn:=fnF 7 j1Z
theorem j67 (x:Tx K mg fa fd T):q0X P w K mg base (CXE T P w) 3 (fa 11) (fd 11) ["orders","most"] (spD T K 2 j5V):=
 have hT:=x.me
 have hT0:=q0y x.me
 q4I x.me x.F11 q6y λcdv A outer s H E hr=>
  (q0b (j2X 2 q6y.nd (DF.dr (q0T q0l)))
   (q0b (q1X rfl (j0b rfl x.n_enumerate (DE.dp (q0a 0))) (q8X rfl (q1O 3 q6y.nd (q1O 4 q6y.nd q4T))) (q0e (q1X rfl (j2y rfl x.n_range q0c (q0m q0M (q1e (q0a 4) (fo2 x)) q0c) (q0a 1)) (q2q 5 q6y.nd) (q0b (q0D 6 q6y.nd (q0m q0M (q0m q1y (q1e (q0a 4) (fo2 x)) (q0a 5)) q0c))
   (q0e (j4I 2 (DR.de (q10 x.mk15 (j8N x) q1q hr.le rfl x.mC15 x.b7 .nil (λ_=>rfl) rfl (q0h (q0a 3) (q0h (q0a 5) (q0h (q0v (j4M rfl) rfl x.n_min rfl (q0i (q0a 1) (q0i (q0a 6) q0l))) q0k)))))))))))
   (q0e (j3o 2))))
theorem j8q:q0p ["bakery"] ["bakery"] (q0g s_8):=by walk_at "sc"
noncomputable def j5e (ρ:Ro):Fl:=(q3m (eCB q89 (q0o (q1B (q0U (j3f (q31 [(19,3)] (q0f 0))) [] (q31 [(13,0)] (q0f 0)))) q0O))) ρ
noncomputable def F_8:Fn:=fnF 1 j5e
theorem j8E (x:Tx K mg fa fd T):q0X P w K mg base (CXE T P w) 1 (fa 8) (fd 8) ["bakery"] (spD T K 1 F_8):=
 have hT:=x.me
 have hT0:=q0y x.me
 q4I x.me x.F8 j8q λcdv A outer s H E hr=>
  (q0e (q0P (q0v (j2S rfl) rfl x.n_max rfl (q0i (DF.de (q13 hT0 rfl (j1y (q1e (q0a 0) (fo6 x))) cap0 (λcl C s₀ H₀ ex=>(q1e (q0a 0) (fo7 x))))) q0l))))
theorem q9r:q0p ["bakery","orders","order","count"] ["bakery","orders"] (q0g j6m):=by walk_at "sc"
noncomputable def q2u (ρ:Ro):Fl:=(q1k (rD (j5t (n:=2) 19 j57 (q0f 0) (gSh (q31 [(14,0)] (q0f 2)) gN0)))) ρ
noncomputable def q2s (ρ:Ro):Fl:=(q1k (rD (rC 2 F_9 (gSh (q31 [(14,2)] (q0f 2)) (gSh (q31 [(19,0)] (q0f 0)) gN0))))) ρ
noncomputable def j1X (ρ:Ro):Fl:=(q1R 8 (q0o (eJ (q3l q43 (q0f 3) (q4L " batches, not at most " (q3l q43 (eI 24) jN0)))) q0O)) ρ
noncomputable def q8v (ρ:Ro):Fl:=(sIf (tB2 qGt (q0f 3) (eI 24)) j1X Fl.nx) ρ
noncomputable def q3w (ρ:Ro):Fl:=((q1U 3 (eCB q4H (q0o (rD (rC 2 j5V (gSh (q0f 1) (gSh (rD (rC 1 F_8 (gSh (q0f 0) gN0))) gN0)))) q0O))) ρ).bind q8v
noncomputable def q4s (ρ:Ro):Fl:=((q9l (q2x (q0f 1)) (q3k 2) q2s) ρ).bind q3w
noncomputable def q2v (ρ:Ro):Fl:=((q9l (q2x (q0f 1)) (q3k 2) q2u) ρ).bind q4s
noncomputable def q5w (ρ:Ro):Fl:=((q1k (rD (rC 3 F_3 (gSh (eCB q4H (q0o (q0f 1) q0O)) (gSh (eI 0) (gSh (eI 12) gN0)))))) ρ).bind q2v
noncomputable def q9A:Fn:=fnF 4 q5w
theorem j6O (x:Tx K mg fa fd T):q0X P w K mg base (CXE T P w) 4 (fa 10) (fd 10) ["bakery","orders"] (spD T K 2 q9A):=
 have hT:=x.me
 have hT0:=q0y x.me
 q4I x.me x.F10 q9r λcdv A outer s H E hr=>
  (q0b (q0C (DR.de (q0n (j6n x) hr.le rfl x.m3 x.F3.kp x.b3 .nil (λ_=>rfl) rfl (q0h (q0v q1a rfl x.n_len rfl (q0i (q0a 1) q0l)) (q0h q0c (q0h (q0x rfl x.c_MOST_ORDERS) q0k))))))
   (q0b (q1X rfl (q2f (DE.dp (q0a 1))) (q2q 2 q9r.nd) (q0e (q0C (DR.de (j2b (q0a 0) x.cC19 x.mt51 (by rw [x.fl19];decide) (j6z x) hr.le x.b51 rfl (q0h (q1e (q0a 2) (fo1 x)) q0k))))))
   (q0b (q1X rfl (q2f (DE.dp (q0a 1))) (q2q 2 q9r.nd) (q0e (q0C (DR.de (q0n (j8M x) hr.le rfl x.m9 x.F9.kp x.b9 .nil (λ_=>rfl) rfl (q0h (q1e (q0a 2) (fo3 x)) (q0h (q1e (q0a 0) (fo0 x)) q0k)))))))
   (q0b (q0D 3 q9r.nd (q0v q1a rfl x.n_len rfl (q0i (DR.de (q0n (j67 x) hr.le rfl x.m11 x.F11.kp x.b11 .nil (λ_=>rfl) rfl (q0h (q0a 1) (q0h (DR.de (q0n (j8E x) hr.le rfl x.m8 x.F8.kp x.b8 .nil (λ_=>rfl) rfl (q0h (q0a 0) q0k))) q0k)))) q0l)))
   (q0e (q0V (q0L q44 (q0a 3) (q0x rfl x.c_MOST_BATCHES) (nomark _)) (q0e (q02 (c:=8) rfl x.xc8 rfl x.mC8 (q0i (q1v (q1n (q0a 3) (q1d (q1n (q0x rfl x.c_MOST_BATCHES) q2a)))) q0l) hsh1)) q0s))))))
theorem j8H:q0p ["number","lowest","highest"] ["number","lowest","highest"] (q0g s_2):=by walk_at "sc"
noncomputable def j3t (ρ:Ro):Fl:=(q1R 3 (q0o (eJ (q3l q43 (q0f 0) (q4L " does not lie from " (q3l q43 (q0f 1) (q4L " to " (q3l q43 (q0f 2) jN0)))))) q0O)) ρ
noncomputable def q9P (ρ:Ro):Fl:=(sIf (q1Y (tCh qLe qLe (q0f 1) (q0f 0) (q0f 2))) j3t Fl.nx) ρ
noncomputable def F_2:Fn:=fnF 3 q9P
theorem q9j (x:Tx K mg fa fd T):q0X P w K mg base (CXE T P w) 1 (fa 2) (fd 2) ["number","lowest","highest"] (spD T K 3 F_2):=
 have hT:=x.me
 have hT0:=q0y x.me
 q4I x.me x.F2 j8H λcdv A outer s H E hr=>
  (q0e (q0V (q1b (q2d q3b q3b (q0a 1) (q0a 0) (q0a 2))) (q0e (q02 (c:=3) rfl x.xc3 rfl x.mC3 (q0i (q1v (q1n (q0a 0) (q1d (q1n (q0a 1) (q1d (q1n (q0a 2) q2a)))))) q0l) hsh1)) q0s))
theorem j8k:q0p ["self","bread","loaves","due"] ["self","bread","loaves","due"] (q0g s_6):=by walk_at "sc"
noncomputable def j4P (ρ:Ro):Fl:=(q0H 14 2 (q0f 3)) ρ
noncomputable def j4e (ρ:Ro):Fl:=((q0H 14 1 (q0f 2)) ρ).bind j4P
noncomputable def j5z (ρ:Ro):Fl:=((q0H 14 0 (q0f 1)) ρ).bind j4e
noncomputable def j3m (ρ:Ro):Fl:=((q1k (rD (rC 3 F_2 (gSh (q0f 2) (gSh (eI 1) (gSh (eI 60) gN0)))))) ρ).bind j5z
noncomputable def F_6:Fn:=q3f 4 14 3 j3m
theorem j77 (x:Tx K mg fa fd T):q0X P w K mg base (CXE T P w) 2 (fa 6) (fd 6) ["self","bread","loaves","due"] (spI T K 14 4 F_6):=
 have hT0:=q0y x.me
 j3J x.me (by rw [x.fl14];rfl) (q1L x.F6) j8k λy cdv A outer s H E hr=>
  (q0b (q0C (DR.de (q0n (q1f (q9j x)) hr.le rfl x.m2 x.F2.kp x.b2 .nil (λ_=>rfl) rfl (q0h (q0a 2) (q0h q0c (q0h (q0x rfl x.c_MOST_LOAVES) q0k))))))
   (q0b (q0J (c:=14) 0 x.cC14 x.na14_bread (flA x.fl14) (flN x.fl14) (by decide) (q0a 1))
   (q0b (q0J (c:=14) 1 x.cC14 x.na14_loaves (flA x.fl14) (flN x.fl14) (by decide) (q0a 2))
   (q0e (q0J (c:=14) 2 x.cC14 x.na14_due (flA x.fl14) (flN x.fl14) (by decide) (q0a 3))))))
theorem j3S:q0p ["self","bread","loaves","due","orders"] ["self","bread","loaves","due"] (q0g j56):=by walk_at "sc"
noncomputable def j1P (ρ:Ro):Fl:=(q2L 18 2 false (eCB q4H (q0o (q0f 4) q0O))) ρ
noncomputable def j0I (ρ:Ro):Fl:=((q8b 18 1 2 (q0f 4)) ρ).bind j1P
noncomputable def q7P (ρ:Ro):Fl:=((q1k (rD (rC 2 q9A (gSh (q3d 0 18 0) (gSh (q0f 4) gN0))))) ρ).bind j0I
noncomputable def q5H (ρ:Ro):Fl:=((q1U 4 (q1B (j3v (q2x (q3d 0 18 1)) (q09 (q0o (rD (rC 3 F_6 (gSh (q0f 1) (gSh (q0f 2) (gSh (q0f 3) gN0))))) q0O))))) ρ).bind q7P
noncomputable def j2M:FnM:=mF 5 18 2 false q5H
theorem j6F (x:Tx K mg fa fd T):q0X P w K mg base (CXE T P w) 5 (fa 46) (fd 46) ["self","bread","loaves","due"] (spM T K 18 false 4 j2M):=
 j3O (q0z x.fl18) (q1L x.F46) j3S λy m cdv A outer s H E hmo hr=>
  (q0b (q0D 4 j3S.nd (DF.de (q8C (DE.dl (q1I (c:=18) 0 1 x.cC18 x.na18_orders (flA x.fl18) (flN x.fl18))) (DF.dl (q0T (q0i (DR.de (q10 x.mk14 (j3Q (j77 x)) q1q hr.le rfl x.mC14 x.b6 .nil (λ_=>rfl) rfl (q0h (q0a 1) (q0h (q0a 2) (q0h (q0a 3) q0k))))) q0l))))))
   (q0b (q0C (DR.de (q0n (q1f (j6O x)) hr.le rfl x.m10 x.F10.kp x.b10 .nil (λ_=>rfl) rfl (q0h (q1I (c:=18) 0 0 x.cC18 x.na18_bakery (flA x.fl18) (flN x.fl18)) (q0h (q0a 4) q0k)))))
   (q0b (q3A (c:=18) 1 (q0z x.fl18) (by decide) x.cC18 x.na18_orders (flA x.fl18) (flN x.fl18) (by decide) (q0a 4))
   (q0e (q1j (q0z x.fl18) hmo (q0v q1a rfl x.n_len rfl (q0i (q0a 4) q0l)))))))
theorem j6s:q0p ["_law_book","_law_name","_law_loaves","_law_due_here"] ["_law_book","_law_name","_law_loaves","_law_due_here"] (q0g j6l):=by walk_at "sc"
noncomputable def q82 (ρ:Ro):Fl:=(j3A 18 2 false "told" (eM 3 18 2 j2M (gSh (q0f 1) (gSh (q0f 2) (gSh (q0f 3) gN0))))) ρ
noncomputable def j12 (ρ:Ro):Fl:=(q2L 18 2 false (j1S (q33 [.str "refused",.int 5]))) ρ
noncomputable def j0L (ρ:Ro):Fl:=(q2L 18 2 false (j1S (q33 [.str "refused",.int 4]))) ρ
noncomputable def j14 (ρ:Ro):Fl:=(q2L 18 2 false (j1S (q33 [.str "refused",.int 3]))) ρ
noncomputable def j01 (ρ:Ro):Fl:=(q2L 18 2 false (j1S (q33 [.str "refused",.int 2]))) ρ
noncomputable def j1b (ρ:Ro):Fl:=(q2L 18 2 false (j1S (q33 [.str "refused",.int 1]))) ρ
noncomputable def q7v (ρ:Ro):Fl:=(q7Y q82 (q2H (λc=>List.lookup c [(0,false),(1,false),(2,false),(3,true),(4,false),(5,false),(6,false),(7,false),(8,false),(9,false),(10,false),(11,false),(12,false)]) j1b (q2H (λc=>List.lookup c [(0,false),(1,false),(2,false),(3,false),(4,true),(5,false),(6,false),(7,false),(8,false),(9,false),(10,false),(11,false),(12,false)]) j01 (q2H (λc=>List.lookup c [(0,false),(1,false),(2,false),(3,false),(4,false),(5,false),(6,true),(7,false),(8,false),(9,false),(10,false),(11,false),(12,false)]) j14 (q2H (λc=>List.lookup c [(0,false),(1,false),(2,false),(3,false),(4,false),(5,false),(6,false),(7,true),(8,false),(9,false),(10,false),(11,false),(12,false)]) j0L (q2H (λc=>List.lookup c [(0,false),(1,false),(2,false),(3,false),(4,false),(5,false),(6,false),(7,false),(8,true),(9,false),(10,false),(11,false),(12,false)]) j12 (λ_ _=>.bad))))))) ρ
noncomputable def j5w:FnM:=mF 4 18 2 false q7v
theorem j6H (x:Tx K mg fa fd T):q0X P w K mg base (CXE T P w) 6 (fa 61) (fd 61) ["_law_book","_law_name","_law_loaves","_law_due_here"] (spM T K 18 false 4 j5w):=
 j3O (q0z x.fl18) (q1L x.F61) j6s λy m cdv A outer s H E hmo hr=>
  (q0e (j11 rfl rfl (λpn=>(q0e (q69 (q0z x.fl18) hmo (q7a (q0z x.fl18) x.cC18 x.mt46 (by show _∉T.fl 18;rw [x.fl18];decide) (q5l (j6F x)) hr.le x.b46 rfl (q0h (q0a 1) (q0h (q0a 2) (q0h (q0a 3) q0k))))))) (q2n (k:=3) (m:=λc=>List.lookup c [(0,false),(1,false),(2,false),(3,true),(4,false),(5,false),(6,false),(7,false),(8,false),(9,false),(10,false),(11,false),(12,false)]) rfl x.mC3 (q2m (List.forall_mem_cons.mpr ⟨x.exm0_3,List.forall_mem_cons.mpr ⟨x.exm1_3,List.forall_mem_cons.mpr ⟨x.exm2_3,List.forall_mem_cons.mpr ⟨x.exm3_3,List.forall_mem_cons.mpr ⟨x.exm4_3,List.forall_mem_cons.mpr ⟨x.exm5_3,List.forall_mem_cons.mpr ⟨x.exm6_3,List.forall_mem_cons.mpr ⟨x.exm7_3,List.forall_mem_cons.mpr ⟨x.exm8_3,List.forall_mem_cons.mpr ⟨x.exm9_3,List.forall_mem_cons.mpr ⟨x.exm10_3,List.forall_mem_cons.mpr ⟨x.exm11_3,List.forall_mem_cons.mpr ⟨x.exm12_3,List.forall_mem_nil _⟩⟩⟩⟩⟩⟩⟩⟩⟩⟩⟩⟩⟩)) (λu=>(q0e (q1j (q0z x.fl18) hmo (q2G (q1s rfl))))) (q2n (k:=4) (m:=λc=>List.lookup c [(0,false),(1,false),(2,false),(3,false),(4,true),(5,false),(6,false),(7,false),(8,false),(9,false),(10,false),(11,false),(12,false)]) rfl x.mC4 (q2m (List.forall_mem_cons.mpr ⟨x.exm0_4,List.forall_mem_cons.mpr ⟨x.exm1_4,List.forall_mem_cons.mpr ⟨x.exm2_4,List.forall_mem_cons.mpr ⟨x.exm3_4,List.forall_mem_cons.mpr ⟨x.exm4_4,List.forall_mem_cons.mpr ⟨x.exm5_4,List.forall_mem_cons.mpr ⟨x.exm6_4,List.forall_mem_cons.mpr ⟨x.exm7_4,List.forall_mem_cons.mpr ⟨x.exm8_4,List.forall_mem_cons.mpr ⟨x.exm9_4,List.forall_mem_cons.mpr ⟨x.exm10_4,List.forall_mem_cons.mpr ⟨x.exm11_4,List.forall_mem_cons.mpr ⟨x.exm12_4,List.forall_mem_nil _⟩⟩⟩⟩⟩⟩⟩⟩⟩⟩⟩⟩⟩)) (λu=>(q0e (q1j (q0z x.fl18) hmo (q2G (q1s rfl))))) (q2n (k:=6) (m:=λc=>List.lookup c [(0,false),(1,false),(2,false),(3,false),(4,false),(5,false),(6,true),(7,false),(8,false),(9,false),(10,false),(11,false),(12,false)]) rfl x.mC6 (q2m (List.forall_mem_cons.mpr ⟨x.exm0_6,List.forall_mem_cons.mpr ⟨x.exm1_6,List.forall_mem_cons.mpr ⟨x.exm2_6,List.forall_mem_cons.mpr ⟨x.exm3_6,List.forall_mem_cons.mpr ⟨x.exm4_6,List.forall_mem_cons.mpr ⟨x.exm5_6,List.forall_mem_cons.mpr ⟨x.exm6_6,List.forall_mem_cons.mpr ⟨x.exm7_6,List.forall_mem_cons.mpr ⟨x.exm8_6,List.forall_mem_cons.mpr ⟨x.exm9_6,List.forall_mem_cons.mpr ⟨x.exm10_6,List.forall_mem_cons.mpr ⟨x.exm11_6,List.forall_mem_cons.mpr ⟨x.exm12_6,List.forall_mem_nil _⟩⟩⟩⟩⟩⟩⟩⟩⟩⟩⟩⟩⟩)) (λu=>(q0e (q1j (q0z x.fl18) hmo (q2G (q1s rfl))))) (q2n (k:=7) (m:=λc=>List.lookup c [(0,false),(1,false),(2,false),(3,false),(4,false),(5,false),(6,false),(7,true),(8,false),(9,false),(10,false),(11,false),(12,false)]) rfl x.mC7 (q2m (List.forall_mem_cons.mpr ⟨x.exm0_7,List.forall_mem_cons.mpr ⟨x.exm1_7,List.forall_mem_cons.mpr ⟨x.exm2_7,List.forall_mem_cons.mpr ⟨x.exm3_7,List.forall_mem_cons.mpr ⟨x.exm4_7,List.forall_mem_cons.mpr ⟨x.exm5_7,List.forall_mem_cons.mpr ⟨x.exm6_7,List.forall_mem_cons.mpr ⟨x.exm7_7,List.forall_mem_cons.mpr ⟨x.exm8_7,List.forall_mem_cons.mpr ⟨x.exm9_7,List.forall_mem_cons.mpr ⟨x.exm10_7,List.forall_mem_cons.mpr ⟨x.exm11_7,List.forall_mem_cons.mpr ⟨x.exm12_7,List.forall_mem_nil _⟩⟩⟩⟩⟩⟩⟩⟩⟩⟩⟩⟩⟩)) (λu=>(q0e (q1j (q0z x.fl18) hmo (q2G (q1s rfl))))) (q2n (k:=8) (m:=λc=>List.lookup c [(0,false),(1,false),(2,false),(3,false),(4,false),(5,false),(6,false),(7,false),(8,true),(9,false),(10,false),(11,false),(12,false)]) rfl x.mC8 (q2m (List.forall_mem_cons.mpr ⟨x.exm0_8,List.forall_mem_cons.mpr ⟨x.exm1_8,List.forall_mem_cons.mpr ⟨x.exm2_8,List.forall_mem_cons.mpr ⟨x.exm3_8,List.forall_mem_cons.mpr ⟨x.exm4_8,List.forall_mem_cons.mpr ⟨x.exm5_8,List.forall_mem_cons.mpr ⟨x.exm6_8,List.forall_mem_cons.mpr ⟨x.exm7_8,List.forall_mem_cons.mpr ⟨x.exm8_8,List.forall_mem_cons.mpr ⟨x.exm9_8,List.forall_mem_cons.mpr ⟨x.exm10_8,List.forall_mem_cons.mpr ⟨x.exm11_8,List.forall_mem_cons.mpr ⟨x.exm12_8,List.forall_mem_nil _⟩⟩⟩⟩⟩⟩⟩⟩⟩⟩⟩⟩⟩)) (λu=>(q0e (q1j (q0z x.fl18) hmo (q2G (q1s rfl))))) j0V)))))))
theorem j44:q0p ["self","number","count"] ["self","number"] (q0g j6e):=by walk_at "sc"
noncomputable def q8j (ρ:Ro):Fl:=(q1R 10 (q0o (eJ (q4L "no order " (q3l q43 (q0f 1) (q4L " among " (q3l q43 (q0f 2) jN0))))) q0O)) ρ
noncomputable def j0M (ρ:Ro):Fl:=(q2L 18 2 false (q46 (q0f 2) (eI 1))) ρ
noncomputable def j03 (ρ:Ro):Fl:=((q8b 18 1 2 (q1B (j3v (j3y (q2x (q3d 0 18 1)) oNo (oSo (q46 (q0f 1) (eI 1)))) (j3y (q2x (q3d 0 18 1)) (oSo (q0f 1)) oNo)))) ρ).bind j0M
noncomputable def q6g (ρ:Ro):Fl:=((sIf (q1Y (tCh qLe qLe (eI 1) (q0f 1) (q0f 2))) q8j Fl.nx) ρ).bind j03
noncomputable def q56 (ρ:Ro):Fl:=((q1U 2 (eCB q4H (q0o (q3d 0 18 1) q0O))) ρ).bind q6g
noncomputable def j3H:FnM:=mF 3 18 2 false q56
theorem j6D (x:Tx K mg fa fd T):q0X P w K mg base (CXE T P w) 1 (fa 47) (fd 47) ["self","number"] (spM T K 18 false 2 j3H):=
 j3O (q0z x.fl18) (q1L x.F47) j44 λy m cdv A outer s H E hmo hr=>
  (q0b (q0D 2 j44.nd (q0v q1a rfl x.n_len rfl (q0i (q1I (c:=18) 0 1 x.cC18 x.na18_orders (flA x.fl18) (flN x.fl18)) q0l)))
   (q0b (q0V (q1b (q2d q3b q3b q0c (q0a 1) (q0a 2))) (q0e (q02 (c:=10) rfl x.xc10 rfl x.mC10 (q0i (q1v (q1d (q1n (q0a 1) (q1d (q1n (q0a 2) q2a))))) q0l) hsh1)) q0s)
   (q0b (q3A (c:=18) 1 (q0z x.fl18) (by decide) x.cC18 x.na18_orders (flA x.fl18) (flN x.fl18) (by decide) (DF.de (q8C (DF.dl (q4d (DE.dl (q1I (c:=18) 0 1 x.cC18 x.na18_orders (flA x.fl18) (flN x.fl18))) q3c (q3i (q0m q1y (q0a 1) q0c)))) (DF.dl (q4d (DE.dl (q1I (c:=18) 0 1 x.cC18 x.na18_orders (flA x.fl18) (flN x.fl18))) (q3i (q0a 1)) q3c)))))
   (q0e (q1j (q0z x.fl18) hmo (q0m q1y (q0a 2) q0c))))))
theorem j6L:q0p ["_law_book","_law_number"] ["_law_book","_law_number"] (q0g j5S):=by walk_at "sc"
noncomputable def q8Z (ρ:Ro):Fl:=(j3A 18 2 false "told" (eM 1 18 2 j3H (gSh (q0f 1) gN0))) ρ
noncomputable def j09 (ρ:Ro):Fl:=(q2L 18 2 false (j1S (q33 [.str "refused",.int 6]))) ρ
noncomputable def q7w (ρ:Ro):Fl:=(q7Y q8Z (q2H (λc=>List.lookup c [(0,false),(1,false),(2,false),(3,false),(4,false),(5,false),(6,false),(7,false),(8,false),(9,false),(10,true),(11,false),(12,false)]) j09 (λ_ _=>.bad))) ρ
noncomputable def j3T:FnM:=mF 2 18 2 false q7w
theorem j6u (x:Tx K mg fa fd T):q0X P w K mg base (CXE T P w) 2 (fa 62) (fd 62) ["_law_book","_law_number"] (spM T K 18 false 2 j3T):=
 j3O (q0z x.fl18) (q1L x.F62) j6L λy m cdv A outer s H E hmo hr=>
  (q0e (j11 rfl rfl (λpn=>(q0e (q69 (q0z x.fl18) hmo (q7a (q0z x.fl18) x.cC18 x.mt47 (by show _∉T.fl 18;rw [x.fl18];decide) (q5l (j6D x)) hr.le x.b47 rfl (q0h (q0a 1) q0k))))) (q2n (k:=10) (m:=λc=>List.lookup c [(0,false),(1,false),(2,false),(3,false),(4,false),(5,false),(6,false),(7,false),(8,false),(9,false),(10,true),(11,false),(12,false)]) rfl x.mC10 (q2m (List.forall_mem_cons.mpr ⟨x.exm0_10,List.forall_mem_cons.mpr ⟨x.exm1_10,List.forall_mem_cons.mpr ⟨x.exm2_10,List.forall_mem_cons.mpr ⟨x.exm3_10,List.forall_mem_cons.mpr ⟨x.exm4_10,List.forall_mem_cons.mpr ⟨x.exm5_10,List.forall_mem_cons.mpr ⟨x.exm6_10,List.forall_mem_cons.mpr ⟨x.exm7_10,List.forall_mem_cons.mpr ⟨x.exm8_10,List.forall_mem_cons.mpr ⟨x.exm9_10,List.forall_mem_cons.mpr ⟨x.exm10_10,List.forall_mem_cons.mpr ⟨x.exm11_10,List.forall_mem_cons.mpr ⟨x.exm12_10,List.forall_mem_nil _⟩⟩⟩⟩⟩⟩⟩⟩⟩⟩⟩⟩⟩)) (λu=>(q0e (q1j (q0z x.fl18) hmo (q2G (q1s rfl))))) j0V)))
theorem q29:q0p ["_law_book","_law_kept","_law_cell","_law_night","_law_names_here","_law_most","_law_row_here","_law_refused","_law_word","_law_found","_law_due_here","_law_number"] ["_law_book","_law_kept","_law_cell","_law_night","_law_names_here","_law_most"] (q0g j6i):=by walk_at "sc"
noncomputable def j0D (ρ:Ro):Fl:=(j28 1 (q0f 6)) ρ
noncomputable def q68 (ρ:Ro):Fl:=(q1U 10 (eIx (q1B (q09 (q0o (j0G (q4p 1)) (q0o (q0f 7) q0O)))) (eCB q38 (q0o (e2 qGt (q0f 7) (eI 0)) q0O)))) ρ
noncomputable def q66 (ρ:Ro):Fl:=((j3r [8,9] (eM 3 18 2 j5w (gSh (eIx (q0f 6) (eI 0)) (gSh (eIx (q0f 6) (eI 1)) (gSh (eIx (q0f 6) (eI 2)) gN0))))) ρ).bind q68
noncomputable def q8s (ρ:Ro):Fl:=((sIf (tEq (q0f 7) (eI 0)) j0D Fl.nx) ρ).bind q66
noncomputable def q7m (ρ:Ro):Fl:=((q1U 7 (rD (rC 5 j7q (gBo 1 (gSh (q0f 6) (gSh (q0f 3) (gSh (q0f 4) (gSh (q0f 5) gN0)))))))) ρ).bind q8s
noncomputable def q86 (ρ:Ro):Fl:=((q1U 6 (rD (rC 3 j64 (gSh (q0f 2) (gSh (q0f 3) (gSh (q0f 4) gN0)))))) ρ).bind q7m
noncomputable def j1g (ρ:Ro):Fl:=(j2w 1 (q46 (q0f 11) (eI 1))) ρ
noncomputable def q6f (ρ:Ro):Fl:=(q1U 10 (eIx (q1B (q09 (q0o (j0G (q4p 1)) (q0o (eI 6) q0O)))) (q0f 7))) ρ
noncomputable def q5V (ρ:Ro):Fl:=((j3r [8,9] (eM 1 18 2 j3T (gSh (q0f 11) gN0))) ρ).bind q6f
noncomputable def q3Q (ρ:Ro):Fl:=((sIf (tEq (q0f 7) (eI 0)) j1g Fl.nx) ρ).bind q5V
noncomputable def q3G (ρ:Ro):Fl:=((q1U 7 (eCB q38 (q0o (j5X (e2 qLt (q0f 11) (eI 1)) (e2 qGt (q0f 11) (j0G (q4p 1)))) q0O))) ρ).bind q3Q
noncomputable def q3y (ρ:Ro):Fl:=((q1U 11 (q46 (q2z (q3t (q0f 2) (eI 6)) (q2D (j0G (q4p 1)) (eI 3))) (eI 1))) ρ).bind q3G
noncomputable def j2g (ρ:Ro):Fl:=(q2L 18 2 true (eC (.bl false))) ρ
noncomputable def q47 (ρ:Ro):Fl:=(q2L 18 2 true (rD (rC 2 j3N (gMe 0 18 2 (gBo 1 gN0))))) ρ
noncomputable def q11 (ρ:Ro):Fl:=((sIf (q9m (tNe (q0f 8) (eIx (q1B (q09 (q33 [.str "told",.str "refused"]))) (eCB q38 (q0o (e2 qGt (q0f 7) (eI 0)) q0O)))) (q1Y (q9k (rD (rC 2 j2v (gSh (q0f 9) (gSh (q0f 10) gN0))))))) j2g Fl.nx) ρ).bind q47
noncomputable def q2p (ρ:Ro):Fl:=((sIf (tB2 qLt (q2z (q0f 2) (eI 6)) (eI 4)) q86 q3y) ρ).bind q11
noncomputable def j00:FnM:=mF 12 18 2 true q2p
theorem j6T (x:Tx K mg fa fd T):q0X P w K mg base (CXE T P w) 7 (fa 66) (fd 66) ["_law_book","_law_kept","_law_cell","_law_night","_law_names_here","_law_most"] (spM T K 18 true 6 j00):=
 j3O (q0z x.fl18) (q1L x.F66) q29 λy m cdv A outer s H E hmo hr=>
  (q0b (q0V (q0L q9g (q0m q0G (q0a 2) q0c) q0c (nomark _)) (q0b (q0D 6 q29.nd (DR.de (q0n (q1f (j7o x)) hr.le rfl x.m65 x.F65.kp x.b65 .nil (λ_=>rfl) rfl (q0h (q0a 2) (q0h (q0a 3) (q0h (q0a 4) q0k))))))
   (q0b (q0D 7 q29.nd (DR.de (q0n (q1f (j65 x)) hr.le rfl x.m63 x.F63.kp x.b63 .nil (λ_=>rfl) rfl (j4t 1 (q0h (q0a 6) (q0h (q0a 3) (q0h (q0a 4) (q0h (q0a 5) q0k))))))))
   (q0b (q0V (q0L q2o (q0a 7) q0c (nomark _)) (q0e (j3B 1 (q0a 6))) q0s)
   (q0b (q7p (q7l (q0z x.fl18) (q5l (j6H x)) hr.le rfl x.m61 x.F61.kp x.b61 rfl (q0h (q00 (q0a 6) q0c) (q0h (q00 (q0a 6) q0c) (q0h (q00 (q0a 6) q0c) q0k)))) (q8X rfl (q1O 8 q29.nd (q1O 9 q29.nd q4T))))
   (q0e (q0D 10 q29.nd (q00 (DF.de (q0T (q0i (q15 rfl x.n_len (q1H 1)) (q0i (q0a 7) q0l)))) (q1m q2g rfl x.n_int rfl (q0i (q1x q44 (q0a 7) q0c (nomark _)) q0l))))))))) (q0b (q0D 11 q29.nd (q0m q1y (q0m q0G (q0m q0I (q0a 2) q0c) (q0m q0M (q15 rfl x.n_len (q1H 1)) q0c)) q0c))
   (q0b (q0D 7 q29.nd (q1m q2g rfl x.n_int rfl (q0i (j3w (q1x q9g (q0a 11) q0c (nomark _)) (q4m (q1x q44 (q0a 11) (q15 rfl x.n_len (q1H 1)) (nomark _)))) q0l)))
   (q0b (q0V (q0L q2o (q0a 7) q0c (nomark _)) (q0e (j2O 1 (q0m q1y (q0a 11) q0c))) q0s)
   (q0b (q7p (q7l (q0z x.fl18) (q5l (j6u x)) hr.le rfl x.m62 x.F62.kp x.b62 rfl (q0h (q0a 11) q0k)) (q8X rfl (q1O 8 q29.nd (q1O 9 q29.nd q4T))))
   (q0e (q0D 10 q29.nd (q00 (DF.de (q0T (q0i (q15 rfl x.n_len (q1H 1)) (q0i q0c q0l)))) (q0a 7)))))))))
   (q0b (q0V (DW.dt (q3L (q0L q9Z (q0a 8) (q00 (DF.de (q0T (q1s rfl))) (q1m q2g rfl x.n_int rfl (q0i (q1x q44 (q0a 7) q0c (nomark _)) q0l))) (nomark _)) (q2c (q1b (q05 (DR.de (q0n (q1f (j0u x)) hr.le rfl x.m59 x.F59.kp x.b59 .nil (λ_=>rfl) rfl (q0h (q0a 9) (q0h (q0a 10) q0k))))))))) (q0e (q1j (q0z x.fl18) hmo q3B)) q0s)
   (q0e (q1j (q0z x.fl18) hmo (DR.de (q0n (q1f (q9L x)) hr.le rfl x.m64 x.F64.kp x.b64 .nil (λ_=>rfl) rfl (j6Q 0 (q0z x.fl18) (j4t 1 q0k))))))))
theorem j8T:q0p ["name"] ["name"] (q0g s_1):=by walk_at "sc"
noncomputable def q9K (ρ:Ro):Fl:=(q1R 1 (q0o (eJ (q3l q7N (q0f 0) (q4L " is not 1 to " (q3l q43 (eI 12) (q4L " small letters" jN0))))) q0O)) ρ
noncomputable def q9s (ρ:Ro):Fl:=(sIf (q9m (q1Y (tCh qLe qLe (eI 1) (eCB q4H (q0o (q0f 0) q0O)) (eI 12))) (q1Y (q9k (eCB j3K (q0o (q1B (q0U (j3I (q0f 0)) [] (e2 (inD false) (q0f 0) (eS "abcdefghijklmnopqrstuvwxyz")))) q0O))))) q9K Fl.nx) ρ
noncomputable def F_1:Fn:=fnF 1 q9s
theorem j7C (x:Tx K mg fa fd T):q0X P w K mg base (CXE T P w) 1 (fa 1) (fd 1) ["name"] (spD T K 1 F_1):=
 have hT:=x.me
 have hT0:=q0y x.me
 q4I x.me x.F1 j8T λcdv A outer s H E hr=>
  (q0e (q0V (DW.dt (q3L (q1b (q2d q3b q3b q0c (q0v q1a rfl x.n_len rfl (q0i (q0a 0) q0l)) (q0x rfl x.c_LONGEST_NAME))) (q2c (q1b (q05 (q0v (j4r rfl) rfl x.n_all rfl (q0i (DF.de (q13 hT0 rfl (j4p (q0a 0)) cap0 (λcl C s₀ H₀ ex=>(q1x j6B (q0a 0) (q9U rfl x.c_LETTERS) rfl)))) q0l))))))) (q0e (q02 (c:=1) rfl x.xc1 rfl x.mC1 (q0i (q1v (q5b (q0a 0) (q1d (q1n (q0x rfl x.c_LONGEST_NAME) (q1d q2a))))) q0l) hsh1)) q0s))
theorem j6V:q0p ["self","name","stages"] ["self","name","stages"] (q0g j5Q):=by walk_at "sc"
noncomputable def j0H (ρ:Ro):Fl:=(q0H 21 1 (q5h (q2x (q0f 2)))) ρ
noncomputable def j1L (ρ:Ro):Fl:=((q0H 21 0 (q0f 1)) ρ).bind j0H
noncomputable def j1h (ρ:Ro):Fl:=((q1k (rD (rC 3 F_3 (gSh (eCB q4H (q0o (q0f 2) q0O)) (gSh (eI 1) (gSh (eI 6) gN0)))))) ρ).bind j1L
noncomputable def j1v (ρ:Ro):Fl:=((q1k (rD (rC 1 F_1 (gSh (q0f 1) gN0)))) ρ).bind j1h
noncomputable def j4B:Fn:=q3f 3 21 2 j1v
theorem j7t (x:Tx K mg fa fd T):q0X P w K mg base (CXE T P w) 2 (fa 54) (fd 54) ["self","name","stages"] (spI T K 21 3 j4B):=
 have hT0:=q0y x.me
 j3J x.me (by rw [x.fl21];rfl) (q1L x.F54) j6V λy cdv A outer s H E hr=>
  (q0b (q0C (DR.de (q0n (q1f (j7C x)) hr.le rfl x.m1 x.F1.kp x.b1 .nil (λ_=>rfl) rfl (q0h (q0a 1) q0k))))
   (q0b (q0C (DR.de (q0n (q1f (j6n x)) hr.le rfl x.m3 x.F3.kp x.b3 .nil (λ_=>rfl) rfl (q0h (q0v q1a rfl x.n_len rfl (q0i (q0a 2) q0l)) (q0h q0c (q0h (q0x rfl x.c_MOST_STAGES) q0k))))))
   (q0b (q0J (c:=21) 0 x.cC21 x.na21_name (flA x.fl21) (flN x.fl21) (by decide) (q0a 1))
   (q0e (q0J (c:=21) 1 x.cC21 x.na21_stages (flA x.fl21) (flN x.fl21) (by decide) (q4Y rfl x.n_tuple (DE.dl (q0a 2))))))))
theorem j6C:q0p ["self","name","least","most","want","heat"] ["self","name","least","most","want","heat"] (q0g j53):=by walk_at "sc"
noncomputable def j39 (ρ:Ro):Fl:=(q1R 2 (q0o (eJ (q4L "a stage can't want " (q3l q7N (q0f 4) jN0))) q0O)) ρ
noncomputable def j06 (ρ:Ro):Fl:=(q0H 20 4 (q0f 5)) ρ
noncomputable def j1O (ρ:Ro):Fl:=((q0H 20 3 (q0f 4)) ρ).bind j06
noncomputable def j1a (ρ:Ro):Fl:=((q0H 20 2 (q0f 3)) ρ).bind j1O
noncomputable def j0Y (ρ:Ro):Fl:=((q0H 20 1 (q0f 2)) ρ).bind j1a
noncomputable def j0C (ρ:Ro):Fl:=((q0H 20 0 (q0f 1)) ρ).bind j0Y
noncomputable def j1J (ρ:Ro):Fl:=((q1k (rD (rC 3 F_2 (gSh (q0f 5) (gSh (eI 0) (gSh (eI 300) gN0)))))) ρ).bind j0C
noncomputable def j1m (ρ:Ro):Fl:=((q1k (rD (rC 3 F_2 (gSh (q0f 3) (gSh (q0f 2) (gSh (eI 720) gN0)))))) ρ).bind j1J
noncomputable def j1u (ρ:Ro):Fl:=((q1k (rD (rC 3 F_2 (gSh (q0f 2) (gSh (eI 1) (gSh (eI 720) gN0)))))) ρ).bind j1m
noncomputable def q8H (ρ:Ro):Fl:=((sIf (tB2 (inD true) (q0f 4) (eC (.tup [.str "nothing",.str "hands",.str "bench",.str "oven"]))) j39 Fl.nx) ρ).bind j1u
noncomputable def q8h (ρ:Ro):Fl:=((q1k (rD (rC 1 F_1 (gSh (q0f 1) gN0)))) ρ).bind q8H
noncomputable def j5f:Fn:=q3f 6 20 5 q8h
theorem j7u (x:Tx K mg fa fd T):q0X P w K mg base (CXE T P w) 2 (fa 53) (fd 53) ["self","name","least","most","want","heat"] (spI T K 20 6 j5f):=
 have hT0:=q0y x.me
 j3J x.me (by rw [x.fl20];rfl) x.F53.ex j6C λy cdv A outer s H E hr=>
  (q0b (q0C (DR.de (q0n (q1f (j7C x)) hr.le rfl x.m1 x.F1.kp x.b1 .nil (λ_=>rfl) rfl (q0h (q0a 1) q0k))))
   (q0b (q0V (q0L q58 (q0a 4) (q9o rfl x.c_WANTS) rfl) (q0e (q02 (c:=2) rfl x.xc2 rfl x.mC2 (q0i (q1v (q1d (q5b (q0a 4) q2a))) q0l) hsh1)) q0s)
   (q0b (q0C (DR.de (q0n (q1f (q9j x)) hr.le rfl x.m2 x.F2.kp x.b2 .nil (λ_=>rfl) rfl (q0h (q0a 2) (q0h q0c (q0h (q0x rfl x.c_NIGHT) q0k))))))
   (q0b (q0C (DR.de (q0n (q1f (q9j x)) hr.le rfl x.m2 x.F2.kp x.b2 .nil (λ_=>rfl) rfl (q0h (q0a 3) (q0h (q0a 2) (q0h (q0x rfl x.c_NIGHT) q0k))))))
   (q0b (q0C (DR.de (q0n (q1f (q9j x)) hr.le rfl x.m2 x.F2.kp x.b2 .nil (λ_=>rfl) rfl (q0h (q0a 5) (q0h q0c (q0h (q0x rfl x.c_HOTTEST) q0k))))))
   (q0b (q0J (c:=20) 0 x.cC20 x.na20_name (flA x.fl20) (flN x.fl20) (by decide) (q0a 1))
   (q0b (q0J (c:=20) 1 x.cC20 x.na20_least (flA x.fl20) (flN x.fl20) (by decide) (q0a 2))
   (q0b (q0J (c:=20) 2 x.cC20 x.na20_most (flA x.fl20) (flN x.fl20) (by decide) (q0a 3))
   (q0b (q0J (c:=20) 3 x.cC20 x.na20_want (flA x.fl20) (flN x.fl20) (by decide) (q0a 4))
   (q0e (q0J (c:=20) 4 x.cC20 x.na20_heat (flA x.fl20) (flN x.fl20) (by decide) (q0a 5))))))))))))
theorem j6Y:q0p ["names"] ["names"] (q0g j5O):=by walk_at "sc"
noncomputable def j5H (ρ:Ro):Fl:=(q1R 5 (q0o (eJ (q4L "two breads of one name among " (j51 (q2x (q0f 0)) jN0))) q0O)) ρ
noncomputable def j1N (ρ:Ro):Fl:=(sIf (tNe (q8E (q2x (q0f 0))) (eCB q4H (q0o (q0f 0) q0O))) j5H Fl.nx) ρ
noncomputable def j6o:Fn:=fnF 1 j1N
theorem j6R (x:Tx K mg fa fd T):q0X P w K mg base (CXE T P w) 1 (fa 52) (fd 52) ["names"] (spD T K 1 j6o):=
 have hT:=x.me
 have hT0:=q0y x.me
 q4I x.me x.F52 j6Y λcdv A outer s H E hr=>
  (q0e (q0V (q0L q9Z (q7s rfl rfl x.n_len rfl x.n_set (DE.dl (q0a 0))) (q0v q1a rfl x.n_len rfl (q0i (q0a 0) q0l)) (nomark _)) (q0e (q02 (c:=5) rfl x.xc5 rfl x.mC5 (q0i (q1v (q1d (q9J hr (DE.dl (q0a 0)) q2a))) q0l) hsh1)) q0s))
theorem j61:q0p ["self","night","hands","benches","ovens","breads"] ["self","night","hands","benches","ovens","breads"] (q0g j5N):=by walk_at "sc"
noncomputable def j1n (ρ:Ro):Fl:=(q0H 19 4 (q5h (q2x (q0f 5)))) ρ
noncomputable def j1l (ρ:Ro):Fl:=((q0H 19 3 (q5h (q2x (q0f 4)))) ρ).bind j1n
noncomputable def j1I (ρ:Ro):Fl:=((q0H 19 2 (q0f 3)) ρ).bind j1l
noncomputable def j1Y (ρ:Ro):Fl:=((q0H 19 1 (q0f 2)) ρ).bind j1I
noncomputable def j1r (ρ:Ro):Fl:=((q0H 19 0 (q0f 1)) ρ).bind j1Y
noncomputable def j1x (ρ:Ro):Fl:=((q1k (rD (rC 1 j6o (gSh (q1B (q0U (q2x (q0f 5)) [] (q31 [(20,0),(21,0)] (q0f 0)))) gN0)))) ρ).bind j1r
noncomputable def j08 (ρ:Ro):Fl:=((q1k (rD (rC 3 F_3 (gSh (eCB q4H (q0o (q0f 5) q0O)) (gSh (eI 1) (gSh (eI 8) gN0)))))) ρ).bind j1x
noncomputable def j0F (ρ:Ro):Fl:=((q1k (rD (rC 3 F_3 (gSh (eCB q4H (q0o (q0f 4) q0O)) (gSh (eI 1) (gSh (eI 3) gN0)))))) ρ).bind j08
noncomputable def j0R (ρ:Ro):Fl:=((q1k (rD (rC 3 F_2 (gSh (q0f 3) (gSh (eI 1) (gSh (eI 6) gN0)))))) ρ).bind j0F
noncomputable def q7U (ρ:Ro):Fl:=((q1k (rD (rC 3 F_2 (gSh (q0f 2) (gSh (eI 1) (gSh (eI 6) gN0)))))) ρ).bind j0R
noncomputable def q8J (ρ:Ro):Fl:=((q1k (rD (rC 3 F_2 (gSh (q0f 1) (gSh (eI 1) (gSh (eI 720) gN0)))))) ρ).bind q7U
noncomputable def j6b:Fn:=q3f 6 19 5 q8J
theorem j6t (x:Tx K mg fa fd T):q0X P w K mg base (CXE T P w) 2 (fa 50) (fd 50) ["self","night","hands","benches","ovens","breads"] (spI T K 19 6 j6b):=
 have hT0:=q0y x.me
 j3J x.me (by rw [x.fl19];rfl) (q1L x.F50) j61 λy cdv A outer s H E hr=>
  (q0b (q0C (DR.de (q0n (q1f (q9j x)) hr.le rfl x.m2 x.F2.kp x.b2 .nil (λ_=>rfl) rfl (q0h (q0a 1) (q0h q0c (q0h (q0x rfl x.c_NIGHT) q0k))))))
   (q0b (q0C (DR.de (q0n (q1f (q9j x)) hr.le rfl x.m2 x.F2.kp x.b2 .nil (λ_=>rfl) rfl (q0h (q0a 2) (q0h q0c (q0h (q0x rfl x.c_MOST_HANDS) q0k))))))
   (q0b (q0C (DR.de (q0n (q1f (q9j x)) hr.le rfl x.m2 x.F2.kp x.b2 .nil (λ_=>rfl) rfl (q0h (q0a 3) (q0h q0c (q0h (q0x rfl x.c_MOST_BENCHES) q0k))))))
   (q0b (q0C (DR.de (q0n (q1f (j6n x)) hr.le rfl x.m3 x.F3.kp x.b3 .nil (λ_=>rfl) rfl (q0h (q0v q1a rfl x.n_len rfl (q0i (q0a 4) q0l)) (q0h q0c (q0h (q0x rfl x.c_MOST_OVENS) q0k))))))
   (q0b (q0C (DR.de (q0n (q1f (j6n x)) hr.le rfl x.m3 x.F3.kp x.b3 .nil (λ_=>rfl) rfl (q0h (q0v q1a rfl x.n_len rfl (q0i (q0a 5) q0l)) (q0h q0c (q0h (q0x rfl x.c_MOST_BREADS) q0k))))))
   (q0b (q0C (DR.de (q0n (q1f (j6R x)) hr.le rfl x.m52 x.F52.kp x.b52 .nil (λ_=>rfl) rfl (q0h (DF.de (q13 hT0 rfl (q2f (DE.dp (q0a 5))) cap0 (λcl C s₀ H₀ ex=>(q1e (q0a 0) (fo5 x))))) q0k))))
   (q0b (q0J (c:=19) 0 x.cC19 x.na19_night (flA x.fl19) (flN x.fl19) (by decide) (q0a 1))
   (q0b (q0J (c:=19) 1 x.cC19 x.na19_hands (flA x.fl19) (flN x.fl19) (by decide) (q0a 2))
   (q0b (q0J (c:=19) 2 x.cC19 x.na19_benches (flA x.fl19) (flN x.fl19) (by decide) (q0a 3))
   (q0b (q0J (c:=19) 3 x.cC19 x.na19_ovens (flA x.fl19) (flN x.fl19) (by decide) (q4Y rfl x.n_tuple (DE.dl (q0a 4))))
   (q0e (q0J (c:=19) 4 x.cC19 x.na19_breads (flA x.fl19) (flN x.fl19) (by decide) (q4Y rfl x.n_tuple (DE.dl (q0a 5)))))))))))))))
theorem j8c:q0p ["self","room","rate","heat"] ["self","room","rate","heat"] (q0g s_4):=by walk_at "sc"
noncomputable def j34 (ρ:Ro):Fl:=(q0H 13 2 (q0f 3)) ρ
noncomputable def j5F (ρ:Ro):Fl:=((q0H 13 1 (q0f 2)) ρ).bind j34
noncomputable def j5v (ρ:Ro):Fl:=((q0H 13 0 (q0f 1)) ρ).bind j5F
noncomputable def j32 (ρ:Ro):Fl:=((q1k (rD (rC 3 F_2 (gSh (q0f 3) (gSh (eI 0) (gSh (eI 300) gN0)))))) ρ).bind j5v
noncomputable def j31 (ρ:Ro):Fl:=((q1k (rD (rC 3 F_2 (gSh (q0f 2) (gSh (eI 1) (gSh (eI 300) gN0)))))) ρ).bind j32
noncomputable def j4z (ρ:Ro):Fl:=((q1k (rD (rC 3 F_2 (gSh (q0f 1) (gSh (eI 1) (gSh (eI 30) gN0)))))) ρ).bind j31
noncomputable def F_4:Fn:=q3f 4 13 3 j4z
theorem j7D (x:Tx K mg fa fd T):q0X P w K mg base (CXE T P w) 2 (fa 4) (fd 4) ["self","room","rate","heat"] (spI T K 13 4 F_4):=
 have hT0:=q0y x.me
 j3J x.me (by rw [x.fl13];rfl) (q1L x.F4) j8c λy cdv A outer s H E hr=>
  (q0b (q0C (DR.de (q0n (q1f (q9j x)) hr.le rfl x.m2 x.F2.kp x.b2 .nil (λ_=>rfl) rfl (q0h (q0a 1) (q0h q0c (q0h (q0x rfl x.c_MOST_ROOM) q0k))))))
   (q0b (q0C (DR.de (q0n (q1f (q9j x)) hr.le rfl x.m2 x.F2.kp x.b2 .nil (λ_=>rfl) rfl (q0h (q0a 2) (q0h q0c (q0h (q0x rfl x.c_FASTEST) q0k))))))
   (q0b (q0C (DR.de (q0n (q1f (q9j x)) hr.le rfl x.m2 x.F2.kp x.b2 .nil (λ_=>rfl) rfl (q0h (q0a 3) (q0h q0c (q0h (q0x rfl x.c_HOTTEST) q0k))))))
   (q0b (q0J (c:=13) 0 x.cC13 x.na13_room (flA x.fl13) (flN x.fl13) (by decide) (q0a 1))
   (q0b (q0J (c:=13) 1 x.cC13 x.na13_rate (flA x.fl13) (flN x.fl13) (by decide) (q0a 2))
   (q0e (q0J (c:=13) 2 x.cC13 x.na13_heat (flA x.fl13) (flN x.fl13) (by decide) (q0a 3))))))))
theorem j6J:q0p ["self","bakery"] ["self","bakery"] (q0g j6f):=by walk_at "sc"
noncomputable def j1e (ρ:Ro):Fl:=(q8b 18 1 2 (q1B (q09 q0O))) ρ
noncomputable def j1G (ρ:Ro):Fl:=((q8b 18 0 2 (q0f 1)) ρ).bind j1e
noncomputable def j5U:FnM:=mF 2 18 2 false j1G
theorem j42 (x:Tx K mg fa fd T):q0X P w K mg base (CXE T P w) 1 (fa 45) (fd 45) ["self","bakery"] (spM T K 18 false 2 j5U):=
 j3O (q0z x.fl18) (q1L x.F45) j6J λy m cdv A outer s H E hmo hr=>
  (q0b (q3A (c:=18) 0 (q0z x.fl18) (by decide) x.cC18 x.na18_bakery (flA x.fl18) (flN x.fl18) (by decide) (q0a 1))
   (q0e (q3A (c:=18) 1 (q0z x.fl18) (by decide) x.cC18 x.na18_orders (flA x.fl18) (flN x.fl18) (by decide) (DF.de (q0T q0l)))))
theorem q28:q0p ["_law_script","_law_night","_law_names_here","_law_cell","_law_most","_law_kinds","_law_bakery","_law_books","_law_kept","_law_which"] ["_law_script"] (q0g j6h):=by walk_at "sc"
noncomputable def j5G (ρ:Ro):Fl:=(q3m (eC (.bl false))) ρ
noncomputable def j4O (ρ:Ro):Fl:=(q3m (eC (.bl false))) ρ
noncomputable def j4Z (ρ:Ro):Fl:=(q3m (eC (.bl false))) ρ
noncomputable def q75 (ρ:Ro):Fl:=(sIf (q1Y (q9k (rD (rC 2 j3N (gLm 7 (q46 (eI 1) (q0f 9)) (gLm 8 (q46 (eI 1) (q0f 9)) gN0)))))) j4Z Fl.nx) ρ
noncomputable def q7o (ρ:Ro):Fl:=((j7V (eML 4 18 7 8 j00 (q0f 9) (q0f 9) (gSh (q0f 3) (gSh (q0f 1) (gSh (q0f 2) (gSh (q0f 4) gN0))))) j4O) ρ).bind q75
noncomputable def q4i (ρ:Ro):Fl:=((q1U 9 (eCB q38 (q0o (e2 (λa b=>bD false (eqS a b)) (q2z (q0f 3) (eI 6)) (eI 3)) q0O))) ρ).bind q7o
noncomputable def j0P (ρ:Ro):Fl:=(j0A (rC 2 j3N (gLm 7 (eI 0) (gLm 8 (eI 0) gN0)))) ρ
noncomputable def q5E (ρ:Ro):Fl:=((q9l (q2x (q1B (j3y (q2x (q0f 0)) (oSo (eI 5)) oNo))) (q3k 3) q4i) ρ).bind j0P
noncomputable def q5s (ρ:Ro):Fl:=((sIf (q9m (q1Y (q9k (rD (rC 2 j3N (gLm 7 (eI 0) (gSh (q1B (q09 q0O)) gN0)))))) (q1Y (q9k (rD (rC 2 j2v (gSh (q31 [(19,0)] (j2I 7 18 0 (eI 1))) (gSh (q0f 1) gN0))))))) j5G Fl.nx) ρ).bind q5E
noncomputable def q8k (ρ:Ro):Fl:=((j2B 8 (q7W (j6P (q09 q0O)) (q7W (j6P (q09 q0O)) j7e))) ρ).bind q5s
noncomputable def q9f (ρ:Ro):Fl:=((j2B 7 (q7W (uMk 1 18 j5U (gSh (q0f 6) gN0)) (q7W (uMk 1 18 j5U (gSh (q0f 6) gN0)) j7e))) ρ).bind q8k
noncomputable def q8g (ρ:Ro):Fl:=((q1U 6 (rD (rC 5 j6b (gSh (q0f 1) (gSh (eI 1) (gSh (eI 1) (gSh (q1B (q09 (q0o (rD (rC 3 F_4 (gSh (eI 1) (gSh (eI 9) (gSh (eI 9) gN0))))) (q0o (rD (rC 3 F_4 (gSh (q0f 4) (gSh (eI 9) (gSh (eI 9) gN0))))) q0O)))) (gSh (q0f 5) gN0)))))))) ρ).bind q9f
noncomputable def q3Z (ρ:Ro):Fl:=((q1U 5 (q1B (q0U (q2x (q1B (j3y (q2x (q0f 2)) oNo (oSo (j5T (eI 1)))))) [] (rD (rC 2 j4B (gSh (q0f 0) (gSh (q1B (q09 (q0o (rD (q8n (n:=5) j5f [.sh (.int 0)] (gSh (eS "a") (gSh (eI 1) (gSh (eI 9) (gSh (eS "hands") gN0)))))) q0O))) gN0))))))) ρ).bind q8g
noncomputable def q7M (ρ:Ro):Fl:=((q1U 4 (eIx (q1B (q09 (q0o (q2D (eI 1) (q2z (q3t (q0f 3) (eI 3)) (eI 30))) (q0o (q2D (eI 1) (q2z (q3t (q0f 3) (eI 3)) (eI 2))) (q0o (eI 30) q0O))))) (q2z (q0f 3) (eI 3)))) ρ).bind q3Z
noncomputable def q7Q (ρ:Ro):Fl:=((q1U 3 (rD (rC 2 q62 (gSh (q0f 0) (gSh (eI 3) gN0))))) ρ).bind q7M
noncomputable def q7F (ρ:Ro):Fl:=((q1U 2 (rD (rC 2 j5i (gSh (rD (rC 2 q62 (gSh (q0f 0) (gSh (eI 1) gN0)))) (gSh (q2D (eI 2) (q2z (rD (rC 2 q62 (gSh (q0f 0) (gSh (eI 2) gN0)))) (eI 8))) gN0))))) ρ).bind q7Q
noncomputable def q4X (ρ:Ro):Fl:=((q1U 1 (q2D (eI 1) (q2z (rD (rC 2 q62 (gSh (q0f 0) (gSh (eI 0) gN0)))) (eI 720)))) ρ).bind q7F
noncomputable def j58:Fn:=fnF 10 q4X
theorem j66 (x:Tx K mg fa fd T):q0X P w K mg base (CXE T P w) 8 (fa 67) (fd 67) ["_law_script"] (spD T K 1 j58):=
 have hT:=x.me
 have hT0:=q0y x.me
 q4I x.me x.F67 q28 λcdv A outer s H E hr=>
  (q0b (q0D 1 q28.nd (q0m q0M q0c (q0m q0G (DR.de (q0n (q9X x) hr.le rfl x.m58 x.F58.kp x.b58 .nil (λ_=>rfl) rfl (q0h (q0a 0) (q0h q0c q0k)))) q0c)))
   (q0b (q0D 2 q28.nd (DR.de (q0n (j7l x) hr.le rfl x.m60 x.F60.kp x.b60 .nil (λ_=>rfl) rfl (q0h (DR.de (q0n (q9X x) hr.le rfl x.m58 x.F58.kp x.b58 .nil (λ_=>rfl) rfl (q0h (q0a 0) (q0h q0c q0k)))) (q0h (q0m q0M q0c (q0m q0G (DR.de (q0n (q9X x) hr.le rfl x.m58 x.F58.kp x.b58 .nil (λ_=>rfl) rfl (q0h (q0a 0) (q0h q0c q0k)))) q0c)) q0k)))))
   (q0b (q0D 3 q28.nd (DR.de (q0n (q9X x) hr.le rfl x.m58 x.F58.kp x.b58 .nil (λ_=>rfl) rfl (q0h (q0a 0) (q0h q0c q0k)))))
   (q0b (q0D 4 q28.nd (q00 (DF.de (q0T (q0i (q0m q0M q0c (q0m q0G (q0m q0I (q0a 3) q0c) q0c)) (q0i (q0m q0M q0c (q0m q0G (q0m q0I (q0a 3) q0c) q0c)) (q0i q0c q0l))))) (q0m q0G (q0a 3) q0c)))
   (q0b (q96 5 hT0 rfl q28.nd (q2f (DE.dp (DF.de (q4d (DE.dl (q0a 2)) q3c (q3i (j0N q0c)))))) cap0 (λcl C s₀ H₀ ex=>(DR.de (q10 x.mk21 (j7t x) q1q hr.le rfl x.mC21 x.b54 .nil (λ_=>rfl) rfl (q0h (q0a 0) (q0h (DF.de (q0T (q0i (DR.de (x.bd53.elim λt hb=>q10 x.mk20 (j7u x) q1q hr.le rfl x.mC20 hb (vcI .nil) (λ_=>⟨_,[],rfl,rfl,rfl⟩) rfl (q0h q37 (q0h q0c (q0h q0c (q0h q37 q0k)))))) q0l))) q0k))))))
   (q0b (q0D 6 q28.nd (DR.de (q10 x.mk19 (j6t x) q1q hr.le rfl x.mC19 x.b50 .nil (λ_=>rfl) rfl (q0h (q0a 1) (q0h q0c (q0h q0c (q0h (DF.de (q0T (q0i (DR.de (q10 x.mk13 (j7D x) q1q hr.le rfl x.mC13 x.b4 .nil (λ_=>rfl) rfl (q0h q0c (q0h q0c (q0h q0c q0k))))) (q0i (DR.de (q10 x.mk13 (j7D x) q1q hr.le rfl x.mC13 x.b4 .nil (λ_=>rfl) rfl (q0h (q0a 4) (q0h q0c (q0h q0c q0k))))) q0l)))) (q0h (q0a 5) q0k))))))))
   (q0b (q8D 7 q28.nd (q3T (q8V hT x.mk18 (j42 x) hr.le (q0z x.fl18) rfl x.mC18 x.b45 rfl (q0h (q0a 6) q0k)) (q3T (q8V hT x.mk18 (j42 x) hr.le (q0z x.fl18) rfl x.mC18 x.b45 rfl (q0h (q0a 6) q0k)) j13)))
   (q0b (q8D 8 q28.nd (q3T (j04 (q0T q0l)) (q3T (j04 (q0T q0l)) j13)))
   (q0b (q0V (DW.dt (q3L (q1b (q05 (DR.de (q0n (q9L x) hr.le rfl x.m64 x.F64.kp x.b64 .nil (λ_=>rfl) rfl (q76 7 q0c (q0h (DF.de (q0T q0l)) q0k)))))) (q2c (q1b (q05 (DR.de (q0n (j0u x) hr.le rfl x.m59 x.F59.kp x.b59 .nil (λ_=>rfl) rfl (q0h (q1e (j2a (c:=18) 7 0 x.cC18 x.na18_bakery (flA x.fl18) (flN x.fl18) q0c) (fo0 x)) (q0h (q0a 1) q0k))))))))) (q0e (q0P q3B)) q0s)
   (q0b (q1X rfl (q2f (DE.dp (DF.de (q4d (DE.dl (q0a 0)) (q3i q0c) q3c)))) (q2q 3 q28.nd) (q0b (q0D 9 q28.nd (q1m q2g rfl x.n_int rfl (q0i (q1x q2o (q0m q0G (q0a 3) q0c) q0c (nomark _)) q0l)))
   (q0b (j5c (q9G 7 8 hT (j6T x) hr.le rfl x.m66 x.F66.kp x.b66 rfl (q0a 9) (q0a 9) (q0h (q0a 3) (q0h (q0a 1) (q0h (q0a 2) (q0h (q0a 4) q0k))))) (q0e (q0P q3B)))
   (q0e (q0V (q1b (q05 (DR.de (q0n (q9L x) hr.le rfl x.m64 x.F64.kp x.b64 .nil (λ_=>rfl) rfl (q76 7 (q0m q1y q0c (q0a 9)) (q76 8 (q0m q1y q0c (q0a 9)) q0k)))))) (q0e (q0P q3B)) q0s)))))
   (q0e (q4R (q0n (q9L x) hr.le rfl x.m64 x.F64.kp x.b64 .nil (λ_=>rfl) rfl (q76 7 q0c (q76 8 q0c q0k)))))))))))))))
end
end Lw
open PySem L2 L3
namespace Lw
theorem at_ (ns:List Int) (k:Nat):q62 [.sh (.lst (ns.map D.int)),.sh (.int k)]=.ok (.sh (.int (ns.getD k 0))):=by
 by_cases h:k < ns.length
 ·have e:atI (ns.map D.int) (k:Int)=some (.int ns[k]):=q1h (by simp [h])
  simp [q62,q7I,q8l,q8U,h,e]
 ·simp [q62,q7I,q8l,q8U,h]
theorem is_ (i j:Int):j2v [.sh (.int i),.sh (.int j)]=.ok (.sh (.bl (decide (i=j)))):=by simp [j2v,j1q]
theorem q07 {n:Int} (h:n.natAbs < 2 ^ 200):n.natAbs.log2 < 1920:=by
 by_cases h0:n.natAbs=0
 ·rw [h0];decide
 ·rw [Nat.log2_lt h0]
  exact Nat.lt_of_lt_of_le h (Nat.pow_le_pow_right (by decide) (by decide))
theorem chkn (n lo hi:Int) (hn:n.natAbs.log2 < 1920) (hl:lo.natAbs.log2 < 1920) (hh:hi.natAbs.log2 < 1920):F_2 [.sh (.int n),.sh (.int lo),.sh (.int hi)]=if lo<=n/\n<=hi then .ok (.sh .non) else .exc 3:=by
 have l1:Str.length " does not lie from "<=200000:=by decide
 have l2:Str.length " to "<=200000:=by decide
 by_cases h1:lo<=n
 ·by_cases h2:n<=hi
  ·simp [F_2,q9P,h1,h2]
  ·simp [F_2,q9P,j3t,h1,h2,hn,hl,hh,l1,l2]
 ·simp [F_2,q9P,j3t,h1,hn,hl,hh,l1,l2]
noncomputable abbrev abc:Str:="abcdefghijklmnopqrstuvwxyz"
theorem j1R:Tz 26 abc:=⟨by decide +kernel,by decide +kernel⟩
theorem j23:abc.length=26:=by decide +kernel
noncomputable def oc (c:Nat):Bool:=!(Builtin.Str.occurrences abc ⟨#[c]⟩ 0 abc.length 1).isEmpty
noncomputable def good (z:Str):Prop:=(1<=(z.length:Int)/\(z.length:Int)<=12)/\z.cps.toList.all oc=true
theorem q6p (ρ:Ro):∀cs:List Nat,q36 (λd=>e2 (inD false) (q0f 0) (eC (.str abc)) (q1p [] ρ d)) (cs.map λc=>D.str ⟨#[c]⟩)=some ((cs.map oc).map D.bl)
 | []=>rfl
 | c::cs=>by
  rw [List.map_cons,q36,q6p ρ cs]
  rfl
theorem q5n:∀bs:List Bool,j0X (bs.map D.bl)=some bs
 | []=>rfl
 | b::bs=>by rw [List.map_cons,j0X,q5n bs]
theorem j2E (z:Str) (hz:z.length<=1000) (ρ:Ro) (h0:q0f 0 ρ=.ok (.str z)):eCB j3K (q0o (q1B (q0U (j3I (q0f 0)) [] (e2 (inD false) (q0f 0) (eC (.str abc))))) q0O) ρ=.ok (.bl (z.cps.toList.all oc)):=by
 have e1:q0U (j3I (q0f 0)) [] (e2 (inD false) (q0f 0) (eC (.str abc))) ρ=.ok ((z.cps.toList.map oc).map D.bl):=by
  rw [q0U,j3I,h0,Out.ok_bind,D.toS,Out.ok_bind]
  rw [if_pos (by simp [signs,Str.length] at hz ⊢; omega),signs,q6p]
 rw [eCB,q0o,q1B,e1,Out.ok_bind,Out.ok_bind,q0O,Out.ok_bind,Out.ok_bind]
 rw [j3K,q5n]
 simp [List.all_map]
theorem j16 (z:Str) (hz:Tz 1000 z):F_1 [.sh (.str z)]=open Classical in if good z then .ok (.sh .non) else .exc 1:=by
 have hl:z.length<=1000000:=by have:=hz.len;omega
 have al:=j2E z hz.len [.sh (.str z)] rfl
 have l1:Str.length " is not 1 to "<=200000:=by decide
 have l2:Str.length " small letters"<=200000:=by decide
 have rp:=hz.repr (Nat.le_refl _)
 have m12:Nat.log2 12 < 1920:=by decide
 have bad:q9K [.sh (.str z)]=.exc 1 [.sh (.str z)]:=by
  simp [q9K,l1,l2,rp,m12]
 have step:∀b:Bool,z.cps.toList.all oc=b->q9s [.sh (.str z)]=if (1<=(z.length:Int)/\(z.length:Int)<=12)/\b=true then .nx [.sh (.str z)] else .exc 1 [.sh (.str z)]:=by
  intro b hb
  rw [hb] at al
  rw [<-bad,q9s]
  generalize q9K=G
  generalize hA:eCB j3K (q0o (q1B (q0U (j3I (q0f 0)) [] (e2 (inD false) (q0f 0) (eC (.str "abcdefghijklmnopqrstuvwxyz"))))) q0O)=A
  have al:A [.sh (.str z)]=.ok (.bl b):=by rw [<-hA];exact al
  clear hA
  by_cases h1:1<=(z.length:Int)
  ·by_cases h2:(z.length:Int)<=12
   ·cases b<;>simp [hl,h1,h2,al]
   ·simp [hl,h1,h2]
  ·simp [hl,h1]
 have st:=step _ rfl
 rw [F_1,fnF]
 show (match q9s [.sh (.str z)] with | .nx _=>_ | .rt r=>_ | .exc c _=>_ | _=>_)=_
 rw [st]
 by_cases h:good z
 ·rw [if_pos h,if_pos (show _/\_ from h)]
 ·rw [if_neg h,if_neg (show ¬(_/\_) from h)]
theorem chkc (n lo hi:Int) (hn:n.natAbs.log2 < 1920) (hl:lo.natAbs.log2 < 1920) (hh:hi.natAbs.log2 < 1920):F_3 [.sh (.int n),.sh (.int lo),.sh (.int hi)]=if lo<=n/\n<=hi then .ok (.sh .non) else .exc 4:=by
 have l1:Str.length " of them, not "<=200000:=by decide
 have l2:Str.length " to "<=200000:=by decide
 by_cases h1:lo<=n
 ·by_cases h2:n<=hi
  ·simp [F_3,q9H,h1,h2]
  ·simp [F_3,q9H,j20,h1,h2,hn,hl,hh,l1,l2]
 ·simp [F_3,q9H,j20,h1,hn,hl,hh,l1,l2]
theorem small2 {n:Nat} (h:n<=1000000):(n:Int).natAbs.log2 < 1920:=q07 (by simp;omega)
noncomputable def wOk (w:Str):Bool:=inV (.str w) [V.str "nothing",V.str "hands",V.str "bench",V.str "oven"]
theorem j3c (w:Str):inD true (.str w) (.tup [.str "nothing",.str "hands",.str "bench",.str "oven"])=.ok (.bl (!wOk w)):=rfl
structure Wd (n:Nat) (z:Str):Prop where
 tz:Tz n z
 pos:1<=z.length
 oc:z.cps.toList.all oc=true
theorem Wd.good {z:Str} (h:Wd 12 z):good z:=⟨⟨by have:=h.pos;omega,by have:=h.tz.len;omega⟩,h.oc⟩
theorem j4U {z:Str} (h:Wd 12 z):F_1 [.sh (.str z)]=.ok (.sh .non):=by
 have:=j16 z (h.tz.mono (by decide))
 rw [if_pos h.good] at this
 exact this
theorem q9O (z w:Str) (a b h:Int) (hz:Wd 12 z) (hw:wOk w=true) (h1:1<=a) (h2:a<=b) (h3:b<=720) (h4:0<=h) (h5:h<=300):j5f [.sh (.str z),.sh (.int a),.sh (.int b),.sh (.str w),.sh (.int h)]=.ok (.sh (.ins 20 [.str z,.int a,.int b,.str w,.int h])):=by
 have n0:=j4U hz
 have la:a.natAbs.log2 < 1920:=q07 (by omega)
 have lb:b.natAbs.log2 < 1920:=q07 (by omega)
 have c1:=chkn a 1 720 la (by decide) (by decide)
 have c2:=chkn b a 720 lb la (by decide)
 have c3:=chkn h 0 300 (q07 (by omega)) (by decide) (by decide)
 rw [if_pos ⟨by omega,by omega⟩] at c1 c2 c3
 have iw:=j3c w
 rw [hw] at iw
 simp [j5f,q8h,q8H,j1u,j1m,j1J,j0C,j0Y,j1a,j1O,j06,n0,iw,c1,c2,c3]
theorem q9Q (z:Str) (ss:List D) (hz:Wd 12 z) (h1:1<=ss.length) (h2:ss.length<=6):j4B [.sh (.str z),.sh (.lst ss)]=.ok (.sh (.ins 21 [.str z,.tup ss])):=by
 have n0:=j4U hz
 have c1:=chkc (ss.length:Int) 1 6 (small2 (by omega)) (by decide) (by decide)
 rw [if_pos ⟨by omega,by omega⟩] at c1
 simp [j4B,j1v,j1h,j1L,j0H,n0,c1]
theorem q8Q (a b h:Int) (h1:1<=a/\a<=30) (h2:1<=b/\b<=300) (h3:0<=h/\h<=300):F_4 [.sh (.int a),.sh (.int b),.sh (.int h)]=.ok (.sh (.ins 13 [.int a,.int b,.int h])):=by
 have c1:=chkn a 1 30 (q07 (by omega)) (by decide) (by decide)
 have c2:=chkn b 1 300 (q07 (by omega)) (by decide) (by decide)
 have c3:=chkn h 0 300 (q07 (by omega)) (by decide) (by decide)
 rw [if_pos (by assumption)] at c1 c2 c3
 simp [F_4,j4z,j31,j32,j5v,j5F,j34,c1,c2,c3]
noncomputable def brd (b:Str×List D):D:=.ins 21 [.str b.1,.tup b.2]
theorem q53:∀ts:List Str,q1W (ts.map D.str)=some ts
 | []=>rfl
 | t::ts=>by rw [List.map_cons,q1W,q53 ts]
theorem j0c (ts:List Str) (h:ts.Nodup) (hl:ts.length<=4000):j6o [.sh (.lst (ts.map D.str))]=.ok (.sh .non):=by
 have e:=(q6P ts).mpr h
 have s:=q53 ts
 have hm:(ts.map D.str).length=ts.length:=by simp
 generalize ts.map D.str=zs at *
 simp [j6o,j1N,s,hl,e,hm]
theorem q8B (n h b:Int) (os:List D) (bs:List (Str×List D)) (hn:1<=n/\n<=720) (hh:1<=h/\h<=6) (hb:1<=b/\b<=6) (ho:1<=os.length) (ho':os.length<=3) (hl:1<=bs.length) (hl':bs.length<=8) (nd:(bs.map (·.1)).Nodup) :
 j6b [.sh (.int n),.sh (.int h),.sh (.int b),.sh (.lst os),.sh (.lst (bs.map brd))]=.ok (.sh (.ins 19 [.int n,.int h,.int b,.tup os,.tup (bs.map brd)])):=by
 have c1:=chkn n 1 720 (q07 (by omega)) (by decide) (by decide)
 have c2:=chkn h 1 6 (q07 (by omega)) (by decide) (by decide)
 have c3:=chkn b 1 6 (q07 (by omega)) (by decide) (by decide)
 rw [if_pos (by assumption)] at c1 c2 c3
 have c4:=chkc (os.length:Int) 1 3 (small2 (by omega)) (by decide) (by decide)
 have c5:=chkc ((bs.map brd).length:Int) 1 8 (small2 (by simp;omega)) (by decide) (by decide)
 rw [if_pos ⟨by omega,by omega⟩] at c4
 rw [if_pos ⟨by simp;omega,by simp;omega⟩] at c5
 have ap:=j0c (bs.map (·.1)) nd (by simp;omega)
 have mp:∀ρ:Ro,q36 (λd=>q31 [(20,0),(21,0)] (q0f 0) (q1p [] ρ d)) (bs.map brd)=some ((bs.map (·.1)).map D.str):=by
  intro ρ
  rw [List.map_map]
  exact q2B bs λx _=>by simp [q1p,brd,List.lookup]
 have lb:(bs.map brd).length<=1000000:=by simp;omega
 generalize bs.map brd=bb at *
 generalize (bs.map (·.1)).map D.str=zz at *
 simp only [q31,q0f] at mp
 simp [j6b,q8J,q7U,j0R,j0F,j08,j1x,j1r,j1Y,j1I,j1l,j1n,c1,c2,c3,c4,c5,mp,lb,ap]
theorem q7R (me:Sl) (z:Str):∀(bs:List (Str×List D)) (x:Sl),∃x',q1Q (q0E (q3k 2) q5C) (bs.map brd) [me,.sh (.str z),x]=(match bs.find? (λb=>decide (b.1=z)) with | some b=>.rt (.sh (brd b)) | none=>.nx [me,.sh (.str z),x'])
 | [],x=>⟨x,by rw [List.map_nil,q04];rfl⟩
 | b::bs,x=>by
  obtain ⟨x',e⟩:=q7R me z bs (.sh (brd b))
  refine ⟨x',?_⟩
  by_cases h:b.1=z
  ·rw [List.map_cons,j24 (r:=.sh (brd b)),List.find?_cons_of_pos (by simpa using h)]
   simp [q0E,q5C,q88,brd,List.lookup,h]
  ·rw [List.map_cons,q1g (ρ':=[me,.sh (.str z),.sh (brd b)]),List.find?_cons_of_neg (by simpa using h),e]
   simp [q0E,q5C,q88,brd,List.lookup,h]
theorem bread_of (n h b:D) (os:List D) (bs:List (Str×List D)) (z:Str) (hz:Tz 1000 z):j57 [.sh (.ins 19 [n,h,b,.tup os,.tup (bs.map brd)]),.sh (.str z)]=(match bs.find? (λb=>decide (b.1=z)) with | some b=>.ok (.sh (brd b)) | none=>.exc 6):=by
 obtain ⟨x',e⟩:=q7R (.sh (.ins 19 [n,h,b,.tup os,.tup (bs.map brd)])) z bs .no
 have rp:=hz.repr (Nat.le_refl _)
 have l1:Str.length "the bakery has no bread "<=200000:=by decide
 have k:q5Z [.sh (.ins 19 [n,h,b,.tup os,.tup (bs.map brd)]),.sh (.str z),.no]=(match bs.find? (λb=>decide (b.1=z)) with | some b=>.rt (.sh (brd b)) | none=>.exc 6 [.sh (.ins 19 [n,h,b,.tup os,.tup (bs.map brd)]),.sh (.str z),x']):=by
  rw [q5Z,q1w (ds:=bs.map brd) (by simp),e]
  cases bs.find? (λb=>decide (b.1=z)) with
  | some b=>rfl
  | none=>simp [j1o,rp,l1]
 rw [j57,fnF]
 show (match q5Z [.sh (.ins 19 [n,h,b,.tup os,.tup (bs.map brd)]),.sh (.str z),.no] with | .nx _=>_ | .rt r=>_ | .exc c _=>_ | _=>_)=_
 rw [k]
 cases bs.find? (λb=>decide (b.1=z))<;>rfl
theorem q3V {x:Str} {n:Nat} (h:n<=x.length):Txt.slice x none (some (n:Int))=⟨(x.cps.toList.take n).toArray⟩:=by
 have:=PyProof.Rows.slice_closes_toL (x:=x) (j:=(n:Int)) (by omega) (by omega)
 rw [beq_iff_eq] at this
 rw [this]
 simp
theorem q5U {x:Str} {n:Nat} (h:n<=x.length):Txt.slice x (some (n:Int)) none=⟨(x.cps.toList.drop n).toArray⟩:=by
 have:=PyProof.Rows.slice_from_eq (x:=x) (i:=(n:Int)) (b:=x.length) (by omega) (by omega) rfl
 rw [this]
 have l:x.cps.toList.length=x.length:=q4Q x
 congr 2
 rw [List.take_of_length_le (by rw [List.length_drop,l];omega)]
 simp
theorem q7f:abc.cps.toList.Nodup:=by decide +kernel
theorem j47:∀c∈abc.cps.toList,oc c=true:=by decide +kernel
theorem j4D {n:Nat} (cs:List Nat) (h1:1<=cs.length) (h2:cs.length<=n) (h:∀c∈cs,c∈abc.cps.toList):Wd n ⟨cs.toArray⟩:=
 ⟨⟨by show cs.toArray.size<=n;simpa using h2,λc hc=>j1R.cps c (h c (by simpa using hc))⟩,by show 1<=cs.toArray.size;simpa using h1,by
  rw [List.all_eq_true]
  intro c hc
  exact j47 c (h c (by simpa using hc))⟩
theorem q65 {as bs:List Nat} (h:(⟨as.toArray⟩:Str)=⟨bs.toArray⟩):as=bs:=by
 injection h with h
 simpa using h
theorem q32 (as bs:List Nat):((⟨as.toArray⟩:Str)++(⟨bs.toArray⟩:Str))=⟨(as++bs).toArray⟩:=j3F (by rw [j3a])
theorem q0Z (as:List Nat):(⟨as.toArray⟩:Str).length=as.length:=by simp [Str.length]
theorem q3n {α:Type} (n:Nat) (f:Nat->α) (h:∀i j,i < j->j < n->f i≠f j):((List.range n).map f).Nodup:=by
 unfold List.Nodup
 rw [List.pairwise_map]
 exact List.pairwise_lt_range.imp_of_mem λ{a b} ha hb hab=>h a b hab (by simpa using hb)
theorem q97 (cell:Int) (n:Nat) (hn:n<=10):∃zs:List Str,zs.length=n/\zs.Nodup/\(∀z∈zs,Wd 12 z)/\j5i [.sh (.int cell),.sh (.int n)]=.ok (.fr (zs.map D.str)):=by
 obtain ⟨sh,hsh,esh⟩:∃sh:Nat,sh < 26/\cell / 288 % 26=(sh:Int):=⟨(cell / 288 % 26).toNat,by omega,by omega⟩
 have al:abc.length=26:=j23
 have ll:abc.cps.toList.length=26:=by rw [q4Q,al]
 have rg:∀ρ:Ro,ρ[1]?=some (.sh (.int n))->j0t (n1 (q0f 1)) ρ=.ok ((List.range n).map λk:Nat=>D.int (0+(k:Int))):=fun ρ h=>by
  rw [q67 (n:=n) (by simp [h]) (by omega)];rfl
 by_cases ho:cell % 2=1
 ·obtain ⟨c3,hc3,e3⟩:∃c3:Nat,c3<=2/\cell / 2 % 3=(c3:Int):=⟨(cell / 2 % 3).toNat,by omega,by omega⟩
  let row:List Nat:=abc.cps.toList.drop sh++abc.cps.toList.take sh
  have hrow:row.length=26:=by simp [row,ll];omega
  have mrow:∀c∈row,c∈abc.cps.toList:=by
   intro c hc
   rcases List.mem_append.mp hc with hc | hc
   ·exact List.mem_of_mem_drop hc
   ·exact List.mem_of_mem_take hc
  let f:Nat->Str:=λk=>⟨(row.take (k+1+c3)).toArray⟩
  refine ⟨(List.range n).map f,by simp,q3n n f λi j hij hj e=>?_,λz hz=>?_,?_⟩
  ·have:=congrArg List.length (q65 e)
   rw [List.length_take,List.length_take,hrow] at this
   omega
  ·obtain ⟨k,hk,rfl⟩:=List.mem_map.mp hz
   have hk:k < n:=by simpa using hk
   exact j4D _ (by rw [List.length_take,hrow];omega) (by rw [List.length_take,hrow];omega) λc hc=>mrow c (List.mem_of_mem_take hc)
  ·have g1:q51 [.sh (.int cell),.sh (.int n),.sh (.str abc),.sh (.int sh),.no,.no,.sh (.str ⟨row.toArray⟩)]=.rt (.fr (((List.range n).map f).map D.str)):=by
    rw [q51]
    show Out.fl (Out.bind (q0U _ _ _ _) _) _ _=_
    rw [q2E (rg _ rfl) (by simp;omega) (k:=λk=>D.str (f k))]
    ·rw [List.map_map];rfl
    ·intro k hk
     have hk:k < n:=by simpa using hk
     have sl:Txt.slice ⟨row.toArray⟩ none (some ((k:Int)+1+(c3:Int)))=f k:=by
      rw [show (k:Int)+1+(c3:Int)=((k+1+c3:Nat):Int) by omega]
      exact q3V (by rw [q0Z,hrow];omega)
     have lr:(⟨row.toArray⟩:Str).length<=1000000:=by rw [q0Z,hrow];decide
     generalize (⟨row.toArray⟩:Str)=R at *
     simp [q1p,q85,lr,e3,sl]
   have s1:=q5U (x:=abc) (n:=sh) (by rw [al];omega)
   have s2:=q3V (x:=abc) (n:=sh) (by rw [al];omega)
   have ap:=q32 (abc.cps.toList.drop sh) (abc.cps.toList.take sh)
   have hz:abc.length<=1000000:=by rw [al];decide
   have z1:(⟨(abc.cps.toList.drop sh).toArray⟩:Str).length+(⟨(abc.cps.toList.take sh).toArray⟩:Str).length<=1000000:=by
    rw [q0Z,q0Z,List.length_drop,List.length_take];omega
   generalize hG:q51=G at *
   generalize ((List.range n).map f).map D.str=Z at *
   have hrw:(⟨row.toArray⟩:Str)=⟨(abc.cps.toList.drop sh).toArray⟩++⟨(abc.cps.toList.take sh).toArray⟩:=ap.symm
   rw [hrw] at g1
   generalize (⟨(abc.cps.toList.drop sh).toArray⟩:Str)=A at *
   generalize (⟨(abc.cps.toList.take sh).toArray⟩:Str)=B at *
   generalize hL:abc=L at *
   have hL':Str.ofString "abcdefghijklmnopqrstuvwxyz" = L:=hL
   simp [j5i,q7X,q8a,q8u,j1F,ho,esh,hL',hz,s1,s2,z1,hG,g1]
 ·obtain ⟨m,hm,em⟩:∃m:Nat,m<=11/\cell / 2 % 12=(m:Int):=⟨(cell / 2 % 12).toNat,by omega,by omega⟩
  obtain ⟨cs,c1,c2,c3⟩:=q3q j1R (by decide) (f:=λd=>e2 ixD (q0f 1) (e2 (i2c q6U λi j=>.int (i % j)) (e2 j3L (e2 (i2c q6D λi j=>.int (i / j)) (q0f 2) (eC (.int 7))) (e2 (i2c q49 λi j=>.int (i*j)) (q0f 0) (e2 j3L (q0f 0) (eC (.int 2))))) (eC (.int 26))) (q1p [2,0] [.sh (.int cell),.sh (.int n),.sh (.str abc),.sh (.int sh),.no,.no,.no] d)) (g:=λk:Nat=>D.int (0+(k:Int))) (ix:=λk=>(cell / 7+(k:Int)*((k:Int)+2)) % 26) (List.range m) (by
   intro k hk
   have hk:k < m:=by simpa using hk
   have mo:q49 (k:Int) ((k:Int)+2)=true:=by
    unfold q49
    simp only [Bool.or_eq_true,Bool.and_eq_true,decide_eq_true_eq]
    left;constructor<;>omega
   refine ⟨by omega,by rw [al];omega,?_⟩
   generalize abc=L
   simp [q1p,q85,mo])
  rw [List.length_range] at c1
  obtain ⟨p,hp,ep⟩:∃p:Nat,p<=m/\cell / 24 % ((m:Int)+1)=(p:Int):=by
   have h0:=Int.emod_nonneg (cell / 24) (b:=(m:Int)+1) (by omega)
   have h1:=Int.emod_lt_of_pos (cell / 24) (b:=(m:Int)+1) (by omega)
   exact ⟨(cell / 24 % ((m:Int)+1)).toNat,by omega,by omega⟩
  have lt:∀k:Nat,(sh+k) % 26 < abc.cps.toList.length:=λk=>by rw [ll];exact Nat.mod_lt _ (by decide)
  let f:Nat->Str:=λk=>⟨(cs.take p++[abc.cps.toList[(sh+k) % 26]'(lt k)]++cs.drop p).toArray⟩
  have fl:∀k,(cs.take p++[abc.cps.toList[(sh+k) % 26]'(lt k)]++cs.drop p).length=m+1:=λk=>by
   simp [c1];omega
  refine ⟨(List.range n).map f,by simp,q3n n f λi j hij hj e=>?_,λz hz=>?_,?_⟩
  ·have e:=q65 e
   rw [List.append_assoc,List.append_assoc] at e
   have e:=List.append_cancel_left e
   have e:abc.cps.toList[(sh+i) % 26]'(lt i)=abc.cps.toList[(sh+j) % 26]'(lt j):=by
    have:=congrArg (λl=>l[0]?) e
    simpa using this
   have:=(List.getElem_inj q7f).mp e
   omega
  ·obtain ⟨k,hk,rfl⟩:=List.mem_map.mp hz
   refine j4D _ (by rw [fl];omega) (by rw [fl];omega) λc hc=>?_
   rcases List.mem_append.mp hc with hc | hc
   ·rcases List.mem_append.mp hc with hc | hc
    ·exact c2 c (List.mem_of_mem_take hc)
    ·rw [List.mem_singleton.mp hc];exact List.getElem_mem _
   ·exact c2 c (List.mem_of_mem_drop hc)
  ·have g3:q5o [.sh (.int cell),.sh (.int n),.sh (.str abc),.sh (.int sh),.sh (.str ⟨cs.toArray⟩),.sh (.int p),.no]=.rt (.fr (((List.range n).map f).map D.str)):=by
    rw [q5o]
    show Out.fl (Out.bind (q0U _ _ _ _) _) _ _=_
    rw [q2E (rg _ rfl) (by simp;omega) (k:=λk=>D.str (f k))]
    ·rw [List.map_map];rfl
    ·intro k hk
     have hk:k < n:=by simpa using hk
     have s1:=q3V (x:=⟨cs.toArray⟩) (n:=p) (by rw [q0Z];omega)
     have s2:=q5U (x:=⟨cs.toArray⟩) (n:=p) (by rw [q0Z];omega)
     have lr:(⟨cs.toArray⟩:Str).length<=1000000:=by rw [q0Z];omega
     have ix:atI abc.cps.toList (((sh:Int)+(0+(k:Int))) % 26)=some (abc.cps.toList[(sh+k) % 26]'(lt k)):=by
      rw [show ((sh:Int)+(0+(k:Int))) % 26=(((sh+k) % 26:Nat):Int) by omega]
      exact q1h (by simp [lt k])
     have hz:abc.length<=1000000:=by rw [al];decide
     have eq1:f k=⟨(cs.take p).toArray⟩++⟨#[abc.cps.toList[(sh+k) % 26]'(lt k)]⟩++⟨(cs.drop p).toArray⟩:=by
      show (⟨_⟩:Str)=_
      rw [show (⟨#[abc.cps.toList[(sh+k) % 26]'(lt k)]⟩:Str)=⟨[abc.cps.toList[(sh+k) % 26]'(lt k)].toArray⟩ from rfl,q32,q32]
     have z1:(⟨(cs.take p).toArray⟩:Str).length+(⟨#[abc.cps.toList[(sh+k) % 26]'(lt k)]⟩:Str).length<=1000000:=by
      rw [show (⟨#[abc.cps.toList[(sh+k) % 26]'(lt k)]⟩:Str)=⟨[abc.cps.toList[(sh+k) % 26]'(lt k)].toArray⟩ from rfl,q0Z,q0Z];simp;omega
     have z2:((⟨(cs.take p).toArray⟩:Str)++⟨#[abc.cps.toList[(sh+k) % 26]'(lt k)]⟩).length+(⟨(cs.drop p).toArray⟩:Str).length<=1000000:=by
      rw [show (⟨#[abc.cps.toList[(sh+k) % 26]'(lt k)]⟩:Str)=⟨[abc.cps.toList[(sh+k) % 26]'(lt k)].toArray⟩ from rfl,q32,q0Z,q0Z];simp;omega
     rw [eq1]
     generalize abc.cps.toList[(sh+k) % 26]'(lt k)=q at *
     clear eq1 fl
     generalize (⟨(cs.take p).toArray⟩:Str)=A at *
     generalize (⟨(cs.drop p).toArray⟩:Str)=B at *
     generalize (⟨cs.toArray⟩:Str)=C at *
     generalize hL:abc=L at *
     generalize hI:((sh:Int)+(0+(k:Int))) % 26=I at *
     have hI':((sh:Int)+(k:Int)) % 26=I:=by rw [<-hI];congr 2;omega
     simp [q1p,q85,lr,s1,s2,hz,ix,hI',z1,z2]
   have fc:q0U (j0t (n1 (e2 (i2c q6U λi j=>.int (i % j)) (e2 (i2c q6D λi j=>.int (i / j)) (q0f 0) (eC (.int 2))) (eC (.int 12))))) [2,0] (e2 ixD (q0f 1) (e2 (i2c q6U λi j=>.int (i % j)) (e2 j3L (e2 (i2c q6D λi j=>.int (i / j)) (q0f 2) (eC (.int 7))) (e2 (i2c q49 λi j=>.int (i*j)) (q0f 0) (e2 j3L (q0f 0) (eC (.int 2))))) (eC (.int 26)))) [.sh (.int cell),.sh (.int n),.sh (.str abc),.sh (.int sh),.no,.no,.no]=.ok (cs.map λc=>D.str ⟨#[c]⟩):=by
    rw [q0U,q67 (n:=m) (by rw [<-em];simp) (by omega),Out.ok_bind,if_pos (by simp [rgD];omega)]
    show (match q36 _ ((List.range m).map _) with | some es=>Out.ok es | none=>.bad)=_
    rw [show q36 _ ((List.range m).map λk:Nat=>D.int (0+(k:Int)))=_ from c3]
   have jn:=j0o cs (by omega)
   have ln:(⟨cs.toArray⟩:Str).length=m:=by rw [q0Z,c1]
   have g5:q5u [.sh (.int cell),.sh (.int n),.sh (.str abc),.sh (.int sh),.no,.no,.no]=.rt (.fr (((List.range n).map f).map D.str)):=by
    rw [q5u,q8W (v:=.str ⟨cs.toArray⟩)]
    ·rw [Fl.nx_bind]
     generalize hG:q5o=G at *
     generalize ((List.range n).map f).map D.str=Z at *
     generalize (⟨cs.toArray⟩:Str)=C at *
     have lz:C.length<=1000000:=by omega
     have mp:0 < (m:Int)+1:=by omega
     have m6:m<=1000000:=by omega
     simp [j1U,lz,m6,ln,ep,mp,hG,g3]
    ·show (Out.ok (D.str "")).bind _=_
     rw [Out.ok_bind]
     show Out.bind (Out.bind (Out.bind (q0U _ _ _ _) _) _) _=_
     rw [fc]
     exact jn
   generalize hG:q5u=G at *
   generalize ((List.range n).map f).map D.str=Z at *
   generalize hL:abc=L at *
   have hL':Str.ofString "abcdefghijklmnopqrstuvwxyz" = L:=hL
   simp [j5i,q7X,q8a,q8u,ho,esh,hL',hG,g5]
theorem q5k (z:Str) (l d:Int) (hl:l.natAbs.log2 < 1920):F_6 [.sh (.str z),.sh (.int l),.sh (.int d)]=if 1<=l/\l<=60 then .ok (.sh (.ins 14 [.str z,.int l,.int d])) else .exc 3:=by
 have c1:=chkn l 1 60 hl (by decide) (by decide)
 by_cases h1:1<=l/\l<=60
 ·simp [F_6,j3m,j5z,j4e,j4P,c1,h1]
 ·simp [F_6,j3m,c1,h1]
noncomputable def ord (o:Str×Int×Int):D:=.ins 14 [.str o.1,.int o.2.1,.int o.2.2]
noncomputable def bat (b:Int×Int×Int):D:=.ins 15 [.int b.1,.int b.2.1,.int b.2.2]
noncomputable def ovn (o:Int×Int×Int):D:=.ins 13 [.int o.1,.int o.2.1,.int o.2.2]
noncomputable def nb (most ls:Int):Nat:=((ls-1) / most+1).toNat
noncomputable def j4o (most n ls:Int) (t:Nat):Int×Int×Int:=(n,1+(t:Int)*most,if ls-(1+(t:Int)*most)+1 < most then ls-(1+(t:Int)*most)+1 else most)
noncomputable def j5K (most n ls:Int):List (Int×Int×Int):=(List.range (nb most ls)).map (j4o most n ls)
noncomputable def q1P (most:Int):Int->List Int->List (Int×Int×Int)
 | _,[]=>[]
 | n,l::ls=>j5K most n l++q1P most (n+1) ls
theorem q3J (most n ls:Int):(j5K most n ls).length=nb most ls:=by simp [j5K]
theorem j27 {most ls:Int} (h:1<=most) (h1:1<=ls) (h2:ls<=60):nb most ls<=60:=by
 unfold nb
 have:(ls-1) / most<=ls-1:=Int.ediv_le_self _ (by omega)
 omega
theorem q5j (most:Int) (h:1<=most):∀(ls:List Int) (n:Int),(∀l∈ls,1<=l/\l<=60)->(q1P most n ls).length<=60*ls.length
 | [],n,_=>by simp [q1P]
 | l::ls,n,hl=>by
  have h1:=q5j most h ls (n+1) λx hx=>hl x (by simp [hx])
  have h2:=j27 h (hl l (by simp)).1 (hl l (by simp)).2
  rw [q1P,List.length_append,q3J,List.length_cons]
  omega
theorem j0v (a b c:Int):F_7 [.sh (.int a),.sh (.int b),.sh (.int c)]=.ok (.sh (.ins 15 [.int a,.int b,.int c])):=by
 simp [F_7,j49,j3Y,j5r]
theorem j2U {fa fb fc:Ev} {ρ:Ro} {ls most:Int} (ha:fa ρ=.ok (.int 1)) (hb:fb ρ=.ok (.int (ls+1))) (hc:fc ρ=.ok (.int most)) (h:1<=most/\most<=1000) (h1:1<=ls/\ls<=1000) :
 j0k fa fb fc ρ=.ok ((List.range (nb most ls)).map λ(t:Nat)=>D.int (1+(t:Int)*most)):=by
 have ok:q4q 1 (ls+1) most=true:=by
  unfold q4q
  simp only [Bool.and_eq_true,decide_eq_true_eq]
  refine ⟨⟨⟨⟨⟨⟨?_,?_⟩,?_⟩,?_⟩,?_⟩,?_⟩,?_⟩<;>omega
 have sz:(Builtin.Range.rangeSize 1 (ls+1) most).toNat=nb most ls:=by
  unfold Builtin.Range.rangeSize nb
  rw [if_pos (by omega),if_pos (by omega),show ls+1-1-1=ls-1 by omega]
 rw [j0k,ha,Out.ok_bind,hb,Out.ok_bind,hc,Out.ok_bind]
 show (if q4q 1 (ls+1) most=true then Out.ok (rgS 1 most _) else .bad)=_
 rw [if_pos ok,sz]
 rfl
theorem q7g (os:Sl) (most n:Int) (o:Str×Int×Int):∀(ts:List Nat) (row:List D) (x y:Sl),row.length+ts.length<=900000->∃x' y',q1Q (q0E (q3k 5) q7c) (ts.map λ(t:Nat)=>D.int (1+(t:Int)*most)) [os,.sh (.int most),.ow row,.sh (.int n),.sh (ord o),x,y] =
 .nx [os,.sh (.int most),.ow (row++(ts.map (j4o most n o.2.1)).map bat),.sh (.int n),.sh (ord o),x',y']
 | [],row,x,y,_=>⟨x,y,by simp [q04]⟩
 | t::ts,row,x,y,hl=>by
  have hr:row.length < 1000000:=by simp at hl;omega
  obtain ⟨x',y',e⟩:=q7g os most n o ts (row++[bat (j4o most n o.2.1 t)]) (.sh (.int (1+(t:Int)*most))) (.sh (.int (o.2.1-(1+(t:Int)*most)+1))) (by simp at hl ⊢; omega)
  refine ⟨x',y',?_⟩
  have bm:=j0v n (1+(t:Int)*most) (if o.2.1-(1+(t:Int)*most)+1 < most then o.2.1-(1+(t:Int)*most)+1 else most)
  rw [List.map_cons,q1g (ρ':=[os,.sh (.int most),.ow (row++[bat (j4o most n o.2.1 t)]),.sh (.int n),.sh (ord o),.sh (.int (1+(t:Int)*most)),.sh (.int (o.2.1-(1+(t:Int)*most)+1))]),e]
  ·simp
  ·generalize hF:1+(t:Int)*most=f at *
   simp [q0E,q7c,j1f,ord,List.lookup,bm,hr,bat,j4o,hF]
theorem j6W {is:List Nat} {f:Ro->Fl} {ρ ρ':Ro} {d:D} (h:j0S is ρ d=.ok ρ'):q0E (j0S is) f ρ d=f ρ':=by
 rw [q0E,h]
theorem q5N (os:Sl) (most:Int) (hm:1<=most/\most<=1000):∀(ol:List (Str×Int×Int)) (n:Int) (row:List D) (p q x y:Sl),(∀o∈ol,1<=o.2.1/\o.2.1<=60)->row.length+60*ol.length<=900000->∃p' q' x' y',q1Q (q0E (j0S [3,4]) q8i) (q6Q n (ol.map ord)) [os,.sh (.int most),.ow row,p,q,x,y] =
 .nx [os,.sh (.int most),.ow (row++(q1P most n (ol.map (·.2.1))).map bat),p',q',x',y']
 | [],n,row,p,q,x,y,_,_=>⟨p,q,x,y,by simp [q04,q6Q,q1P]⟩
 | o::ol,n,row,p,q,x,y,ho,hl=>by
  have h1:=ho o (by simp)
  have hn:=j27 hm.1 h1.1 h1.2
  obtain ⟨x1,y1,e1⟩:=q7g os most n o (List.range (nb most o.2.1)) row x y (by simp at hl ⊢; omega)
  obtain ⟨p',q',x',y',e2⟩:=q5N os most hm ol (n+1) (row++(j5K most n o.2.1).map bat) (.sh (.int n)) (.sh (ord o)) x1 y1 (λz hz=>ho z (by simp [hz])) (by simp [q3J] at hl ⊢; omega)
  refine ⟨p',q',x',y',?_⟩
  rw [List.map_cons,q6Q,q1g (ρ':=[os,.sh (.int most),.ow (row++(j5K most n o.2.1).map bat),.sh (.int n),.sh (ord o),x1,y1]),e2]
  ·simp [q1P]
  ·rw [j6W (ρ':=[os,.sh (.int most),.ow row,.sh (.int n),.sh (ord o),x,y]) (by simp [q8r]),q8i,q1w (j2U (ls:=o.2.1) (most:=most) ?_ ?_ ?_ hm ⟨h1.1,by omega⟩),e1]
   ·rfl
   ·simp
   ·simp [ord,List.lookup]
   ·simp
theorem q3r (most:Int) (hm:1<=most/\most<=1000) (ol:List (Str×Int×Int)) (ho:∀o∈ol,1<=o.2.1/\o.2.1<=60) (hl:ol.length<=1000):j5V [.sh (.lst (ol.map ord)),.sh (.int most)]=.ok (.fr ((q1P most 1 (ol.map (·.2.1))).map bat)):=by
 obtain ⟨p',q',x',y',e⟩:=q5N (.sh (.lst (ol.map ord))) most hm ol 1 [] .no .no .no .no ho (by simp;omega)
 have k:q5J [.sh (.lst (ol.map ord)),.sh (.int most),.ow [],.no,.no,.no,.no]=.rt (.fr ((q1P most 1 (ol.map (·.2.1))).map bat)):=by
  rw [q5J,q1w (ds:=q6Q 1 (ol.map ord)) (by simp),e]
  simp [j1C]
 generalize hG:q5J=G at *
 simp [j5V,j1Z,k,hG]
theorem q2V (n h b bb:D) (rs:List (Int×Int×Int)) (hr:rs≠[]) (hl:rs.length<=3):F_8 [.sh (.ins 19 [n,h,b,.tup (rs.map ovn),bb])]=.ok (.sh (.int (q0Y true (rs.map (·.1))))):=by
 have mp:∀ρ:Ro,q36 (λd=>q31 [(13,0)] (q0f 0) (q1p [] ρ d)) (rs.map ovn)=some ((rs.map (·.1)).map D.int):=by
  intro ρ
  rw [List.map_map]
  exact q2B rs λx _=>by simp [q1p,ovn,List.lookup]
 have mx:=q9I (is:=rs.map (·.1)) (by simpa using hr)
 have lz:(rs.map ovn).length<=1000000:=by simp;omega
 simp only [q31,q0f] at mp
 generalize rs.map ovn=oo at *
 generalize (rs.map (·.1)).map D.int=zz at *
 simp [F_8,j5e,mp,mx,lz]
theorem j0Z (d n:Int) (h:0<=d/\d<=n):F_9 [.sh (.int d),.sh (.int n)]=.ok (.sh .non):=by
 simp [F_9,j0h,h.1,h.2]
structure Taken (night:Int) (bs:List (Str×List D)) (rs:List (Int×Int×Int)) (ol:List (Str×Int×Int)):Prop where
 len:ol.length<=12
 name:∀o∈ol,o.1∈bs.map (·.1)
 tz:∀o∈ol,Tz 1000 o.1
 due:∀o∈ol,0<=o.2.2/\o.2.2<=night
 lv:∀o∈ol,1<=o.2.1/\o.2.1<=60
 few:(q1P (q0Y true (rs.map (·.1))) 1 (ol.map (·.2.1))).length<=24
structure RsOk (rs:List (Int×Int×Int)):Prop where
 ne:rs≠[]
 len:rs.length<=3
 room:∀r∈rs,1<=r.1/\r.1<=30
theorem RsOk.most {rs:List (Int×Int×Int)} (h:RsOk rs):1<=q0Y true (rs.map (·.1))/\q0Y true (rs.map (·.1))<=30:=by
 obtain ⟨h1,h2⟩:=q4r (is:=rs.map (·.1)) (by simpa using h.ne)
 obtain ⟨r,hr,e⟩:=List.mem_map.mp h1
 rw [<-e]
 exact h.room r hr
noncomputable abbrev bkr (n h b:Int) (rs:List (Int×Int×Int)) (bs:List (Str×List D)):D:=.ins 19 [.int n,.int h,.int b,.tup (rs.map ovn),.tup (bs.map brd)]
theorem q4v (n h b:Int) (rs:List (Int×Int×Int)) (bs:List (Str×List D)) (w:Sl) (y:Sl):∀(ol:List (Str×Int×Int)) (x:Sl),(∀o∈ol,o.1∈bs.map (·.1))->(∀o∈ol,Tz 1000 o.1)->∃x',q1Q (q0E (q3k 2) q2u) (ol.map ord) [.sh (bkr n h b rs bs),w,x,y]=.nx [.sh (bkr n h b rs bs),w,x',y]
 | [],x,_,_=>⟨x,by rw [List.map_nil,q04]⟩
 | o::ol,x,h1,h2=>by
  obtain ⟨x',e⟩:=q4v n h b rs bs w y ol (.sh (ord o)) (λz hz=>h1 z (by simp [hz])) (λz hz=>h2 z (by simp [hz]))
  refine ⟨x',?_⟩
  have bo:=bread_of (.int n) (.int h) (.int b) (rs.map ovn) bs o.1 (h2 o (by simp))
  obtain ⟨bb,hb,eb⟩:=List.mem_map.mp (h1 o (by simp))
  have fd:∃b2,bs.find? (λb=>decide (b.1=o.1))=some b2:=by
   cases q:bs.find? (λb=>decide (b.1=o.1)) with
   | some b2=>exact ⟨b2,rfl⟩
   | none=>
    rw [List.find?_eq_none] at q
    exact absurd (by simpa using eb) (q bb hb)
  obtain ⟨b2,fd⟩:=fd
  rw [fd] at bo
  rw [List.map_cons,q1g (ρ':=[.sh (bkr n h b rs bs),w,.sh (ord o),y]),e]
  unfold bkr
  generalize rs.map ovn=oo at *
  generalize bs.map brd=bb at *
  simp [q0E,q2u,ord,List.lookup,bo]
theorem q57 (n h b:Int) (rs:List (Int×Int×Int)) (bs:List (Str×List D)) (w:Sl) (y:Sl):∀(ol:List (Str×Int×Int)) (x:Sl),(∀o∈ol,0<=o.2.2/\o.2.2<=n)->∃x',q1Q (q0E (q3k 2) q2s) (ol.map ord) [.sh (bkr n h b rs bs),w,x,y]=.nx [.sh (bkr n h b rs bs),w,x',y]
 | [],x,_=>⟨x,by rw [List.map_nil,q04]⟩
 | o::ol,x,h1=>by
  obtain ⟨x',e⟩:=q57 n h b rs bs w y ol (.sh (ord o)) (λz hz=>h1 z (by simp [hz]))
  refine ⟨x',?_⟩
  have d:=j0Z o.2.2 n (h1 o (by simp))
  rw [List.map_cons,q1g (ρ':=[.sh (bkr n h b rs bs),w,.sh (ord o),y]),e]
  unfold bkr
  generalize rs.map ovn=oo at *
  generalize bs.map brd=bb at *
  simp [q0E,q2s,ord,List.lookup,d]
theorem q79 (n h b:Int) (rs:List (Int×Int×Int)) (bs:List (Str×List D)) (ol:List (Str×Int×Int)) (hr:RsOk rs) (tk:Taken n bs rs ol):q9A [.sh (bkr n h b rs bs),.sh (.lst (ol.map ord))]=.ok (.sh .non):=by
 have c1:=chkc ((ol.map ord).length:Int) 0 12 (small2 (by simp;have:=tk.len;omega)) (by decide) (by decide)
 rw [if_pos ⟨by omega,by have:=tk.len;simp;omega⟩,List.length_map] at c1
 obtain ⟨x1,e1⟩:=q4v n h b rs bs (.sh (.lst (ol.map ord))) .no ol .no tk.name tk.tz
 obtain ⟨x2,e2⟩:=q57 n h b rs bs (.sh (.lst (ol.map ord))) .no ol x1 tk.due
 have gr:=q2V (.int n) (.int h) (.int b) (.tup (bs.map brd)) rs hr.ne hr.len
 have mo:=hr.most
 have bt:=q3r (q0Y true (rs.map (·.1))) ⟨mo.1,by omega⟩ ol tk.lv (by have:=tk.len;omega)
 have few:=tk.few
 have k5:q3w [.sh (bkr n h b rs bs),.sh (.lst (ol.map ord)),x2,.no]=.nx [.sh (bkr n h b rs bs),.sh (.lst (ol.map ord)),x2,.sh (.int (q1P (q0Y true (rs.map (·.1))) 1 (ol.map (·.2.1))).length)]:=by
  have lb:((q1P (q0Y true (rs.map (·.1))) 1 (ol.map (·.2.1))).map bat).length=(q1P (q0Y true (rs.map (·.1))) 1 (ol.map (·.2.1))).length:=by simp
  have few':¬(24:Int) < ((q1P (q0Y true (rs.map (·.1))) 1 (ol.map (·.2.1))).length:Int):=by omega
  unfold bkr
  clear e1 e2 tk few
  generalize (q1P (q0Y true (rs.map (·.1))) 1 (ol.map (·.2.1))).map bat=BB at *
  generalize hN:(q1P (q0Y true (rs.map (·.1))) 1 (ol.map (·.2.1))).length=N at *
  generalize q0Y true (rs.map (·.1))=M at *
  generalize rs.map ovn=oo at *
  generalize bs.map brd=bb at *
  generalize ol.map ord=ll at *
  have few2:¬(24 < N):=by omega
  simp [q3w,q8v,gr,bt,lb,few',few2]
 have k7:q2v [.sh (bkr n h b rs bs),.sh (.lst (ol.map ord)),.no,.no]=.nx [.sh (bkr n h b rs bs),.sh (.lst (ol.map ord)),x2,.sh (.int (q1P (q0Y true (rs.map (·.1))) 1 (ol.map (·.2.1))).length)]:=by
  rw [q2v,q1w (ds:=ol.map ord) (by simp),e1,Fl.nx_bind,q4s,q1w (ds:=ol.map ord) (by simp),e2,Fl.nx_bind,k5]
 generalize hG:q2v=G at *
 simp [q9A,q5w,c1,k7,hG]
noncomputable def q0w (o:Str×Int×Int):D:=.tup [.str o.1,.int o.2.1,.int o.2.2]
theorem j4v {α:Type} (l:List α) (k:Nat) (h:k<=l.length):q4k l none (some (k:Int))=l.take k:=by
 unfold q4k
 rw [HT.sIx_nat,Nat.min_eq_left h]
 simp [HT.sIx]
theorem j4h {α:Type} (l:List α) (k:Nat) (h:k<=l.length):q4k l (some (k:Int)) none=l.drop k:=by
 unfold q4k
 rw [HT.sIx_nat,Nat.min_eq_left h]
 show (l.drop k).take (l.length-k)=_
 exact List.take_of_length_le (by rw [List.length_drop];omega)
theorem q6e {α:Type} (l:List α):q4k l none (some (-1))=l.dropLast:=by
 unfold q4k
 have e:HT.sIx l.length l.length (some (-1))=l.length-1:=by
  show (if (-1:Int) < 0 then ((-1:Int)+(l.length:Int)).toNat else min (-1:Int).toNat l.length)=_
  rw [if_pos (by decide)]
  omega
 rw [e,List.dropLast_eq_take]
 rfl
theorem q3X (most:Int):∀(ls:List Int) (n:Int),(q1P most n ls).length=(ls.map (nb most)).sum
 | [],_=>rfl
 | l::ls,n=>by rw [q1P,List.length_append,q3J,q3X most ls,List.map_cons,List.sum_cons]
theorem j5I {most l:Int} (h:1<=most) (h1:1<=l):(l+most-1) / most=(nb most l:Int):=by
 unfold nb
 rw [show l+most-1=(l-1)+1*most by omega,Int.add_mul_ediv_right _ _ (by omega)]
 have:0<=(l-1) / most:=Int.ediv_nonneg (by omega) (by omega)
 omega
theorem q7J {most:Int}:∀ls:List Int,isum (ls.map λl=>(nb most l:Int))=((ls.map (nb most)).sum:Int)
 | []=>rfl
 | l::ls=>by
  rw [List.map_cons,isum,q7J ls,List.map_cons,List.sum_cons]
  push_cast
  rfl
structure Pt (n:Int) (zs:List Str) (o:Str×Int×Int):Prop where
 nm:o.1∈zs
 lv:-1000<=o.2.1/\o.2.1<=1000
 du:-100000<=o.2.2/\o.2.2<=100000
structure Wo (n most:Int) (zs:List Str):Prop where
 n1:1<=n/\n<=720
 m1:1<=most/\most<=30
 l1:2<=zs.length/\zs.length<=9
 nd:zs.Nodup
 wd:∀z∈zs,Wd 12 z
noncomputable def ka (z:Str):Str×List D:=(z,[.ins 20 [.str "a",.int 1,.int 9,.str "hands",.int 0]])
noncomputable abbrev rs2 (most:Int):List (Int×Int×Int):=[(1,9,9),(most,9,9)]
noncomputable abbrev bk (n most:Int) (zs:List Str):D:=bkr n 1 1 (rs2 most) (zs.dropLast.map ka)
theorem j59 (zs:List Str):(zs.map ka).map (·.1)=zs:=by
 rw [List.map_map]
 show zs.map (λr=>r)=zs
 exact List.map_id' zs
theorem Wo.rs {n most:Int} {zs:List Str} (h:Wo n most zs):RsOk (rs2 most):=⟨by simp,by simp,λr hr=>by
 rcases List.mem_cons.mp hr with rfl | hr
 ·exact ⟨by show (1:Int)<=1;decide,by show (1:Int)<=30;decide⟩
 ·rw [List.mem_singleton.mp hr];exact h.m1⟩
theorem Wo.best {n most:Int} {zs:List Str} (h:Wo n most zs):q0Y true ((rs2 most).map (·.1))=most:=by
 obtain ⟨h1,h2⟩:=q4r (is:=(rs2 most).map (·.1)) (by simp)
 have h3:=h2 most (by simp)
 have:=h.m1
 simp only [List.map_cons,List.map_nil,List.mem_cons,List.not_mem_nil,or_false] at h1
 rcases h1 with h1 | h1<;>simp only [List.map_cons,List.map_nil] at h3 ⊢<;>omega
noncomputable def q2w (n most:Int) (zs:List Str) (ol:List (Str×Int×Int)) (o:Str×Int×Int):Nat:=open Classical in
 if o.2.1 < 1∨60 < o.2.1 then 1 else if 12<=ol.length then 2 else if o.1∉zs.dropLast then 3 else if o.2.2 < 0∨n < o.2.2 then 4 else if 24 < (q1P most 1 ((ol++[o]).map (·.2.1))).length then 5 else 0
noncomputable abbrev Tk (n most:Int) (zs:List Str) (ol:List (Str×Int×Int)):Prop:=Taken n (zs.dropLast.map ka) (rs2 most) ol
theorem j38 {n most:Int} {zs:List Str} (W:Wo n most zs) {ol:List (Str×Int×Int)} (tk:Tk n most zs ol) (o:Str×Int×Int) (po:Pt n zs o):j7q [.bo (ol.map q0w),.sh (q0w o),.sh (.int n),.sh (.lst (zs.map D.str)),.sh (.int most)]=.ok (.sh (.int (q2w n most zs ol o))):=by
 have hl:=tk.len
 have cl:q4k (zs.map D.str) none (some (-1))=zs.dropLast.map D.str:=by rw [q6e,List.map_dropLast]
 have iz:=j0d true o.1 zs.dropLast
 have ll:(ol.map q0w).length=ol.length:=by simp
 have at0:∀a b c:D,atI [a,b,c] 0=some a:=λa b c=>q0K _ _
 have at1:∀a b c:D,atI [a,b,c] 1=some b:=λa b c=>q0N _ _ _
 have at2:∀a b c:D,atI [a,b,c] 2=some c:=λa b c=>q6k _ _ _ _
 refine q9n _ rfl ?_
 show q1t [.bo (ol.map q0w),.sh (q0w o),.sh (.int n),.sh (.lst (zs.map D.str)),.sh (.int most)]=_
 by_cases h1:o.2.1 < 1∨60 < o.2.1
 ·have:q2w n most zs ol o=1:=by unfold q2w;rw [if_pos h1]
  rw [this]
  rcases h1 with h1 | h1
  ·simp [q1t,q7j,q0w,at1,h1]
  ·have h0:¬o.2.1 < 1:=by omega
   simp [q1t,q7j,q0w,at1,h0,h1]
 have n1:¬o.2.1 < 1:=λz=>h1 (.inl z)
 have n2:¬60 < o.2.1:=λz=>h1 (.inr z)
 by_cases h2:12<=ol.length
 ·have:q2w n most zs ol o=2:=by unfold q2w;rw [if_neg h1,if_pos h2]
  rw [this]
  have h2i:(12:Int)<=(ol.length:Int):=by omega
  simp [q1t,q2j,j1j,q0w,at1,n1,n2,ll,h2i]
 by_cases h3:o.1∉zs.dropLast
 ·have:q2w n most zs ol o=3:=by unfold q2w;rw [if_neg h1,if_neg h2,if_pos h3]
  rw [this]
  rw [decide_eq_false h3] at iz
  generalize zs.dropLast.map D.str=zd at *
  generalize zs.map D.str=zz at *
  generalize ol.map q0w=oo at *
  have h2':¬(12:Int)<=(oo.length:Int):=by omega
  simp [q1t,q2j,q4o,j0K,q0w,at0,at1,n1,n2,h2',cl,iz]
 have h3':o.1∈zs.dropLast:=Classical.byContradiction h3
 rw [decide_eq_true h3'] at iz
 by_cases h4:o.2.2 < 0∨n < o.2.2
 ·have:q2w n most zs ol o=4:=by unfold q2w;rw [if_neg h1,if_neg h2,if_neg h3,if_pos h4]
  rw [this]
  generalize zs.dropLast.map D.str=zd at *
  generalize zs.map D.str=zz at *
  generalize ol.map q0w=oo at *
  have h2':¬(12:Int)<=(oo.length:Int):=by omega
  rcases h4 with h4 | h4
  ·simp [q1t,q2j,q4o,q6m,q80,q0w,at0,at1,at2,n1,n2,h2',cl,iz,h4]
  ·have h0:¬o.2.2 < 0:=by have:=W.n1;omega
   simp [q1t,q2j,q4o,q6m,q80,q0w,at0,at1,at2,n1,n2,h2',cl,iz,h4,h0]
 have n3:¬o.2.2 < 0:=λz=>h4 (.inl z)
 have n4:¬n < o.2.2:=λz=>h4 (.inr z)
 have lv:∀x∈ol++[o],1<=x.2.1/\x.2.1<=60:=λx hx=>by
  rcases List.mem_append.mp hx with hx | hx
  ·exact tk.lv x hx
  ·rw [List.mem_singleton.mp hx];omega
 have m1:=W.m1
 have fc:q0U (q2x (q1B (j3v (q4p 0) (q09 (q0o (q0f 1) q0O))))) [4] (q3t (q46 (q2D (eIx (q0f 0) (eI 1)) (q0f 1)) (eI 1)) (q0f 1)) [.bo (ol.map q0w),.sh (q0w o),.sh (.int n),.sh (.lst (zs.map D.str)),.sh (.int most)]=.ok ((ol++[o]).map λx=>D.int (nb most x.2.1)):=by
  refine q2E (g:=q0w) ?_ (by simp;omega) λx hx=>?_
  ·have h12:(ol.map q0w).length<=999999:=by rw [ll];omega
   rw [List.map_append]
   generalize ol.map q0w=oo at *
   simp [h12]
  ·have dd:=j5I m1.1 (lv x hx).1
   have p1:0 < most:=by omega
   have p2:most < 1073741824:=by omega
   simp [q1p,q85,q0w,at1,p1,p2,dd]
 have sm:=j2P (is:=((ol++[o]).map (·.2.1)).map λl=>(nb most l:Int)) (by simp;omega) (λi hi=>by
  obtain ⟨l,hl,rfl⟩:=List.mem_map.mp hi
  obtain ⟨x,hx,rfl⟩:=List.mem_map.mp hl
  have:=j27 m1.1 (lv x hx).1 (lv x hx).2
  omega)
 rw [q7J,<-q3X most _ 1] at sm
 rw [List.map_map,List.map_map] at sm
 have fc':q0U (q2x (q1B (j3v (q4p 0) (q09 (q0o (q0f 1) q0O))))) [4] (q3t (q46 (q2D (eIx (q0f 0) (eI 1)) (q0f 1)) (eI 1)) (q0f 1)) [.bo (ol.map q0w),.sh (q0w o),.sh (.int n),.sh (.lst (zs.map D.str)),.sh (.int most)]=.ok ((ol++[o]).map (D.int ∘ (λl=>(nb most l:Int)) ∘ (λx=>x.2.1))):=fc
 have k7:q6i [.bo (ol.map q0w),.sh (q0w o),.sh (.int n),.sh (.lst (zs.map D.str)),.sh (.int most)]=.rt (.sh (.int (if 24 < (q1P most 1 ((ol++[o]).map (·.2.1))).length then 5 else 0:Nat))):=by
  have es:eCB j3i (q0o (q1B (q0U (q2x (q1B (j3v (q4p 0) (q09 (q0o (q0f 1) q0O))))) [4] (q3t (q46 (q2D (eIx (q0f 0) (eI 1)) (q0f 1)) (eI 1)) (q0f 1)))) q0O) [.bo (ol.map q0w),.sh (q0w o),.sh (.int n),.sh (.lst (zs.map D.str)),.sh (.int most)]=.ok (.int ((q1P most 1 ((ol++[o]).map (·.2.1))).length:Nat)):=by
   rw [eCB,q0o,q1B,fc',Out.ok_bind,Out.ok_bind,q0O,Out.ok_bind,Out.ok_bind]
   exact sm
  rw [q6i]
  generalize hS:eCB j3i _=S at *
  generalize (q1P most 1 ((ol++[o]).map (·.2.1))).length=N at *
  by_cases h5:24 < N
  ·have h5':(24:Int) < (N:Int):=by omega
   simp [es,h5,h5',j1M]
  ·have h5':¬(24:Int) < (N:Int):=by omega
   simp [es,h5,h5',j1Q]
 have:q2w n most zs ol o=if 24 < (q1P most 1 ((ol++[o]).map (·.2.1))).length then 5 else 0:=by unfold q2w;rw [if_neg h1,if_neg h2,if_neg h3,if_neg h4]
 rw [this]
 clear this fc fc' sm
 generalize hG:q6i=G at *
 generalize zs.dropLast.map D.str=zd at *
 generalize zs.map D.str=zz at *
 generalize ol.map q0w=oo at *
 have h2':¬(12:Int)<=(oo.length:Int):=by omega
 simp [q1t,q2j,q4o,q6m,q0w,at0,at1,at2,n1,n2,n3,n4,h2',cl,iz,hG]
 simpa [q0w] using k7
theorem q34 {α:Type} {body:Ro->D->Fl} (g:α->D) (S:Ro->Prop):∀(l:List α),(∀a∈l,∀ρ,S ρ->∃ρ',body ρ (g a)=.nx ρ'/\S ρ')->∀(tail:List D) (ρ:Ro),S ρ->∃ρ',q1Q body (l.map g++tail) ρ=q1Q body tail ρ'/\S ρ'
 | [],_,tail,ρ,h=>⟨ρ,rfl,h⟩
 | a::l,hb,tail,ρ,h=>by
  obtain ⟨ρ1,e1,h1⟩:=hb a (by simp) ρ h
  obtain ⟨ρ2,e2,h2⟩:=q34 g S l (λb q=>hb b (by simp [q])) tail ρ1 h1
  exact ⟨ρ2,by rw [List.map_cons,List.cons_append,q1g e1,e2],h2⟩
theorem q2T (n h b:Int) (rs:List (Int×Int×Int)) (bs:List (Str×List D)) (w y x:Sl) (o:Str×Int×Int) (hz:Tz 1000 o.1):q0E (q3k 2) q2u [.sh (bkr n h b rs bs),w,x,y] (ord o)=if o.1∈bs.map (·.1) then .nx [.sh (bkr n h b rs bs),w,.sh (ord o),y] else .exc 6 [.sh (bkr n h b rs bs),w,.sh (ord o),y]:=by
 have bo:=bread_of (.int n) (.int h) (.int b) (rs.map ovn) bs o.1 hz
 by_cases hm:o.1∈bs.map (·.1)
 ·rw [if_pos hm]
  obtain ⟨bb,hb,eb⟩:=List.mem_map.mp hm
  obtain ⟨b2,fd⟩:∃b2,bs.find? (λb=>decide (b.1=o.1))=some b2:=by
   cases q:bs.find? (λb=>decide (b.1=o.1)) with
   | some b2=>exact ⟨b2,rfl⟩
   | none=>
    rw [List.find?_eq_none] at q
    exact absurd (by simpa using eb) (q bb hb)
  rw [fd] at bo
  unfold bkr
  generalize rs.map ovn=oo at *
  generalize bs.map brd=bb at *
  simp [q0E,q2u,ord,List.lookup,bo]
 ·rw [if_neg hm]
  have fd:bs.find? (λb=>decide (b.1=o.1))=none:=by
   rw [List.find?_eq_none]
   exact λb hb z=>hm (List.mem_map.mpr ⟨b,hb,by simpa using z⟩)
  rw [fd] at bo
  unfold bkr
  generalize rs.map ovn=oo at *
  generalize bs.map brd=bb at *
  simp [q0E,q2u,ord,List.lookup,bo]
theorem j3U (d n:Int) (hd:d.natAbs.log2 < 1920) (hn:n.natAbs.log2 < 1920) (h:d < 0∨n < d) (h0:0<=n):F_9 [.sh (.int d),.sh (.int n)]=.exc 7:=by
 have l1:Str.length "minute "<=200000:=by decide
 have l2:Str.length " does not lie from 0 to "<=200000:=by decide
 by_cases h1:0<=d
 ·have h2:¬d<=n:=by omega
  simp [F_9,j0h,j3G,h1,h2,hd,hn,l1,l2]
 ·simp [F_9,j0h,j3G,h1,hd,hn,l1,l2]
theorem q5Y (n h b:Int) (rs:List (Int×Int×Int)) (bs:List (Str×List D)) (w y x:Sl) (o:Str×Int×Int) (hd:o.2.2.natAbs.log2 < 1920) (hn:n.natAbs.log2 < 1920) (h0:0<=n):q0E (q3k 2) q2s [.sh (bkr n h b rs bs),w,x,y] (ord o)=if 0<=o.2.2/\o.2.2<=n then .nx [.sh (bkr n h b rs bs),w,.sh (ord o),y] else .exc 7 [.sh (bkr n h b rs bs),w,.sh (ord o),y]:=by
 by_cases hh:0<=o.2.2/\o.2.2<=n
 ·rw [if_pos hh]
  have d:=j0Z o.2.2 n hh
  unfold bkr
  generalize rs.map ovn=oo at *
  generalize bs.map brd=bb at *
  simp [q0E,q2s,ord,List.lookup,d]
 ·rw [if_neg hh]
  have d:=j3U o.2.2 n hd hn (by omega) h0
  unfold bkr
  generalize rs.map ovn=oo at *
  generalize bs.map brd=bb at *
  simp [q0E,q2s,ord,List.lookup,d]
@[simp] noncomputable def j2J:Nat->Nat
 | 1=>3
 | 2=>4
 | 3=>6
 | 4=>7
 | _=>8
theorem j1V {i:Int} (h:-1000000<=i/\i<=1000000):i.natAbs.log2 < 1920:=q07 (by
 have:(1000000:Nat) < 2 ^ 200:=by decide
 omega)
theorem j5M {n most:Int} {zs:List Str} (W:Wo n most zs) {ol:List (Str×Int×Int)} (tk:Tk n most zs ol) {o:Str×Int×Int} (po:Pt n zs o) (h:q2w n most zs ol o=0):Tk n most zs (ol++[o]):=by
 unfold q2w at h
 by_cases h1:o.2.1 < 1∨60 < o.2.1
 ·rw [if_pos h1] at h;cases h
 rw [if_neg h1] at h
 by_cases h2:12<=ol.length
 ·rw [if_pos h2] at h;cases h
 rw [if_neg h2] at h
 by_cases h3:o.1∉zs.dropLast
 ·rw [if_pos h3] at h;cases h
 rw [if_neg h3] at h
 by_cases h4:o.2.2 < 0∨n < o.2.2
 ·rw [if_pos h4] at h;cases h
 rw [if_neg h4] at h
 by_cases h5:24 < (q1P most 1 ((ol++[o]).map (·.2.1))).length
 ·rw [if_pos h5] at h;cases h
 have both:∀{p:Str×Int×Int->Prop},(∀x∈ol,p x)->p o->∀x∈ol++[o],p x:=λa b x hx=>by
  rcases List.mem_append.mp hx with hx | hx
  ·exact a x hx
  ·rw [List.mem_singleton.mp hx];exact b
 refine ⟨by simp;omega,both tk.name ?_,both tk.tz ((W.wd o.1 po.nm).tz.mono (by decide)),both tk.due (by omega),both tk.lv (by omega),?_⟩
 ·rw [j59];exact Classical.byContradiction h3
 ·rw [W.best];omega
theorem j7r {n most:Int} {zs:List Str} {ol:List (Str×Int×Int)} (tk:Tk n most zs ol) (k:Nat):Tk n most zs (ol.eraseIdx k):=by
 have sub:=List.eraseIdx_sublist ol k
 refine ⟨by have:=sub.length_le;have:=tk.len;omega,λo ho=>tk.name o (sub.subset ho),λo ho=>tk.tz o (sub.subset ho),λo ho=>tk.due o (sub.subset ho),λo ho=>tk.lv o (sub.subset ho),?_⟩
 have h:=tk.few
 rw [q3X] at h ⊢
 have:∀{a b:List Nat},a.Sublist b->a.sum<=b.sum:=λ{a b} s=>by
  induction s with
  | slnil=>exact Nat.le_refl _
  | cons x _ ih=>rw [List.sum_cons];omega
  | cons_cons x _ ih=>rw [List.sum_cons,List.sum_cons];omega
 have:=this ((sub.map (·.2.1)).map (nb (q0Y true ((rs2 most).map (·.1)))))
 omega
theorem q84 {n most:Int} {zs:List Str} (W:Wo n most zs) {ol:List (Str×Int×Int)} (tk:Tk n most zs ol) (o:Str×Int×Int) (po:Pt n zs o) {k:Nat} (hk:q2w n most zs ol o=k) (k0:k≠0) (k1:k≠1):q9A [.sh (bk n most zs),.sh (.lst ((ol++[o]).map ord))]=.exc (j2J k):=by
 unfold q2w at hk
 by_cases h1:o.2.1 < 1∨60 < o.2.1
 ·rw [if_pos h1] at hk;exact absurd hk.symm k1
 rw [if_neg h1] at hk
 have len:=tk.len
 have ln:((ol++[o]).map ord).length=ol.length+1:=by simp
 have n1:=W.n1
 have m1:=W.m1
 have c1:=chkc (((ol++[o]).map ord).length:Int) 0 12 (small2 (by rw [ln];omega)) (by decide) (by decide)
 rw [ln] at c1
 by_cases h2:12<=ol.length
 ·rw [if_pos h2] at hk
  subst hk
  rw [if_neg (by omega)] at c1
  rw [<-ln] at c1
  generalize (ol++[o]).map ord=ll at *
  generalize bk n most zs=bb at *
  simp [q9A,q5w,c1]
 rw [if_neg h2] at hk
 rw [if_pos ⟨by omega,by omega⟩,<-ln] at c1
 have tz:Tz 1000 o.1:=(W.wd o.1 po.nm).tz.mono (by decide)
 have low:∀x∈ol,x.2.2.natAbs.log2 < 1920:=λx hx=>j1V (by have:=tk.due x hx;omega)
 have start:∀{r:Fl} {e:Nat},q2v [.sh (bk n most zs),.sh (.lst ((ol++[o]).map ord)),.no,.no]=r->(∃ρ,r=.exc e ρ)->q9A [.sh (bk n most zs),.sh (.lst ((ol++[o]).map ord))]=.exc e:=λ{r e} h ⟨ρ,hr⟩=>by
  rw [hr] at h
  generalize (ol++[o]).map ord=ll at *
  generalize bk n most zs=bb at *
  generalize hG:q2v=G at *
  simp [q9A,q5w,c1,hG,h]
 obtain ⟨ρ1,e1,x1,rfl⟩:=q34 (body:=q0E (q3k 2) q2u) ord (fun ρ=>∃x,ρ=[.sh (bk n most zs),.sh (.lst ((ol++[o]).map ord)),x,.no]) ol (λa ha ρ ⟨x,er⟩=>by
  subst er
  rw [q2T _ _ _ _ _ _ _ _ _ (tk.tz a ha),if_pos (tk.name a ha)]
  exact ⟨_,rfl,_,rfl⟩) [ord o] _ ⟨.no,rfl⟩
 have e0:q2v [.sh (bk n most zs),.sh (.lst ((ol++[o]).map ord)),.no,.no]=(q1Q (q0E (q3k 2) q2u) [ord o] [.sh (bk n most zs),.sh (.lst ((ol++[o]).map ord)),x1,.no]).bind q4s:=by
  rw [q2v,q1w (ds:=(ol++[o]).map ord) (by rfl),List.map_append]
  rw [List.map_append] at e1
  rw [show ([o]:List (Str×Int×Int)).map ord=[ord o] from rfl] at e1 ⊢
  rw [e1]
 by_cases h3:o.1∉zs.dropLast
 ·rw [if_pos h3] at hk
  subst hk
  have st:=q2T n 1 1 (rs2 most) (zs.dropLast.map ka) (.sh (.lst ((ol++[o]).map ord))) .no x1 o tz
  rw [j59,if_neg h3] at st
  rw [q5t st] at e0
  exact start e0 ⟨_,rfl⟩
 rw [if_neg h3] at hk
 have h3':o.1∈zs.dropLast:=Classical.byContradiction h3
 have st:=q2T n 1 1 (rs2 most) (zs.dropLast.map ka) (.sh (.lst ((ol++[o]).map ord))) .no x1 o tz
 rw [j59,if_pos h3'] at st
 rw [q1g st,q04,Fl.nx_bind] at e0
 obtain ⟨ρ2,e2,x2,rfl⟩:=q34 (body:=q0E (q3k 2) q2s) ord (fun ρ=>∃x,ρ=[.sh (bk n most zs),.sh (.lst ((ol++[o]).map ord)),x,.no]) ol (λa ha ρ ⟨x,er⟩=>by
  subst er
  rw [q5Y _ _ _ _ _ _ _ _ _ (low a ha) (j1V (by omega)) (by omega),if_pos (tk.due a ha)]
  exact ⟨_,rfl,_,rfl⟩) [ord o] _ ⟨.sh (ord o),rfl⟩
 have e6:q4s [.sh (bk n most zs),.sh (.lst ((ol++[o]).map ord)),.sh (ord o),.no]=(q1Q (q0E (q3k 2) q2s) [ord o] [.sh (bk n most zs),.sh (.lst ((ol++[o]).map ord)),x2,.no]).bind q3w:=by
  rw [q4s,q1w (ds:=(ol++[o]).map ord) (by rfl),List.map_append]
  rw [List.map_append] at e2
  rw [show ([o]:List (Str×Int×Int)).map ord=[ord o] from rfl] at e2 ⊢
  rw [e2]
 have sd:=q5Y n 1 1 (rs2 most) (zs.dropLast.map ka) (.sh (.lst ((ol++[o]).map ord))) .no x2 o (j1V (by have:=po.du;omega)) (j1V (by omega)) (by omega)
 by_cases h4:o.2.2 < 0∨n < o.2.2
 ·rw [if_pos h4] at hk
  subst hk
  rw [if_neg (by omega)] at sd
  rw [q5t sd] at e6
  exact start (e0.trans e6) ⟨_,rfl⟩
 rw [if_neg h4] at hk
 rw [if_pos (by omega)] at sd
 rw [q1g sd,q04,Fl.nx_bind] at e6
 have gr:=q2V (.int n) (.int 1) (.int 1) (.tup ((zs.dropLast.map ka).map brd)) (rs2 most) W.rs.ne W.rs.len
 rw [W.best] at gr
 have lv:∀x∈ol++[o],1<=x.2.1/\x.2.1<=60:=λx hx=>by
  rcases List.mem_append.mp hx with hx | hx
  ·exact tk.lv x hx
  ·rw [List.mem_singleton.mp hx];omega
 have bt:=q3r most ⟨m1.1,by omega⟩ (ol++[o]) lv (by simp;omega)
 by_cases h5:24 < (q1P most 1 ((ol++[o]).map (·.2.1))).length
 ·rw [if_pos h5] at hk
  subst hk
  have bl:=q5j most m1.1 ((ol++[o]).map (·.2.1)) 1 (λl hl=>by
   obtain ⟨x,hx,rfl⟩:=List.mem_map.mp hl
   exact lv x hx)
  have k5:∃ρ,q3w [.sh (bk n most zs),.sh (.lst ((ol++[o]).map ord)),.sh (ord o),.no]=.exc 8 ρ:=by
   have lb:((q1P most 1 ((ol++[o]).map (·.2.1))).map bat).length=(q1P most 1 ((ol++[o]).map (·.2.1))).length:=by simp
   have few':(24:Int) < ((q1P most 1 ((ol++[o]).map (·.2.1))).length:Int):=by omega
   have sml:((q1P most 1 ((ol++[o]).map (·.2.1))).length:Int).natAbs.log2 < 1920:=j1V (by
    rw [List.length_map,List.length_append,List.length_singleton] at bl
    omega)
   have l1:Str.length " batches, not at most "<=200000:=by decide
   have m24:Nat.log2 24 < 1920:=by decide
   unfold bk bkr
   clear e0 e1 e2 e6 sd st tk c1 start bl
   generalize (q1P most 1 ((ol++[o]).map (·.2.1))).map bat=BB at *
   generalize hN:(q1P most 1 ((ol++[o]).map (·.2.1))).length=N at *
   generalize (rs2 most).map ovn=oo at *
   generalize (zs.dropLast.map ka).map brd=bb at *
   generalize (ol++[o]).map ord=ll at *
   have few2:24 < N:=by omega
   have sml':N.log2 < 1920:=sml
   refine ⟨[.sh (.ins 19 [.int n,.int 1,.int 1,.tup oo,.tup bb]),.sh (.lst ll),.sh (ord o),.sh (.int N)],?_⟩
   simp [q3w,q8v,j1X,gr,bt,lb,few',few2,l1,m24,sml']
  obtain ⟨ρ,k5⟩:=k5
  exact start ((e0.trans e6).trans k5) ⟨_,rfl⟩
 ·rw [if_neg h5] at hk;exact absurd hk.symm k0
theorem j4A {n most:Int} {zs:List Str} (W:Wo n most zs) {ol:List (Str×Int×Int)} (tk:Tk n most zs ol) (o:Str×Int×Int) (po:Pt n zs o) (ks:List D) (h:q2w n most zs ol o=0) :
 j2M [bk n most zs,.lst (ol.map ord)] ks [.sh (.str o.1),.sh (.int o.2.1),.sh (.int o.2.2)]=.ok (.int (ol.length+1:Nat)) [bk n most zs,.lst ((ol++[o]).map ord)] []:=by
 have tk':=j5M W tk po h
 have ac:q9A [.sh (bk n most zs),.sh (.lst ((ol++[o]).map ord))]=_:=q79 n 1 1 (rs2 most) (zs.dropLast.map ka) (ol++[o]) W.rs tk'
 have om:=q5k o.1 o.2.1 o.2.2 (j1V (by have:=po.lv;omega))
 rw [if_pos (tk'.lv o (by simp))] at om
 have h12:ol.length<=999999:=by have:=tk.len;omega
 have ln:(ol.map ord).length=ol.length:=by simp
 rw [List.map_append,show ([o]:List (Str×Int×Int)).map ord=[ord o] from rfl] at ac ⊢
 generalize bk n most zs=bb at *
 generalize ol.map ord=oo at *
 simp [j2M,q5H,q7P,j0I,j1P,om,h12,ln,ac,ord] at ac ⊢
theorem j4L {n most:Int} {zs:List Str} (W:Wo n most zs) {ol:List (Str×Int×Int)} (tk:Tk n most zs ol) (o:Str×Int×Int) (po:Pt n zs o) (ks:List D) {k:Nat} (h:q2w n most zs ol o=k) (k0:k≠0) :
 j2M [bk n most zs,.lst (ol.map ord)] ks [.sh (.str o.1),.sh (.int o.2.1),.sh (.int o.2.2)]=.exc (j2J k) [bk n most zs,.lst (ol.map ord)] []:=by
 have om:=q5k o.1 o.2.1 o.2.2 (j1V (by have:=po.lv;omega))
 have h12:(ol.map ord).length<=999999:=by have:=tk.len;simp;omega
 by_cases h1:o.2.1 < 1∨60 < o.2.1
 ·have:k=1:=by rw [<-h];unfold q2w;rw [if_pos h1]
  subst this
  rw [if_neg (by omega)] at om
  generalize bk n most zs=bb at *
  generalize ol.map ord=oo at *
  simp [j2M,q5H,om]
 ·have k1:k≠1:=λz=>by
   rw [z] at h
   unfold q2w at h
   rw [if_neg h1] at h
   split at h
   ·cases h
   ·split at h
    ·cases h
    ·split at h
     ·cases h
     ·split at h<;>cases h
  have ac:=q84 W tk o po h k0 k1
  rw [if_pos (by omega)] at om
  rw [List.map_append,show ([o]:List (Str×Int×Int)).map ord=[ord o] from rfl] at ac
  generalize bk n most zs=bb at *
  generalize ol.map ord=oo at *
  generalize j2J k=x at *
  simp [j2M,q5H,q7P,om,h12,ord] at ac ⊢
  simp [ac]
noncomputable def told (k m:Nat):D:=if k=0 then .tup [.str "told",.int (m:Nat)] else .tup [.str "refused",.int (k:Nat)]
theorem j3p {n most:Int} {zs:List Str} (W:Wo n most zs) {ol:List (Str×Int×Int)} (tk:Tk n most zs ol) (o:Str×Int×Int) (po:Pt n zs o) (ks:List D) :
 j5w [bk n most zs,.lst (ol.map ord)] ks [.sh (.str o.1),.sh (.int o.2.1),.sh (.int o.2.2)]=.ok (told (q2w n most zs ol o) (ol.length+1)) [bk n most zs,.lst ((if q2w n most zs ol o=0 then ol++[o] else ol).map ord)] []:=by
 have k5:q2w n most zs ol o<=5:=by
  unfold q2w
  repeat' split
  all_goals omega
 by_cases h:q2w n most zs ol o=0
 ·have p:=j4A W tk o po [] h
  rw [if_pos h,h]
  generalize (ol++[o]).map ord=o2 at *
  generalize ol.map ord=oo at *
  generalize bk n most zs=bb at *
  simp [j5w,q7v,q82,q3P,p,told]
 ·have p:=j4L W tk o po [] rfl h
  rw [if_neg h]
  generalize ol.map ord=oo at *
  generalize bk n most zs=bb at *
  generalize q2w n most zs ol o=k at *
  have:k=1∨k=2∨k=3∨k=4∨k=5:=by omega
  rcases this with rfl | rfl | rfl | rfl | rfl<;>simp [j5w,q7v,j1b,j01,j14,j0L,j12,q82,q3P,p,told,List.lookup]
theorem q7V (b:D) (os:List D) (ks:List D) (i:Int) (hl:os.length<=12) (hi:-1000<=i/\i<=1000) :
 j3H [b,.lst os] ks [.sh (.int i)]=if 1<=i/\i<=os.length then .ok (.int (os.length-1:Nat)) [b,.lst (os.eraseIdx (i.toNat-1))] [] else .exc 10 [b,.lst os] []:=by
 have lo:i.natAbs.log2 < 1920:=j1V (by omega)
 have ll:os.length.log2 < 1920:=small2 (by omega)
 have l1:Str.length "no order "<=200000:=by decide
 have l2:Str.length " among "<=200000:=by decide
 by_cases h:1<=i/\i<=os.length
 ·rw [if_pos h]
  obtain ⟨j,rfl⟩:∃j:Nat,i=(j:Int)+1:=⟨(i-1).toNat,by omega⟩
  have e1:=j4v os j (by omega)
  have e2:=j4h os (j+1) (by omega)
  have e3:os.eraseIdx j=os.take j++os.drop (j+1):=List.eraseIdx_eq_take_drop_succ os j
  have e4:((j:Int)+1).toNat-1=j:=by omega
  have e5:(j:Int)+1-1=(j:Int):=by omega
  have z1:(os.take j).length+(os.drop (j+1)).length<=1000000:=by rw [List.length_take,List.length_drop];omega
  have z2:((os.length:Nat):Int)-1=((os.length-1:Nat):Int):=by omega
  rw [e4,e3]
  have h1:=h.1
  have h2:=h.2
  have e2':q4k os (some ((j:Int)+1)) none=os.drop (j+1):=e2
  generalize os.take j=A at *
  generalize os.drop (j+1)=B at *
  simp [j3H,q56,q6g,j03,j0M,h1,h2,e1,e2',e5,z1,z2]
 ·rw [if_neg h]
  by_cases h1:1<=i
  ·have h2:¬i<=os.length:=λz=>h ⟨h1,z⟩
   simp [j3H,q56,q6g,q8j,h1,h2,lo,ll,l1,l2]
  ·simp [j3H,q56,q6g,q8j,h1,lo,ll,l1,l2]
theorem q6s (b:D) (os:List D) (ks:List D) (i:Int) (hl:os.length<=12) (hi:-1000<=i/\i<=1000) :
 j3T [b,.lst os] ks [.sh (.int i)]=if 1<=i/\i<=os.length then .ok (told 0 (os.length-1)) [b,.lst (os.eraseIdx (i.toNat-1))] [] else .ok (told 6 0) [b,.lst os] []:=by
 have st:=q7V b os [] i hl hi
 by_cases h:1<=i/\i<=os.length
 ·rw [if_pos h] at st ⊢
  generalize os.eraseIdx (i.toNat-1)=o2 at *
  generalize os.length-1=m at *
  simp [j3T,q7w,q8Z,q3P,st,told]
 ·rw [if_neg h] at st ⊢
  simp [j3T,q7w,j09,q8Z,q3P,st,told,List.lookup]
theorem q25 (b:D) (ol:List (Str×Int×Int)) (hl:ol.length<=12) (k:Sl) (hk:k=.bo (ol.map q0w)∨k=.sh (.lst (ol.map q0w))):j3N [.bi 18 [b,.lst (ol.map ord)],k]=.ok (.sh (.bl true)):=by
 have lk:∀(x y z w:Sl),q4p 1 [x,k,y,z]=.ok (ol.map q0w):=λx y z w=>by rcases hk with rfl | rfl<;>rfl
 have l1:(ol.map ord).length=ol.length:=by simp
 have l2:(ol.map q0w).length=ol.length:=by simp
 refine q9n _ rfl ?_
 show q8y [.bi 18 [b,.lst (ol.map ord)],k,.no,.no]=_
 obtain ⟨ρ',e,x,y,er⟩:=j8X (body:=q0E (q3k 2) q9c) (λj ρ=>∃x y:Sl,ρ=[.bi 18 [b,.lst (ol.map ord)],k,x,y]) ol.length (λj ρ hj ⟨x,y,er⟩=>by
  subst er
  have a1:atI (ol.map ord) (j:Int)=some (ord ol[j]):=q1h (by simp [hj])
  have a2:atI (ol.map q0w) (j:Int)=some (q0w ol[j]):=q1h (by simp [hj])
  have i1:=is_ ol[j].2.1 ol[j].2.1
  have i2:=is_ ol[j].2.2 ol[j].2.2
  rw [decide_eq_true rfl] at i1 i2
  have lk':=lk (.bi 18 [b,.lst (ol.map ord)])
  generalize ol[j]=o at *
  clear l1 l2 lk
  generalize ol.map ord=oo at *
  generalize ol.map q0w=tt at *
  refine ⟨[.bi 18 [b,.lst oo],k,.sh (.int j),.sh (ord o)],?_,_,_,rfl⟩
  rcases hk with rfl | rfl<;>simp [q0E,q9c,j1B,j07,a1,a2,ord,q0w,q0K,q0N,q6k,List.lookup,i1,i2]) (ρ:=[.bi 18 [b,.lst (ol.map ord)],k,.no,.no]) ⟨.no,.no,rfl⟩
 have k8:q5v [.bi 18 [b,.lst (ol.map ord)],k,.no,.no]=.rt (.sh (.bl true)):=by
  rw [q5v,q1w (ds:=rgD 0 ol.length) (q67 (by rcases hk with rfl | rfl<;>simp) (by omega)),e,Fl.nx_bind,er]
  simp [j1z]
 clear e
 generalize hG:q5v=G at *
 generalize ol.map ord=oo at *
 generalize ol.map q0w=tt at *
 rcases hk with rfl | rfl<;>simp [q8y,l1,l2,hG,k8]
theorem j4j {n most:Int} {zs:List Str} (W:Wo n most zs) (cell:Int):∃o,Pt n zs o/\j64 [.sh (.int cell),.sh (.int n),.sh (.lst (zs.map D.str))]=.ok (.sh (q0w o)):=by
 have n1:=W.n1
 have l1:=W.l1
 have ll:(zs.map D.str).length=zs.length:=by simp
 obtain ⟨p,ep,hp⟩:∃p:Int,cell / 6 % 12=p/\0<=p/\p < 12:=⟨_,rfl,by omega,by omega⟩
 have h0:=Int.emod_nonneg p (b:=(zs.length:Int)-1) (by omega)
 have h1:=Int.emod_lt_of_pos p (b:=(zs.length:Int)-1) (by omega)
 obtain ⟨a,aA,mA⟩:∃z,atI (zs.map D.str) (p % ((zs.length:Int)-1))=some (.str z)/\z∈zs:=by
  have hl:(p % ((zs.length:Int)-1)).toNat < zs.length:=by omega
  refine ⟨zs[(p % ((zs.length:Int)-1)).toNat],?_,List.getElem_mem hl⟩
  conv=>lhs;rw [show p % ((zs.length:Int)-1)=(((p % ((zs.length:Int)-1)).toNat:Nat):Int) by omega]
  exact q1h (by simp [hl])
 obtain ⟨b,aB,mB⟩:∃z,atI (zs.map D.str) ((zs.length:Int)-1)=some (.str z)/\z∈zs:=by
  have hl:zs.length-1 < zs.length:=by omega
  refine ⟨zs[zs.length-1],?_,List.getElem_mem hl⟩
  rw [show (zs.length:Int)-1=((zs.length-1:Nat):Int) by omega]
  exact q1h (by simp [hl])
 obtain ⟨v,ev,hv⟩:=pick2 0 61 (cell / 72)
 have m1:(0:Int) < n+1:=by omega
 have d0:=Int.emod_nonneg (cell / 11) (b:=n+1) (by omega)
 have d1:=Int.emod_lt_of_pos (cell / 11) (b:=n+1) (by omega)
 have hq:0<=cell / 72 % 99/\cell / 72 % 99 < 99:=by omega
 have hr:0<=cell / 72 % 60/\cell / 72 % 60 < 60:=by omega
 obtain ⟨u,eu,hu⟩:=pick2 (n+1+cell / 72 % 99) (0-1-cell / 72 % 99) (cell / 144)
 have eu':atI [D.int (n+1+cell / 72 % 99),D.int (-1-cell / 72 % 99)] (cell / 144 % 2)=some (.int u):=by rw [<-eu];rfl
 have pos:(1:Int) < zs.length:=by omega
 obtain ⟨dd,ed⟩:∃d:Int,cell / 11 % (n+1)=d:=⟨_,rfl⟩
 rw [ed] at d0 d1
 have hdd:-100000<=dd/\dd<=100000:=by omega
 have huu:-100000<=u/\u<=100000:=by omega
 have hvv:-1000<=v/\v<=1000:=by omega
 clear h0 h1 d0 d1 hu hv
 generalize zs.map D.str=zz at *
 generalize hZ:(zs.length:Int)=Z at *
 have l3:(zz.length:Int)=Z:=by omega
 have hrr:-1000<=1+cell / 72 % 60/\1+cell / 72 % 60<=1000:=by omega
 have k6:∃o,Pt n zs o/\q18 [.sh (.int cell),.sh (.int n),.sh (.lst zz),.sh (.int p),.no,.no,.no]=.rt (.sh (q0w o)):=by
  by_cases h8:p=8
  ·subst h8
   refine ⟨(b,1+cell / 72 % 60,dd),⟨mB,hrr,hdd⟩,?_⟩
   simp [q18,q2Z,q2K,q2I,q2W,l3,pos,aA,aB,m1,ed,q0K,q0N,ev,q0w]
  by_cases h9:p=9
  ·subst h9
   refine ⟨(a,1+cell / 72 % 60,u),⟨mA,hrr,huu⟩,?_⟩
   simp [q18,q2Z,q2K,q2I,q2W,q5D,l3,pos,aA,aB,m1,ed,q0K,q0N,ev,eu',q0w]
  by_cases h10:p=10
  ·subst h10
   refine ⟨(a,v,dd),⟨mA,hvv,hdd⟩,?_⟩
   simp [q18,q2Z,q2K,q2I,q2W,l3,pos,aA,aB,m1,ed,q0K,q0N,ev,eu',q0w]
  by_cases h11:p=11
  ·subst h11
   by_cases h3:cell / 72 % 3=0
   ·refine ⟨(b,v,u),⟨mB,hvv,huu⟩,?_⟩
    simp [q18,q2Z,q2K,q2I,q2W,q5D,l3,pos,aA,aB,m1,ed,q0K,q0N,ev,eu',h3,q0w]
   ·refine ⟨(b,1+cell / 72 % 60,u),⟨mB,hrr,huu⟩,?_⟩
    simp [q18,q2Z,q2K,q2I,q2W,q5D,l3,pos,aA,aB,m1,ed,q0K,q0N,ev,eu',h3,q0w]
  ·refine ⟨(a,1+cell / 72 % 60,dd),⟨mA,hrr,hdd⟩,?_⟩
   simp [q18,q2Z,q2K,q2I,q2W,l3,pos,aA,aB,m1,ed,q0K,q0N,ev,eu',h8,h9,h10,h11,q0w]
 obtain ⟨o,po,k6⟩:=k6
 refine ⟨o,po,q9n _ rfl ?_⟩
 show q7Z [.sh (.int cell),.sh (.int n),.sh (.lst zz),.no,.no,.no,.no]=_
 generalize hG:q18=G at *
 simp [q7Z,ep,hG,k6]
theorem q9a {α β:Type} (f:α->β):∀(l:List α) (j:Nat),(l.map f).eraseIdx j=(l.eraseIdx j).map f
 | [],_=>rfl
 | _::_,0=>rfl
 | a::l,j+1=>by rw [List.map_cons,List.eraseIdx_cons_succ,List.eraseIdx_cons_succ,List.map_cons,q9a f l j]
theorem q7A (B:D) (ol:List (Str×Int×Int)) (hl:ol.length<=12) (a b c d e x:Sl) (k:Nat) (f:Int) :
 q11 [.me 18 [B,.lst (ol.map ord)],.mo (ol.map q0w),a,b,c,d,e,.sh (.int (k:Nat)),.sh (.str (if k=0 then "told" else "refused")),.sh (.int f),.sh (.int f),x]=.rm (.bl true) 18 [B,.lst (ol.map ord)] (ol.map q0w):=by
 have so:=q25 B ol hl (.bo (ol.map q0w)) (.inl rfl)
 have i1:=is_ f f
 rw [decide_eq_true rfl] at i1
 generalize ol.map ord=oo at *
 generalize ol.map q0w=tt at *
 by_cases hk:k=0
 ·subst hk
  simp [q11,q47,q0K,q0N,i1,so]
 ·have h0:0 < k:=by omega
  rw [if_neg hk]
  simp [q11,q47,q0K,q0N,i1,so,h0]
theorem q8A {n most:Int} {zs:List Str} (W:Wo n most zs) {ol:List (Str×Int×Int)} (tk:Tk n most zs ol) (cell:Int):∃ol',Tk n most zs ol' /\
 j00 [bk n most zs,.lst (ol.map ord)] (ol.map q0w) [.sh (.int cell),.sh (.int n),.sh (.lst (zs.map D.str)),.sh (.int most)]=.ok (.bl true) [bk n most zs,.lst (ol'.map ord)] (ol'.map q0w):=by
 have len:=tk.len
 by_cases hc:cell % 6 < 4
 ·obtain ⟨o,po,er⟩:=j4j W cell
  have ed:=j38 W tk o po
  have ep:=j3p W tk o po []
  obtain ⟨k,ek⟩:∃k,q2w n most zs ol o=k:=⟨_,rfl⟩
  rw [ek] at ed ep
  obtain ⟨ol',eo,tk'⟩:∃ol',(if k=0 then ol++[o] else ol)=ol'/\Tk n most zs ol':=by
   by_cases h:k=0
   ·rw [if_pos h];exact ⟨_,rfl,j5M W tk po (ek.trans h)⟩
   ·rw [if_neg h];exact ⟨_,rfl,tk⟩
  refine ⟨ol',tk',?_⟩
  rw [eo] at ep
  have fo:=λe x=>q7A (bk n most zs) ol' tk'.len (.sh (.int cell)) (.sh (.int n)) (.sh (.lst (zs.map D.str))) (.sh (.int most)) e x k
  have at0:∀a b c:D,atI [a,b,c] 0=some a:=λa b c=>q0K _ _
  have at1:∀a b c:D,atI [a,b,c] 1=some b:=λa b c=>q0N _ _ _
  have at2:∀a b c:D,atI [a,b,c] 2=some c:=λa b c=>q6k _ _ _ _
  have tl:(ol.map q0w).length=ol.length:=by simp
  have tm:(ol.map q0w).length < 1000000:=by rw [tl];omega
  have k4:(if k=0 then ol.map q0w++[q0w o] else ol.map q0w)=ol'.map q0w:=by
   rw [<-eo];split<;>simp
  have l4:(ol'.map q0w).length=ol'.length:=by simp
  have hl':k=0->ol'.length=ol.length+1:=λh=>by rw [<-eo,if_pos h];simp
  clear eo ek
  generalize bk n most zs=B at *
  generalize ol'.map q0w=t2 at *
  generalize ol.map q0w=tt at *
  generalize ol'.map ord=o2 at *
  generalize ol.map ord=oo at *
  generalize zs.map D.str=zz at *
  generalize hG:q11=G at *
  simp only [q0w] at ed k4
  by_cases h:k=0
  ·subst h
   rw [if_pos rfl] at k4
   have:=hl' rfl
   have f1:=fo (.sh (q0w o)) .no ((ol.length:Int)+1)
   rw [if_pos rfl] at f1
   have l5:(t2.length:Int)=(ol.length:Int)+1:=by omega
   simp [told] at ep
   simp [j00,q2p,q86,q7m,q8s,q66,q68,j0D,hc,er,ed,q3P,tm,k4,q0w,at0,at1,at2,ep,q0K,q0N,l5,hG] at f1 ⊢
   simp [f1]
  ·rw [if_neg h] at k4
   subst k4
   have h0:0 < k:=by omega
   have f1:=fo (.sh (q0w o)) .no (k:Int)
   rw [if_neg h] at f1
   simp [told,h] at ep
   simp [j00,q2p,q86,q7m,q8s,q66,q68,hc,er,ed,q3P,h,h0,q0w,at0,at1,at2,ep,q0K,q0N,hG] at f1 ⊢
   simp [f1]
 ·
   have m3:(0:Int) < (ol.length:Int)+3:=by omega
   have d0:=Int.emod_nonneg (cell / 6) (b:=(ol.length:Int)+3) (by omega)
   have d1:=Int.emod_lt_of_pos (cell / 6) (b:=(ol.length:Int)+3) (by omega)
   obtain ⟨i,ei⟩:∃i,cell / 6 % ((ol.length:Int)+3)-1=i:=⟨_,rfl⟩
   have hi:-1000<=i/\i<=1000:=by omega
   have ls:=q6s (bk n most zs) (ol.map ord) [] i (by simpa using len) hi
   rw [List.length_map] at ls
   have tl:(ol.map q0w).length=ol.length:=by simp
   have tm:ol.length < 1000000:=by omega
   by_cases h:1<=i/\i<=ol.length
   ·rw [if_pos h,q9a] at ls
    have tk':=j7r tk (i.toNat-1)
    refine ⟨ol.eraseIdx (i.toNat-1),tk',?_⟩
    have f1:=q7A (bk n most zs) (ol.eraseIdx (i.toNat-1)) tk'.len (.sh (.int cell)) (.sh (.int n)) (.sh (.lst (zs.map D.str))) (.sh (.int most)) .no (.sh (.int i)) 0 (ol.length-1:Nat)
    have ix:ixN ol.length (i-1)=some (i.toNat-1):=by
     unfold ixN
     rw [if_pos (by omega),if_pos (by omega)]
     congr 1
     omega
    have pe:(ol.map q0w).eraseIdx (i.toNat-1)=(ol.eraseIdx (i.toNat-1)).map q0w:=q9a _ _ _
    have le:((ol.eraseIdx (i.toNat-1)).map q0w).length=ol.length-1:=by
     rw [List.length_map,List.length_eraseIdx,if_pos (by omega)]
    have n1:¬i < 1:=by omega
    have n2:¬(ol.length:Int) < i:=by omega
    clear tk tk' d0 d1
    rw [if_pos rfl] at f1
    generalize (ol.eraseIdx (i.toNat-1)).map q0w=t2 at *
    generalize (ol.eraseIdx (i.toNat-1)).map ord=o2 at *
    generalize ol.map q0w=tt at *
    generalize ol.map ord=oo at *
    generalize bk n most zs=B at *
    generalize zs.map D.str=zz at *
    generalize hG:q11=G at *
    simp [told] at ls
    simp [j00,q2p,q3y,q3G,q3Q,q5V,q6f,j1g,hc,tl,m3,ei,n1,n2,ix,tm,pe,q3P,ls,le,q0K,q0N,hG] at f1 ⊢
    simp [f1]
   ·rw [if_neg h] at ls
    refine ⟨ol,tk,?_⟩
    have f1:=q7A (bk n most zs) ol len (.sh (.int cell)) (.sh (.int n)) (.sh (.lst (zs.map D.str))) (.sh (.int most)) .no (.sh (.int i)) 1 6
    have nn:i < 1∨(ol.length:Int) < i:=by omega
    clear tk d0 d1
    rw [if_neg (by decide)] at f1
    generalize ol.map q0w=tt at *
    generalize ol.map ord=oo at *
    generalize bk n most zs=B at *
    generalize zs.map D.str=zz at *
    generalize hG:q11=G at *
    simp [told] at ls
    by_cases n1:i < 1
    ·simp [j00,q2p,q3y,q3G,q3Q,q5V,q6f,hc,tl,m3,ei,n1,q3P,ls,q0K,q0N,hG] at f1 ⊢
     simp [f1]
    ·have n2:(ol.length:Int) < i:=nn.resolve_left n1
     simp [j00,q2p,q3y,q3G,q3Q,q5V,q6f,hc,tl,m3,ei,n1,n2,q3P,ls,q0K,q0N,hG] at f1 ⊢
     simp [f1]
theorem j8m:Wd 12 (Str.ofString "a"):=⟨⟨by decide +kernel,by decide +kernel⟩,by decide +kernel,by decide +kernel⟩
theorem q9S:wOk (Str.ofString "hands")=true:=by decide +kernel
theorem ix20:ixN 2 0=some 0:=by decide
theorem ix21:ixN 2 1=some 1:=by decide
noncomputable abbrev bks (B:D) (o0 o1:List (Str×Int×Int)):Sl:=.lm [(some 18,[B,.lst (o0.map ord)]),(some 18,[B,.lst (o1.map ord)])]
noncomputable abbrev kps (o0 o1:List (Str×Int×Int)):Sl:=.lm [(none,o0.map q0w),(none,o1.map q0w)]
theorem j2f {n most:Int} {zs:List Str} (W:Wo n most zs) {o0 o1:List (Str×Int×Int)} (t0:Tk n most zs o0) (t1:Tk n most zs o1) (cell:Int) (s k:D) (x y:Sl) :
 ∃o0' o1' y',Tk n most zs o0'/\Tk n most zs o1'/\q0E (q3k 3) q4i [.sh s,.sh (.int n),.sh (.lst (zs.map D.str)),x,.sh (.int most),.sh k,.sh (bk n most zs),bks (bk n most zs) o0 o1,kps o0 o1,y] (.int cell)=.nx [.sh s,.sh (.int n),.sh (.lst (zs.map D.str)),.sh (.int cell),.sh (.int most),.sh k,.sh (bk n most zs),bks (bk n most zs) o0' o1',kps o0' o1',y']:=by
 by_cases h:cell % 6=3
 ·obtain ⟨o1',tk',e⟩:=q8A W t1 cell
  refine ⟨o0,o1',.sh (.int 1),t0,tk',?_⟩
  have so:=q25 (bk n most zs) o0 t0.len (.bo (o0.map q0w)) (.inl rfl)
  unfold bks kps
  generalize bk n most zs=B at *
  generalize zs.map D.str=zz at *
  generalize o0.map ord=A0 at *
  generalize o1.map ord=A1 at *
  generalize o1'.map ord=A2 at *
  generalize o0.map q0w=K0 at *
  generalize o1.map q0w=K1 at *
  generalize o1'.map q0w=K2 at *
  simp [q0E,q4i,q7o,q75,h,ix21,q6L,q3P,e,q0K,so]
 ·obtain ⟨o0',tk',e⟩:=q8A W t0 cell
  refine ⟨o0',o1,.sh (.int 0),tk',t1,?_⟩
  have so:=q25 (bk n most zs) o1 t1.len (.bo (o1.map q0w)) (.inl rfl)
  unfold bks kps
  generalize bk n most zs=B at *
  generalize zs.map D.str=zz at *
  generalize o0.map ord=A0 at *
  generalize o1.map ord=A1 at *
  generalize o0'.map ord=A2 at *
  generalize o0.map q0w=K0 at *
  generalize o1.map q0w=K1 at *
  generalize o0'.map q0w=K2 at *
  simp [q0E,q4i,q7o,q75,h,ix20,q6L,q3P,e,q0N,so]
theorem j1K (n most:Int) (zs:List Str):Tk n most zs []:=⟨by simp,by simp,by simp,by simp,by simp,by simp [q1P]⟩
theorem j2i (ns:List Int) (hn:ns.length<=63) {n most:Int} {zs:List Str} (W:Wo n most zs) (k:D) (x:Sl) :
 q5s [.sh (.lst (ns.map D.int)),.sh (.int n),.sh (.lst (zs.map D.str)),x,.sh (.int most),.sh k,.sh (bk n most zs),bks (bk n most zs) [] [],kps [] [],.no]=.rt (.sh (.bl true)):=by
 have so:=q25 (bk n most zs) [] (by simp) (.sh (.lst ([].map q0w))) (.inr rfl)
 have ii:=is_ n n
 rw [decide_eq_true rfl] at ii
 obtain ⟨ρ',e,o0,o1,x',y',t0,t1,er⟩:=j8K (body:=q0E (q3k 3) q4i) D.int (λj ρ=>∃(o0 o1:List (Str×Int×Int)) (x y:Sl),Tk n most zs o0/\Tk n most zs o1/\ρ=[.sh (.lst (ns.map D.int)),.sh (.int n),.sh (.lst (zs.map D.str)),x,.sh (.int most),.sh k,.sh (bk n most zs),bks (bk n most zs) o0 o1,kps o0 o1,y]) (q4k ns (some 5) none) (λj cell ρ _ ⟨o0,o1,x,y,t0,t1,er⟩=>by
  subst er
  obtain ⟨o0',o1',y',t0',t1',e⟩:=j2f W t0 t1 cell (.lst (ns.map D.int)) k x y
  exact ⟨_,e,o0',o1',_,y',t0',t1',rfl⟩) (ρ:=[.sh (.lst (ns.map D.int)),.sh (.int n),.sh (.lst (zs.map D.str)),x,.sh (.int most),.sh k,.sh (bk n most zs),bks (bk n most zs) [] [],kps [] [],.no]) ⟨[],[],x,.no,j1K _ _ _,j1K _ _ _,rfl⟩
 have s2:=q25 (bk n most zs) o0 t0.len (.bo (o0.map q0w)) (.inl rfl)
 have k8:q5E [.sh (.lst (ns.map D.int)),.sh (.int n),.sh (.lst (zs.map D.str)),x,.sh (.int most),.sh k,.sh (bk n most zs),bks (bk n most zs) [] [],kps [] [],.no]=.rt (.sh (.bl true)):=by
  rw [q5E,q1w (ds:=(q4k ns (some 5) none).map D.int) (by rw [<-j2H];rfl),e,Fl.nx_bind,er]
  unfold bks kps
  generalize bk n most zs=B at *
  generalize zs.map D.str=zz at *
  generalize o0.map ord=A0 at *
  generalize o1.map ord=A1 at *
  generalize o0.map q0w=K0 at *
  generalize o1.map q0w=K1 at *
  simp [j0P,q0K,s2]
 have eB:bk n most zs=.ins 19 [.int n,.int 1,.int 1,.tup ((rs2 most).map ovn),.tup ((zs.dropLast.map ka).map brd)]:=rfl
 clear e er s2
 generalize hG:q5E=G at *
 unfold bks kps at *
 rw [eB] at so k8 ⊢
 clear eB
 generalize (rs2 most).map ovn=oo at *
 generalize (zs.dropLast.map ka).map brd=bb at *
 generalize zs.map D.str=zz at *
 simp only [List.map_nil] at so k8 ⊢
 simp [q5s,q0K,q0N,so,List.lookup,ii,hG,k8]
theorem law_true (ns:List Int) (hn:ns.length<=63):j58 [.sh (.lst (ns.map D.int))]=.ok (.sh (.bl true)):=by
 have p0:=at_ ns 0
 have p1:=at_ ns 1
 have p2:=at_ ns 2
 have p3:=at_ ns 3
 obtain ⟨n,en,hn1⟩:∃n:Int,1+ns.getD 0 0 % 720=n/\1<=n/\n<=720:=⟨_,rfl,by omega,by omega⟩
 obtain ⟨m,em,hm1⟩:∃m:Nat,2+ns.getD 2 0 % 8=(m:Int)/\2<=m/\m<=9:=⟨(2+ns.getD 2 0 % 8).toNat,by omega,by omega,by omega⟩
 obtain ⟨zs,hz,nd,w,ez⟩:=q97 (ns.getD 1 0) m (by omega)
 obtain ⟨most,eo,ho⟩:=pick3 (1+ns.getD 3 0 / 3 % 30) (1+ns.getD 3 0 / 3 % 2) 30 (ns.getD 3 0)
 have W:Wo n most zs:=⟨hn1,by omega,by omega,nd,w⟩
 generalize ns.getD 0 0=v0 at *
 generalize ns.getD 1 0=v1 at *
 generalize ns.getD 2 0=v2 at *
 generalize ns.getD 3 0=v3 at *
 have lp:=λk x=>j2i ns hn W k x
 have sg:=q9O (Str.ofString "a") (Str.ofString "hands") 1 9 0 j8m q9S (by decide) (by decide) (by decide) (by decide) (by decide)
 have zd:zs.dropLast.length<=8/\1<=zs.dropLast.length:=by rw [List.length_dropLast];omega
 have f13:∀a b c d e f g:Sl,q0U (q2x (q1B (j3y (q2x (q0f 2)) oNo (oSo (j5T (eI 1)))))) [] (rD (rC 2 j4B (gSh (q0f 0) (gSh (q1B (q09 (q0o (rD (q8n (n:=5) j5f [.sh (.int 0)] (gSh (eS "a") (gSh (eI 1) (gSh (eI 9) (gSh (eS "hands") gN0)))))) q0O))) gN0)))) [a,b,.sh (.lst (zs.map D.str)),c,d,e,f,g,.no,.no]=.ok ((zs.dropLast.map ka).map brd):=by
  intro a b c d e f g
  have cl:q4k (zs.map D.str) none (some (-1))=zs.dropLast.map D.str:=by rw [q6e,List.map_dropLast]
  rw [List.map_map]
  refine q2E (g:=D.str) ?_ (by omega) λz hz=>?_
  ·rw [<-cl]
   generalize zs.map D.str=zz at *
   simp
  ·have bm:=q9Q z [.ins 20 [.str "a",.int 1,.int 9,.str "hands",.int 0]] (w z ((List.dropLast_sublist zs).subset hz)) (by decide) (by decide)
   simp [q1p,sg,bm,brd,ka]
 have bm:=q8B n 1 1 ((rs2 most).map ovn) (zs.dropLast.map ka) hn1 (by omega) (by omega) (by simp) (by simp) (by simpa using zd.2) (by simpa using zd.1) (by rw [j59];exact nd.sublist (List.dropLast_sublist _))
 have ov1:=q8Q 1 9 9 (by omega) (by omega) (by omega)
 have ov2:=q8Q most 9 9 W.m1 (by omega) (by omega)
 have k13:q3Z [.sh (.lst (ns.map D.int)),.sh (.int n),.sh (.lst (zs.map D.str)),.sh (.int v3),.sh (.int most),.no,.no,.no,.no,.no]=.rt (.sh (.bl true)):=by
  rw [q3Z,q8W (v:=.lst ((zs.dropLast.map ka).map brd)) (by rw [q1B,f13,Out.ok_bind]),Fl.nx_bind]
  have lp:=lp (.lst ((zs.dropLast.map ka).map brd)) (.sh (.int v3))
  clear f13
  unfold bks kps at lp
  have eB:bk n most zs=.ins 19 [.int n,.int 1,.int 1,.tup ((rs2 most).map ovn),.tup ((zs.dropLast.map ka).map brd)]:=rfl
  rw [<-eB] at bm
  have eO:(rs2 most).map ovn=[.ins 13 [.int 1,.int 9,.int 9],.ins 13 [.int most,.int 9,.int 9]]:=rfl
  rw [eO] at bm
  clear eB eO
  generalize bk n most zs=B at *
  generalize (zs.dropLast.map ka).map brd=bb at *
  generalize zs.map D.str=zz at *
  generalize hG:q5s=G at *
  simp only [List.map_nil] at lp
  simp [q8g,q9f,q8k,ov1,ov2,bm,j5U,j1G,j1e,hG,lp]
 refine q9n _ rfl ?_
 show q4X [.sh (.lst (ns.map D.int)),.no,.no,.no,.no,.no,.no,.no,.no,.no]=_
 clear lp f13 bm
 generalize hG:q3Z=G at *
 generalize zs.map D.str=zz at *
 generalize ns.map D.int=nn at *
 have p0':q62 [.sh (.lst nn),.sh (.int 0)]=.ok (.sh (.int v0)):=p0
 have p1':q62 [.sh (.lst nn),.sh (.int 1)]=.ok (.sh (.int v1)):=p1
 have p2':q62 [.sh (.lst nn),.sh (.int 2)]=.ok (.sh (.int v2)):=p2
 have p3':q62 [.sh (.lst nn),.sh (.int 3)]=.ok (.sh (.int v3)):=p3
 simp [q4X,q7F,q7Q,q7M,p0',p1',p2',p3',en,em,ez,eo,hG,k13]
end Lw
namespace Lw
open PySem PySem.W L2 L3
theorem q16 {K:Frag} {f c:Addr} {q:Str} {a:Option (Option Value)} {d:FuncData} (h:q1S K f c q a=q1T f d):K.lookup f=some (fo d)/\codeIn K (.ref c) q=true/\keepIn K (.ref f)=true/\isFn K (.ref f)=true/\a=some (some (.ref f)):=by
 unfold q1S q1T at h
 simpa only [Prod.mk.injEq] using h
theorem q92 {K:Frag} {C:Addr} {n:Str} {fs:List Str} (h:q8I K C n fs=q8F C fs):nI K n=some (some (.ref C))/\plainGet K C Str.empty=true/\hasDictIn K C=true/\plainOver K C=true/\makesIn K C=true/\keepIn K (.ref C)=true/\findIn K (.ref C) "__setattr__" = some (some (.builtin "object.__setattr__"))/\∀(i:Nat) (x:Str),fs[i]?=some x->findIn K (.ref C) x=some none:=by
 unfold q8I q8F at h
 simp only [Prod.mk.injEq,List.cons.injEq,and_true] at h
 obtain ⟨h1,⟨h2,h3,h4,h5,h6⟩,h7,h8⟩:=h
 refine ⟨h1,h2,h3,h4,h5,h6,h7,λi x e=>?_⟩
 have:=congrArg (·[i]?) h8
 simp only [List.getElem?_map,e,Option.map_some,Option.some.injEq] at this
 exact this
theorem q60 {K:Frag} {C:Addr} {n:Str} (h:q4O K C n=q4U C):nI K n=some (some (.ref C))/\excIn K C [.type "ValueError",.type "Exception",.type "BaseException",.type "object"] "ValueError.__new__" = true:=by
 unfold q4O q4U at h
 simpa only [Prod.mk.injEq] using h
theorem j22 {l:OpenLaw} {w:World} {K:Frag} {h:Heap} {mg:Str->Option Value} {fa:Addr} (X:K.In h) (G:h.Ns mainGlobals mg) (hfa:mg "law" = some (.ref fa)) (e:q5g K=j2p)
 : ∃fd:FuncData,(∀(s:Shared) (v:Value),BindsTo s fd ⟨[v],[]⟩ [("_law_script",v)])/\∃T:Tb,∀base:Heap,K.In base->base.Ns mainGlobals mg->q0X l.prog w K mg base (CXE T l.prog w) 8 fa fd ["_law_script"] (spD T K 1 j58):=by
 obtain ⟨eF,e⟩:=Prod.mk.inj (e:(hLF K,hLG K,hLC K,hLE K,hZ.map (λx=>nI K x),hLI K,hLV K,hLB K,hLO K,hLX K)=(hRF,hRG,hRC,hRE,hZ.map (λ_=>(some none:Option (Option Value))),hRI,hRV,hRB,hRO,hRX))
 obtain ⟨eG,e⟩:=Prod.mk.inj e
 obtain ⟨eC,e⟩:=Prod.mk.inj e
 obtain ⟨eE,e⟩:=Prod.mk.inj e
 obtain ⟨eZ,e⟩:=Prod.mk.inj e
 obtain ⟨eI,e⟩:=Prod.mk.inj e
 obtain ⟨eV,e⟩:=Prod.mk.inj e
 obtain ⟨eB,e⟩:=Prod.mk.inj e
 obtain ⟨eO,e⟩:=Prod.mk.inj e
 obtain ⟨l1,c1,k1,i1,a1⟩:=q16 (Hd.row eF 0 rfl rfl)
 obtain ⟨l2,c2,k2,i2,a2⟩:=q16 (Hd.row eF 1 rfl rfl)
 obtain ⟨l3,c3,k3,i3,a3⟩:=q16 (Hd.row eF 2 rfl rfl)
 obtain ⟨l4,c4,k4,i4,a4⟩:=q16 (Hd.row eF 3 rfl rfl)
 obtain ⟨l6,c6,k6,i6,a6⟩:=q16 (Hd.row eF 4 rfl rfl)
 obtain ⟨l7,c7,k7,i7,a7⟩:=q16 (Hd.row eF 5 rfl rfl)
 obtain ⟨l8,c8,k8,i8,a8⟩:=q16 (Hd.row eF 6 rfl rfl)
 obtain ⟨l9,c9,k9,i9,a9⟩:=q16 (Hd.row eF 7 rfl rfl)
 obtain ⟨l10,c10,k10,i10,a10⟩:=q16 (Hd.row eF 8 rfl rfl)
 obtain ⟨l11,c11,k11,i11,a11⟩:=q16 (Hd.row eF 9 rfl rfl)
 obtain ⟨l13,c13,k13,i13,a13⟩:=q16 (Hd.row eF 10 rfl rfl)
 obtain ⟨l16,c16,k16,i16,a16⟩:=q16 (Hd.row eF 11 rfl rfl)
 obtain ⟨l45,c45,k45,i45,a45⟩:=q16 (Hd.row eF 12 rfl rfl)
 obtain ⟨l46,c46,k46,i46,a46⟩:=q16 (Hd.row eF 13 rfl rfl)
 obtain ⟨l47,c47,k47,i47,a47⟩:=q16 (Hd.row eF 14 rfl rfl)
 obtain ⟨l50,c50,k50,i50,a50⟩:=q16 (Hd.row eG 0 rfl rfl)
 obtain ⟨l51,c51,k51,i51,a51⟩:=q16 (Hd.row eG 1 rfl rfl)
 obtain ⟨l52,c52,k52,i52,a52⟩:=q16 (Hd.row eG 2 rfl rfl)
 obtain ⟨l53,c53,k53,i53,a53⟩:=q16 (Hd.row eG 3 rfl rfl)
 obtain ⟨l54,c54,k54,i54,a54⟩:=q16 (Hd.row eG 4 rfl rfl)
 obtain ⟨l58,c58,k58,i58,a58⟩:=q16 (Hd.row eG 5 rfl rfl)
 obtain ⟨l59,c59,k59,i59,a59⟩:=q16 (Hd.row eG 6 rfl rfl)
 obtain ⟨l60,c60,k60,i60,a60⟩:=q16 (Hd.row eG 7 rfl rfl)
 obtain ⟨l61,c61,k61,i61,a61⟩:=q16 (Hd.row eG 8 rfl rfl)
 obtain ⟨l62,c62,k62,i62,a62⟩:=q16 (Hd.row eG 9 rfl rfl)
 obtain ⟨l63,c63,k63,i63,a63⟩:=q16 (Hd.row eG 10 rfl rfl)
 obtain ⟨l64,c64,k64,i64,a64⟩:=q16 (Hd.row eG 11 rfl rfl)
 obtain ⟨l65,c65,k65,i65,a65⟩:=q16 (Hd.row eG 12 rfl rfl)
 obtain ⟨l66,c66,k66,i66,a66⟩:=q16 (Hd.row eG 13 rfl rfl)
 obtain ⟨l67,c67,k67,i67,a67⟩:=q16 (Hd.row eG 14 rfl rfl)
 obtain ⟨aC13,pg13,hd13,po13,mk13,kc13,sa13,nf13⟩:=q92 (Hd.row eC 0 rfl rfl)
 have na13_room:=nf13 0 _ rfl
 have na13_rate:=nf13 1 _ rfl
 have na13_heat:=nf13 2 _ rfl
 obtain ⟨aC14,pg14,hd14,po14,mk14,kc14,sa14,nf14⟩:=q92 (Hd.row eC 1 rfl rfl)
 have na14_bread:=nf14 0 _ rfl
 have na14_loaves:=nf14 1 _ rfl
 have na14_due:=nf14 2 _ rfl
 obtain ⟨aC15,pg15,hd15,po15,mk15,kc15,sa15,nf15⟩:=q92 (Hd.row eC 2 rfl rfl)
 have na15_order:=nf15 0 _ rfl
 have na15_first:=nf15 1 _ rfl
 have na15_loaves:=nf15 2 _ rfl
 obtain ⟨aC16,pg16,hd16,po16,mk16,kc16,sa16,nf16⟩:=q92 (Hd.row eC 3 rfl rfl)
 have na16_begin:=nf16 0 _ rfl
 have na16_lengths:=nf16 1 _ rfl
 have na16_oven:=nf16 2 _ rfl
 obtain ⟨aC17,pg17,hd17,po17,mk17,kc17,sa17,nf17⟩:=q92 (Hd.row eC 4 rfl rfl)
 have na17_batch:=nf17 0 _ rfl
 have na17_stage:=nf17 1 _ rfl
 have na17_begin:=nf17 2 _ rfl
 have na17_until:=nf17 3 _ rfl
 have na17_loaves:=nf17 4 _ rfl
 have na17_oven:=nf17 5 _ rfl
 obtain ⟨aC18,pg18,hd18,po18,mk18,kc18,sa18,nf18⟩:=q92 (Hd.row eC 5 rfl rfl)
 have na18_bakery:=nf18 0 _ rfl
 have na18_orders:=nf18 1 _ rfl
 obtain ⟨aC19,pg19,hd19,po19,mk19,kc19,sa19,nf19⟩:=q92 (Hd.row eC 6 rfl rfl)
 have na19_night:=nf19 0 _ rfl
 have na19_hands:=nf19 1 _ rfl
 have na19_benches:=nf19 2 _ rfl
 have na19_ovens:=nf19 3 _ rfl
 have na19_breads:=nf19 4 _ rfl
 obtain ⟨aC20,pg20,hd20,po20,mk20,kc20,sa20,nf20⟩:=q92 (Hd.row eC 7 rfl rfl)
 have na20_name:=nf20 0 _ rfl
 have na20_least:=nf20 1 _ rfl
 have na20_most:=nf20 2 _ rfl
 have na20_want:=nf20 3 _ rfl
 have na20_heat:=nf20 4 _ rfl
 obtain ⟨aC21,pg21,hd21,po21,mk21,kc21,sa21,nf21⟩:=q92 (Hd.row eC 8 rfl rfl)
 have na21_name:=nf21 0 _ rfl
 have na21_stages:=nf21 1 _ rfl
 obtain ⟨aC0,xc0⟩:=q60 (Hd.row eE 0 rfl rfl)
 obtain ⟨aC1,xc1⟩:=q60 (Hd.row eE 1 rfl rfl)
 obtain ⟨aC2,xc2⟩:=q60 (Hd.row eE 2 rfl rfl)
 obtain ⟨aC3,xc3⟩:=q60 (Hd.row eE 3 rfl rfl)
 obtain ⟨aC4,xc4⟩:=q60 (Hd.row eE 4 rfl rfl)
 obtain ⟨aC5,xc5⟩:=q60 (Hd.row eE 5 rfl rfl)
 obtain ⟨aC6,xc6⟩:=q60 (Hd.row eE 6 rfl rfl)
 obtain ⟨aC7,xc7⟩:=q60 (Hd.row eE 7 rfl rfl)
 obtain ⟨aC8,xc8⟩:=q60 (Hd.row eE 8 rfl rfl)
 obtain ⟨aC9,xc9⟩:=q60 (Hd.row eE 9 rfl rfl)
 obtain ⟨aC10,xc10⟩:=q60 (Hd.row eE 10 rfl rfl)
 obtain ⟨aC11,xc11⟩:=q60 (Hd.row eE 11 rfl rfl)
 obtain ⟨aC12,xc12⟩:=q60 (Hd.row eE 12 rfl rfl)
 have z_all:=Hd.row eZ 0 rfl rfl
 have z_bool:=Hd.row eZ 1 rfl rfl
 have z_enumerate:=Hd.row eZ 2 rfl rfl
 have z_int:=Hd.row eZ 3 rfl rfl
 have z_isinstance:=Hd.row eZ 4 rfl rfl
 have z_len:=Hd.row eZ 5 rfl rfl
 have z_list:=Hd.row eZ 6 rfl rfl
 have z_max:=Hd.row eZ 7 rfl rfl
 have z_min:=Hd.row eZ 8 rfl rfl
 have z_range:=Hd.row eZ 9 rfl rfl
 have z_set:=Hd.row eZ 10 rfl rfl
 have z_sum:=Hd.row eZ 11 rfl rfl
 have z_tuple:=Hd.row eZ 12 rfl rfl
 have ha14:=Hd.row eV 0 rfl rfl
 have hn14:=Hd.row eV 1 rfl rfl
 have cc_FASTEST:=Hd.row eV 2 rfl rfl
 have cc_HOTTEST:=Hd.row eV 3 rfl rfl
 have cc_LETTERS:=Hd.row eV 4 rfl rfl
 have cc_LONGEST_NAME:=Hd.row eV 5 rfl rfl
 have cc_MOST_BATCHES:=Hd.row eV 6 rfl rfl
 have cc_MOST_BENCHES:=Hd.row eV 7 rfl rfl
 have cc_MOST_BREADS:=Hd.row eV 8 rfl rfl
 have cc_MOST_HANDS:=Hd.row eV 9 rfl rfl
 have cc_MOST_LOAVES:=Hd.row eV 10 rfl rfl
 have cc_MOST_ORDERS:=Hd.row eV 11 rfl rfl
 have cc_MOST_OVENS:=Hd.row eV 12 rfl rfl
 have cc_MOST_ROOM:=Hd.row eV 13 rfl rfl
 have cc_MOST_STAGES:=Hd.row eV 14 rfl rfl
 have cc_NIGHT:=Hd.row eV 15 rfl rfl
 have cc_WANTS:=Hd.row eV 16 rfl rfl
 have dk13:=Hd.row eO 0 rfl rfl
 have dk53:=Hd.row eO 1 rfl rfl
 have ct_WANTS:=Hd.row eO 2 rfl rfl
 have ht14:=Hd.row e 0 rfl rfl
 have hm14:=Hd.row e 1 rfl rfl
 have exm0_3:=Hd.row e 2 rfl rfl
 have exm0_4:=Hd.row e 3 rfl rfl
 have exm0_6:=Hd.row e 4 rfl rfl
 have exm0_7:=Hd.row e 5 rfl rfl
 have exm0_8:=Hd.row e 6 rfl rfl
 have exm0_10:=Hd.row e 7 rfl rfl
 have exm1_3:=Hd.row e 8 rfl rfl
 have exm1_4:=Hd.row e 9 rfl rfl
 have exm1_6:=Hd.row e 10 rfl rfl
 have exm1_7:=Hd.row e 11 rfl rfl
 have exm1_8:=Hd.row e 12 rfl rfl
 have exm1_10:=Hd.row e 13 rfl rfl
 have exm2_3:=Hd.row e 14 rfl rfl
 have exm2_4:=Hd.row e 15 rfl rfl
 have exm2_6:=Hd.row e 16 rfl rfl
 have exm2_7:=Hd.row e 17 rfl rfl
 have exm2_8:=Hd.row e 18 rfl rfl
 have exm2_10:=Hd.row e 19 rfl rfl
 have exm3_3:=Hd.row e 20 rfl rfl
 have exm3_4:=Hd.row e 21 rfl rfl
 have exm3_6:=Hd.row e 22 rfl rfl
 have exm3_7:=Hd.row e 23 rfl rfl
 have exm3_8:=Hd.row e 24 rfl rfl
 have exm3_10:=Hd.row e 25 rfl rfl
 have exm4_3:=Hd.row e 26 rfl rfl
 have exm4_4:=Hd.row e 27 rfl rfl
 have exm4_6:=Hd.row e 28 rfl rfl
 have exm4_7:=Hd.row e 29 rfl rfl
 have exm4_8:=Hd.row e 30 rfl rfl
 have exm4_10:=Hd.row e 31 rfl rfl
 have exm5_3:=Hd.row e 32 rfl rfl
 have exm5_4:=Hd.row e 33 rfl rfl
 have exm5_6:=Hd.row e 34 rfl rfl
 have exm5_7:=Hd.row e 35 rfl rfl
 have exm5_8:=Hd.row e 36 rfl rfl
 have exm5_10:=Hd.row e 37 rfl rfl
 have exm6_3:=Hd.row e 38 rfl rfl
 have exm6_4:=Hd.row e 39 rfl rfl
 have exm6_6:=Hd.row e 40 rfl rfl
 have exm6_7:=Hd.row e 41 rfl rfl
 have exm6_8:=Hd.row e 42 rfl rfl
 have exm6_10:=Hd.row e 43 rfl rfl
 have exm7_3:=Hd.row e 44 rfl rfl
 have exm7_4:=Hd.row e 45 rfl rfl
 have exm7_6:=Hd.row e 46 rfl rfl
 have exm7_7:=Hd.row e 47 rfl rfl
 have exm7_8:=Hd.row e 48 rfl rfl
 have exm7_10:=Hd.row e 49 rfl rfl
 have exm8_3:=Hd.row e 50 rfl rfl
 have exm8_4:=Hd.row e 51 rfl rfl
 have exm8_6:=Hd.row e 52 rfl rfl
 have exm8_7:=Hd.row e 53 rfl rfl
 have exm8_8:=Hd.row e 54 rfl rfl
 have exm8_10:=Hd.row e 55 rfl rfl
 have exm9_3:=Hd.row e 56 rfl rfl
 have exm9_4:=Hd.row e 57 rfl rfl
 have exm9_6:=Hd.row e 58 rfl rfl
 have exm9_7:=Hd.row e 59 rfl rfl
 have exm9_8:=Hd.row e 60 rfl rfl
 have exm9_10:=Hd.row e 61 rfl rfl
 have exm10_3:=Hd.row e 62 rfl rfl
 have exm10_4:=Hd.row e 63 rfl rfl
 have exm10_6:=Hd.row e 64 rfl rfl
 have exm10_7:=Hd.row e 65 rfl rfl
 have exm10_8:=Hd.row e 66 rfl rfl
 have exm10_10:=Hd.row e 67 rfl rfl
 have exm11_3:=Hd.row e 68 rfl rfl
 have exm11_4:=Hd.row e 69 rfl rfl
 have exm11_6:=Hd.row e 70 rfl rfl
 have exm11_7:=Hd.row e 71 rfl rfl
 have exm11_8:=Hd.row e 72 rfl rfl
 have exm11_10:=Hd.row e 73 rfl rfl
 have exm12_3:=Hd.row e 74 rfl rfl
 have exm12_4:=Hd.row e 75 rfl rfl
 have exm12_6:=Hd.row e 76 rfl rfl
 have exm12_7:=Hd.row e 77 rfl rfl
 have exm12_8:=Hd.row e 78 rfl rfl
 have exm12_10:=Hd.row e 79 rfl rfl
 have e:=hfa.symm.trans (mg_of X G a67)
 cases e
 have F1:=q0A (st:=s_1) l1 c1 k1
 have F2:=q0A (st:=s_2) l2 c2 k2
 have F3:=q0A (st:=s_3) l3 c3 k3
 have F4:=q0A (st:=s_4) l4 c4 k4
 have F6:=q0A (st:=s_6) l6 c6 k6
 have F7:=q0A (st:=s_7) l7 c7 k7
 have F8:=q0A (st:=s_8) l8 c8 k8
 have F9:=q0A (st:=s_9) l9 c9 k9
 have F10:=q0A (st:=j6m) l10 c10 k10
 have F11:=q0A (st:=j5Y) l11 c11 k11
 have F13:=q78 (st:=j6x) l13 c13 k13
 have F16:=q0A (st:=j6E) l16 c16 k16
 have F45:=q0A (st:=j6f) l45 c45 k45
 have F46:=q0A (st:=j56) l46 c46 k46
 have F47:=q0A (st:=j6e) l47 c47 k47
 have F50:=q0A (st:=j5N) l50 c50 k50
 have F51:=q0A (st:=j5Z) l51 c51 k51
 have F52:=q0A (st:=j5O) l52 c52 k52
 have F53:=q78 (st:=j53) l53 c53 k53
 have F54:=q0A (st:=j5Q) l54 c54 k54
 have F58:=q0A (st:=j52) l58 c58 k58
 have F59:=q0A (st:=j5R) l59 c59 k59
 have F60:=q0A (st:=j6a) l60 c60 k60
 have F61:=q0A (st:=j6l) l61 c61 k61
 have F62:=q0A (st:=j5S) l62 c62 k62
 have F63:=q0A (st:=j6d) l63 c63 k63
 have F64:=q0A (st:=j6c) l64 c64 k64
 have F65:=q0A (st:=j54) l65 c65 k65
 have F66:=q0A (st:=j6i) l66 c66 k66
 have F67:=q0A (st:=j6h) l67 c67 k67
 refine ⟨q1l,λs v=>.of_eq rfl,⟨λi=>([31,44,56,68,80,92,104,116,128,140,152,164,176,214,242,263,332,353,571,597,627,667]:List Addr).getD i 0,λa=>if a==214 then (["room","rate","heat"]:List Str) else if a==242 then (["bread","loaves","due"]:List Str) else if a==263 then (["order","first","loaves"]:List Str) else if a==332 then (["begin","lengths","oven"]:List Str) else if a==353 then (["batch","stage","begin","until","loaves","oven"]:List Str) else if a==571 then (["bakery","orders","$"]:List Str) else if a==597 then (["night","hands","benches","ovens","breads"]:List Str) else if a==627 then (["name","least","most","want","heat"]:List Str) else if a==667 then (["name","stages"]:List Str) else [],none,none⟩,λbase _ _=>j66 (fa:=λi=>([735,183,190,197,211,735,239,260,272,279,286,293,735,315,735,735,350,735,735,735,735,735,735,735,735,735,735,735,735,735,735,735,735,735,735,735,735,735,735,735,735,735,735,735,735,540,547,554,735,735,587,594,608,624,645,735,735,735,678,685,690,697,704,709,716,723,730,735]:List Addr).getD i 0) (fd:=λi=>([q1l,d_1,d_2,d_3,d_4,q1l,d_6,d_7,d_8,d_9,j7N,j7Q,q1l,j7R,q1l,q1l,j7U,q1l,q1l,q1l,q1l,q1l,q1l,q1l,q1l,q1l,q1l,q1l,q1l,q1l,q1l,q1l,q1l,q1l,q1l,q1l,q1l,q1l,q1l,q1l,q1l,q1l,q1l,q1l,q1l,j7M,j7G,j7S,q1l,q1l,j7L,j7E,j71,j74,j7A,q1l,q1l,q1l,j7y,j70,j7B,j7O,j7J,j7X,j7z,j72,j7Y,q1l]:List FuncData).getD i q1l) ?_⟩
 exact {
  me:=rfl
  F1:=F1
  b1:=F1.binds λ_ _ _ _ _ _ us hl=>match us,hl with | [_],_=>rfl
  m1:=mg_of X G a1
  F2:=F2
  b2:=F2.binds λ_ _ _ _ _ _ us hl=>match us,hl with | [_,_,_],_=>rfl
  m2:=mg_of X G a2
  F3:=F3
  b3:=F3.binds λ_ _ _ _ _ _ us hl=>match us,hl with | [_,_,_],_=>rfl
  m3:=mg_of X G a3
  F4:=F4
  b4:=F4.binds λ_ _ _ _ _ _ us hl=>match us,hl with | [_,_,_,_],_=>rfl
  F6:=F6
  b6:=F6.binds λ_ _ _ _ _ _ us hl=>match us,hl with | [_,_,_,_],_=>rfl
  F7:=F7
  b7:=F7.binds λ_ _ _ _ _ _ us hl=>match us,hl with | [_,_,_,_],_=>rfl
  F8:=F8
  b8:=F8.binds λ_ _ _ _ _ _ us hl=>match us,hl with | [_],_=>rfl
  m8:=mg_of X G a8
  F9:=F9
  b9:=F9.binds λ_ _ _ _ _ _ us hl=>match us,hl with | [_,_],_=>rfl
  m9:=mg_of X G a9
  F10:=F10
  b10:=F10.binds λ_ _ _ _ _ _ us hl=>match us,hl with | [_,_],_=>rfl
  m10:=mg_of X G a10
  F11:=F11
  b11:=F11.binds λ_ _ _ _ _ _ us hl=>match us,hl with | [_,_],_=>rfl
  m11:=mg_of X G a11
  F13:=F13
  b13:=q2k rfl dk13 4 rfl λus hl=>match us,hl with | [_,_,_,_],_=>⟨_,rfl,rfl⟩
  F16:=F16
  b16:=F16.binds λ_ _ _ _ _ _ us hl=>match us,hl with | [_,_,_,_,_,_,_],_=>rfl
  F45:=F45
  b45:=F45.binds λ_ _ _ _ _ _ us hl=>match us,hl with | [_,_],_=>rfl
  F46:=F46
  b46:=F46.binds λ_ _ _ _ _ _ us hl=>match us,hl with | [_,_,_,_],_=>rfl
  mt46:=⟨a46,i46,k46⟩
  F47:=F47
  b47:=F47.binds λ_ _ _ _ _ _ us hl=>match us,hl with | [_,_],_=>rfl
  mt47:=⟨a47,i47,k47⟩
  F50:=F50
  b50:=F50.binds λ_ _ _ _ _ _ us hl=>match us,hl with | [_,_,_,_,_,_],_=>rfl
  F51:=F51
  b51:=F51.binds λ_ _ _ _ _ _ us hl=>match us,hl with | [_,_],_=>rfl
  mt51:=⟨a51,i51,k51⟩
  F52:=F52
  b52:=F52.binds λ_ _ _ _ _ _ us hl=>match us,hl with | [_],_=>rfl
  m52:=mg_of X G a52
  F53:=F53
  b53:=q2k rfl dk53 6 rfl λus hl=>match us,hl with | [_,_,_,_,_,_],_=>⟨_,rfl,rfl⟩
  bd53:=⟨_,q2k rfl dk53 5 rfl λus hl=>match us,hl with | [_,_,_,_,_],_=>⟨_,rfl,rfl⟩⟩
  F54:=F54
  b54:=F54.binds λ_ _ _ _ _ _ us hl=>match us,hl with | [_,_,_],_=>rfl
  F58:=F58
  b58:=F58.binds λ_ _ _ _ _ _ us hl=>match us,hl with | [_,_],_=>rfl
  m58:=mg_of X G a58
  F59:=F59
  b59:=F59.binds λ_ _ _ _ _ _ us hl=>match us,hl with | [_,_],_=>rfl
  m59:=mg_of X G a59
  F60:=F60
  b60:=F60.binds λ_ _ _ _ _ _ us hl=>match us,hl with | [_,_],_=>rfl
  m60:=mg_of X G a60
  F61:=F61
  b61:=F61.binds λ_ _ _ _ _ _ us hl=>match us,hl with | [_,_,_,_],_=>rfl
  m61:=mg_of X G a61
  F62:=F62
  b62:=F62.binds λ_ _ _ _ _ _ us hl=>match us,hl with | [_,_],_=>rfl
  m62:=mg_of X G a62
  F63:=F63
  b63:=F63.binds λ_ _ _ _ _ _ us hl=>match us,hl with | [_,_,_,_,_],_=>rfl
  m63:=mg_of X G a63
  F64:=F64
  b64:=F64.binds λ_ _ _ _ _ _ us hl=>match us,hl with | [_,_],_=>rfl
  m64:=mg_of X G a64
  F65:=F65
  b65:=F65.binds λ_ _ _ _ _ _ us hl=>match us,hl with | [_,_,_],_=>rfl
  m65:=mg_of X G a65
  F66:=F66
  b66:=F66.binds λ_ _ _ _ _ _ us hl=>match us,hl with | [_,_,_,_,_,_],_=>rfl
  m66:=mg_of X G a66
  F67:=F67
  b67:=F67.binds λ_ _ _ _ _ _ us hl=>match us,hl with | [_],_=>rfl
  m67:=mg_of X G a67
  mC0:=mg_of X G aC0
  xc0:=xc0
  mC1:=mg_of X G aC1
  xc1:=xc1
  mC2:=mg_of X G aC2
  xc2:=xc2
  mC3:=mg_of X G aC3
  xc3:=xc3
  mC4:=mg_of X G aC4
  xc4:=xc4
  mC5:=mg_of X G aC5
  xc5:=xc5
  mC6:=mg_of X G aC6
  xc6:=xc6
  mC7:=mg_of X G aC7
  xc7:=xc7
  mC8:=mg_of X G aC8
  xc8:=xc8
  mC9:=mg_of X G aC9
  xc9:=xc9
  mC10:=mg_of X G aC10
  xc10:=xc10
  mC11:=mg_of X G aC11
  xc11:=xc11
  mC12:=mg_of X G aC12
  xc12:=xc12
  mC13:=mg_of X G aC13
  cC13:=⟨pg13,hd13,po13,sa13⟩
  mk13:=⟨mk13,a4,i4,kc13⟩
  fl13:=rfl
  na13_room:=na13_room
  na13_rate:=na13_rate
  na13_heat:=na13_heat
  mC14:=mg_of X G aC14
  cC14:=⟨pg14,hd14,po14,sa14⟩
  mk14:=⟨mk14,a6,i6,kc14⟩
  fl14:=rfl
  na14_bread:=na14_bread
  na14_loaves:=na14_loaves
  na14_due:=na14_due
  ii14:=⟨⟨pg14,hd14,po14,sa14⟩,ha14,hn14,ht14,hm14⟩
  mC15:=mg_of X G aC15
  cC15:=⟨pg15,hd15,po15,sa15⟩
  mk15:=⟨mk15,a7,i7,kc15⟩
  fl15:=rfl
  na15_order:=na15_order
  na15_first:=na15_first
  na15_loaves:=na15_loaves
  mC16:=mg_of X G aC16
  cC16:=⟨pg16,hd16,po16,sa16⟩
  mk16:=⟨mk16,a13,i13,kc16⟩
  fl16:=rfl
  na16_begin:=na16_begin
  na16_lengths:=na16_lengths
  na16_oven:=na16_oven
  mC17:=mg_of X G aC17
  cC17:=⟨pg17,hd17,po17,sa17⟩
  mk17:=⟨mk17,a16,i16,kc17⟩
  fl17:=rfl
  na17_batch:=na17_batch
  na17_stage:=na17_stage
  na17_begin:=na17_begin
  na17_until:=na17_until
  na17_loaves:=na17_loaves
  na17_oven:=na17_oven
  mC18:=mg_of X G aC18
  cC18:=⟨pg18,hd18,po18,sa18⟩
  mk18:=⟨mk18,a45,i45,kc18⟩
  fl18:=rfl
  na18_bakery:=na18_bakery
  na18_orders:=na18_orders
  mC19:=mg_of X G aC19
  cC19:=⟨pg19,hd19,po19,sa19⟩
  mk19:=⟨mk19,a50,i50,kc19⟩
  fl19:=rfl
  na19_night:=na19_night
  na19_hands:=na19_hands
  na19_benches:=na19_benches
  na19_ovens:=na19_ovens
  na19_breads:=na19_breads
  mC20:=mg_of X G aC20
  cC20:=⟨pg20,hd20,po20,sa20⟩
  mk20:=⟨mk20,a53,i53,kc20⟩
  fl20:=rfl
  na20_name:=na20_name
  na20_least:=na20_least
  na20_most:=na20_most
  na20_want:=na20_want
  na20_heat:=na20_heat
  mC21:=mg_of X G aC21
  cC21:=⟨pg21,hd21,po21,sa21⟩
  mk21:=⟨mk21,a54,i54,kc21⟩
  fl21:=rfl
  na21_name:=na21_name
  na21_stages:=na21_stages
  exm0_3:=exm0_3
  exm0_4:=exm0_4
  exm0_6:=exm0_6
  exm0_7:=exm0_7
  exm0_8:=exm0_8
  exm0_10:=exm0_10
  exm1_3:=exm1_3
  exm1_4:=exm1_4
  exm1_6:=exm1_6
  exm1_7:=exm1_7
  exm1_8:=exm1_8
  exm1_10:=exm1_10
  exm2_3:=exm2_3
  exm2_4:=exm2_4
  exm2_6:=exm2_6
  exm2_7:=exm2_7
  exm2_8:=exm2_8
  exm2_10:=exm2_10
  exm3_3:=exm3_3
  exm3_4:=exm3_4
  exm3_6:=exm3_6
  exm3_7:=exm3_7
  exm3_8:=exm3_8
  exm3_10:=exm3_10
  exm4_3:=exm4_3
  exm4_4:=exm4_4
  exm4_6:=exm4_6
  exm4_7:=exm4_7
  exm4_8:=exm4_8
  exm4_10:=exm4_10
  exm5_3:=exm5_3
  exm5_4:=exm5_4
  exm5_6:=exm5_6
  exm5_7:=exm5_7
  exm5_8:=exm5_8
  exm5_10:=exm5_10
  exm6_3:=exm6_3
  exm6_4:=exm6_4
  exm6_6:=exm6_6
  exm6_7:=exm6_7
  exm6_8:=exm6_8
  exm6_10:=exm6_10
  exm7_3:=exm7_3
  exm7_4:=exm7_4
  exm7_6:=exm7_6
  exm7_7:=exm7_7
  exm7_8:=exm7_8
  exm7_10:=exm7_10
  exm8_3:=exm8_3
  exm8_4:=exm8_4
  exm8_6:=exm8_6
  exm8_7:=exm8_7
  exm8_8:=exm8_8
  exm8_10:=exm8_10
  exm9_3:=exm9_3
  exm9_4:=exm9_4
  exm9_6:=exm9_6
  exm9_7:=exm9_7
  exm9_8:=exm9_8
  exm9_10:=exm9_10
  exm10_3:=exm10_3
  exm10_4:=exm10_4
  exm10_6:=exm10_6
  exm10_7:=exm10_7
  exm10_8:=exm10_8
  exm10_10:=exm10_10
  exm11_3:=exm11_3
  exm11_4:=exm11_4
  exm11_6:=exm11_6
  exm11_7:=exm11_7
  exm11_8:=exm11_8
  exm11_10:=exm11_10
  exm12_3:=exm12_3
  exm12_4:=exm12_4
  exm12_6:=exm12_6
  exm12_7:=exm12_7
  exm12_8:=exm12_8
  exm12_10:=exm12_10
  c_FASTEST:=⟨_,mg_of X G cc_FASTEST⟩
  c_HOTTEST:=⟨_,mg_of X G cc_HOTTEST⟩
  c_LETTERS:=⟨_,mg_of X G cc_LETTERS⟩
  c_LONGEST_NAME:=⟨_,mg_of X G cc_LONGEST_NAME⟩
  c_MOST_BATCHES:=⟨_,mg_of X G cc_MOST_BATCHES⟩
  c_MOST_BENCHES:=⟨_,mg_of X G cc_MOST_BENCHES⟩
  c_MOST_BREADS:=⟨_,mg_of X G cc_MOST_BREADS⟩
  c_MOST_HANDS:=⟨_,mg_of X G cc_MOST_HANDS⟩
  c_MOST_LOAVES:=⟨_,mg_of X G cc_MOST_LOAVES⟩
  c_MOST_ORDERS:=⟨_,mg_of X G cc_MOST_ORDERS⟩
  c_MOST_OVENS:=⟨_,mg_of X G cc_MOST_OVENS⟩
  c_MOST_ROOM:=⟨_,mg_of X G cc_MOST_ROOM⟩
  c_MOST_STAGES:=⟨_,mg_of X G cc_MOST_STAGES⟩
  c_NIGHT:=⟨_,mg_of X G cc_NIGHT⟩
  c_WANTS:=q95 (mg_of X G cc_WANTS) ct_WANTS (by show (4:Nat)<=1000000;decide) (vcS (vcS (vcS (vcS .nil)))) rfl
  n_all:=mg_none_of X G z_all
  n_bool:=mg_none_of X G z_bool
  n_enumerate:=mg_none_of X G z_enumerate
  n_int:=mg_none_of X G z_int
  n_isinstance:=mg_none_of X G z_isinstance
  n_len:=mg_none_of X G z_len
  n_list:=mg_none_of X G z_list
  n_max:=mg_none_of X G z_max
  n_min:=mg_none_of X G z_min
  n_range:=mg_none_of X G z_range
  n_set:=mg_none_of X G z_set
  n_sum:=mg_none_of X G z_sum
  n_tuple:=mg_none_of X G z_tuple
 }
end Lw
open PySem PySem.W PyProof.Rows
set_option maxRecDepth 100000 in
set_option maxHeartbeats 0 in
theorem PySem.Challenge.cw_doughhours_k25_order_book_holds : PySem.Challenge.rw_doughhours_k25_order_book.Holds := by
 w_on;refine holds_law Lw.j5L λsaid=>?_
 refine holds_open (q:=Lw.vw) (loose:=[]) (Xt:=Lw.Xv) (XP:=XL Lw.vw []) (Yf:=λs=>Lw.q5g (L3.Hd.kOf Lw.hAs s.heap)) (Ya:=λ_=>Lw.j2p) (YP:=λ_ h=>L3.Hd.says Lw.q5g Lw.j2p h) (N:=15042) Lw.q7G (λw s e=>L3.Hd.says_of Lw.hAs s e) (λw h h' a b=>L3.Hd.says_keeps a b) (λs e=>xl_of s (Bool.and_eq_true_iff.mp e).1) XL.keeps (by rfl) (by rfl) (by rfl) (λs e=>recFacts_of (Bool.and_eq_true_iff.mp e).2) (by rfl) (by first | assumption | decide +kernel) (by decide +kernel) ⟨rfl,rfl,rfl,rfl,rfl,by decide +kernel⟩ ?hw ?hc
 case hw=>w_witness2
 refine L3.j4a (l:=PySem.Challenge.rw_doughhours_k25_order_book) (k:=8) (x:="_law_script") (F:=Lw.j58) rfl rfl ⟨rfl,by decide,by decide,rfl⟩ ?F Lw.law_true
 intro w mg fa h Y G hmg
 obtain ⟨K,KX,e⟩:=Y
 exact ⟨K,KX,Lw.j22 KX G hmg e⟩
