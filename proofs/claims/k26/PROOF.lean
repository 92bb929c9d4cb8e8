import PyProof.Rows.All
import Wide.All
import OpenK.KCall
import OpenK.KWalk
import OpenK.KOwn
import Open.Pieces
import KE.KTryMore
import KE.KIsAll
import KE.KItem
import KE.KRevIter
import KE.KxBytes
import Wide.FinOn
import PyProof.EqAt
import PyProof.EqKinds
import PyProof.TupleCall
import PyProof.ExcArgsOwn
import PySem.Challenge.RW_doughhours_k26_each_refusal_apart
local macro_rules | `(tactic| walk_at "v0") => `(tactic| (first | exact Or.inl rfl | exact Or.inr (Or.inl rfl) | exact Or.inr (Or.inr rfl)))
local macro_rules | `(tactic| walk_at "v1") => `(tactic| (first | exact Or.inr (by decide) | exact Or.inl (by assumption)))
local macro_rules | `(tactic| walk_at "v2") => `(tactic| (first | exact .inl rfl | exact .inr rfl | assumption))
local macro_rules | `(tactic| walk_at "v3") => `(tactic| (first | exact Or.inl rfl | exact Or.inr rfl))
set_option Elab.async false
set_option linter.all false
set_option maxRecDepth 100000
set_option maxHeartbeats 4000000
noncomputable section
namespace L2
open PySem PySem.Spec PyProof.Rows
def q09 (s:Stmt) (j:Nat):Stmt:=match s with
 | .ClassDef _ _ _ body _ _ _ _ _ _ _=>body.getD j (.Pass ⟨0,0,0,0⟩)
 | _=>.Pass ⟨0,0,0,0⟩
def q1w (s:Stmt):Arguments:=match s with
 | .FunctionDef _ a _ _ _ _ _ _ _ _=>a
 | _=>{ posonlyargs:=[],args:=[],vararg:=none,kwonlyargs:=[],kw_defaults:=[],kwarg:=none,defaults:=[] }
def q1d (s:Stmt):List Stmt:=match s with
 | .FunctionDef _ _ b _ _ _ _ _ _ _=>b
 | _=>[]
def q0f (s:Stmt):Scope:=match s with
 | .FunctionDef _ _ _ _ _ _ sc _ _ _=>sc
 | _=>{ kind:=.function,names:=[],isGenerator:=false,isCoroutine:=false }
end L2
set_option autoImplicit false
namespace L3
open PySem
namespace Tp
open PySem.W
structure TS where
 t:BT
 n:Nat
 k:Nat
 md:Value
 ns:List DictEntry
 cl:List Value
def marks (k:Nat):List Str->List Value
 | []=>[]
 | x::l=>.str x k::marks (k+1) l
def j01 (l:List Value):Obj:=⟨.type "tuple",none,.seq ⟨l⟩ 0,#[]⟩
def fldO (c:Value) (l:List Value):Obj:=⟨c,none,.fields ⟨l⟩,#[]⟩
def dicO (l:List DictEntry) (e:Nat):Obj:=⟨.type "dict",none,.dict ⟨l⟩ e,#[]⟩
def file:Str:="/claim/cut.py"
def j6e (n k:Nat) (name qual:Str) (line argc fl:Nat) (isF:Bool) (tab:List Value) (loc:Option (List Str×List Str)) (tpl:Option FuncData):List Obj×Nat×Nat:=
 let a:=match loc with
  | some (x,y)=>([j01 (marks (k+3) x),j01 (marks (k+3+x.length) y)],k+3+x.length+y.length,n+4,Value.ref (n+2),Value.ref (n+3))
  | none=>([],k+3,n+2,Value.none,Value.none)
 let b:=match tpl with
  | some f=>([Obj.mk .none none (.func f) #[]],a.2.2.1+1,Value.ref a.2.2.1)
  | none=>([],a.2.2.1,Value.none)
 (j01 []::fldO .none tab::a.1++b.1++[fldO (.type "code") [.str name k,.str qual (k+1),.str file (k+2),.int line 0,.int argc 0,.int 0 0,.int 0 0,.int fl 0,.ref n,.bool isF,.int 181 0,.ref (n+1),.none,a.2.2.2.1,a.2.2.2.2,b.2.2,.int a.2.1 0,.int line 0,.str file (a.2.1+1)]],a.2.1+2,b.2.1)
def q5o (k:Nat):Expr->Value
 | .Constant (.int i) _ _=>.int i k
 | .Constant (.str x) _ _=>.str x k
 | .Constant (.bool b) _ _=>.bool b
 | _=>.none
def consts (k:Nat):List Expr->List Value
 | []=>[]
 | e::l=>q5o k e::consts (k+1) l
def w1R (n k:Nat) (md:Value) (pre:Str) (name:Str) (p:Arguments) (body:List Stmt) (sc:Scope) (pos:Pos):List Obj×Nat×Nat×List Value:=
 let d:=p.defaults.length
 let n1:=match d with | 0=>n | _=>n+1
 let qual:=pre++name
 let c:=j6e n1 (k+d) name qual pos.line p.args.length 3 true [] (localNames p sc (.stmts body)) (some { name,qualname:=qual,params:=p,body:=.stmts body,scope:=sc,globals:=builtinsNs,closure:=[],defaults:=.none,kwdefaults:=.none })
 ((match d with | 0=>[] | _=>[j01 (consts k p.defaults)])++c.1++[⟨.type "function",none,.func { name,qualname:=qual,params:=p,body:=.stmts body,scope:=sc,globals:=mainNs,closure:=[],defaults:=match d with | 0=>.none | _=>.ref n,kwdefaults:=.none,pyModule:=md,code:=.ref c.2.2 },#[]⟩],
  c.2.1,c.2.2+2,[.int pos.line 0,.int pos.col 0,.ref c.2.2])
def ent (P:Params) (x:Str) (k:Nat) (v:Value):DictEntry:=⟨PyData.keyHash P x,.str x k,v⟩
def j4o (P:Params) (md:Value) (pre:Str):Nat->Nat->List Stmt->List Obj×Nat×Nat×List Value×List DictEntry
 | n,k,.FunctionDef name p body _ _ _ sc _ _ pos::l=>
  let a:=w1R n k md pre name p body sc pos
  let r:=j4o P md pre a.2.2.1 (a.2.1+1) l
  (a.1++r.1,r.2.1,r.2.2.1,a.2.2.2++r.2.2.2.1,ent P name a.2.1 (.ref (a.2.2.1-1))::r.2.2.2.2)
 | n,k,_=>([],k,n,[],[])
def lookN (x:Str):List DictEntry->Option Value
 | []=>none
 | e::l=>match e.key.isStr x with
  | true=>some e.val
  | false=>lookN x l
def j0n (s:TS):List Expr->Option (Value×Bool×List Value)
 | [.Name x _]=>match lookN x s.ns with
  | some (.ref a)=>match s.t.get a with
   | some ⟨_,_,.cls c,_⟩=>some (.ref a,true,c.mro)
   | _=>none
  | _=>some (.type "ValueError",false,[.type "ValueError",.type "Exception",.type "BaseException",.type "object"])
 | _=>none
def q5P:BT->Nat->List Obj->BT
 | t,_,[]=>t
 | t,n,o::l=>q5P (t.ins n o) (n+1) l
def j5d (P:Params) (s:TS) (name:Str) (bases:List Expr) (body:List Stmt) (st:List Str) (pos:Pos):List Obj×Nat×Value×List Value:=
 let n:=s.n
 let k:=s.k
 let b:=j0n s bases
 let exc:=b.isSome
 let f:=j4o P s.md (name++Str.ofString ".") (n+7) (k+12) body
 let k1:=f.2.1
 let n1:=f.2.2.1
 let c:=j6e (n+3) (k+2) name name pos.line 0 0 false f.2.2.2.1 none none
 let m:=ent P "__module__" (k+7) s.md
 let line:=ent P "__firstlineno__" (k+11) (.int pos.line (k+10))
 let sa:=ent P "__static_attributes__" (k1+st.length) (.ref n1)
 let k2:=k1+st.length+1
 let T:=n1+2
 let dd:=match exc with
  | true=>(([]:List Obj),([]:List DictEntry),k2,n1+3)
  | false=>([fldO (.type "getset_descriptor") [.str "__dict__" k2,.ref T,.builtin "function.__dict__",.builtin "function.__dict__#set"]],[ent P "__dict__" (k2+1) (.ref (n1+3))],k2+2,n1+4)
 let own:=match b with | some (_,o,_)=>o | none=>false
 let ww:=match own with
  | true=>(([]:List Obj),([]:List DictEntry),dd.2.2.1)
  | false=>([fldO (.type "getset_descriptor") [.str "__weakref__" dd.2.2.1,.ref T,.builtin "ExceptionGroup.__weakref__",.none]],[ent P "__weakref__" (dd.2.2.1+1) (.ref dd.2.2.2)],dd.2.2.1+2)
 let k3:=ww.2.2
 let bv:=match b with | some (v,_,_)=>[v] | none=>[]
 let mro:=match b with | some (_,_,r)=>r | none=>[.type "object"]
 ([j01 bv,fldO (.type "builtin_function_or_method") [.builtin "type.__prepare__",.type "type"],dicO ([m,ent P "__qualname__" (k+9) (.str name (k+8)),line]++f.2.2.2.2++[sa]) (4+f.2.2.2.2.length)]++c.1
  ++ [⟨.type "frame",none,.plain,#[some (.ref (n+5)),some (.ref 3),some (.ref (n+2)),none,some s.md,none,some (.ref 0)]⟩]++f.1
  ++ [j01 (marks k1 st),dicO ([m,line]++f.2.2.2.2++[sa]++dd.2.1++ww.2.1++[ent P "__doc__" k3 .none]) (2+dd.1.length+ww.1.length),
   ⟨.type "type",none,.cls { name,bases:=(match bv with | []=>[.type "object"] | _=>bv),mro:=.ref T::mro,ns:=n1+1,qualname:=name },#[match bv with | []=>none | _=>some (.ref n),none,some (.str name k),some (.str name (k+8)),some (.builtin (match exc with | true=>"ValueError.__new__" | false=>"object.__new__")),some (.bool true)]⟩]
  ++ dd.1++ww.1++[fldO (.type "super") [.ref T,.ref T,.ref T],fldO (.type "builtin_function_or_method") [.builtin "object.__init_subclass__",.ref T]],
  k3+2,.ref T,[.int pos.line 0,.int pos.col 0,.ref (n+5)])
def j2R (v:Value):Obj->Obj
 | ⟨c,d,.cls k,z⟩=>⟨c,d,.cls { k with subclasses:=k.subclasses++[v] },z⟩
 | o=>o
def w1k (P:Params) (x:Str) (k:Nat) (v:Value):List DictEntry->List DictEntry
 | []=>[ent P x k v]
 | e::l=>match e.key.isStr x with
  | true=>⟨e.hash,e.key,v⟩::l
  | false=>e::w1k P x k v l
def step (P:Params) (s:TS):Stmt->TS
 | .FunctionDef name p body _ _ _ sc _ _ pos=>
  let a:=w1R s.n s.k s.md Str.empty name p body sc pos
  { s with t:=q5P s.t s.n a.1,n:=a.2.2.1,k:=a.2.1+1,ns:=s.ns++[ent P name a.2.1 (.ref (a.2.2.1-1))],cl:=s.cl++a.2.2.2 }
 | .ClassDef name bases _ body _ _ _ _ _ st pos=>
  let a:=j5d P s name bases body st pos
  { s with t:=(match j0n s bases with | some (.ref b,_,_)=>(q5P s.t s.n a.1).set b (j2R a.2.2.1) | _=>q5P s.t s.n a.1),n:=s.n+a.1.length,k:=a.2.1+1,ns:=s.ns++[ent P name a.2.1 a.2.2.1],cl:=s.cl++a.2.2.2 }
 | .Assign [.Name x _] (.Tuple es _ _) _=>{ s with t:=s.t.ins s.n (j01 (consts s.k es)),n:=s.n+1,k:=s.k+es.length+1,ns:=s.ns++[ent P x (s.k+es.length) (.ref s.n)] }
 | .Assign [.Name x _] (.UnaryOp _ (.Constant (.int i) _ _) _) _=>{ s with k:=s.k+3,ns:=s.ns++[ent P x (s.k+2) (.int (-i) (s.k+1))] }
 | .Assign [.Name x _] e _=>match x==Str.ofString "__name__" with
  | true=>{ s with k:=s.k+2,md:=q5o s.k e,ns:=w1k P x (s.k+1) (q5o s.k e) s.ns }
  | false=>{ s with k:=s.k+2,ns:=s.ns++[ent P x (s.k+1) (q5o s.k e)] }
 | _=>s
end Tp
end L3
namespace L3
open PySem
namespace Hd
open PyProof.Rows
open PySem.W
def w2l:List Obj->Nat->BT->BT
 | [],_,t=>t
 | o::l,n,t=>w2l l (n+1) (t.ins n o)
def toT (s:Shared):SharedT:=⟨w2l s.heap.objs.toList 0 .nil,s.heap.objs.size,s.heap.life,s.gens,s.drawn,s.toks,s.os⟩
def s0 (w:World) (os:OsState):Shared:=⟨boot_heap w.params,Array.mk [],boot_drawn,boot_toks,os⟩
def pre (p:Program) (w:World) (os:OsState) (k0:Nat):Option (Shared×Thread):=topGo treeTable p w 11 (some (.ref 6)) k0 (s0 w os) (topStub p)
def sa (p:Program) (w:World) (os:OsState) (k0:Nat):Shared:=match pre p w os k0 with
 | some (s,_)=>s
 | none=>s0 w os
def env (p:Program):Env:={ scope:=p.main.scope,locals:=mainNs,globals:=mainNs,cells:=[],code:=.ref 13,frame:=some 14 }
def cd (p:Program):Code:=.body (behindTheImports p) (env p)
def z0:Pos:=⟨0,0,0,0⟩
def blk (p:Program) (w:World) (os:OsState) (k0 kb:Nat):Option (Flow×Shared×Code×Pos):=segRun treeTable p w 11 (some (.ref 6)) 1 kb (sa p w os k0) (blockOf (behindTheImports p) (env p) (cd p) z0 [topFrame z0])
def tb (p:Program) (w:World) (os:OsState) (k0 kb:Nat):SharedT:=match blk p w os k0 kb with
 | some (_,s,_,_)=>toT s
 | none=>toT (s0 w os)
def ini (b:SharedT):Tp.TS:=
 let ns:=match b.tree.get 3 with
  | some ⟨_,_,.dict es _,_⟩=>es.toList
  | _=>[]
 ⟨b.tree,b.n,b.toks,match Tp.lookN "__name__" ns with | some v=>v | none=>.none,ns,[]⟩
def sh (os:OsState) (b:SharedT) (s:Tp.TS):SharedT:=⟨(s.t.ins 3 (Tp.dicO s.ns s.ns.length)).ins 12 (Tp.fldO .none s.cl),s.n,b.life,b.gens,b.drawn,s.k,os⟩
def stt (p:Program) (w:World) (os:OsState) (k0 kb j:Nat):SharedT:=sh os (tb p w os k0 kb) (((behindTheImports p).take j).foldl (Tp.step w.params) (ini (tb p w os k0 kb)))
def run1 (p:Program) (w:World) (n:Nat) (s:SharedT) (l:List Stmt) (pos:Pos):Option (Flow×SharedT×Code×Pos):=PySem.W.Fast.tw10110043849684766642 PySem.W.Fast.tw14364793385576792824 p w 11 (some (.ref 6)) 1 n s (piecesOf l (env p) (cd p) pos [topFrame z0])
def Ch (p:Program) (k0 kb j m n:Nat) (pa pz:Pos):Prop:=∀(w:World) (os:OsState),run1 p w n (stt p w os k0 kb j) (((behindTheImports p).drop j).take m) pa=some (.next,stt p w os k0 kb (j+m),cd p,pz)
theorem j1e {p:Program} {w:World} {n:Nat} {s:SharedT} {l:List Stmt} {pos:Pos}:segRunT treeTable p w 11 (some (.ref 6)) 1 n s (piecesOf l (env p) (cd p) pos [topFrame z0])=run1 p w n s l pos:=by
 unfold run1
 rw [PySem.W.Fast.te10110043849684766642,PySem.W.Fast.te14364793385576792824]
def To (p:Program) (k0 kb j N:Nat) (pa:Pos) (J:Nat):Prop:=∀(w:World) (os:OsState),topRun treeTable p w 11 (some (.ref 6)) N (stt p w os k0 kb j).abs (restOf ((behindTheImports p).drop j) (env p) (cd p) pa [topFrame z0])=some (stt p w os k0 kb J).abs
theorem To.of {p:Program} {k0 kb j m n N J:Nat} {pa pz:Pos} (h:Ch p k0 kb j m n pa pz) (t:To p k0 kb (j+m) N pz J):To p k0 kb j (n+N) pa J:=λw os=>by
 have h3:=segRun_of (j1e.trans (h w os))
 have:=piece_app (rest:=(behindTheImports p).drop (j+m)) h3 (t w os)
 rwa [<-List.drop_drop,List.take_append_drop] at this
theorem To.fin {p:Program} {k0 kb J:Nat} {pz:Pos} (h:(behindTheImports p).drop J=[]):To p k0 kb J 4 pz J:=λw os=>by
 rw [h]
 exact piece_nil rfl
def E1 (p:Program) (k0:Nat):Prop:=∀(w:World) (os:OsState),(pre p w os k0).map Prod.snd=some ⟨denote treeTable (cd p),cd p,z0,[topFrame z0]⟩
def E2 (p:Program) (k0 kb:Nat):Prop:=∀(w:World) (os:OsState),blk p w os k0 kb=some (.next,(tb p w os k0 kb).abs,cd p,z0)
def lkA (p q:Program) (Xt:Shared->Bool) (w:World) (s:Shared):List Bool:=
 [staticsOk (importedModules p.main.body) (boot_heap w.params) s.heap,namesBound p s.heap,gensDone s,laidKept (boot_heap w.params) s.heap,s.heap.isNs mainGlobals && s.heap.isNs builtinsNs && tablesOk q s.heap,Xt s && (s.gens.size==0)]
def lk3 (p q:Program) (loose:List Str) (s:Shared):Bool:=s.heap.keysOk (looseW q loose) ((PyProof.Rows.recsOf q).map (·.name)) ((litsOf q).map (·.1)) ((clssOf q (looseW q loose)).map (·.name)) && s.heap.accountedOkI (importedModules p.main.body)
def sfn (p:Program) (w:World) (os:OsState) (k0 kb J:Nat):Shared:=(stt p w os k0 kb J).abs
def E3 (p q:Program) (Xt:Shared->Bool) (k0 kb J:Nat):Prop:=∀(w:World) (os:OsState),lkA p q Xt w (sfn p w os k0 kb J)=[true,true,true,true,true,true]
def E4 {α:Type} (p:Program) (Yf:World->Shared->α) (Ya:World->α) (k0 kb J:Nat):Prop:=∀(w:World) (os:OsState),Yf w (sfn p w os k0 kb J)=Ya w
theorem left_whole {p q:Program} {loose:List Str} {Xt:Shared->Bool} {α β γ:Type} {Yf:Shared->α×β×γ} {Ya:World->α×β×γ} {N k0 kb kp J:Nat}
 (e:opening p=plainProg p.main.scope.names) (hN:Nat.ble 600 N=true) (f:∀s,fenceModules? p s=some s) (le:Nat.ble (k0+(kb+kp)) N=true)
 (size:∀w:World,((boot_heap w.params).isNs mainGlobals && (Array.mk []:Array GenState).size==0,(boot_heap w.params).objs.size,(boot_heap w.params).nsMap mainGlobals "__annotations__")=(true,11,some (.ref 6)))
 (e1:E1 p k0) (e2:E2 p k0 kb) (ei:∀(w:World) (os:OsState),stt p w os k0 kb 0=tb p w os k0 kb) (et:To p k0 kb 0 kp z0 J) (e3:E3 p q Xt k0 kb J)
 (e5:E4 p (λ_ s=>PyProof.Rows.seen ((PyProof.Rows.recsOf q).map (·.name)) (ownsOf q) [] { s with gens:=#[] }) (λ_=>PyProof.Rows.expectedOf q) k0 kb J)
 (e6:E4 p (λ_ s=>(s.heap.bltView,tabsOk q s,pinSeenD q (drecsOf q) s)) (λ_=>(bltViewBooted,true,pinGoodD (drecsOf q))) k0 kb J)
 (e7:E4 p (λ_ s=>lk3 p q loose s) (λ_=>true) k0 kb J)
 (e8:E4 p (λ_ s=>(plainSeenE q (looseW q loose) s,plainSeenD q loose s,wideSeen q s,clsSeenW q loose s)) (λ_=>(plainGoodE q (looseW q loose),plainGoodD q loose,wideGood q,clsGoodW q loose)) k0 kb J)
 (e4:E4 p (λ_ s=>(Yf s).1) (λw=>(Ya w).1) k0 kb J) (e9:E4 p (λ_ s=>(Yf s).2.1) (λw=>(Ya w).2.1) k0 kb J) (e10:E4 p (λ_ s=>(Yf s).2.2) (λw=>(Ya w).2.2) k0 kb J):LeftO p q loose Xt Yf Ya N:=λw=>by
 obtain ⟨⟨h,gs,d,k,os⟩,ho,e'⟩:=Option.map_eq_some_iff.mp (boot_open (N:=N) e hN f w)
 obtain ⟨rfl,rfl,rfl,rfl⟩:h=boot_heap w.params/\gs=Array.mk []/\d=boot_drawn/\k=boot_toks:=by simpa using e'
 obtain ⟨z1,z2,z3⟩:_/\_/\_:=by simpa only [Prod.mk.injEq] using size w
 have hA:=e3 w os
 generalize hsf:sfn p w os k0 kb J=sf at hA
 simp only [lkA,List.cons.injEq,and_true] at hA
 obtain ⟨a1,a2,a3,a4,a5,a6⟩:=hA
 have one:∀{β:Type} {Y:World->Shared->β} {v:World->β},E4 p Y v k0 kb J->Y w sf=v w:=λ{β Y v} h4=>by
  have h4:=h4 w os
  rw [hsf] at h4
  exact h4
 have l1:(staticsOk (importedModules p.main.body) (boot_heap w.params) sf.heap && namesBound p sf.heap && gensDone sf && laidKept (boot_heap w.params) sf.heap)=true:=by
  rw [a1,a2,a3,a4];rfl
 have b5:=one e5
 have b6:(sf.heap.bltView,tabsOk q sf,pinSeenD q (drecsOf q) sf)=(bltViewBooted,true,pinGoodD (drecsOf q)):=one e6
 have b7:lk3 p q loose sf=true:=one e7
 have b8:(plainSeenE q (looseW q loose) sf,plainSeenD q loose sf,wideSeen q sf,clsSeenW q loose sf)=(plainGoodE q (looseW q loose),plainGoodD q loose,wideGood q,clsGoodW q loose):=one e8
 have l2:openSeen q loose (importedModules p.main.body) Xt true sf=openGood q loose:=by
  obtain ⟨b61,b62⟩:=Prod.mk.inj b6
  obtain ⟨b62,b63⟩:=Prod.mk.inj b62
  obtain ⟨b81,b82⟩:=Prod.mk.inj b8
  obtain ⟨b82,b83⟩:=Prod.mk.inj b82
  obtain ⟨b83,b84⟩:=Prod.mk.inj b83
  obtain ⟨b71,b72⟩:=Bool.and_eq_true_iff.mp b7
  obtain ⟨a5,a53⟩:=Bool.and_eq_true_iff.mp a5
  obtain ⟨a51,a52⟩:=Bool.and_eq_true_iff.mp a5
  obtain ⟨a61,a62⟩:=Bool.and_eq_true_iff.mp a6
  unfold openSeen openGood
  rw [b71,b72,a51,a52,a53,a61,b61,b62,b63,b81,b82,b83,b84]
  refine Prod.ext b5 (Prod.ext rfl (Prod.ext ?_ rfl))
  simpa using a62
 have l3:Yf sf=Ya w:=Prod.ext (one e4) (Prod.ext (one e9) (one e10))
 obtain ⟨⟨s1,t1⟩,h1,ht⟩:=Option.map_eq_some_iff.mp (e1 w os)
 have ht':t1=_:=ht
 subst ht'
 have hsa:sa p w os k0=s1:=by unfold sa;rw [h1]
 have h2:=e2 w os
 unfold blk at h2
 rw [hsa] at h2
 have r1:topRun treeTable p w 11 (some (.ref 6)) kp (tb p w os k0 kb).abs (restOf (behindTheImports p) (env p) (cd p) z0 [topFrame z0])=some sf:=by
  have:=et w os
  rw [ei w os] at this
  exact this.trans (congrArg some hsf)
 have r:topRun treeTable p w 11 (some (.ref 6)) (k0+(kb+kp)) ⟨boot_heap w.params,Array.mk [],boot_drawn,boot_toks,os⟩ (topStub p)=some sf:=
  go_top h1 (piece_block h2 r1)
 have r:=topRun_mono (N-(k0+(kb+kp))) _ _ _ _ r
 rw [show k0+(kb+kp)+(N-(k0+(kb+kp)))=N by have:=Nat.le_of_ble_eq_true le;omega] at r
 have t:topFrom treeTable p w N ⟨boot_heap w.params,Array.mk [],boot_drawn,boot_toks,os⟩=some sf:=by
  unfold topFrom
  dsimp only
  rw [z1,z2,z3,r]
  show (match staticsOk (importedModules p.main.body) (boot_heap w.params) sf.heap && namesBound p sf.heap && gensDone sf && laidKept (boot_heap w.params) sf.heap with | true=>_ | false=>_)=_
  rw [l1]
 unfold openEnds
 rw [ho]
 show (topFrom treeTable p w N _).map _=_
 rw [t]
 exact congrArg some (Prod.ext l2 l3)
def kOf (as:List Addr) (h:Heap):Frag:=as.filterMap λa=>(h.get? a).map λo=>(a,o)
theorem j6j (as:List Addr) (h:Heap):(kOf as h).In h:=by
 intro a o e
 induction as with
 | nil=>cases e
 | cons b l ih=>
  unfold kOf at e
  rw [List.filterMap_cons] at e
  cases hb:h.get? b with
  | none=>rw [hb] at e;exact ih e
  | some ob=>
   rw [hb] at e
   dsimp only [Option.map_some] at e
   rw [List.lookup_cons] at e
   by_cases q:(a==b)=true
   ·rw [q] at e
    cases e
    rw [beq_iff_eq.mp q]
    exact hb
   ·rw [Bool.eq_false_iff.mpr q] at e
    exact ih e
def says {α:Type} (look:Frag->α) (v:α) (h:Heap):Prop:=∃K:Frag,K.In h/\look K=v
theorem says_of {α:Type} {look:Frag->α} {v:α} (as:List Addr) (s:Shared) (e:look (kOf as s.heap)=v):says look v s.heap:=⟨_,j6j as s.heap,e⟩
theorem says_keeps {α:Type} {look:Frag->α} {v:α} {h h':Heap} (e:says look v h) (k:∀b o,h.get? b=some o->h'.get? b=some o):says look v h':=by
 obtain ⟨K,i,e⟩:=e
 exact ⟨K,λa o q=>k _ _ (i a o q),e⟩
theorem row {α:Type} {l m:List α} (h:l=m) (i:Nat) {a b:α} (ha:l[i]?=some a) (hb:m[i]?=some b):a=b:=by
 subst h
 rw [ha] at hb
 exact Option.some.inj hb
end Hd
end L3
namespace Lw
open PySem L2
def top (i:Nat):Stmt:=PySem.Challenge.pw_doughhours_k26_each_refusal_apart.main.body.getD i (.Pass ⟨0,0,0,0⟩)
abbrev s_1:Stmt:=top 24
abbrev s_2:Stmt:=top 25
abbrev s_3:Stmt:=top 26
abbrev s_4:Stmt:=top 27
abbrev s_5:Stmt:=q09 (top 32) 0
abbrev s_6:Stmt:=q09 (top 33) 0
abbrev s_7:Stmt:=top 34
abbrev s_8:Stmt:=top 35
abbrev s_9:Stmt:=top 36
abbrev j7F:Stmt:=top 37
abbrev j8G:Stmt:=top 38
abbrev j8i:Stmt:=top 47
abbrev j8d:Stmt:=top 48
abbrev j7J:Stmt:=q09 (top 54) 0
abbrev j8E:Stmt:=q09 (top 54) 1
abbrev j8z:Stmt:=top 55
abbrev j8a:Stmt:=q09 (top 59) 0
abbrev j8p:Stmt:=q09 (top 60) 0
abbrev j8k:Stmt:=q09 (top 60) 3
abbrev j8C:Stmt:=q09 (top 65) 0
abbrev j7Y:Stmt:=top 66
abbrev j8n:Stmt:=top 67
abbrev j8h:Stmt:=top 69
abbrev j8e:Stmt:=q09 (top 71) 0
abbrev j8I:Stmt:=q09 (top 71) 1
abbrev j7T:Stmt:=q09 (top 71) 2
abbrev j8u:Stmt:=q09 (top 72) 0
abbrev j8w:Stmt:=top 73
abbrev j8b:Stmt:=top 74
abbrev j7G:Stmt:=top 75
abbrev j77:Stmt:=top 76
abbrev j8K:Stmt:=top 77
abbrev j8s:Stmt:=top 78
abbrev j8c:Stmt:=top 79
abbrev j8g:Stmt:=top 82
abbrev j7S:Stmt:=top 83
abbrev j7D:Stmt:=top 84
abbrev j8B:Stmt:=top 85
abbrev j8M:Stmt:=top 86
abbrev j8t:Stmt:=top 87
abbrev j8F:Stmt:=top 88
abbrev j8m:Stmt:=top 89
abbrev j8x:Stmt:=top 90
abbrev j7C:Stmt:=top 91
abbrev j8L:Stmt:=top 96
abbrev j8o:Stmt:=top 97
abbrev j73:Stmt:=top 98
abbrev j8q:Stmt:=top 99
abbrev j70:Stmt:=top 100
abbrev j7L:Stmt:=top 101
abbrev j7P:Stmt:=top 102
abbrev j7N:Stmt:=top 103
abbrev j8j:Stmt:=top 104
abbrev j7R:Stmt:=top 105
abbrev j72:Stmt:=top 107
abbrev j79:Stmt:=q09 (top 109) 0
abbrev j7M:Stmt:=q09 (top 109) 2
abbrev j8r:Stmt:=top 111
abbrev j7V:Stmt:=top 112
abbrev j7W:Stmt:=top 113
abbrev j8y:Stmt:=top 114
abbrev j7U:Stmt:=top 115
abbrev j78:Stmt:=top 116
abbrev j8J:Stmt:=top 117
end Lw
namespace Lw
open PySem PySem.W PyProof.Rows L2 L3
def hAs:List Addr:=[2,3,15,17,18,20,21,22,29,30,31,32,35,42,43,44,47,54,55,56,59,66,67,68,71,78,79,80,83,90,91,92,95,102,103,104,107,114,115,116,119,126,127,128,131,138,139,140,143,150,151,152,155,162,163,164,167,174,175,176,179,186,187,188,191,198,199,200,203,210,211,212,215,222,223,224,227,234,235,236,239,242,243,244,246,247,249,250,251,253,254,256,257,258,260,261,263,264,272,274,275,277,278,279,280,281,282,283,293,295,296,298,299,300,301,302,303,304,307,310,311,312,314,315,317,318,319,321,322,324,325,326,328,329,331,332,333,335,336,338,339,340,342,343,345,346,347,350,351,352,354,355,357,358,366,369,370,371,373,374,376,377,378,379,380,381,382,385,387,388,390,391,392,400,401,403,404,406,407,408,409,410,411,412,422,424,425,427,428,429,431,432,434,435,436,438,439,441,442,443,446,447,448,449,450,451,452,462,464,465,467,468,469,470,471,472,473,476,478,479,481,482,483,485,486,488,489,490,492,493,495,496,497,499,500,502,503,511,512,514,515,517,518,519,521,522,524,525,526,528,529,531,532,533,534,535,536,537,547,549,550,552,553,554,555,556,557,558,561,563,564,566,567,568,570,571,573,574,575,577,578,580,581,582,584,585,587,588,589,592,593,594,597,598,599,602,603,604,605,607,608,610,611,612,614,615,617,618,619,621,622,624,625,626,628,629,631,632,633,636,637,638,640,641,643,644,645,648,649,650,653,654,655,657,658,660,661,662,664,665,667,668,669,671,672,674,675,676,679,680,681,683,684,686,687,688,691,692,693,696,697,698,701,702,703,705,706,708,709,710,712,713,715,716,717,720,721,722,725,726,727,729,730,732,733,734,737,738,739,741,742,744,745,753,755,756,758,759,760,762,763,765,766,767,769,770,772,773,774,776,777,779,780,781,783,784,786,787,788,789,790,791,792,795,797,798,800,801,802,804,805,807,808,809,812,813,814,816,817,819,820,821,823,824,826,827,828,830,831,833,834,835,837,838,840,841]
abbrev nI (K:Frag) (x:Str):=nsIn K mainGlobals x
abbrev mF (n q:Str) (s:Stmt) (d m:Value) (c:Addr):FuncData:=fnOf n q (q1w s) (q1d s) (q0f s) d .none .none m none (.ref c) .none
abbrev fo (d:FuncData):Obj:=⟨.type "function",none,.func d,#[]⟩
def q04 (K:Frag) (f c:Addr) (q:Str) (a:Option (Option Value)):=(K.lookup f,codeIn K (.ref c) q,keepIn K (.ref f),isFn K (.ref f),a)
def q03 (f:Addr) (d:FuncData):Option Obj×Bool×Bool×Bool×Option (Option Value):=(some (fo d),true,true,true,some (some (.ref f)))
abbrev p_0:Value:=Value.str "doughhours.checks" 486
abbrev p_1:Value:=Value.str "doughhours.orders" 526
abbrev p_2:Value:=Value.str "doughhours.times" 645
abbrev p_3:Value:=Value.str "doughhours.bakery" 683
abbrev p_4:Value:=Value.str "doughhours.breads" 740
abbrev p_5:Value:=Value.str "doughhours.ovens" 838
abbrev p_6:Value:=Value.str "doughhours.plans" 921
abbrev p_7:Value:=Value.str "doughhours.faults" 1077
abbrev p_8:Value:=Value.str "doughhours.planner" 1196
abbrev p_9:Value:=Value.str "doughhours.night" 1291
abbrev j1Y:Value:=Value.str "law_doughhours_k26_each_refusal_apart" 1356
abbrev d_1:FuncData:=mF "check_name" "check_name" s_1 .none p_0 242
abbrev d_2:FuncData:=mF "check_number" "check_number" s_2 .none p_0 249
abbrev d_3:FuncData:=mF "check_count" "check_count" s_3 .none p_0 256
abbrev d_4:FuncData:=mF "check_batch" "check_batch" s_4 .none p_0 263
abbrev d_5:FuncData:=mF "__init__" "Order.__init__" s_5 .none p_1 277
abbrev d_6:FuncData:=mF "__init__" "Batch.__init__" s_6 .none p_1 298
abbrev d_7:FuncData:=mF "greatest" "greatest" s_7 .none p_1 310
abbrev d_8:FuncData:=mF "check_due" "check_due" s_8 .none p_1 317
abbrev d_9:FuncData:=mF "accept" "accept" s_9 .none p_1 324
abbrev w2u:FuncData:=mF "batches_of" "batches_of" j7F .none p_1 331
abbrev w1y:FuncData:=mF "cut" "cut" j8G .none p_1 338
abbrev w2e:FuncData:=mF "is_figures" "is_figures" j8i .none p_2 350
abbrev w1c:FuncData:=mF "minute_of" "minute_of" j8d .none p_2 357
abbrev w0Z:FuncData:=mF "__init__" "Bakery.__init__" j7J .none p_3 369
abbrev w1X:FuncData:=mF "bread_of" "Bakery.bread_of" j8E .none p_3 376
abbrev w2g:FuncData:=mF "check_names_apart" "check_names_apart" j8z .none p_3 390
abbrev w2d:FuncData:=mF "__init__" "Stage.__init__" j8a (.ref 400) p_4 406
abbrev w1S:FuncData:=mF "__init__" "Bread.__init__" j8p .none p_4 427
abbrev w1a:FuncData:=mF "bakes" "Bread.bakes" j8k .none p_4 446
abbrev w1U:FuncData:=mF "__init__" "Oven.__init__" j8C .none p_5 467
abbrev w2A:FuncData:=mF "between" "between" j7Y .none p_5 481
abbrev w01:FuncData:=mF "goals" "goals" j8n .none p_5 488
abbrev w2h:FuncData:=mF "course" "course" j8h .none p_5 502
abbrev w04:FuncData:=mF "__init__" "Run.__init__" j8e (.ref 511) p_6 517
abbrev w2m:FuncData:=mF "end" "Run.end" j8I .none p_6 524
abbrev w2i:FuncData:=mF "spans" "Run.spans" j7T .none p_6 531
abbrev w1N:FuncData:=mF "__init__" "Part.__init__" j8u .none p_6 552
abbrev w1l:FuncData:=mF "check_run" "check_run" j8w .none p_6 566
abbrev w05:FuncData:=mF "fitted" "fitted" j8b .none p_6 573
abbrev w2r:FuncData:=mF "bread_in" "bread_in" j7G .none p_6 580
abbrev w1m:FuncData:=mF "parts_of" "parts_of" j77 .none p_6 587
abbrev w1f:FuncData:=mF "lasting" "lasting" j8K .none p_6 592
abbrev w2o:FuncData:=mF "count_of" "count_of" j8s .none p_6 597
abbrev w0X:FuncData:=mF "loaves_in" "loaves_in" j8c .none p_6 602
abbrev w2a:FuncData:=mF "rank" "rank" j8g .none p_7 610
abbrev w2v:FuncData:=mF "fault" "fault" j7S .none p_7 617
abbrev w2c:FuncData:=mF "door_faults" "door_faults" j7D .none p_7 624
abbrev w1v:FuncData:=mF "length_faults" "length_faults" j8B .none p_7 631
abbrev w08:FuncData:=mF "beginnings" "beginnings" j8M .none p_7 636
abbrev w03:FuncData:=mF "held_faults" "held_faults" j8t .none p_7 643
abbrev w1L:FuncData:=mF "heat_faults" "heat_faults" j8F .none p_7 648
abbrev w06:FuncData:=mF "heat_fails" "heat_fails" j8m .none p_7 653
abbrev w1i:FuncData:=mF "late" "late" j8x .none p_7 660
abbrev w1J:FuncData:=mF "heats" "heats" j7C .none p_7 667
abbrev w1P:FuncData:=mF "narrow" "narrow" j8L .none p_8 679
abbrev w2b:FuncData:=mF "steps" "steps" j8o .none p_8 686
abbrev w1t:FuncData:=mF "lengths_within" "lengths_within" j73 .none p_8 691
abbrev w2w:FuncData:=mF "ovens_for" "ovens_for" j8q .none p_8 696
abbrev w1Z:FuncData:=mF "ways_of" "ways_of" j70 .none p_8 701
abbrev w1E:FuncData:=mF "ways" "ways" j7L .none p_8 708
abbrev w1r:FuncData:=mF "all_ways" "all_ways" j7P .none p_8 715
abbrev w1M:FuncData:=mF "plans_of" "plans_of" j7N .none p_8 720
abbrev w1q:FuncData:=mF "good_plans" "good_plans" j8j .none p_8 725
abbrev w2t:FuncData:=mF "check_plans" "check_plans" j7R .none p_8 732
abbrev w2z:FuncData:=mF "latest" "latest" j72 .none p_8 744
abbrev w1D:FuncData:=mF "__init__" "Night.__init__" j79 .none p_9 758
abbrev w1K:FuncData:=mF "strike" "Night.strike" j7M .none p_9 772
abbrev w1Y:FuncData:=mF "_law_at" "_law_at" j8r .none j1Y 800
abbrev w1A:FuncData:=mF "_law_is" "_law_is" j7V .none j1Y 807
abbrev w0V:FuncData:=mF "_law_kinds" "_law_kinds" j7W .none j1Y 812
abbrev w1s:FuncData:=mF "_law_first_half" "_law_first_half" j8y .none j1Y 819
abbrev w07:FuncData:=mF "_law_second_half" "_law_second_half" j7U .none j1Y 826
abbrev w2n:FuncData:=mF "_law_caught" "_law_caught" j78 .none j1Y 833
abbrev q5s:FuncData:=mF "law" "law" j8J .none j1Y 840
def q6U (K:Frag) (C:Addr) (n:Str) (fs:List Str):=(nI K n,[plainGet K C Str.empty,hasDictIn K C,plainOver K C,makesIn K C,keepIn K (.ref C)],findIn K (.ref C) "__setattr__",fs.map λx=>findIn K (.ref C) x)
def q7j (C:Addr) (fs:List Str):Option (Option Value)×List Bool×Option (Option Value)×List (Option (Option Value)):=(some (some (.ref C)),[true,true,true,true,true],some (some (.builtin "object.__setattr__")),fs.map λ_=>some none)
def q3t (K:Frag) (C:Addr) (n:Str):=(nI K n,excIn K C [.type "ValueError",.type "Exception",.type "BaseException",.type "object"] "ValueError.__new__")
def q3k (C:Addr):Option (Option Value)×Bool:=(some (some (.ref C)),true)
def hLF (K:Frag):=
 [q04 K 243 242 "check_name" (nI K "check_name"),
 q04 K 250 249 "check_number" (nI K "check_number"),
 q04 K 257 256 "check_count" (nI K "check_count"),
 q04 K 264 263 "check_batch" (nI K "check_batch"),
 q04 K 278 277 "Order.__init__" (findIn K (.ref 281) "__init__"),
 q04 K 299 298 "Batch.__init__" (findIn K (.ref 302) "__init__"),
 q04 K 311 310 "greatest" (nI K "greatest"),
 q04 K 318 317 "check_due" (nI K "check_due"),
 q04 K 325 324 "accept" (nI K "accept"),
 q04 K 332 331 "batches_of" (nI K "batches_of"),
 q04 K 339 338 "cut" (nI K "cut"),
 q04 K 351 350 "is_figures" (nI K "is_figures"),
 q04 K 358 357 "minute_of" (nI K "minute_of"),
 q04 K 370 369 "Bakery.__init__" (findIn K (.ref 380) "__init__"),
 q04 K 377 376 "Bakery.bread_of" (findIn K (.ref 380) "bread_of"),
 q04 K 391 390 "check_names_apart" (nI K "check_names_apart"),
 q04 K 407 406 "Stage.__init__" (findIn K (.ref 410) "__init__"),
 q04 K 428 427 "Bread.__init__" (findIn K (.ref 450) "__init__"),
 q04 K 447 446 "Bread.bakes" (findIn K (.ref 450) "bakes"),
 q04 K 468 467 "Oven.__init__" (findIn K (.ref 471) "__init__"),
 q04 K 482 481 "between" (nI K "between"),
 q04 K 489 488 "goals" (nI K "goals"),
 q04 K 503 502 "course" (nI K "course"),
 q04 K 518 517 "Run.__init__" (findIn K (.ref 535) "__init__"),
 q04 K 525 524 "Run.end" (findIn K (.ref 535) "end"),
 q04 K 532 531 "Run.spans" (findIn K (.ref 535) "spans"),
 q04 K 553 552 "Part.__init__" (findIn K (.ref 556) "__init__"),
 q04 K 567 566 "check_run" (nI K "check_run"),
 q04 K 574 573 "fitted" (nI K "fitted"),
 q04 K 581 580 "bread_in" (nI K "bread_in"),
 q04 K 588 587 "parts_of" (nI K "parts_of"),
 q04 K 593 592 "lasting" (nI K "lasting")]
def hRF:=
 [q03 243 d_1,
 q03 250 d_2,
 q03 257 d_3,
 q03 264 d_4,
 q03 278 d_5,
 q03 299 d_6,
 q03 311 d_7,
 q03 318 d_8,
 q03 325 d_9,
 q03 332 w2u,
 q03 339 w1y,
 q03 351 w2e,
 q03 358 w1c,
 q03 370 w0Z,
 q03 377 w1X,
 q03 391 w2g,
 q03 407 w2d,
 q03 428 w1S,
 q03 447 w1a,
 q03 468 w1U,
 q03 482 w2A,
 q03 489 w01,
 q03 503 w2h,
 q03 518 w04,
 q03 525 w2m,
 q03 532 w2i,
 q03 553 w1N,
 q03 567 w1l,
 q03 574 w05,
 q03 581 w2r,
 q03 588 w1m,
 q03 593 w1f]
def hLG (K:Frag):=
 [q04 K 598 597 "count_of" (nI K "count_of"),
 q04 K 603 602 "loaves_in" (nI K "loaves_in"),
 q04 K 611 610 "rank" (nI K "rank"),
 q04 K 618 617 "fault" (nI K "fault"),
 q04 K 625 624 "door_faults" (nI K "door_faults"),
 q04 K 632 631 "length_faults" (nI K "length_faults"),
 q04 K 637 636 "beginnings" (nI K "beginnings"),
 q04 K 644 643 "held_faults" (nI K "held_faults"),
 q04 K 649 648 "heat_faults" (nI K "heat_faults"),
 q04 K 654 653 "heat_fails" (nI K "heat_fails"),
 q04 K 661 660 "late" (nI K "late"),
 q04 K 668 667 "heats" (nI K "heats"),
 q04 K 680 679 "narrow" (nI K "narrow"),
 q04 K 687 686 "steps" (nI K "steps"),
 q04 K 692 691 "lengths_within" (nI K "lengths_within"),
 q04 K 697 696 "ovens_for" (nI K "ovens_for"),
 q04 K 702 701 "ways_of" (nI K "ways_of"),
 q04 K 709 708 "ways" (nI K "ways"),
 q04 K 716 715 "all_ways" (nI K "all_ways"),
 q04 K 721 720 "plans_of" (nI K "plans_of"),
 q04 K 726 725 "good_plans" (nI K "good_plans"),
 q04 K 733 732 "check_plans" (nI K "check_plans"),
 q04 K 745 744 "latest" (nI K "latest"),
 q04 K 759 758 "Night.__init__" (findIn K (.ref 790) "__init__"),
 q04 K 773 772 "Night.strike" (findIn K (.ref 790) "strike"),
 q04 K 801 800 "_law_at" (nI K "_law_at"),
 q04 K 808 807 "_law_is" (nI K "_law_is"),
 q04 K 813 812 "_law_kinds" (nI K "_law_kinds"),
 q04 K 820 819 "_law_first_half" (nI K "_law_first_half"),
 q04 K 827 826 "_law_second_half" (nI K "_law_second_half"),
 q04 K 834 833 "_law_caught" (nI K "_law_caught"),
 q04 K 841 840 "law" (nI K "law")]
def hRG:=
 [q03 598 w2o,
 q03 603 w0X,
 q03 611 w2a,
 q03 618 w2v,
 q03 625 w2c,
 q03 632 w1v,
 q03 637 w08,
 q03 644 w03,
 q03 649 w1L,
 q03 654 w06,
 q03 661 w1i,
 q03 668 w1J,
 q03 680 w1P,
 q03 687 w2b,
 q03 692 w1t,
 q03 697 w2w,
 q03 702 w1Z,
 q03 709 w1E,
 q03 716 w1r,
 q03 721 w1M,
 q03 726 w1q,
 q03 733 w2t,
 q03 745 w2z,
 q03 759 w1D,
 q03 773 w1K,
 q03 801 w1Y,
 q03 808 w1A,
 q03 813 w0V,
 q03 820 w1s,
 q03 827 w07,
 q03 834 w2n,
 q03 841 q5s]
def hLC (K:Frag):=
 [q6U K 281 "Order" ["bread","loaves","due"],
 q6U K 302 "Batch" ["order","first","loaves"],
 q6U K 380 "Bakery" ["night","hands","benches","ovens","breads"],
 q6U K 410 "Stage" ["name","least","most","want","heat"],
 q6U K 450 "Bread" ["name","stages"],
 q6U K 471 "Oven" ["room","rate","heat"],
 q6U K 535 "Run" ["begin","lengths","oven"],
 q6U K 556 "Part" ["batch","stage","begin","until","loaves","oven"],
 q6U K 790 "Night" ["bakery","orders"]]
def hRC:=
 [q7j 281 ["bread","loaves","due"],
 q7j 302 ["order","first","loaves"],
 q7j 380 ["night","hands","benches","ovens","breads"],
 q7j 410 ["name","least","most","want","heat"],
 q7j 450 ["name","stages"],
 q7j 471 ["room","rate","heat"],
 q7j 535 ["begin","lengths","oven"],
 q7j 556 ["batch","stage","begin","until","loaves","oven"],
 q7j 790 ["bakery","orders"]]
def hLE (K:Frag):=
 [q3t K 31 "DoughError",
 q3t K 44 "BadTime",
 q3t K 56 "BadName",
 q3t K 68 "BadWant",
 q3t K 80 "BadNumber",
 q3t K 92 "BadCount",
 q3t K 104 "TwiceNamed",
 q3t K 116 "NoBread",
 q3t K 128 "BeyondNight",
 q3t K 140 "TooMany",
 q3t K 152 "BadPlan",
 q3t K 164 "NoBatch",
 q3t K 176 "NoOven",
 q3t K 188 "NoOrder",
 q3t K 200 "Faulty",
 q3t K 212 "TooCold",
 q3t K 224 "TooWide",
 q3t K 236 "NoPlan"]
def hRE:=
 [q3k 31,
 q3k 44,
 q3k 56,
 q3k 68,
 q3k 80,
 q3k 92,
 q3k 104,
 q3k 116,
 q3k 128,
 q3k 140,
 q3k 152,
 q3k 164,
 q3k 176,
 q3k 188,
 q3k 200,
 q3k 212,
 q3k 224,
 q3k 236]
def hZ:List Str:=["ValueError","abs","all","any","bool","enumerate","int","isinstance","len","list","max","min","range","reversed","set","sorted","str","sum","tuple","zip"]
def hLV (K:Frag):List (Option (Option Value)):=
 [nsIn K mainGlobals "FASTEST",
 nsIn K mainGlobals "FAULTS",
 nsIn K mainGlobals "HOTTEST",
 nsIn K mainGlobals "LETTERS",
 nsIn K mainGlobals "LONGEST_NAME",
 nsIn K mainGlobals "MOST_BATCHES",
 nsIn K mainGlobals "MOST_BENCHES",
 nsIn K mainGlobals "MOST_BREADS",
 nsIn K mainGlobals "MOST_HANDS",
 nsIn K mainGlobals "MOST_LOAVES",
 nsIn K mainGlobals "MOST_ORDERS",
 nsIn K mainGlobals "MOST_OVENS",
 nsIn K mainGlobals "MOST_PLANNED",
 nsIn K mainGlobals "MOST_ROOM",
 nsIn K mainGlobals "MOST_STAGES",
 nsIn K mainGlobals "MOST_STEPPED",
 nsIn K mainGlobals "MOST_WAYS",
 nsIn K mainGlobals "NIGHT",
 nsIn K mainGlobals "NOTHING_BAKES",
 nsIn K mainGlobals "STEP",
 nsIn K mainGlobals "WANTS",
 nsIn K mainGlobals "WIDEST"]
def hRV:List (Option (Option Value)):=
 [some (some (.int 300 842)),some (some (.ref 604)),some (some (.int 300 492)),some (some (.str "abcdefghijklmnopqrstuvwxyz" 488)),some (some (.int 12 490)),some (some (.int 24 532)),some (some (.int 6 687)),some (some (.int 8 691)),some (some (.int 6 685)),some (some (.int 60 528)),some (some (.int 12 530)),some (some (.int 3 689)),some (some (.int 3 1198)),some (some (.int 30 840)),some (some (.int 6 747)),some (some (.int 4 1200)),some (some (.int 2000 653)),some (some (.int 720 647)),some (some (.int (-1) 845)),some (some (.int 5 649)),some (some (.ref 392)),some (some (.int 120 651))]
def hLB (K:Frag):List Bool:=
 []
def hRB:List Bool:=
 []
def hLO (K:Frag):List (Option Obj):=
 [K.lookup 400,
 K.lookup 511,
 K.lookup 604,
 K.lookup 392]
def hRO:List (Option Obj):=
 [some ⟨(Value.type "tuple"),(none),.seq #[.int 0 761] 0,(#[])⟩,some ⟨(Value.type "tuple"),(none),.seq #[.int 0 935] 0,(#[])⟩,some ⟨.type "tuple",none,.seq #[(.str "door" 1079),(.str "short" 1080),(.str "long" 1081),(.str "hands" 1082),(.str "bench" 1083),(.str "room" 1084),(.str "heat" 1085)] 0,(#[])⟩,some ⟨.type "tuple",(none),.seq #[(.str "nothing" 742),(.str "hands" 743),(.str "bench" 744),(.str "oven" 745)] 0,(#[])⟩]
def hLX (K:Frag):List (Option Bool):=
 [exmOne K (.ref 31) (.ref 31),
 exmOne K (.ref 44) (.ref 31),
 exmOne K (.ref 56) (.ref 31),
 exmOne K (.ref 68) (.ref 31),
 exmOne K (.ref 80) (.ref 31),
 exmOne K (.ref 92) (.ref 31),
 exmOne K (.ref 104) (.ref 31),
 exmOne K (.ref 116) (.ref 31),
 exmOne K (.ref 128) (.ref 31),
 exmOne K (.ref 140) (.ref 31),
 exmOne K (.ref 152) (.ref 31),
 exmOne K (.ref 164) (.ref 31),
 exmOne K (.ref 176) (.ref 31),
 exmOne K (.ref 188) (.ref 31),
 exmOne K (.ref 200) (.ref 31),
 exmOne K (.ref 212) (.ref 31),
 exmOne K (.ref 224) (.ref 31),
 exmOne K (.ref 236) (.ref 31)]
def hRX:List (Option Bool):=
 [some true,some true,some true,some true,some true,some true,some true,some true,some true,some true,some true,some true,some true,some true,some true,some true,some true,some true]
def j2t:List Addr:=[31,44,56,68,80,92,104,116,128,140,152,164,176,188,200,212,224,236,281,302,380,410,450,471,535,556,790]
def q9Q (K:Frag) (ex:List Addr) (C:Addr):=([findIn K (.ref C) "__getattribute__",findIn K (.ref C) "__getattr__",findIn K (.ref C) "__class__",specialIn K (.builtin "object.__class__") "__get__"],[takesIn K (.builtin "object.__class__"),mroIn K C (.type "object"),mroIn K C (.type "BaseException"),kitOne K (.ref C) (.type "ValueError")],ex.map λj=>kitOne K (.ref C) (.ref j))
def q8Q (n c:Nat):List (Option (Option Value))×List (Option Bool)×List (Option Bool):=([some (some (.builtin "BaseException.__getattribute__")),some none,some (some (.builtin "object.__class__")),some (some (.builtin "getset_descriptor.__get__"))],[some true,some true,some true,some true],(List.range n).map λj=>some (c==j || j==0))
def hLI (K:Frag):=(j2t.take 18).map (q9Q K (j2t.take 18))
def hRI:=(List.range 18).map (q8Q 18)
def q5c (K:Frag):=(hLF K,hLG K,hLC K,hLE K,hZ.map (λx=>nI K x),hLI K,hLV K,hLB K,hLO K,hLX K)
def j1n:=(hRF,hRG,hRC,hRE,hZ.map (λ_=>(some none:Option (Option Value))),hRI,hRV,hRB,hRO,hRX)
def vw:Program:={ PySem.Challenge.pw_doughhours_k26_each_refusal_apart with main:={ (PySem.Challenge.pw_doughhours_k26_each_refusal_apart).main with body:=[0,2,3,4,5,6,7,8,9,10,11,12,13,14,15,16,17,18,19,21,22,23,24,25,26,27,29,30,31,32,33,34,35,36,37,38,40,41,42,43,44,45,46,47,48,50,51,52,53,54,55,57,58,59,60,62,63,64,65,66,67,68,69,71,72,73,74,75,76,77,78,79,81,82,83,84,85,86,87,88,89,90,91,92,94,95,96,97,98,99,100,101,102,103,104,105,106,107,109,111,112,113,114,115,116,117].map top } }
abbrev Xv (s:Shared):Bool:=xlAt vw [] s && recOk (RowW.records (OpenRow.toRowW (OpenLaw.row PySem.Challenge.rw_doughhours_k26_each_refusal_apart))) s
theorem Za {a b:Bool} (h:a=true) (k:b=true):(a && b)=true:=by rw [h,k];rfl
theorem Zb:looksOpen PySem.Challenge.pw_doughhours_k26_each_refusal_apart=true:=by
 unfold looksOpen
 refine Za (Za (Za (Za (Za ?_ ?_) ?_) ?_) ?_) ?_ <;> decide +kernel
theorem Zc:PySem.Challenge.rw_doughhours_k26_each_refusal_apart.row.wellSaid=true:=by
 unfold OpenRow.wellSaid OpenRow.partSaid
 rw [show looksOpen PySem.Challenge.rw_doughhours_k26_each_refusal_apart.row.prog=true from Zb];kernel_rfl
theorem j6s:PySem.Challenge.rw_doughhours_k26_each_refusal_apart.wellSaid=true:=by
 unfold OpenLaw.wellSaid
 rw [Zc];kernel_rfl
theorem j35:Hd.E1 PySem.Challenge.pw_doughhours_k26_each_refusal_apart 12:=λw os=>by kernel_rfl
theorem j3F:Hd.E2 PySem.Challenge.pw_doughhours_k26_each_refusal_apart 12 2:=λw os=>by kernel_rfl
theorem w2K:Hd.Ch PySem.Challenge.pw_doughhours_k26_each_refusal_apart 12 2 0 8 1307 ⟨0,0,0,0⟩ ⟨15,0,16,8⟩:=λw os=>by kernel_rfl
theorem w3o:Hd.Ch PySem.Challenge.pw_doughhours_k26_each_refusal_apart 12 2 8 6 1294 ⟨15,0,16,8⟩ ⟨27,0,28,8⟩:=λw os=>by kernel_rfl
theorem w3g:Hd.Ch PySem.Challenge.pw_doughhours_k26_each_refusal_apart 12 2 14 12 1393 ⟨27,0,28,8⟩ ⟨48,0,50,76⟩:=λw os=>by kernel_rfl
theorem w3r:Hd.Ch PySem.Challenge.pw_doughhours_k26_each_refusal_apart 12 2 26 33 1257 ⟨48,0,50,76⟩ ⟨149,0,149,11⟩:=λw os=>by kernel_rfl
theorem w2N:Hd.Ch PySem.Challenge.pw_doughhours_k26_each_refusal_apart 12 2 59 13 1267 ⟨149,0,149,11⟩ ⟨219,0,237,18⟩:=λw os=>by kernel_rfl
theorem w20:Hd.Ch PySem.Challenge.pw_doughhours_k26_each_refusal_apart 12 2 72 37 1237 ⟨219,0,237,18⟩ ⟨420,0,420,8⟩:=λw os=>by kernel_rfl
theorem w2Q:Hd.Ch PySem.Challenge.pw_doughhours_k26_each_refusal_apart 12 2 109 9 606 ⟨420,0,420,8⟩ ⟨504,0,517,101⟩:=λw os=>by kernel_rfl
theorem j5Y:Hd.E3 PySem.Challenge.pw_doughhours_k26_each_refusal_apart vw Xv 12 2 118:=λw os=>by kernel_rfl
theorem j3k:Hd.E4 PySem.Challenge.pw_doughhours_k26_each_refusal_apart (λ_ s=>PyProof.Rows.seen ((PyProof.Rows.recsOf vw).map (·.name)) (ownsOf vw) [] { s with gens:=#[] }) (λ_=>PyProof.Rows.expectedOf vw) 12 2 118:=λw os=>by kernel_rfl
theorem j4N:Hd.E4 PySem.Challenge.pw_doughhours_k26_each_refusal_apart (λ_ s=>(s.heap.bltView,tabsOk vw s,pinSeenD vw (drecsOf vw) s)) (λ_=>(bltViewBooted,true,pinGoodD (drecsOf vw))) 12 2 118:=λw os=>by kernel_rfl
theorem j4z:Hd.E4 PySem.Challenge.pw_doughhours_k26_each_refusal_apart (λ_ s=>Hd.lk3 PySem.Challenge.pw_doughhours_k26_each_refusal_apart vw [] s) (λ_=>true) 12 2 118:=λw os=>by kernel_rfl
theorem j4P:Hd.E4 PySem.Challenge.pw_doughhours_k26_each_refusal_apart (λ_ s=>(plainSeenE vw (looseW vw []) s,plainSeenD vw [] s,wideSeen vw s,clsSeenW vw [] s)) (λ_=>(plainGoodE vw (looseW vw []),plainGoodD vw [],wideGood vw,clsGoodW vw [])) 12 2 118:=λw os=>by kernel_rfl
theorem j4E:Hd.E4 PySem.Challenge.pw_doughhours_k26_each_refusal_apart (λ_ s=>(q5c (Hd.kOf hAs s.heap)).1) (λ_=>j1n.1) 12 2 118:=λw os=>by kernel_rfl
theorem j4u:Hd.E4 PySem.Challenge.pw_doughhours_k26_each_refusal_apart (λ_ s=>(q5c (Hd.kOf hAs s.heap)).2.1) (λ_=>j1n.2.1) 12 2 118:=λw os=>by kernel_rfl
theorem j1m:Hd.E4 PySem.Challenge.pw_doughhours_k26_each_refusal_apart (λ_ s=>(q5c (Hd.kOf hAs s.heap)).2.2) (λ_=>j1n.2.2) 12 2 118:=λw os=>by kernel_rfl
theorem w2D:Hd.To PySem.Challenge.pw_doughhours_k26_each_refusal_apart 12 2 118 4 ⟨504,0,517,101⟩ 118:=Hd.To.fin (by kernel_rfl)
theorem w3s:Hd.To PySem.Challenge.pw_doughhours_k26_each_refusal_apart 12 2 109 610 ⟨420,0,420,8⟩ 118:=Hd.To.of (j:=109) (m:=9) (n:=606) (N:=4) w2Q w2D
theorem w24:Hd.To PySem.Challenge.pw_doughhours_k26_each_refusal_apart 12 2 72 1847 ⟨219,0,237,18⟩ 118:=Hd.To.of (j:=72) (m:=37) (n:=1237) (N:=610) w20 w3s
theorem w2L:Hd.To PySem.Challenge.pw_doughhours_k26_each_refusal_apart 12 2 59 3114 ⟨149,0,149,11⟩ 118:=Hd.To.of (j:=59) (m:=13) (n:=1267) (N:=1847) w2N w24
theorem w3b:Hd.To PySem.Challenge.pw_doughhours_k26_each_refusal_apart 12 2 26 4371 ⟨48,0,50,76⟩ 118:=Hd.To.of (j:=26) (m:=33) (n:=1257) (N:=3114) w3r w2L
theorem w23:Hd.To PySem.Challenge.pw_doughhours_k26_each_refusal_apart 12 2 14 5764 ⟨27,0,28,8⟩ 118:=Hd.To.of (j:=14) (m:=12) (n:=1393) (N:=4371) w3g w3b
theorem w2I:Hd.To PySem.Challenge.pw_doughhours_k26_each_refusal_apart 12 2 8 7058 ⟨15,0,16,8⟩ 118:=Hd.To.of (j:=8) (m:=6) (n:=1294) (N:=5764) w3o w23
theorem w26:Hd.To PySem.Challenge.pw_doughhours_k26_each_refusal_apart 12 2 0 8365 ⟨0,0,0,0⟩ 118:=Hd.To.of (j:=0) (m:=8) (n:=1307) (N:=7058) w2K w2I
theorem q6P:LeftO (OpenLaw.row PySem.Challenge.rw_doughhours_k26_each_refusal_apart).prog vw [] Xv (λs=>q5c (Hd.kOf hAs s.heap)) (λ_=>j1n) 17730:=
 Hd.left_whole (p:=PySem.Challenge.pw_doughhours_k26_each_refusal_apart) (kp:=8365) (by kernel_rfl) (by decide) (λs=>by kernel_rfl) (by decide) (λw=>by kernel_rfl) j35 j3F (λw os=>by kernel_rfl) w26 j5Y j3k j4N j4z j4P j4E j4u j1m
end Lw
namespace L2
open PySem PySem.Spec PyProof.Rows
abbrev Key:=Sum Int Str
def j7h:Key->Value->Bool
 | .inl k,v=>Value.isInt k v
 | .inr x,v=>Value.isStrOf x v
def w2U (w:World):Key->Int
 | .inl k=>hashInt k
 | .inr x=>hashStr w x
theorem q0W:∀{k:Key} {v:Value},j7h k v=true->(∃i t,k=Sum.inl i/\v=Value.int i t)∨(∃x t,k=Sum.inr x/\v=Value.str x t)
 | .inl i,v,h=>by
  obtain ⟨t,e⟩:=Value.isInt_shape (k:=i) (v:=v) h
  exact .inl ⟨i,t,rfl,e⟩
 | .inr x,v,h=>by
  obtain ⟨t,e⟩:=Value.isStrOf_shape (x:=x) (v:=v) h
  exact .inr ⟨x,t,rfl,e⟩
theorem j2E (a b:Int):decide ((Sum.inl a:Key)=Sum.inl b)=(a==b):=by
 by_cases e:a=b
 ·subst e;simp
 ·have h:¬(Sum.inl a:Key)=Sum.inl b:=λq=>e (Sum.inl.inj q)
  rw [decide_eq_false h]
  exact (beq_eq_false_iff_ne.mpr e).symm
theorem j6A (a b:Str):decide ((Sum.inr a:Key)=Sum.inr b)=decide (a=b):=by
 by_cases e:a=b
 ·subst e;simp
 ·have h:¬(Sum.inr a:Key)=Sum.inr b:=λq=>e (Sum.inr.inj q)
  rw [decide_eq_false h,decide_eq_false e]
theorem j47 (a:Int) (b:Str):decide ((Sum.inl a:Key)=Sum.inr b)=false:=decide_eq_false (λq=>nomatch q)
theorem j32 (a:Str) (b:Int):decide ((Sum.inr a:Key)=Sum.inl b)=false:=decide_eq_false (λq=>nomatch q)
def q40 (prog:Program) (w:World):PySem.KeyKind prog w Key where
 is:=j7h
 hash:=w2U w
 inj:=λv a b ha hb=>by
  rcases q0W ha with ⟨i,t,rfl,rfl⟩ | ⟨x,t,rfl,rfl⟩
  ·rcases q0W hb with ⟨j,u,rfl,e⟩ | ⟨y,u,rfl,e⟩
   ·injection e with e1 _;rw [e1]
   ·exact nomatch e
  ·rcases q0W hb with ⟨j,u,rfl,e⟩ | ⟨y,u,rfl,e⟩
   ·exact nomatch e
   ·injection e with e1 _;rw [e1]
 byValue:=λk v h=>by
  rcases q0W h with ⟨i,t,rfl,rfl⟩ | ⟨x,t,rfl,rfl⟩<;>rfl
 pyHash:=λhv h=>by
  rcases q0W hv with ⟨i,t,rfl,rfl⟩ | ⟨x,t,rfl,rfl⟩
  ·exact wpAny_pyHash_int h
  ·exact wpAny_pyHash_str h
 eqBool:=λhu hv h=>by
  rcases q0W hu with ⟨i,t,rfl,rfl⟩ | ⟨x,t,rfl,rfl⟩
  ·rcases q0W hv with ⟨j,u,rfl,rfl⟩ | ⟨y,u,rfl,rfl⟩
   ·rw [j2E] at h;exact wpAny_eqBool_int h
   ·rw [j47] at h;exact SeqAt.EqAt.int_str i t y u _ _ _ _ h
  ·rcases q0W hv with ⟨j,u,rfl,rfl⟩ | ⟨y,u,rfl,rfl⟩
   ·rw [j32] at h;exact SeqAt.EqAt.str_int x t j u _ _ _ _ h
   ·rw [j6A] at h;exact wpAny_eqBool_str h
 «strs»:=λk x t v h=>by
  rcases q0W h with ⟨i,u,rfl,e⟩ | ⟨y,u,rfl,e⟩
  ·exact nomatch e
  ·injection e with e1 _
   subst e1
   cases v<;>rfl
inductive V where
 | non | bl (b:Bool) | int (i:Int) | str (x:Str) | byt (b:Array UInt8) | flt (b:UInt64) | ref (a:Addr) | ty (n:String)
 deriving DecidableEq
def RelV:V->Value->Prop
 | .non,u=>u=Value.none
 | .bl b,u=>u=Value.bool b
 | .int i,u=>∃t,u=Value.int i t
 | .str x,u=>∃t,u=Value.str x t
 | .byt b,u=>∃t,u=Value.bytes b t
 | .flt b,u=>∃t,u=Value.float b t
 | .ref a,u=>u=Value.ref a
 | .ty n,u=>u=Value.type n
abbrev Vals:List V->List Value->Prop:=Paired RelV
theorem Vals.length {xs:List V} {us:List Value} (r:Vals xs us):xs.length=us.length:=Paired.length r
theorem Vals.get:∀{xs:List V} {us:List Value} {i:Nat} {x:V},Vals xs us->xs[i]?=some x->∃u,us[i]?=some u/\RelV x u
 | _,_,_,_,.nil,e=>by simp at e
 | _,_,0,_,.cons r _,e=>by simp at e;subst e;exact ⟨_,rfl,r⟩
 | _,_,i+1,x,.cons _ t,e=>by
  obtain ⟨u,h1,h2⟩:=Vals.get (i:=i) (x:=x) t (by simpa using e)
  exact ⟨u,by simpa using h1,h2⟩
theorem Vals.set {x:V} {u:Value} (r:RelV x u):∀{xs:List V} {us:List Value} (i:Nat),Vals xs us->Vals (xs.set i x) (us.set i u)
 | _,_,_,.nil=>.nil
 | _,_,0,.cons _ t=>.cons r t
 | _,_,i+1,.cons q t=>.cons q (Vals.set r i t)
theorem Vals.append:∀{xs ys:List V} {us ws:List Value},Vals xs us->Vals ys ws->Vals (xs++ys) (us++ws)
 | _,_,_,_,.nil,s=>s
 | _,_,_,_,.cons r t,s=>.cons r (Vals.append t s)
theorem Vals.take:∀{xs:List V} {us:List Value} (n:Nat),Vals xs us->Vals (xs.take n) (us.take n)
 | _,_,0,_=>.nil
 | _,_,_+1,.nil=>.nil
 | _,_,n+1,.cons r t=>.cons r (Vals.take n t)
theorem Vals.drop:∀{xs:List V} {us:List Value} (n:Nat),Vals xs us->Vals (xs.drop n) (us.drop n)
 | _,_,0,r=>r
 | _,_,_+1,.nil=>.nil
 | _,_,n+1,.cons _ t=>Vals.drop n t
theorem Vals.none_of:∀{xs:List V} {us:List Value} {i:Nat},Vals xs us->xs[i]?=none->us[i]?=none:=λ{xs us i} r e=>by
 have h1:=r.length
 have h2:xs.length<=i:=List.getElem?_eq_none_iff.mp e
 exact List.getElem?_eq_none_iff.mpr (by omega)
def RelO:Option V->Option Value->Prop
 | some v,some u=>RelV v u
 | none,none=>True
 | _,_=>False
def KV {κ:Type}:List (κ×V)->List (κ×Value)->Prop:=Paired λ(p:κ×V) (q:κ×Value)=>p.1=q.1/\RelV p.2 q.2
def kV:Key->V
 | .inl i=>.int i
 | .inr x=>.str x
inductive HO where
 | lst (xs:List V)
 | tup (xs:List V)
 | dK (kvs:List (Key×V)) | dT (kvs:List (List Key×V))
 | set (S:Int->Bool) (n:Nat)
 | ins (C dx:Addr) (fs:List (Str×V))
 | own (x:Addr)
 | xd (fs:List (Str×V))
 | met (f x:Addr)
 | rng (lo hi:Int)
 | frz (o:Obj) (u:HO)
 | tbl (ps:Array Value)
 | ext (φ:Heap->Prop)
abbrev Hp:=Addr->Option HO
def upd (H:Hp) (a:Addr) (o:HO):Hp:=λb=>if b=a then some o else H b
theorem q0p {H:Hp} {a:Addr} {o:HO}:upd H a o a=some o:=by unfold upd;rw [if_pos rfl]
theorem q0h {H:Hp} {a b:Addr} {o:HO} (h:b≠a):upd H a o b=H b:=by unfold upd;rw [if_neg h]
theorem q1x {H:Hp} {a b:Addr} {o:HO} (h:H a=some o) (h':H b=none):a≠b:=by
 intro e;subst e;rw [h] at h';cases h'
section
variable (P:Program) (w:World)
def ObjOk (H:Hp) (h:Heap) (a:Addr):HO->Prop
 | .lst xs=>xs.length<=sizeLine/\∃(its:List Value) (n:Nat),Vals xs its/\h.get? a=some { cls:=.type "list",data:=.seq its.toArray n }
 | .tup xs=>xs.length<=sizeLine/\∃its:List Value,Vals xs its/\IsTup h a its.toArray
 | .dK kvs=>kvs.length<=sizeLine/\(a==sysModules)=false/\∃vs,KV kvs vs/\h.DictOf (q40 P w) a vs
 | .dT kvs=>kvs.length<=sizeLine/\(a==sysModules)=false/\∃xs:List (List Key×Addr×Value),
  Paired (λ(p:List Key×V) (q:List Key×Addr×Value)=>p.1=q.1/\H q.2.1=some (.tup (p.1.map kV))/\RelV p.2 q.2.2) kvs xs /\
  ∃o es ep,h.get? a=some o/\o.ExactDict/\o.data=.dict es ep/\es.toList=xs.map (entryOfKey (tupleKind (q40 P w)))/\(xs.map (·.1)).Nodup
 | .set S n=>h.SetOf (intKind P w) a S n
 | .ins C dx fs=>H dx=some (.own a)/\fs.length<=1000/\dx≠a/\h.get? a=some (PySem.W.instObj C dx) /\
  ∃mA,h.Ns1 dx mA/\(∀f,RelO (fs.lookup f) (mA f))/\PySem.Within mA (fs.map (·.1))
 | .own _=>∃o,h.get? a=some o
 | .xd fs=>∃mA,h.Ns1 a mA/\∀f,RelO (fs.lookup f) (mA f)
 | .rng lo hi=>∃t u v,h.get? a=some { cls:=.type "range",data:=.fields #[.int lo t,.int hi u,.int 1 v] }
 | .frz o u=>h.get? a=some o/\ObjOk H h a u
 | .tbl ps=>h.get? a=some { cls:=.none,data:=.fields ps }
 | .met f x=>h.get? a=some (PySem.W.methodObj (.ref f) (.ref x))
 | .ext φ=>φ h/\(∃o,h.get? a=some o)/\∀h1 h2:Heap,φ h1->(∀o,h1.get? a=some o->h2.get? a=some o)->φ h2
def HOk (H:Hp) (h:Heap):Prop:=∀a o,H a=some o->ObjOk P w H h a o
end
section
variable {P:Program} {w:World} {H H':Hp} {h h':Heap} {a:Addr} {o:HO}
theorem ObjOk.lt (x:ObjOk P w H h a o):a < h.objs.size:=by
 cases o with
 | lst xs=>obtain ⟨_,_,_,_,e⟩:=x;exact Heap.lt_size e
 | tup xs=>obtain ⟨_,_,_,p⟩:=x;exact p.lt
 | dK kvs=>obtain ⟨_,_,_,_,o,_,_,e,_⟩:=x;exact Heap.lt_size e
 | dT kvs=>obtain ⟨_,_,_,_,o,_,_,e,_⟩:=x;exact Heap.lt_size e
 | set S n=>obtain ⟨o,_,_,_,e,_⟩:=x;exact Heap.lt_size e
 | ins C dx fs=>obtain ⟨_,_,_,e,_⟩:=x;exact Heap.lt_size e
 | own y=>obtain ⟨_,e⟩:=x;exact Heap.lt_size e
 | xd fs=>obtain ⟨_,⟨_,_,_,e,_⟩,_⟩:=x;exact Heap.lt_size e
 | rng lo hi=>obtain ⟨_,_,_,e⟩:=x;exact Heap.lt_size e
 | frz ob u=>obtain ⟨e,_⟩:=x;exact Heap.lt_size e
 | tbl ps=>exact Heap.lt_size (show h.get? a=some _ from x)
 | met f y=>exact Heap.lt_size (show h.get? a=some _ from x)
 | ext φ=>obtain ⟨_,⟨_,e⟩,_⟩:=x;exact Heap.lt_size e
theorem Paired.mapP {α β:Type} {F G:α->β->Prop}:∀{l₁:List α} {l₂:List β},Paired F l₁ l₂->(∀a b,F a b->G a b)->Paired G l₁ l₂
 | _,_,.nil,_=>.nil
 | _,_,.cons r t,f=>.cons (f _ _ r) (Paired.mapP t f)
theorem ObjOk.stay (x:ObjOk P w H h a o) (k:∀b u,(b=a∨H b=some (.own a))->h.get? b=some u->h'.get? b=some u)
 (ho:∀b,H b=some (.own a)->H' b=some (.own a)) (ht:∀b xs,H b=some (.tup xs)->H' b=some (.tup xs)):ObjOk P w H' h' a o:=by
 induction o with
 | lst xs=>obtain ⟨z,its,n,r,e⟩:=x;exact ⟨z,its,n,r,k _ _ (.inl rfl) e⟩
 | tup xs=>obtain ⟨z,its,r,ob,e,c⟩:=x;exact ⟨z,its,r,ob,k _ _ (.inl rfl) e,c⟩
 | dK kvs=>obtain ⟨z,y,vs,r,ob,es,ep,e,c⟩:=x;exact ⟨z,y,vs,r,ob,es,ep,k _ _ (.inl rfl) e,c⟩
 | dT kvs=>
  obtain ⟨z,y,xs,r,ob,es,ep,e,c⟩:=x
  exact ⟨z,y,xs,Paired.mapP r λp q z=>⟨z.1,ht _ _ z.2.1,z.2.2⟩,ob,es,ep,k _ _ (.inl rfl) e,c⟩
 | set S n=>obtain ⟨ob,es,ep,t,e,c⟩:=x;exact ⟨ob,es,ep,t,k _ _ (.inl rfl) e,c⟩
 | ins C dx fs=>
  obtain ⟨d,z,ne,e,mA,⟨od,es,ep,e2,c⟩,r⟩:=x
  exact ⟨ho _ d,z,ne,k _ _ (.inl rfl) e,mA,⟨od,es,ep,k _ _ (.inr d) e2,c⟩,r⟩
 | own y=>obtain ⟨ob,e⟩:=x;exact ⟨ob,k _ _ (.inl rfl) e⟩
 | xd fs=>obtain ⟨mA,⟨od,es,ep,e,c⟩,r⟩:=x;exact ⟨mA,⟨od,es,ep,k _ _ (.inl rfl) e,c⟩,r⟩
 | rng lo hi=>obtain ⟨t,u,v,e⟩:=x;exact ⟨t,u,v,k _ _ (.inl rfl) e⟩
 | frz ob u ih=>obtain ⟨e,q⟩:=x;exact ⟨k _ _ (.inl rfl) e,ih q⟩
 | tbl ps=>
  have e:h.get? a=some { cls:=.none,data:=.fields ps }:=x
  show h'.get? a=some { cls:=.none,data:=.fields ps }
  exact k a _ (.inl rfl) e
 | met f y=>
  have e:h.get? a=some (PySem.W.methodObj (.ref f) (.ref y)):=x
  show h'.get? a=some (PySem.W.methodObj (.ref f) (.ref y))
  exact k a _ (.inl rfl) e
 | ext φ=>obtain ⟨p,⟨o,e⟩,st⟩:=x;exact ⟨st _ _ p λo q=>k _ _ (.inl rfl) q,⟨o,k _ _ (.inl rfl) e⟩,st⟩
theorem HOk.lt (x:HOk P w H h) (e:H a=some o):a < h.objs.size:=(x a o e).lt
theorem HOk.fresh (x:HOk P w H h) (e:h.objs.size<=a):H a=none:=by
 cases q:H a with
 | none=>rfl
 | some u=>exact absurd (Nat.lt_of_lt_of_le (x.lt q) e) (Nat.lt_irrefl _)
theorem HOk.kept (x:HOk P w H h) (k:∀b u,h.get? b=some u->h'.get? b=some u):HOk P w H h':=λa o e=>
 (x a o e).stay (λb u _ q=>k b u q) (λ_ q=>q) λ_ _ q=>q
theorem HOk.laid (x:HOk P w H h) (k:∀b u,h.get? b=some u->h'.get? b=some u) (hp:h.objs.size<=a) (new:ObjOk P w (upd H a o) h' a o):HOk P w (upd H a o) h':=λb u e=>by
 have hn:=x.fresh hp
 by_cases hb:b=a
 ·subst hb;rw [q0p] at e;cases e;exact new
 ·rw [q0h hb] at e
  exact (x b u e).stay (λc v _ q=>k c v q) (λc q=>by rw [q0h (q1x q hn)];exact q) λc xs q=>by rw [q0h (q1x q hn)];exact q
end
def Rd (H:Hp) (a:Addr) (u:HO):Prop:=H a=some u∨∃o,H a=some (.frz o u)
theorem Rd.of {H:Hp} {a:Addr} {u:HO} (h:H a=some u):Rd H a u:=.inl h
theorem Rd.ok {P:Program} {w:World} {H:Hp} {h:Heap} {a:Addr} {u:HO} (r:Rd H a u) (x:HOk P w H h):ObjOk P w H h a u:=by
 rcases r with r | ⟨o,r⟩
 ·exact x a u r
 ·obtain ⟨_,q⟩:=x a _ r
  exact q
def Mut:Option HO->Prop
 | some (.lst _)=>True
 | some (.dK _)=>True
 | some (.dT _)=>True
 | some (.set _ _)=>True
 | some (.ins _ _ _)=>True
 | some (.ext _)=>True
 | _=>False
section
variable {P:Program} {w:World} {H:Hp} {h h':Heap} {x e:Addr} {o':HO}
theorem HOk.write (ok:HOk P w H h) (mu:Mut (H x)) (he:e=x∨H e=some (.own x)) (k:∀b u,b≠e->h.get? b=some u->h'.get? b=some u) (heo:∃u,h'.get? e=some u)
 (new:ObjOk P w (upd H x o') h' x o'):HOk P w (upd H x o') h':=λb u q=>by
 have nown:∀c y,H c=some (.own y)->c≠x:=λc y r z=>by subst z;rw [r] at mu;exact mu
 have ntup:∀c xs,H c=some (.tup xs)->c≠x:=λc xs r z=>by subst z;rw [r] at mu;exact mu
 by_cases hb:b=x
 ·subst hb;rw [q0p] at q;cases q;exact new
 ·rw [q0h hb] at q
  by_cases hbe:b=e
  ·have q':H b=some (.own x):=by
    rcases he with z | z
    ·exact absurd (hbe.trans z) hb
    ·rw [hbe];exact z
   rw [q] at q';cases q'
   obtain ⟨v,hv⟩:=heo
   exact ⟨v,by rw [hbe];exact hv⟩
  ·refine (ok b u q).stay (λc v hc r=>k c v ?_ r) (λc r=>by rw [q0h (nown c b r)];exact r) λc xs r=>by rw [q0h (ntup c xs r)];exact r
   rcases hc with rfl | hc
   ·exact hbe
   ·rintro rfl
    rcases he with z | z
    ·exact nown c b hc z
    ·rw [hc] at z;cases z;exact hb rfl
end
structure Un (fs ex:List Addr) (H H':Hp) (h h':Heap):Prop where
 keep:∀b o,h.get? b=some o->H b=none->b∉fs->b∉ex->h'.get? b=some o
 slot:∀b o,h.get? b=some o->H b=none->b∈fs->b∉ex->∃sl,h'.get? b=some { o with slots:=sl }
 free:∀b o,h.get? b=some o->H b=none->b∉ex->H' b=none
 there:∀b o,h.get? b=some o->b∉ex->∃o',h'.get? b=some o'
 tups:∀b xs,H b=some (.tup xs)->H' b=some (.tup xs)
 frzs:∀b o u,H b=some (.frz o u)->H' b=some (.frz o u)
 tbls:∀b ps,H b=some (.tbl ps)->∃more,H' b=some (.tbl (ps++more))
section
variable {fs fs' ex ex':List Addr} {H H1 H2:Hp} {h h1 h2 h':Heap} {a x e:Addr} {o:HO}
theorem Un.any (u:Un fs ex H H1 h h1) {b:Addr} {ob:Obj} (q:h.get? b=some ob) (n:H b=none) (hx:b∉ex):∃sl,h1.get? b=some { ob with slots:=sl }:=by
 by_cases hb:b∈fs
 ·exact u.slot b ob q n hb hx
 ·exact ⟨ob.slots,u.keep b ob q n hb hx⟩
theorem Un.trans (a:Un fs ex H H1 h h1) (b:Un fs ex H1 H2 h1 h2):Un fs ex H H2 h h2 where
 keep:=λc ob q n hc hx=>b.keep c ob (a.keep c ob q n hc hx) (a.free c ob q n hx) hc hx
 slot:=λc ob q n hc hx=>by
  obtain ⟨sl,e1⟩:=a.slot c ob q n hc hx
  obtain ⟨sl',e2⟩:=b.slot c _ e1 (a.free c ob q n hx) hc hx
  exact ⟨sl',e2⟩
 free:=λc ob q n hx=>by
  obtain ⟨o',e1⟩:=a.there c ob q hx
  exact b.free c o' e1 (a.free c ob q n hx) hx
 there:=λc ob q hx=>by
  obtain ⟨o',e1⟩:=a.there c ob q hx
  exact b.there c o' e1 hx
 tups:=λc xs q=>b.tups c xs (a.tups c xs q)
 frzs:=λc ob xs q=>b.frzs c ob xs (a.frzs c ob xs q)
 tbls:=λc ps q=>by
  obtain ⟨m1,e1⟩:=a.tbls c ps q
  obtain ⟨m2,e2⟩:=b.tbls c _ e1
  exact ⟨m1++m2,by rw [e2,Array.append_assoc]⟩
theorem Un.kept (k:∀b u,h.get? b=some u->h'.get? b=some u):Un fs ex H H h h':=
 ⟨λb ob q _ _ _=>k b ob q,λb ob q _ _ _=>⟨ob.slots,k b ob q⟩,λ_ _ _ n _=>n,λb ob q _=>⟨ob,k b ob q⟩,λ_ _ q=>q,λ_ _ _ q=>q,λ_ ps q=>⟨#[],by rw [q];simp⟩⟩
theorem Un.refl:Un fs ex H H h h:=Un.kept λ_ _ q=>q
theorem Un.laid (k:∀b u,h.get? b=some u->h'.get? b=some u) (hp:h.objs.size<=a) (hn:H a=none):Un fs ex H (upd H a o) h h' where
 keep:=λb u q _ _ _=>k b u q
 slot:=λb u q _ _ _=>⟨u.slots,k b u q⟩
 free:=λb u q n _=>by rw [q0h (Nat.ne_of_lt (Nat.lt_of_lt_of_le (Heap.lt_size q) hp))];exact n
 there:=λb u q _=>⟨u,k b u q⟩
 tups:=λb xs q=>by rw [q0h (q1x q hn)];exact q
 frzs:=λb u xs q=>by rw [q0h (q1x q hn)];exact q
 tbls:=λb ps q=>⟨#[],by rw [q0h (q1x q hn),q];simp⟩
theorem Un.write (mu:Mut (H x)) (he:e=x∨H e=some (.own x)) (k:∀b u,b≠e->h.get? b=some u->h'.get? b=some u) (heo:∃u,h'.get? e=some u):Un fs ex H (upd H x o) h h':=by
 have hx:∀b,H b=none->b≠x:=λb n z=>by subst z;rw [n] at mu;exact mu
 have hb:∀b,H b=none->b≠e:=λb n z=>by
  subst z
  rcases he with r | r
  ·exact hx b n r
  ·rw [n] at r;cases r
 have hm:∀b u,H b=some u->¬Mut (some u)->b≠x:=λb u q nm z=>by subst z;rw [q] at mu;exact nm mu
 refine ⟨λb u q n _ _=>k b u (hb b n) q,λb u q n _ _=>⟨u.slots,k b u (hb b n) q⟩,λb u q n _=>by rw [q0h (hx b n)];exact n,λb u q _=>?_,
  λb xs q=>by rw [q0h (hm b _ q λz=>z)];exact q,λb u xs q=>by rw [q0h (hm b _ q λz=>z)];exact q,λb ps q=>⟨#[],by rw [q0h (hm b _ q λz=>z),q];simp⟩⟩
 by_cases hbe:b=e
 ·subst hbe;exact heo
 ·exact ⟨u,k b u hbe q⟩
theorem Un.mono (u:Un fs ex H H1 h h1) (hs:∀b∈fs,b∈fs') (hx:∀b∈ex,b∈ex'):Un fs' ex' H H1 h h1:=
 ⟨λb ob q n hb he=>u.keep b ob q n (λz=>hb (hs b z)) λz=>he (hx b z),λ_ _ q n _ he=>u.any q n λz=>he (hx _ z),λb ob q n he=>u.free b ob q n λz=>he (hx b z),λb ob q he=>u.there b ob q λz=>he (hx b z),u.tups,u.frzs,u.tbls⟩
end
def trk (h:Heap) (H:Hp):List Addr:=(List.range h.objs.size).filter λa=>(H a).isSome
def q9F (h:Heap) (H:Hp):Heap:=PySem.W.hideAll h (trk h H)
theorem q6V (h:Heap) (H:Hp):(q9F h H).objs.size=h.objs.size:=PySem.W.hideAll_size _ _
theorem q9k {h:Heap} {H:Hp} {b:Addr} {o:Obj} (e:h.get? b=some o) (n:H b=none):(q9F h H).get? b=some o:=
 PySem.W.hideAll_get _ e λhm=>by
  have q:(H b).isSome=true:=(List.mem_filter.mp hm).2
  rw [n] at q;simp at q
theorem j1M {h:Heap} {H:Hp} {b:Addr} {o:Obj} (e:(q9F h H).get? b=some o):h.get? b=some o/\H b=none:=by
 have e':h.get? b=some o:=PySem.W.of_hideAll (trk h H) e
 refine ⟨e',?_⟩
 cases q:H b with
 | none=>rfl
 | some x=>
  have hm:b∈trk h H:=List.mem_filter.mpr ⟨List.mem_range.mpr (Heap.lt_size e'),by simp [q]⟩
  have z:(q9F h H).get? b=none:=PySem.W.hideAll_none (trk h H) hm
  rw [z] at e;cases e
def j1u (g h:Heap) (L:Addr):List (Addr×Obj):=(List.range h.objs.size).filterMap λa=>if a=L∨(g.get? a).isSome=true then none else (h.get? a).map λo=>(a,o)
def rest (g h:Heap) (L d:Addr):List (Addr×Obj):=(j1u g h L).filter λp=>decide (p.1≠d)
structure Mod (K:PySem.W.Frag) (mg:Str->Option Value) (base:Heap):Prop where
 kin:K.In base
 glob:base.Ns mainGlobals mg
 blt:∃mb,base.Ns builtinsNs mb/\∀x:Str,x≠"__name__"->mb x=bootBuiltins x
 nolimit:base.NoLimit
structure Cx where
 prog:Program
 w:World
 K:PySem.W.Frag
 mg:Str->Option Value
 base:Heap
 A:Around
 N:List Str
 s₀:Shared
 H₀:Hp
 env:Env
 outer:List Env
 stack:List Env
 ex:List Addr
 fn:Str->Bool
 calm:Bool
 pn:List (Addr×Obj)
 xe:Value->Shared->Prop
def frs (l:List Env):List Addr:=l.filterMap (·.frame)
abbrev Cx.fs (X:Cx):List Addr:=frs X.outer
def Vis (sc:Scope) (x:Str):Prop:=sc.names.lookup x=some .local∨sc.names.lookup x=some .cell∨sc.names.lookup x=some .free
def Loc (sc:Scope) (x:Str):Prop:=sc.names.lookup x=some .local∨sc.names.lookup x=some .cell
def Look (env:Env) (h:Heap) (m:Str->Option Value) (x:Str) (u:Value):Prop:=
 (env.kindOf x=some .local/\m x=some u)∨((env.kindOf x=some .cell∨env.kindOf x=some .free)/\∃c,env.cells.lookup x=some c/\h.IsCell c (some u))
structure Cx.Ok (X:Cx):Prop where
 mod:Mod X.K X.mg X.base
 kind:X.env.scope.kind=.function
 glob:X.env.globals=mainGlobals
 blt:X.env.builtins=builtinsNs
 above:X.s₀.heap.objs.size<=X.env.locals
 inj:∀x y c,X.env.cells.lookup x=some c->X.env.cells.lookup y=some c->x=y
 has:∀x,(X.env.kindOf x=some .cell∨X.env.kindOf x=some .free)->∃c,X.env.cells.lookup x=some c
 cab:∀x c,X.fn x=true->X.env.cells.lookup x=some c->X.s₀.heap.objs.size<=c
 hd:X.calm=true->X.A.handled=none
 frames:X.A.frames=some X.stack
 stk:X.stack=X.outer∨(X.stack=X.env::X.outer/\X.env.frame=some X.env.locals)
 exf:∀b∈X.ex,b≠X.env.locals/\∀x c,X.env.cells.lookup x=some c->c≠b
 bs:∀b o,X.base.get? b=some o->X.s₀.heap.get? b=some o/\X.H₀ b=none
 bsz:X.base.objs.size<=X.s₀.heap.objs.size
 noex:∀b o,X.base.get? b=some o->b∉X.ex
 exfs:∀b∈X.ex,b∉X.fs
 funs:X.s₀.heap.FunFrames X.base X.outer
 frf:∀b∈X.fs,X.H₀ b=none
structure Inv (X:Cx) (pins:List (Addr×Obj)) (σ:List (Option V)) (H:Hp) (s:Shared):Prop where
 ok:X.Ok
 os:s.os=X.s₀.os
 bare:AllBare s.gens
 base:Un X.fs X.ex X.H₀ H X.s₀.heap s.heap
 loc:∃m,s.heap.Ns X.env.locals m/\∀(i:Nat) (x:Str) (v:V),X.N[i]?=some x->σ[i]?=some (some v)->Vis X.env.scope x->∃u,RelV v u/\Look X.env s.heap m x u
 cell:∀x c,X.env.cells.lookup x=some c->∃v,s.heap.IsCell c v
 free:H X.env.locals=none
 freeC:∀x c,X.env.cells.lookup x=some c->H c=none
 pin:∀p∈X.pn++pins,s.heap.get? p.1=some p.2/\H p.1=none/\p.1≠X.env.locals/\p.1∉X.fs/\∀v,p.2.data≠.cell v
 hok:HOk X.prog X.w H s.heap
 len:σ.length=X.N.length
section
variable {X:Cx} {pins:List (Addr×Obj)} {σ:List (Option V)} {H H':Hp} {s:Shared} {h':Heap}
theorem Cx.Ok.nofr (ok:X.Ok) {b:Addr} {o:Obj} (e:X.base.get? b=some o):b∉X.fs:=λhb=>by
 have:=(ok.funs.mem hb).1
 rw [e] at this;cases this
theorem Inv.bs (I:Inv X pins σ H s):∀b o,X.base.get? b=some o->s.heap.get? b=some o/\H b=none:=λb o e=>
 ⟨I.base.keep b o (I.ok.bs b o e).1 (I.ok.bs b o e).2 (I.ok.nofr e) (I.ok.noex b o e),I.base.free b o (I.ok.bs b o e).1 (I.ok.bs b o e).2 (I.ok.noex b o e)⟩
theorem Inv.bk (I:Inv X pins σ H s):∀b o,X.base.get? b=some o->s.heap.get? b=some o:=λb o e=>(I.bs b o e).1
theorem Inv.mod (I:Inv X pins σ H s):Mod X.K X.mg X.base:=I.ok.mod
theorem Inv.kIn (I:Inv X pins σ H s):X.K.In s.heap:=I.ok.mod.kin.keeps I.bk
theorem Inv.nolimit (I:Inv X pins σ H s):s.heap.NoLimit:=I.ok.mod.nolimit.keeps I.bk
theorem Inv.fr (I:Inv X pins σ H s):∃m,Fr X.base X.env.locals s.heap m:=
 let ⟨m,hn,_⟩:=I.loc
 ⟨m,hn,I.bk,Nat.le_trans I.ok.bsz I.ok.above⟩
theorem Inv.lt (I:Inv X pins σ H s):X.env.locals < s.heap.objs.size:=let ⟨_,hn,_⟩:=I.loc;hn.lt
theorem Inv.sz (I:Inv X pins σ H s):X.s₀.heap.objs.size<=s.heap.objs.size:=Nat.le_trans I.ok.above (Nat.le_of_lt I.lt)
theorem Inv.nofs (I:Inv X pins σ H s) {a:Addr} (h:s.heap.objs.size<=a):a∉X.fs:=λhb=>by
 obtain ⟨_,o,ho,_⟩:=I.ok.funs.mem hb
 exact absurd (Nat.lt_of_lt_of_le (Heap.lt_size ho) (Nat.le_trans I.sz h)) (Nat.lt_irrefl _)
theorem Inv.cne (I:Inv X pins σ H s):∀x c,X.env.cells.lookup x=some c->c≠X.env.locals:=λx c e z=>by
 obtain ⟨v,o,ho,hd⟩:=I.cell x c e
 obtain ⟨m,⟨o',es,ep,ho',hd',_⟩,_⟩:=I.loc
 rw [z,ho'] at ho;cases ho;rw [hd'] at hd;cases hd
theorem Inv.funs (I:Inv X pins σ H s):s.heap.FunFrames X.base X.outer:=by
 have all:∀(l:List Env),(∀b∈frs l,b∈X.fs)->X.s₀.heap.FunFrames X.base l->s.heap.FunFrames X.base l:=by
  intro l
  induction l with
  | nil=>intro _ _;trivial
  | cons env r ih=>
   intro hs hl
   obtain ⟨hk,⟨L,o,hf,hn,ho,hd⟩,hr⟩:=hl
   have hL:L∈X.fs:=hs L (by unfold frs;rw [List.filterMap_cons,hf];exact List.mem_cons_self)
   obtain ⟨sl,e⟩:=I.base.slot L o ho (I.ok.frf L hL) hL λz=>I.ok.exfs L z hL
   exact ⟨hk,⟨L,_,hf,hn,e,hd⟩,ih (λb hb=>hs b (by unfold frs;rw [List.filterMap_cons,hf];exact List.mem_cons_of_mem _ hb)) hr⟩
 exact all X.outer (λ_ hb=>hb) I.ok.funs
theorem Inv.stack (I:Inv X pins σ H s):s.heap.FunFrames X.base X.stack:=by
 rcases I.ok.stk with e | ⟨e,hf⟩
 ·rw [e];exact I.funs
 ·rw [e]
  obtain ⟨m,hn,_⟩:=I.loc
  refine .cons (by rw [I.ok.kind];decide) hf hn ?_ I.funs
  exact Heap.get?_none_of_le (Nat.le_trans I.ok.bsz I.ok.above)
theorem Inv.stkSub (I:Inv X pins σ H s):∀b∈frs X.stack,b∈X.env.locals::X.fs:=λb hb=>by
 rcases I.ok.stk with e | ⟨e,hf⟩
 ·rw [e] at hb;exact List.mem_cons_of_mem _ hb
 ·rw [e] at hb
  unfold frs at hb
  rw [List.filterMap_cons,hf] at hb
  exact hb
theorem Inv.stkFree (I:Inv X pins σ H s):∀b∈frs X.stack,H b=none:=λb hb=>by
 rcases List.mem_cons.mp (I.stkSub b hb) with e | hb
 ·rw [e];exact I.free
 ·obtain ⟨_,o,ho,_⟩:=I.ok.funs.mem hb
  exact I.base.free b o ho (I.ok.frf b hb) λz=>I.ok.exfs b z hb
theorem Inv.step {g':Array GenState} {t':Nat} {d':Drawn} {ch:List Addr} (I:Inv X pins σ H s)
 (hch:∀b∈ch,(b∈X.ex∨X.s₀.heap.objs.size<=b)/\b≠X.env.locals/\(∀x c,X.env.cells.lookup x=some c->c≠b)/\∀p∈X.pn++pins,p.1≠b)
 (keep:∀b o,b≠X.env.locals->b∉X.fs->b∉ch->s.heap.get? b=some o->H b=none->h'.get? b=some o)
 (slot:∀b o,b≠X.env.locals->b∈X.fs->b∉ch->s.heap.get? b=some o->H b=none->∃sl,h'.get? b=some { o with slots:=sl }) (free:∀b o,b∉ch->s.heap.get? b=some o->H b=none->H' b=none)
 (there:∀b o,b∉ch->s.heap.get? b=some o->∃o',h'.get? b=some o')
 (tups:∀b xs,H b=some (.tup xs)->H' b=some (.tup xs)) (frzs:∀b o u,H b=some (.frz o u)->H' b=some (.frz o u)) (tbls:∀b ps,H b=some (.tbl ps)->∃more,H' b=some (.tbl (ps++more)))
 (ns:∀m,s.heap.Ns X.env.locals m->h'.Ns X.env.locals m) (hok:HOk X.prog X.w H' h') (hg:AllBare g') :
 Inv X pins σ H' { s with heap:=h',gens:=g',drawn:=d',toks:=t' }:=by
 have neL:∀b o,X.s₀.heap.get? b=some o->b≠X.env.locals:=λb o e=>Nat.ne_of_lt (Nat.lt_of_lt_of_le (Heap.lt_size e) I.ok.above)
 have neC:∀b o,X.s₀.heap.get? b=some o->b∉X.ex->b∉ch:=λb o e hx hb=>by
  rcases (hch b hb).1 with z | z
  ·exact hx z
  ·exact absurd (Nat.lt_of_lt_of_le (Heap.lt_size e) z) (Nat.lt_irrefl _)
 have cellK:∀x c,X.env.cells.lookup x=some c->∀v,s.heap.IsCell c v->h'.IsCell c v:=λx c e v ⟨o,ho,hd⟩=>by
  have nch:c∉ch:=λz=>(hch c z).2.2.1 x c e rfl
  by_cases hc:c∈X.fs
  ·obtain ⟨sl,q⟩:=slot c o (I.cne x c e) hc nch ho (I.freeC x c e)
   exact ⟨_,q,hd⟩
  ·exact ⟨o,keep c o (I.cne x c e) hc nch ho (I.freeC x c e),hd⟩
 refine ⟨I.ok,I.os,hg,⟨λb o e n hb hx=>?_,λb o e n hb hx=>?_,λb o e n hx=>?_,λb o e hx=>?_,λb xs e=>tups b xs (I.base.tups b xs e),λb o xs e=>frzs b o xs (I.base.frzs b o xs e),λb ps e=>?_⟩,?_,λx c e=>?_,?_,λx c e=>?_,λp hp=>?_,hok,I.len⟩
 ·exact keep b o (neL b o e) hb (neC b o e hx) (I.base.keep b o e n hb hx) (I.base.free b o e n hx)
 ·obtain ⟨sl,e1⟩:=I.base.slot b o e n hb hx
  obtain ⟨sl',e2⟩:=slot b _ (neL b o e) hb (neC b o e hx) e1 (I.base.free b o e n hx)
  exact ⟨sl',e2⟩
 ·obtain ⟨o',e1⟩:=I.base.there b o e hx
  exact free b o' (neC b o e hx) e1 (I.base.free b o e n hx)
 ·obtain ⟨o',e1⟩:=I.base.there b o e hx
  exact there b o' (neC b o e hx) e1
 ·obtain ⟨m1,e1⟩:=I.base.tbls b ps e
  obtain ⟨m2,e2⟩:=tbls b _ e1
  exact ⟨m1++m2,by rw [e2,Array.append_assoc]⟩
 ·obtain ⟨m,hn,hl⟩:=I.loc
  refine ⟨m,ns m hn,λi x v e1 e2 e3=>?_⟩
  obtain ⟨u,r,l⟩:=hl i x v e1 e2 e3
  refine ⟨u,r,?_⟩
  rcases l with l | ⟨k,c,e,z⟩
  ·exact .inl l
  ·exact .inr ⟨k,c,e,cellK x c e _ z⟩
 ·obtain ⟨v,z⟩:=I.cell x c e
  exact ⟨v,cellK x c e v z⟩
 ·obtain ⟨m,⟨o,_,_,ho,_⟩,_⟩:=I.loc
  exact free _ o (λz=>(hch _ z).2.1 rfl) ho I.free
 ·obtain ⟨v,o,ho,hd⟩:=I.cell x c e
  exact free c o (λz=>(hch c z).2.2.1 x c e rfl) ho (I.freeC x c e)
 ·obtain ⟨e,n,ne,nf,d⟩:=I.pin p hp
  have nch:p.1∉ch:=λz=>(hch p.1 z).2.2.2 p hp rfl
  exact ⟨keep p.1 p.2 ne nf nch e n,free p.1 p.2 nch e n,ne,nf,d⟩
theorem Inv.un {t':Nat} (I:Inv X pins σ H s) (u:Un X.fs [] H H' s.heap h') (hok:HOk X.prog X.w H' h'):Inv X pins σ H' { s with heap:=h',toks:=t' }:=by
 obtain ⟨m,⟨o,es,ep,ho,r⟩,_⟩:=id I.loc
 obtain ⟨sl,hL⟩:=u.any ho I.free (by simp)
 exact I.step (g':=s.gens) (d':=s.drawn) (ch:=[]) (λ_ z=>nomatch z) (λb o _ hb _ e n=>u.keep b o e n hb (by simp)) (λb o _ hb _ e n=>u.slot b o e n hb (by simp)) (λb o _ e n=>u.free b o e n (by simp)) (λb o _ e=>u.there b o e (by simp)) u.tups u.frzs u.tbls (λm' hm=>by
  obtain ⟨o',es',ep',ho',r'⟩:=hm
  rw [ho] at ho';cases ho'
  exact ⟨_,es',ep',hL,r'⟩) hok I.bare
theorem Inv.call {g':Array GenState} {t':Nat} {d':Drawn} {ch:List Addr} (I:Inv X pins σ H s) (u:Un (frs X.stack) ch H H' s.heap h') (hok:HOk X.prog X.w H' h') (hg:AllBare g')
 (hch:∀b∈ch,(b∈X.ex∨X.s₀.heap.objs.size<=b)/\b≠X.env.locals/\(∀x c,X.env.cells.lookup x=some c->c≠b)/\∀p∈X.pn++pins,p.1≠b) :
 Inv X pins σ H' { s with heap:=h',gens:=g',drawn:=d',toks:=t' }:=by
 obtain ⟨m,⟨o,es,ep,ho,r⟩,_⟩:=id I.loc
 obtain ⟨sl,hL⟩:=u.any ho I.free λz=>(hch _ z).2.1 rfl
 exact I.step (ch:=ch) hch (λb o hL hb hc e n=>u.keep b o e n (λz=>(List.mem_cons.mp (I.stkSub b z)).elim hL hb) hc) (λb o _ _ hc e n=>u.any e n hc) (λb o hc e n=>u.free b o e n hc) (λb o hc e=>u.there b o e hc) u.tups u.frzs u.tbls (λm' hm=>by
  obtain ⟨o',es',ep',ho',r'⟩:=hm
  rw [ho] at ho';cases ho'
  exact ⟨_,es',ep',hL,r'⟩) hok hg
theorem Inv.turned {t':Nat} {it:Addr} (I:Inv X pins σ H s) (k:∀b o,b≠it->s.heap.get? b=some o->h'.get? b=some o) (hn:H it=none) (hL:it≠X.env.locals)
 (h1:it∈X.ex∨X.s₀.heap.objs.size<=it) (h2:∀x c,X.env.cells.lookup x=some c->c≠it) (h3:∀p∈X.pn++pins,p.1≠it):Inv X pins σ H { s with heap:=h',toks:=t' }:=by
 have nit:∀b u,H b=some u->b≠it:=λb u e z=>by rw [z,hn] at e;cases e
 refine I.step (g':=s.gens) (d':=s.drawn) (ch:=[it]) (λb hb=>?_) (λb o _ _ hc e _=>k b o (λz=>hc (by simp [z])) e) (λb o _ _ hc e _=>⟨o.slots,k b o (λz=>hc (by simp [z])) e⟩) (λ_ _ _ _ n=>n)
  (λb o hc e=>⟨o,k b o (λz=>hc (by simp [z])) e⟩) (λ_ _ e=>e) (λ_ _ _ e=>e) (λb ps e=>⟨#[],by rw [e];simp⟩) (λm hm=>?_) (λb u e=>?_) I.bare
 ·have e:b=it:=by simpa using hb
  subst e
  exact ⟨h1,hL,h2,h3⟩
 ·obtain ⟨o,es,ep,ho,r⟩:=hm
  exact ⟨o,es,ep,k _ o (Ne.symm hL) ho,r⟩
 ·refine (I.hok b u e).stay (λc v hc q=>k c v ?_ q) (λ_ q=>q) λ_ _ q=>q
  rcases hc with z | z
  ·rw [z];exact nit b u e
  ·exact nit c _ z
theorem Inv.tok (I:Inv X pins σ H s) (t:Nat):Inv X pins σ H { s with toks:=t }:=I.un (h':=s.heap) (t':=t) Un.refl I.hok
theorem Inv.kept {t':Nat} (I:Inv X pins σ H s) (k:∀b u,s.heap.get? b=some u->h'.get? b=some u):Inv X pins σ H { s with heap:=h',toks:=t' }:=I.un (Un.kept k) (I.hok.kept k)
theorem Inv.laid {a:Addr} {o:HO} {t':Nat} (I:Inv X pins σ H s) (k:∀b u,s.heap.get? b=some u->h'.get? b=some u) (hp:s.heap.objs.size<=a) (new:ObjOk X.prog X.w (upd H a o) h' a o) :
 Inv X pins σ (upd H a o) { s with heap:=h',toks:=t' }:=I.un (Un.laid k hp (I.hok.fresh hp)) (I.hok.laid k hp new)
theorem Inv.write {x e:Addr} {o:HO} {t':Nat} (I:Inv X pins σ H s) (mu:Mut (H x)) (he:e=x∨H e=some (.own x)) (k:∀b u,b≠e->s.heap.get? b=some u->h'.get? b=some u) (heo:∃u,h'.get? e=some u)
 (new:ObjOk X.prog X.w (upd H x o) h' x o):Inv X pins σ (upd H x o) { s with heap:=h',toks:=t' }:=I.un (Un.write mu he k heo) (I.hok.write mu he k heo new)
theorem Inv.pins_of {pins':List (Addr×Obj)} (I:Inv X pins σ H s) (h:∀p∈pins',s.heap.get? p.1=some p.2/\H p.1=none/\p.1≠X.env.locals/\p.1∉X.fs/\∀v,p.2.data≠.cell v):Inv X pins' σ H s:=
 ⟨I.ok,I.os,I.bare,I.base,I.loc,I.cell,I.free,I.freeC,λp hp=>(List.mem_append.mp hp).elim (λz=>I.pin p (List.mem_append_left _ z)) (h p),I.hok,I.len⟩
theorem q2K {N:List Str} (hN:N.Nodup) {i j:Nat} {x:Str} (a:N[i]?=some x) (b:N[j]?=some x):i=j:=by
 obtain ⟨h1,e1⟩:=List.getElem?_eq_some_iff.mp a
 obtain ⟨h2,e2⟩:=List.getElem?_eq_some_iff.mp b
 exact (List.getElem_inj hN).mp (e1.trans e2.symm)
theorem q4f {M:Model} {A:Around} {E:Value->Shared->Prop} {i:Nat} {x:Str} {v:V} {u:Value} {Q:Unit->Shared->Prop} (I:Inv X pins σ H s) (hN:X.N.Nodup) (hi:X.N[i]?=some x) (hx:Loc X.env.scope x) (r:RelV v u)
 (h:∀s',Inv X pins (σ.set i (some v)) H s'->(∃a,Heap.SameBut a s.heap s'.heap/\(a=X.env.locals∨X.env.cells.lookup x=some a))->Q () s') (hf:X.fn x=true∨X.env.scope.names.lookup x=some .local:=by walk_at "v2"):wpAny M A (storeName X.env x u) Q E s:=by
 obtain ⟨m,hn,hl⟩:=id I.loc
 have hcls:(X.env.scope.kind==.class || (X.env.scope.kind==.module && X.env.locals != X.env.globals))=false:=by rw [I.ok.kind];rfl
 have hiσ:i < σ.length:=by rw [I.len];exact (List.getElem?_eq_some_iff.mp hi).1
 have cne:=I.cne
 have tracked:∀{a:Addr} {h':Heap},(∃o,s.heap.get? a=some o/\H a=none)->Heap.SameBut a s.heap h'->HOk X.prog X.w H h':=λ{a h'} ha hs b ob e=>by
  obtain ⟨_,_,hfree⟩:=ha
  refine (I.hok b ob e).stay (λc w' hc q=>(hs.2 c ?_).trans q) (λ_ q=>q) λ_ _ q=>q
  rintro rfl
  rcases hc with rfl | hc
  ·rw [hfree] at e;cases e
  ·rw [hfree] at hc;cases hc
 rcases hx with hk | hk
 ·refine wpAny_storeName_local hk hn (λh' hn' hs=>?_) hcls
  obtain ⟨oL,_,_,hoL,_⟩:=id hn
  refine h _ ⟨I.ok,I.os,I.bare,⟨λb o e n hb hx=>?_,λb o e n hb hx=>?_,I.base.free,λb o e hx=>?_,I.base.tups,I.base.frzs,I.base.tbls⟩,⟨_,hn',λj y v' e1 e2 e3=>?_⟩,λy c e=>?_,I.free,I.freeC,λp hp=>?_,tracked ⟨oL,hoL,I.free⟩ hs,by simpa using I.len⟩ ⟨_,hs,.inl rfl⟩
  ·exact (hs.2 b (Nat.ne_of_lt (Nat.lt_of_lt_of_le (Heap.lt_size e) I.ok.above))).trans (I.base.keep b o e n hb hx)
  ·obtain ⟨sl,e1⟩:=I.base.slot b o e n hb hx
   exact ⟨sl,(hs.2 b (Nat.ne_of_lt (Nat.lt_of_lt_of_le (Heap.lt_size e) I.ok.above))).trans e1⟩
  ·obtain ⟨o',e1⟩:=I.base.there b o e hx
   exact ⟨o',(hs.2 b (Nat.ne_of_lt (Nat.lt_of_lt_of_le (Heap.lt_size e) I.ok.above))).trans e1⟩
  ·by_cases hj:j=i
   ·subst hj
    rw [hi] at e1;cases e1
    rw [List.getElem?_set_self hiσ] at e2
    cases e2
    exact ⟨u,r,.inl ⟨hk,by simp⟩⟩
   ·rw [List.getElem?_set_ne (Ne.symm hj)] at e2
    obtain ⟨u',r',q⟩:=hl j y v' e1 e2 e3
    refine ⟨u',r',?_⟩
    rcases q with ⟨k,e⟩ | ⟨k,c,e,z⟩
    ·refine .inl ⟨k,?_⟩
     have:y≠x:=λe=>hj (q2K hN e1 (e ▸ hi))
     simp [this,e]
    ·exact .inr ⟨k,c,e,z.sameBut hs (cne y c e)⟩
  ·obtain ⟨w',z⟩:=I.cell y c e
   exact ⟨w',z.sameBut hs (cne y c e)⟩
  ·obtain ⟨e,n,ne,nf,d⟩:=I.pin p hp
   exact ⟨(hs.2 p.1 ne).trans e,n,ne,nf,d⟩
 ·have hfn:X.fn x=true:=by
   rcases hf with z | z
   ·exact z
   ·rw [z] at hk;cases hk
  obtain ⟨c,hc⟩:=I.ok.has x (.inl hk)
  obtain ⟨w',z⟩:=I.cell x c hc
  refine wpAny_storeName_cell I.ok.kind hk hc z (λh' hc' hs=>?_)
  obtain ⟨oc,hoc,hocd⟩:=id z
  refine h { s with heap:=h' } ⟨I.ok,I.os,I.bare,⟨λb o e n hb hx=>?_,λb o e n hb hx=>?_,I.base.free,λb o e hx=>?_,I.base.tups,I.base.frzs,I.base.tbls⟩,⟨m,hn.sameBut hs (Ne.symm (cne x c hc)),λj y v' e1 e2 e3=>?_⟩,λy c' e=>?_,I.free,I.freeC,λp hp=>?_,tracked ⟨oc,hoc,I.freeC x c hc⟩ hs,by simpa using I.len⟩ ⟨c,hs,.inr hc⟩
  ·exact (hs.2 b (Nat.ne_of_lt (Nat.lt_of_lt_of_le (Heap.lt_size e) (I.ok.cab x c hfn hc)))).trans (I.base.keep b o e n hb hx)
  ·obtain ⟨sl,e1⟩:=I.base.slot b o e n hb hx
   exact ⟨sl,(hs.2 b (Nat.ne_of_lt (Nat.lt_of_lt_of_le (Heap.lt_size e) (I.ok.cab x c hfn hc)))).trans e1⟩
  ·obtain ⟨o',e1⟩:=I.base.there b o e hx
   exact ⟨o',(hs.2 b (Nat.ne_of_lt (Nat.lt_of_lt_of_le (Heap.lt_size e) (I.ok.cab x c hfn hc)))).trans e1⟩
  ·by_cases hj:j=i
   ·subst hj
    rw [hi] at e1;cases e1
    rw [List.getElem?_set_self hiσ] at e2
    cases e2
    exact ⟨u,r,.inr ⟨.inl hk,c,hc,hc'⟩⟩
   ·rw [List.getElem?_set_ne (Ne.symm hj)] at e2
    obtain ⟨u',r',q⟩:=hl j y v' e1 e2 e3
    refine ⟨u',r',?_⟩
    rcases q with q | ⟨k,c',e,z'⟩
    ·exact .inl q
    ·refine .inr ⟨k,c',e,z'.sameBut hs ?_⟩
     rintro rfl
     exact hj (q2K hN e1 (I.ok.inj _ _ _ e hc ▸ hi))
  ·by_cases hcc:c'=c
   ·subst hcc;exact ⟨_,hc'⟩
   ·obtain ⟨w2,z2⟩:=I.cell y c' e
    exact ⟨w2,z2.sameBut hs hcc⟩
  ·obtain ⟨e,n,ne,nf,d⟩:=I.pin p hp
   refine ⟨(hs.2 p.1 ?_).trans e,n,ne,nf,d⟩
   intro q
   rw [q,hoc] at e
   have q':oc=p.2:=Option.some.inj e
   exact d w' (by rw [<-q'];exact hocd)
theorem q3R {M:Model} {A:Around} {E:Value->Shared->Prop} {i:Nat} {x:Str} {v:V} {u:Value} {Q:Unit->Shared->Prop} (I:Inv X pins σ H s) (hN:X.N.Nodup) (hi:X.N[i]?=some x) (hx:Loc X.env.scope x) (r:RelV v u)
 (h:∀s',Inv X pins (σ.set i (some v)) H s'->Q () s') (hf:X.fn x=true∨X.env.scope.names.lookup x=some .local:=by walk_at "v2"):wpAny M A (storeName X.env x u) Q E s:=
 q4f I hN hi hx r (λs' I' _=>h s' I') hf
theorem Inv.call' {s':Shared} {ch:List Addr} (I:Inv X pins σ H s) (ho:s'.os=s.os) (u:Un (frs X.stack) ch H H' s.heap s'.heap) (hok:HOk X.prog X.w H' s'.heap) (hg:AllBare s'.gens)
 (hch:∀b∈ch,(b∈X.ex∨X.s₀.heap.objs.size<=b)/\b≠X.env.locals/\(∀x c,X.env.cells.lookup x=some c->c≠b)/\∀p∈X.pn++pins,p.1≠b):Inv X pins σ H' s':=by
 obtain ⟨h',g',d',t',o'⟩:=s'
 have e:o'=s.os:=ho
 subst e
 exact I.call (g':=g') (t':=t') (d':=d') u hok hg hch
end
abbrev XK:=Value->Option Addr->Hp->Prop
abbrev St:=List (Option V)
abbrev VK:=V->Hp->Prop
abbrev TE:=St->Hp->VK->Prop
abbrev TT:=St->Hp->(Bool->Hp->Prop)->Prop
abbrev TA:=St->Hp->(List V->Hp->Prop)->Prop
structure Ends where
 nx:St->Hp->Prop
 rt:VK
 bk:St->Hp->Prop:=λ_ _=>False
 ct:St->Hp->Prop:=λ_ _=>False
abbrev TS:=Ends->St->Hp->Prop
def EP (X:Cx) (pins:List (Addr×Obj)) (σ:St) (Q:VK) (u:Value) (s':Shared):Prop:=∃v H',Inv X pins σ H' s'/\RelV v u/\Q v H'
def TP (X:Cx) (pins:List (Addr×Obj)) (σ:St) (Q:Bool->Hp->Prop) (b:Bool) (s':Shared):Prop:=∃H',Inv X pins σ H' s'/\Q b H'
def AP (X:Cx) (pins:List (Addr×Obj)) (σ:St) (Q:List V->Hp->Prop) (us:List Value) (s':Shared):Prop:=∃vs H',Inv X pins σ H' s'/\Vals vs us/\Q vs H'
def SP (X:Cx) (pins:List (Addr×Obj)) (D:Ends) (f:Flow) (s':Shared):Prop:=
 match f with
 | .next=>∃σ' H',Inv X pins σ' H' s'/\D.nx σ' H'
 | .brk=>∃σ' H',Inv X pins σ' H' s'/\D.bk σ' H'
 | .cont=>∃σ' H',Inv X pins σ' H' s'/\D.ct σ' H'
 | .ret u=>∃v σ' H',Inv X pins σ' H' s'/\RelV v u/\D.rt v H'
def PE (X:Cx) (e:Expr) (t:TE):Prop:=
 ∀(pins:List (Addr×Obj)) (s:Shared) (σ:St) (H:Hp) (Q:VK),Inv X pins σ H s->t σ H Q->wpAny (model X.prog X.w) X.A (eval e X.env) (EP X pins σ Q) X.xe s
def PT (X:Cx) (e:Expr) (t:TT):Prop:=
 ∀(pins:List (Addr×Obj)) (s:Shared) (σ:St) (H:Hp) (Q:Bool->Hp->Prop),Inv X pins σ H s->t σ H Q->wpAny (model X.prog X.w) X.A (isTrue e X.env (eval e X.env)) (TP X pins σ Q) X.xe s
def PW (X:Cx) (e:Expr) (t:TT):Prop:=
 ∀(whole:Sem Value) (pins:List (Addr×Obj)) (s:Shared) (σ:St) (H:Hp) (Q:Bool->Hp->Prop),Inv X pins σ H s->t σ H Q->wpAny (model X.prog X.w) X.A (isTrue e X.env whole) (TP X pins σ Q) X.xe s
theorem PW.pt {X:Cx} {e:Expr} {t:TT} (h:PW X e t):PT X e t:=h _
def PA (X:Cx) (es:List Expr) (t:TA):Prop:=
 ∀(pos:Pos) (pins:List (Addr×Obj)) (s:Shared) (σ:St) (H:Hp) (Q:List V->Hp->Prop),Inv X pins σ H s->t σ H Q->wpAny (model X.prog X.w) X.A (spliced (backTo pos (starEach es X.env))) (AP X pins σ Q) X.xe s
def PS (X:Cx) (st:Stmt) (t:TS):Prop:=
 ∀(pins:List (Addr×Obj)) (s:Shared) (σ:St) (H:Hp) (D:Ends),Inv X pins σ H s->t D σ H->wpAny (model X.prog X.w) X.A (exec st X.env) (SP X pins D) X.xe s
def PSs (X:Cx) (st:List Stmt) (t:TS):Prop:=
 ∀(pins:List (Addr×Obj)) (s:Shared) (σ:St) (H:Hp) (D:Ends),Inv X pins σ H s->t D σ H->wpAny (model X.prog X.w) X.A (execs st X.env) (SP X pins D) X.xe s
theorem thn {α:Type} {t:Sem α} {Q Q':α->Shared->Prop} {M:Model} {A:Around} {E:Value->Shared->Prop} {s:Shared} (h:wpAny M A t Q E s) (hQ:∀a s,Q a s->Q' a s):wpAny M A t Q' E s:=wpAny_mono h hQ λ_ _ x=>x
section
variable {X:Cx}
def w2J (i:Nat):TE:=fun σ H Q=>∃v,σ[i]?=some (some v)/\Q v H
def tC (v:V):TE:=λ_ H Q=>Q v H
theorem q3b {i:Nat} {x:Str} {pos:Pos} (hN:X.N[i]?=some x) (hv:Vis X.env.scope x) (hd:(x==("__debug__" : Str))=false:=by decide) (hcd:(x==("__classdict__" : Str))=false:=by decide):PE X (.Name x pos) (w2J i):=by
 intro pins s σ H Q I h
 obtain ⟨v,e,h⟩:=h
 obtain ⟨m,hn,hl⟩:=I.loc
 obtain ⟨u,r,l⟩:=hl i x v hN e hv
 have fin:EP X pins σ Q u s:=⟨v,H,I,r,h⟩
 rcases l with ⟨hk,hm⟩ | ⟨hk,c,hc,hcell⟩
 ·exact wpAny_Name (wpAny_loadName_local I.ok.kind hk hn hm fin) hd
 ·rcases hk with hk | hk
  ·exact wpAny_Name (wpAny_loadName_cell I.ok.kind hk hc hcell fin) hd
  ·exact wpAny_Name (wpAny_loadName_free I.ok.kind hk hc hcell fin hcd) hd
theorem j6K {i j pos}:PE X (.Constant (.int i) j pos) (tC (.int i)):=λ_ _ _ H _ I h=>wpAny_Constant_int ⟨.int i,H,I.tok _,⟨_,rfl⟩,h⟩
theorem j2Z {j pos}:PE X (.Constant .none j pos) (tC .non):=λ_ _ _ H _ I h=>Constant_none ⟨.non,H,I,rfl,h⟩
theorem j5y {x j pos}:PE X (.Constant (.str x) j pos) (tC (.str x)):=λ_ _ _ H _ I h=>Calls.Constant_str ⟨.str x,H,I.tok _,⟨_,rfl⟩,h⟩
def Gl (X:Cx) (x:Str):Prop:=X.env.kindOf x=some .globalImplicit
theorem q15 {E:Value->Shared->Prop} {pins:List (Addr×Obj)} {s:Shared} {σ:St} {H:Hp} {x:Str} {u:Value} {pos:Pos} {Q:Value->Shared->Prop} (I:Inv X pins σ H s) (hg:Gl X x) (hm:X.mg x=some u) (h:Q u s)
 (hd:(x==("__debug__" : Str))=false:=by decide):wpAny (model X.prog X.w) X.A (eval (.Name x pos) X.env) Q E s:=
 Calls.Name_function_global I.ok.kind hg (Calls.loadGlobal_global (by rw [I.ok.glob];exact I.mod.glob.keeps I.bk) hm h) hd
theorem q1l {E:Value->Shared->Prop} {pins:List (Addr×Obj)} {s:Shared} {σ:St} {H:Hp} {x:Str} {u:Value} {pos:Pos} {Q:Value->Shared->Prop} (I:Inv X pins σ H s) (hg:Gl X x) (hm:X.mg x=none) (hv:bootBuiltins x=some u) (h:Q u s)
 (hn:x≠"__name__":=by decide) (hd:(x==("__debug__" : Str))=false:=by decide):wpAny (model X.prog X.w) X.A (eval (.Name x pos) X.env) Q E s:=by
 obtain ⟨mb,h1,h2⟩:=I.mod.blt
 exact Calls.Name_function_global I.ok.kind hg (Calls.loadGlobal_builtin (by rw [I.ok.glob];exact I.mod.glob.keeps I.bk) hm (by rw [I.ok.blt];exact h1.keeps I.bk) ((h2 x hn).trans hv) h) hd
theorem q41 {x:Str} {v:V} {u:Value} {pos:Pos} (hg:Gl X x) (hm:X.mg x=some u) (r:RelV v u) (hd:(x==("__debug__" : Str))=false:=by decide):PE X (.Name x pos) (tC v):=
 λ_ _ _ H _ I h=>q15 I hg hm ⟨v,H,I,r,h⟩ hd
theorem j1t {x:Str} {v:V} {u:Value} {pos:Pos} (hg:Gl X x) (hm:X.mg x=none) (hv:bootBuiltins x=some u) (r:RelV v u) (hn:x≠"__name__":=by decide) (hd:(x==("__debug__" : Str))=false:=by decide):PE X (.Name x pos) (tC v):=
 λ_ _ _ H _ I h=>q1l I hg hm hv ⟨v,H,I,r,h⟩ hn hd
variable {a b:Expr} {ta tb:TE} {pos:Pos}
def tB (t:TE):TT:=fun σ H Q=>t σ H λx H1=>∃c,x=.bl c/\Q c H1
variable {tA tB':TT} {rest:List Expr}
def w3h (t u:TT):TT:=fun σ H Q=>t σ H λc H1=>if c=true then u σ H1 Q else Q false H1
def tOr (t u:TT):TT:=fun σ H Q=>t σ H λc H1=>if c=true then Q true H1 else u σ H1 Q
def w2S (t:TT):TT:=fun σ H Q=>t σ H λc H1=>Q (!c) H1
theorem j2c (ha:PT X a tA):PW X (.BoolOp .And [a] pos) tA:=by
 intro wh pins s σ H Q I h
 refine isTrue_and (thn (ha pins s σ H Q I h) λc s1 e=>?_)
 cases c with
 | true=>exact isTrue_and_nil e
 | false=>exact e
theorem j4Q (ha:PT X a tA):PW X (.BoolOp .Or [a] pos) tA:=by
 intro wh pins s σ H Q I h
 refine isTrue_or (thn (ha pins s σ H Q I h) λc s1 e=>?_)
 cases c with
 | false=>exact isTrue_or_nil e
 | true=>exact e
theorem j5K (ha:PT X a tA) (hb:PW X (.BoolOp .And (b::rest) pos) tB'):PW X (.BoolOp .And (a::b::rest) pos) (w3h tA tB'):=by
 intro wh pins s σ H Q I h
 refine isTrue_and (thn (ha pins s σ H _ I h) λc s1 ⟨H1,I1,q1⟩=>?_)
 cases c with
 | true=>exact hb wh pins s1 σ H1 Q I1 q1
 | false=>exact ⟨H1,I1,q1⟩
theorem w0y (ha:PT X a tA) (hb:PW X (.BoolOp .Or (b::rest) pos) tB'):PW X (.BoolOp .Or (a::b::rest) pos) (tOr tA tB'):=by
 intro wh pins s σ H Q I h
 refine isTrue_or (thn (ha pins s σ H _ I h) λc s1 ⟨H1,I1,q1⟩=>?_)
 cases c with
 | true=>exact ⟨H1,I1,q1⟩
 | false=>exact hb wh pins s1 σ H1 Q I1 q1
theorem j4O (ha:PT X a tA):PT X (.UnaryOp .Not a pos) (w2S tA):=by
 intro pins s σ H Q I h
 exact isTrue_not (ha pins s σ H (λc H1=>Q (!c) H1) I h)
def w0E (ta tb:TE):TE:=fun σ H Q=>ta σ H λx H1=>∃c,x=.bl c/\if c=true then tb σ H1 Q else Q (.bl false) H1
def j8R (ta:TE):TE:=fun σ H Q=>ta σ H λx H1=>∃c,x=.bl c/\Q (.bl (!c)) H1
theorem j7f {op} {t:TE} (h:PE X a t):PE X (.BoolOp op [a] pos) t:=λpins s σ H Q I hw=>BoolOp_one (h pins s σ H Q I hw)
theorem j6n (ha:PE X a ta) (hb:PE X (.BoolOp .And (b::rest) pos) tb):PE X (.BoolOp .And (a::b::rest) pos) (w0E ta tb):=by
 intro pins s σ H Q I h
 refine BoolOp_and (thn (ha pins s σ H _ I h) λv s1 ⟨x,H1,I1,r1,q1⟩=>?_)
 obtain ⟨c,rfl,q1⟩:=q1
 cases r1
 refine wpAny_truthy_bool ?_
 cases c with
 | true=>exact hb pins s1 σ H1 Q I1 q1
 | false=>exact ⟨.bl false,H1,I1,rfl,q1⟩
theorem j4F (ha:PE X a ta):PE X (.UnaryOp .Not a pos) (j8R ta):=by
 intro pins s σ H Q I h
 refine UnaryOp_ (thn (ha pins s σ H _ I h) λv s1 ⟨x,H1,I1,r1,q1⟩=>?_)
 obtain ⟨c,rfl,q1⟩:=q1
 cases r1
 exact not_of (wpAny_truthy_bool ⟨.bl (!c),H1,I1,rfl,q1⟩)
def tIf (t:TT) (ta tb:TE):TE:=fun σ H Q=>t σ H λc H1=>if c=true then ta σ H1 Q else tb σ H1 Q
theorem q86 {c:Expr} (hc:PT X c tA) (ha:PE X a ta) (hb:PE X b tb):PE X (.IfExp c a b pos) (tIf tA ta tb):=by
 intro pins s σ H Q I h
 refine wpAny_IfExp (thn (hc pins s σ H _ I h) λd s1 ⟨H1,I1,q1⟩=>?_)
 cases d with
 | true=>exact ha pins s1 σ H1 Q I1 q1
 | false=>exact hb pins s1 σ H1 Q I1 q1
end
def SqL (K:PySem.W.Frag) (H:Hp) (a:Addr) (xs:List V):Prop:=
 Rd H a (.lst xs) ∨
  ∃(o:Obj) (its:Array Value) (n:Nat),K.lookup a=some o/\o.cls=.type "list"/\o.dict=none/\o.data=.seq its n/\its.size<=sizeLine/\Vals xs its.toList
def SqT (K:PySem.W.Frag) (H:Hp) (a:Addr) (xs:List V):Prop:=
 Rd H a (.tup xs) ∨
  ∃(o:Obj) (its:Array Value) (n:Nat),K.lookup a=some o/\o.cls=.type "tuple"/\o.data=.seq its n/\its.size<=sizeLine/\Vals xs its.toList
def w3e:Value->Option V
 | .none=>some .non
 | .bool b=>some (.bl b)
 | .int i _=>some (.int i)
 | .str x _=>some (.str x)
 | .bytes b _=>some (.byt b)
 | .float b _=>some (.flt b)
 | .ref a=>some (.ref a)
 | .type n=>some (.ty n)
 | _=>none
theorem RelV.abs {x:V} {u:Value} (r:RelV x u):w3e u=some x:=by
 cases x with
 | non=>cases r;rfl
 | bl _=>cases r;rfl
 | int _=>obtain ⟨t,rfl⟩:=r;rfl
 | str _=>obtain ⟨t,rfl⟩:=r;rfl
 | byt _=>obtain ⟨t,rfl⟩:=r;rfl
 | flt _=>obtain ⟨t,rfl⟩:=r;rfl
 | ref _=>cases r;rfl
 | ty _=>cases r;rfl
theorem RelV.inj {x y:V} {u:Value} (r:RelV x u) (q:RelV y u):x=y:=Option.some.inj (r.abs.symm.trans q.abs)
theorem Vals.inj:∀{xs ys:List V} {us:List Value},Vals xs us->Vals ys us->xs=ys
 | _,_,_,.nil,.nil=>rfl
 | _,_,_,.cons r t,.cons r' t'=>by rw [r.inj r',Vals.inj t t']
section
variable {X:Cx} {pins:List (Addr×Obj)} {σ:St} {H:Hp} {s:Shared} {a:Addr} {xs ys:List V}
theorem SqL.of {K:PySem.W.Frag} (h:H a=some (.lst xs)):SqL K H a xs:=.inl (.inl h)
theorem SqT.of {K:PySem.W.Frag} (h:H a=some (.tup xs)):SqT K H a xs:=.inl (.inl h)
theorem Inv.list (I:Inv X pins σ H s) (h:SqL X.K H a xs):∃its:List Value,Vals xs its/\PlainL s.heap a its.toArray/\xs.length<=sizeLine:=by
 rcases h with h | ⟨o,its,n,hk,hc,hd,hs,hz,r⟩
 ·obtain ⟨z,its,n,r,e⟩:=h.ok I.hok
  exact ⟨its,r,⟨_,n,e,rfl,rfl,rfl⟩,z⟩
 ·refine ⟨its.toList,r,⟨o,n,I.kIn a o hk,hc,hd,by simpa using hs⟩,?_⟩
  have e:=r.length
  simp only [Array.length_toList] at e
  omega
theorem Inv.tuple (I:Inv X pins σ H s) (h:SqT X.K H a xs):∃its:List Value,Vals xs its/\IsTup s.heap a its.toArray/\xs.length<=sizeLine:=by
 rcases h with h | ⟨o,its,n,hk,hc,hs,hz,r⟩
 ·obtain ⟨z,its,r,p⟩:=h.ok I.hok
  exact ⟨its,r,p,z⟩
 ·refine ⟨its.toList,r,⟨o,I.kIn a o hk,hc,n,by simpa using hs⟩,?_⟩
  have e:=r.length
  simp only [Array.length_toList] at e
  omega
theorem Inv.list_inj (I:Inv X pins σ H s) (h:SqL X.K H a xs) (h':SqL X.K H a ys):xs=ys:=by
 obtain ⟨its,r,⟨o,n,e,_,_,d⟩,_⟩:=I.list h
 obtain ⟨its',r',⟨o',n',e',_,_,d'⟩,_⟩:=I.list h'
 rw [e] at e';cases e'
 rw [d] at d'
 injection d' with d1 _
 have:its=its':=by simpa using congrArg Array.toList d1
 subst this
 exact r.inj r'
theorem Inv.tuple_inj (I:Inv X pins σ H s) (h:SqT X.K H a xs) (h':SqT X.K H a ys):xs=ys:=by
 obtain ⟨its,r,⟨o,e,_,n,d⟩,_⟩:=I.tuple h
 obtain ⟨its',r',⟨o',e',_,n',d'⟩,_⟩:=I.tuple h'
 rw [e] at e';cases e'
 rw [d] at d'
 injection d' with d1 _
 have:its=its':=by simpa using congrArg Array.toList d1
 subst this
 exact r.inj r'
end
abbrev Cx.wish (X:Cx) (E:Value->Shared->Prop):Cx:={ X with xe:=E }
abbrev Cx.nox (X:Cx):Cx:=X.wish λ_ _=>False
theorem Cx.Ok.wish {X:Cx} (ok:X.Ok) (E:Value->Shared->Prop):(X.wish E).Ok:=
 ⟨ok.mod,ok.kind,ok.glob,ok.blt,ok.above,ok.inj,ok.has,ok.cab,ok.hd,ok.frames,ok.stk,ok.exf,ok.bs,ok.bsz,ok.noex,ok.exfs,ok.funs,ok.frf⟩
theorem Cx.Ok.unwish {X:Cx} {E:Value->Shared->Prop} (ok:(X.wish E).Ok):X.Ok:=
 ⟨ok.mod,ok.kind,ok.glob,ok.blt,ok.above,ok.inj,ok.has,ok.cab,ok.hd,ok.frames,ok.stk,ok.exf,ok.bs,ok.bsz,ok.noex,ok.exfs,ok.funs,ok.frf⟩
section
variable {X:Cx} {pins:List (Addr×Obj)} {σ:St} {H:Hp} {s:Shared} {E:Value->Shared->Prop}
theorem Inv.wish (I:Inv X pins σ H s) (E:Value->Shared->Prop):Inv (X.wish E) pins σ H s:=⟨I.ok.wish E,I.os,I.bare,I.base,I.loc,I.cell,I.free,I.freeC,I.pin,I.hok,I.len⟩
theorem Inv.unwish (I:Inv (X.wish E) pins σ H s):Inv X pins σ H s:=⟨I.ok.unwish,I.os,I.bare,I.base,I.loc,I.cell,I.free,I.freeC,I.pin,I.hok,I.len⟩
theorem SP.unwish {D:Ends} {f:Flow} {s':Shared} (h:SP (X.wish E) pins D f s'):SP X pins D f s':=by
 cases f with
 | next=>obtain ⟨σ',H',I,q⟩:=h;exact ⟨σ',H',I.unwish,q⟩
 | brk=>obtain ⟨σ',H',I,q⟩:=h;exact ⟨σ',H',I.unwish,q⟩
 | cont=>obtain ⟨σ',H',I,q⟩:=h;exact ⟨σ',H',I.unwish,q⟩
 | ret u=>obtain ⟨v,σ',H',I,r,q⟩:=h;exact ⟨v,σ',H',I.unwish,r,q⟩
theorem PE.nox {e:Expr} {t:TE} (h:PE X.nox e t):PE X e t:=λpins s σ H Q I hw=>
 wpAny_mono (h pins s σ H Q (I.wish _) hw) (λ_ _ ⟨v,H',I',r,q⟩=>⟨v,H',I'.unwish,r,q⟩) λ_ _ z=>False.elim z
theorem PT.nox {e:Expr} {t:TT} (h:PT X.nox e t):PT X e t:=λpins s σ H Q I hw=>
 wpAny_mono (h pins s σ H Q (I.wish _) hw) (λ_ _ ⟨H',I',q⟩=>⟨H',I'.unwish,q⟩) λ_ _ z=>False.elim z
theorem PSs.nox {st:List Stmt} {t:TS} (h:PSs X.nox st t):PSs X st t:=λpins s σ H D I hw=>
 wpAny_mono (h pins s σ H D (I.wish _) hw) (λ_ _ q=>q.unwish) λ_ _ z=>False.elim z
end
section
variable {X:Cx} {st:Stmt} {rest:List Stmt} {t u:TS} {e:Expr} {te:TE} {pos:Pos}
def w0A:TS:=λD σ H=>D.nx σ H
def w27 (t u:TS):TS:=λD σ H=>t { D with nx:=u D } σ H
theorem j1s:PSs X [] w0A:=λ_ _ σ H _ I h=>wpAny_execs_nil ⟨σ,H,I,h⟩
theorem q9w (h1:PS X st t) (h2:PSs X rest u):PSs X (st::rest) (w27 t u):=by
 intro pins s σ H D I h
 refine wpAny_execs_cons (thn (h1 pins s σ H { D with nx:=u D } I h) λf s1 q=>?_)
 cases f with
 | next=>
  obtain ⟨σ',H',I',q⟩:=q
  exact h2 pins s1 σ' H' D I' q
 | ret v=>exact q
 | brk=>exact q
 | cont=>exact q
theorem j0H (h1:PS X st t):PSs X [st] t:=by
 intro pins s σ H D I h
 refine wpAny_execs_cons (thn (h1 pins s σ H D I h) λf s1 q=>?_)
 cases f with
 | next=>exact wpAny_execs_nil q
 | ret v=>exact q
 | brk=>exact q
 | cont=>exact q
theorem Inv.quiet {pins:List (Addr×Obj)} {σ:St} {H:Hp} {s:Shared} (I:Inv X pins σ H s):interactive X.env=false:=by simp [interactive,I.ok.kind]
def j9j (te:TE):TS:=λD σ H=>te σ H λ_ H1=>D.nx σ H1
theorem q7B (he:PE X e te) (hs:swapsWith e none pos.line X.env=pure false:=by rfl):PS X (.Expr e pos) (j9j te):=by
 intro pins s σ H D I h
 exact wpAny_Expr_any (thn (he pins s σ H _ I h) λv s1 ⟨x,H1,I1,r1,q1⟩=>⟨σ,H1,I1,q1⟩) I.quiet hs
def w3l (te:TE):TS:=λD σ H=>te σ H D.rt
theorem q7Z (he:PE X e te):PS X (.Return (some e) pos) (w3l te):=by
 intro pins s σ H D I h
 exact wpAny_Return_some (thn (he pins s σ H _ I h) λv s1 ⟨x,H1,I1,r1,q1⟩=>⟨x,σ,H1,I1,r1,q1⟩)
def w3i (c:TT) (t u:TS):TS:=λD σ H=>c σ H λb H1=>if b=true then t D σ H1 else u D σ H1
theorem w0g {c:Expr} {a b:List Stmt} {tc:TT} (hc:PT X c tc) (ha:PSs X a t) (hb:PSs X b u):PS X (.If c a b pos) (w3i tc t u):=by
 intro pins s σ H D I h
 refine wpAny_If (thn (hc pins s σ H _ I h) λd s1 ⟨H1,I1,q1⟩=>?_)
 cases d with
 | true=>exact ha pins s1 σ H1 D I1 q1
 | false=>exact hb pins s1 σ H1 D I1 q1
end
abbrev TG:=V->St->Hp->(St->Hp->Prop)->Prop
abbrev TGs:=List V->St->Hp->(St->Hp->Prop)->Prop
def PG (X:Cx) (target:Expr) (t:TG):Prop:=
 ∀(pins:List (Addr×Obj)) (s:Shared) (σ:St) (H:Hp) (v:V) (u:Value) (Q:St->Hp->Prop),Inv X pins σ H s->RelV v u->t v σ H Q ->
  wpAny (model X.prog X.w) X.A (assign target X.env u) (λ_ s'=>∃σ' H',Inv X pins σ' H' s'/\Q σ' H') X.xe s
def PGs (X:Cx) (ts:List Expr) (t:TGs):Prop:=
 ∀(pins:List (Addr×Obj)) (s:Shared) (σ:St) (H:Hp) (vs:List V) (us:List Value) (Q:St->Hp->Prop),Inv X pins σ H s->Vals vs us->t vs σ H Q ->
  wpAny (model X.prog X.w) X.A (assignInOrder ((assignEach ts X.env).map (·.2)) us) (λ_ s'=>∃σ' H',Inv X pins σ' H' s'/\Q σ' H') X.xe s
abbrev TIp:=V->V->Hp->VK->Prop
def PIp (X:Cx) (op:Operator) (t:TIp):Prop:=
 ∀(pins:List (Addr×Obj)) (s:Shared) (σ:St) (H:Hp) (x y:V) (v u:Value) (Q:VK),Inv X pins σ H s->RelV x v->RelV y u->t x y H Q ->
  wpAny (model X.prog X.w) X.A (inplaceOp op v u) (EP X pins σ Q) X.xe s
section
variable {X:Cx} {pos:Pos}
def j1W (i:Nat):TG:=λv σ H Q=>Q (σ.set i (some v)) H
theorem q18 {i:Nat} {x:Str} (hN:X.N.Nodup) (hi:X.N[i]?=some x) (hx:Loc X.env.scope x) (hf:X.fn x=true∨X.env.scope.names.lookup x=some .local:=by walk_at "v2"):PG X (.Name x pos) (j1W i):=by
 intro pins s σ H v u Q I r h
 exact wpAny_assign_Name (q3R I hN hi hx r (λs' I'=>⟨_,H,I',h⟩) hf)
def w2X:TGs:=λvs σ H Q=>vs=[]/\Q σ H
def j9O (t:TG) (u:TGs):TGs:=λvs σ H Q=>∃v r,vs=v::r/\t v σ H fun σ' H'=>u r σ' H' Q
theorem q7W:PGs X [] w2X:=by
 intro pins s σ H vs us Q I r h
 obtain ⟨e,h⟩:=h
 subst e
 cases r
 exact assignInOrder_nil ⟨σ,H,I,h⟩
theorem q3G {e:Expr} {es:List Expr} {t:TG} {u:TGs} (h1:PG X e t) (h2:PGs X es u)
 (hs:(assignEach (e::es) X.env).map (·.2)=assign e X.env::(assignEach es X.env).map (·.2):=by rfl):PGs X (e::es) (j9O t u):=by
 intro pins s σ H vs us Q I r h
 obtain ⟨v,vr,e1,h⟩:=h
 subst e1
 cases r with
 | cons r rr=>
  rw [hs]
  refine assignInOrder_cons (thn (h1 pins s σ H _ _ _ I r h) λ_ s1 ⟨σ1,H1,I1,q1⟩=>?_)
  exact h2 pins s1 σ1 H1 _ _ Q I1 rr q1
def w3c (K:PySem.W.Frag) (n:Nat) (t:TGs):TG:=λv σ H Q=>∃a xs,v=.ref a/\SqT K H a xs/\xs.length=n/\t xs σ H Q
theorem j0u {es:List Expr} {k:Nat} {t:TGs} {n:Nat} (hc:X.calm=true) (h:PGs X es t)
 (hn:(assignEach es X.env).length=n:=by rfl) (hst:(assignEach es X.env).findIdx? (·.1)=none:=by rfl):PG X (.Tuple es k pos) (w3c X.K n t):=by
 intro pins s σ H v u Q I r hw
 obtain ⟨a,xs,e1,hq,hl,hw⟩:=hw
 subst e1
 cases r
 obtain ⟨its,rv,ht,hz⟩:=I.tuple hq
 refine assign_Tuple_tuple (I.ok.hd hc) ht (by simp [hn,<-hl,rv.length]) hst λh' hx=>?_
 have I1:Inv X pins σ H { s with heap:=h' }:=I.kept (t':=s.toks) λb o e=>hx b o (Nat.ne_of_lt (Heap.lt_size e)) e
 exact h pins _ σ H xs _ Q I1 (by simpa using rv) hw
def w1G (te:TE) (g:TG):TS:=λD σ H=>te σ H λx H1=>g x σ H1 D.nx
theorem q9X {i:Nat} {x:Str} {e:Expr} {te:TE} {pos':Pos} (hN:X.N.Nodup) (hi:X.N[i]?=some x) (hx:Loc X.env.scope x) (he:PE X e te) (hs:swapsWith e (some (.Name x pos')) pos.line X.env=pure false:=by rfl) (hf:X.fn x=true∨X.env.scope.names.lookup x=some .local:=by walk_at "v2") :
 PS X (.Assign [.Name x pos'] e pos) (w1G te (j1W i)):=by
 intro pins s σ H D I h
 refine wpAny_Assign_Name (thn (he pins s σ H _ I h) λv s1 ⟨y,H1,I1,r1,q1⟩=>?_) hs
 exact q3R I1 hN hi hx r1 (λs2 I2=>⟨_,H1,I2,q1⟩) hf
def w2H (i:Nat) (te:TE) (ti:TIp):TS:=λD σ H=>∃x,σ[i]?=some (some x)/\te σ H λy H1=>ti x y H1 λz H2=>D.nx (σ.set i (some z)) H2
theorem q8j {i:Nat} {x:Str} {e:Expr} {te:TE} {op:Operator} {ti:TIp} {pos':Pos} (hN:X.N.Nodup) (hi:X.N[i]?=some x) (hx:Loc X.env.scope x) (he:PE X e te) (ho:PIp X op ti) (hf:X.fn x=true∨X.env.scope.names.lookup x=some .local:=by walk_at "v2") :
 PS X (.AugAssign (.Name x pos') op e pos) (w2H i te ti):=by
 intro pins s σ H D I h
 obtain ⟨v,e1,h⟩:=h
 obtain ⟨m,hn,hl⟩:=I.loc
 have vis:Vis X.env.scope x:=by rcases hx with k | k;exact .inl k;exact .inr (.inl k)
 obtain ⟨u,r,l⟩:=hl i x v hi e1 vis
 refine wpAny_AugAssign_Name ?_
 have go:wpAny (model X.prog X.w) X.A (eval e X.env) (λw s₂=>wpAny (model X.prog X.w) X.A (inplaceOp op u w) (λr s₃=>wpAny (model X.prog X.w) X.A (storeName X.env x r) (λ_=>SP X pins D .next) X.xe s₃) X.xe s₂) X.xe s:=by
  refine thn (he pins s σ H _ I h) λw s1 ⟨y,H1,I1,r1,q1⟩=>?_
  refine thn (ho pins s1 σ H1 v y u w _ I1 r r1 q1) λz s2 ⟨zv,H2,I2,r2,q2⟩=>?_
  exact q3R I2 hN hi hx r2 (λs3 I3=>⟨_,H2,I3,q2⟩) hf
 rcases l with ⟨hk,hm⟩ | ⟨hk,c,hc,hcell⟩
 ·exact wpAny_loadName_local I.ok.kind hk hn hm go
 ·rcases hk with hk | hk
  ·exact wpAny_loadName_cell I.ok.kind hk hc hcell go
  ·rcases hx with k | k
   ·have:X.env.scope.names.lookup x=some .free:=hk
    rw [k] at this;cases this
   ·have:X.env.scope.names.lookup x=some .free:=hk
    rw [k] at this;cases this
def ipI (f:Int->Int->Int):TIp:=λx y H Q=>∃i j,x=.int i/\y=.int j/\Q (.int (f i j)) H
theorem j41:PIp X .Add (ipI λi j=>i+j):=by
 intro pins s σ H x y v u Q I r1 r2 h
 obtain ⟨i,j,e1,e2,q⟩:=h
 subst e1;subst e2
 obtain ⟨t,rfl⟩:=r1
 obtain ⟨t',rfl⟩:=r2
 exact iadd_int ⟨.int _,H,I.tok _,⟨_,rfl⟩,q⟩
end
section
variable {X:Cx} {pos:Pos}
end
structure It where
 go:Nat->Hp->Prop
 yld:Nat->Hp->V->Hp->Prop
 stop:Nat->Hp->Prop
def q1X (X:Cx) (pins:List (Addr×Obj)) (H:Hp) (b:Addr):Prop:=
 H b=none/\b≠X.env.locals/\b∉X.fs/\(b∈X.ex∨X.s₀.heap.objs.size<=b)/\(∀x c,X.env.cells.lookup x=some c->c≠b)/\∀p∈X.pn++pins,p.1≠b
theorem Inv.fpOk {X:Cx} {pins:List (Addr×Obj)} {σ:St} {H H':Hp} {s:Shared} {b:Addr} (I:Inv X pins σ H s) (hb:s.heap.objs.size<=b) (hn:H' b=none):q1X X pins H' b:=by
 refine ⟨hn,Nat.ne_of_gt (Nat.lt_of_lt_of_le I.lt hb),I.nofs hb,.inr (Nat.le_trans I.sz hb),λx c e z=>?_,λp hp z=>?_⟩
 ·obtain ⟨v,q⟩:=I.cell x c e
  exact absurd (Nat.lt_of_lt_of_le q.lt (by rw [z];exact hb)) (Nat.lt_irrefl _)
 ·exact absurd (Nat.lt_of_lt_of_le (Heap.lt_size (I.pin p hp).1) (by rw [z];exact hb)) (Nat.lt_irrefl _)
structure j2l (Cp:Cx->Prop) (P:Program) (w:World) (K:PySem.W.Frag) (tg:Expr) (J:It) (fp:List Addr) (it:Addr) (tn:Nat->Heap->Prop):Prop where
 mem:it∈fp
 obj:∀i h,tn i h->∀b∈fp,∃o,h.get? b=some o/\∀v,o.data≠.cell v
 keep:∀i h h',tn i h->(∀b∈fp,∀o,h.get? b=some o->h'.get? b=some o)->tn i h'
 item:∀(X:Cx),X.prog=P->X.w=w->X.K=K->Cp X->∀(i:Nat) (pins:List (Addr×Obj)) (s:Shared) (σ:St) (H:Hp) (E:Value->Shared->Prop),Inv X pins σ H s->(∀b∈fp,q1X X pins H b)->tn i s.heap->J.go i H ->
  wpAny (model P w) X.A (pyNext (.ref it)) (λr s1=>∃u,r=some u /\
   wpAny (model P w) X.A (letOwnedTupleGo tg (.ref it) u) (λ_ s2=>∃x H',Inv X pins σ H' s2/\RelV x u/\J.yld i H x H'/\tn (i+1) s2.heap/\∀b∈fp,H' b=none) E s1) E s
 done:∀(X:Cx),X.prog=P->X.w=w->X.K=K->Cp X->∀(i:Nat) (pins:List (Addr×Obj)) (s:Shared) (σ:St) (H:Hp) (E:Value->Shared->Prop),Inv X pins σ H s->(∀b∈fp,q1X X pins H b)->tn i s.heap->J.stop i H ->
  wpAny (model P w) X.A (pyNext (.ref it)) (λr s1=>r=none/\Inv X pins σ H s1) E s
 self:∀(A:Around) (i:Nat) (s:Shared) (Q:Value->Shared->Prop) (E:Value->Shared->Prop),tn i s.heap->Q (.ref it) s->wpAny (model P w) A (pyIter (.ref it)) Q E s
abbrev Turn (P:Program) (w:World) (K:PySem.W.Frag) (tg:Expr) (J:It) (fp:List Addr) (it:Addr) (tn:Nat->Heap->Prop):Prop:=j2l (λX=>X.calm=true) P w K tg J fp it tn
abbrev TI:=St->Hp->(It->Hp->Prop)->Prop
def PIE (X:Cx) (pins:List (Addr×Obj)) (σ:St) (tg:Expr) (R:It->Hp->Prop) (itv:Value) (s2:Shared):Prop:=
 ∃(it:Addr) (fp:List Addr) (tn:Nat->Heap->Prop) (J:It) (H':Hp),itv=.ref it/\Inv X pins σ H' s2/\Turn X.prog X.w X.K tg J fp it tn/\tn 0 s2.heap/\(∀b∈fp,q1X X pins H' b)/\R J H'
def PI (X:Cx) (tg iter:Expr) (wi:TI):Prop:=
 ∀(pins:List (Addr×Obj)) (s:Shared) (σ:St) (H:Hp) (R:It->Hp->Prop),Inv X pins σ H s->wi σ H R ->
  wpAny (model X.prog X.w) X.A (eval iter X.env) (λv s1=>wpAny (model X.prog X.w) X.A (pyIter v) (PIE X pins σ tg R) X.xe s1) X.xe s
theorem q4Y {M:Model} {A:Around} {E:Value->Shared->Prop} {s:Shared} {tg:Expr} {it:Addr} {u:Value} {o:Obj} {n:String} {vs:Array Value} {Q:Unit->Shared->Prop} (ho:s.heap.get? it=some o) (hc:o.cls=.type n) (hd:o.data=.fields vs)
 (hn:["enumerate","zip","dict_itemiterator","dict_reverseitemiterator","odict_iterator","itertools.zip_longest","itertools.pairwise"].contains n=false) (hQ:Q () s):wpAny M A (letOwnedTupleGo tg (.ref it) u) Q E s:=by
 unfold letOwnedTupleGo
 cases tg<;>first
  | exact wpAny_pure hQ
  | (cases u<;>first
   | exact wpAny_pure hQ
   | (refine wpAny_bind (wpAny_load ho ?_)
      rw [hc,hd]
      show wpAny M A (if (["enumerate","zip","dict_itemiterator","dict_reverseitemiterator","odict_iterator","itertools.zip_longest","itertools.pairwise"].contains n && vs[0]?==some (rawInt _))=true then _ else _) Q E s
      rw [if_neg (by intro h;rw [hn,Bool.false_and] at h;cases h)]
      exact wpAny_pure hQ))
def Itl (K:PySem.W.Frag) (a:Addr):It:=
 ⟨λi H=>∃xs x,SqL K H a xs/\xs[i]?=some x,λi H x H'=>H'=H/\∀xs,SqL K H a xs->xs[i]?=some x,λi H=>∃xs,SqL K H a xs/\xs.length<=i⟩
def Itt (K:PySem.W.Frag) (a:Addr):It:=
 ⟨λi H=>∃xs x,SqT K H a xs/\xs[i]?=some x,λi H x H'=>H'=H/\∀xs,SqT K H a xs->xs[i]?=some x,λi H=>∃xs,SqT K H a xs/\xs.length<=i⟩
def Itr (lo:Int) (n:Nat):It:=⟨λi _=>i < n,λi H x H'=>H'=H/\x=.int (lo+i),λi _=>n<=i⟩
theorem q7A {P:Program} {w:World} {K:PySem.W.Frag} {tg:Expr} (a it:Addr):Turn P w K tg (Itl K a) [it] it (λi h=>h.IsListIter it a i) where
 mem:=by simp
 obj:=λi h st b hb=>by
  have e:b=it:=by simpa using hb
  subst e
  obtain ⟨o,e,c,d⟩:=st
  exact ⟨o,e,λv z=>by rw [d] at z;cases z⟩
 keep:=λi h h' st k=>st.at λo e=>k it (by simp) o e
 item:=by
  intro X hP hw hK hc i pins s σ H E I hf st hg
  subst hP hw hK
  obtain ⟨xs,x,hq,hx⟩:=hg
  obtain ⟨its,rv,p,hz⟩:=I.list hq
  obtain ⟨u,hu,ru⟩:=rv.get hx
  obtain ⟨f0,f1,f2,f3,f4,f5⟩:=hf it (by simp)
  refine wpAny_pyNext_list_item st p.isList (x:=u) (by simpa using hu) λh' st' sb=>?_
  have I1:Inv X pins σ H { s with heap:=h' }:=I.turned (t':=s.toks) (λb o hb e=>(sb.2 b hb).trans e) f0 f1 f3 f4 f5
  obtain ⟨o,e,c,d⟩:=id st'
  exact ⟨u,rfl,q4Y (s:={ s with heap:=h' }) e c d (by decide) ⟨x,H,I1,ru,⟨rfl,λys hy=>by rw [I.list_inj hy hq];exact hx⟩,st',λb hb=>(hf b hb).1⟩⟩
 done:=by
  intro X hP hw hK hc i pins s σ H E I hf st hg
  subst hP hw hK
  obtain ⟨xs,hq,hx⟩:=hg
  obtain ⟨its,rv,p,hz⟩:=I.list hq
  obtain ⟨f0,f1,f2,f3,f4,f5⟩:=hf it (by simp)
  have hl:=rv.length
  exact wpAny_pyNext_list_end (I.ok.hd hc) st p.isList (by simp;omega) λh' eb=>⟨rfl,I.turned (t':=s.toks) (λb o hb e=>eb b o hb e) f0 f1 f3 f4 f5⟩
 self:=λ_ _ _ _ _ st h=>wpAny_pyIter_listiter st h
theorem q6t {P:Program} {w:World} {K:PySem.W.Frag} {tg:Expr} (a it:Addr):Turn P w K tg (Itt K a) [it] it (λi h=>h.IsTupleIter it a i) where
 mem:=by simp
 obj:=λi h st b hb=>by
  have e:b=it:=by simpa using hb
  subst e
  obtain ⟨o,e,c,d⟩:=st
  exact ⟨o,e,λv z=>by rw [d] at z;cases z⟩
 keep:=λi h h' st k=>st.at λo e=>k it (by simp) o e
 item:=by
  intro X hP hw hK hc i pins s σ H E I hf st hg
  subst hP hw hK
  obtain ⟨xs,x,hq,hx⟩:=hg
  obtain ⟨its,rv,p,hz⟩:=I.tuple hq
  obtain ⟨u,hu,ru⟩:=rv.get hx
  obtain ⟨f0,f1,f2,f3,f4,f5⟩:=hf it (by simp)
  refine wpAny_pyNext_tuple_item st (show s.heap.IsTuple a its.toArray from p) (x:=u) (by simpa using hu) λh' st' sb=>?_
  have I1:Inv X pins σ H { s with heap:=h' }:=I.turned (t':=s.toks) (λb o hb e=>(sb.2 b hb).trans e) f0 f1 f3 f4 f5
  obtain ⟨o,e,c,d⟩:=id st'
  exact ⟨u,rfl,q4Y (s:={ s with heap:=h' }) e c d (by decide) ⟨x,H,I1,ru,⟨rfl,λys hy=>by rw [I.tuple_inj hy hq];exact hx⟩,st',λb hb=>(hf b hb).1⟩⟩
 done:=by
  intro X hP hw hK hc i pins s σ H E I hf st hg
  subst hP hw hK
  obtain ⟨xs,hq,hx⟩:=hg
  obtain ⟨its,rv,p,hz⟩:=I.tuple hq
  obtain ⟨f0,f1,f2,f3,f4,f5⟩:=hf it (by simp)
  have hl:=rv.length
  exact wpAny_pyNext_tuple_end (I.ok.hd hc) st (show s.heap.IsTuple a its.toArray from p) (by simp;omega) λh' eb=>⟨rfl,I.turned (t':=s.toks) (λb o hb e=>eb b o hb e) f0 f1 f3 f4 f5⟩
 self:=λ_ _ _ _ _ st h=>wpAny_pyIter_tupleiter st h
theorem q6p {P:Program} {w:World} {K:PySem.W.Frag} {tg:Expr} (it:Addr) (lo:Int) (n:Nat):Turn P w K tg (Itr lo n) [it] it (λi h=>IsRangeIter h it (lo+(i:Nat)*1) ((n:Int)-(i:Nat)) 1) where
 mem:=by simp
 obj:=λi h st b hb=>by
  have e:b=it:=by simpa using hb
  subst e
  exact ⟨_,st,λv z=>by
   have z':Data.fields _=Data.cell v:=z
   cases z'⟩
 keep:=λi h h' st k=>k it (by simp) _ st
 item:=by
  intro X hP hw hK hc i pins s σ H E I hf st hg
  subst hP hw hK
  obtain ⟨f0,f1,f2,f3,f4,f5⟩:=hf it (by simp)
  have W:=Walks.range (prog:=X.prog) (w:=X.w) (I.ok.hd hc) it lo 1 n
  refine W.item i s _ _ hg st λv h' tk hv st' kk=>?_
  obtain ⟨t,rfl⟩:=hv
  have I1:Inv X pins σ H { s with heap:=h',toks:=tk }:=I.turned (λb o hb e=>kk b o (by simpa using hb) e) f0 f1 f3 f4 f5
  refine ⟨_,rfl,q4Y (s:={ s with heap:=h',toks:=tk }) (n:="range_iterator") st' rfl rfl (by decide) ⟨.int (lo+i),H,I1,⟨t,?_⟩,⟨rfl,rfl⟩,st',λb hb=>(hf b hb).1⟩⟩
  rw [Int.mul_one]
 done:=by
  intro X hP hw hK hc i pins s σ H E I hf st hg
  subst hP hw hK
  obtain ⟨f0,f1,f2,f3,f4,f5⟩:=hf it (by simp)
  exact wpAny_pyNext_range_end (I.ok.hd hc) st (by have:n<=i:=hg;omega) λh' eb=>⟨rfl,I.turned (t':=s.toks) (λb o hb e=>eb b o hb e) f0 f1 f3 f4 f5⟩
 self:=λ_ _ _ _ _ st h=>wpAny_pyIter_rangeiter st h
section
variable {X:Cx} {tg:Expr}
def j8X (K:PySem.W.Frag) (tl:TE):TI:=fun σ H R=>tl σ H λx H1=>∃a,x=.ref a/\(∃xs,SqL K H1 a xs)/\R (Itl K a) H1
def w2T (K:PySem.W.Frag) (tl:TE):TI:=fun σ H R=>tl σ H λx H1=>∃a,x=.ref a/\(∃xs,SqT K H1 a xs)/\R (Itt K a) H1
theorem j0Y {l:Expr} {tl:TE} (hl:PE X l tl):PI X tg l (j8X X.K tl):=by
 intro pins s σ H R I h
 refine thn (hl pins s σ H _ I h) λv s1 ⟨x,H1,I1,r1,q1⟩=>?_
 obtain ⟨a,e,⟨xs,hq⟩,q⟩:=q1
 subst e
 cases r1
 obtain ⟨its,rv,p,hz⟩:=I1.list hq
 refine wpAny_pyIter_list p.isList ?_
 refine ⟨s1.heap.objs.size,[s1.heap.objs.size],_,_,H1,rfl,I1.kept (t':=s1.toks) λb o e=>Heap.get?_push_of_some _ e,q7A a _,⟨_,Heap.get?_push_size _ rfl,rfl,rfl⟩,λb hb=>?_,q⟩
 have e:b=s1.heap.objs.size:=by simpa using hb
 subst e
 exact I1.fpOk (Nat.le_refl _) (I1.hok.fresh (Nat.le_refl _))
theorem j5i {l:Expr} {tl:TE} (hl:PE X l tl):PI X tg l (w2T X.K tl):=by
 intro pins s σ H R I h
 refine thn (hl pins s σ H _ I h) λv s1 ⟨x,H1,I1,r1,q1⟩=>?_
 obtain ⟨a,e,⟨xs,hq⟩,q⟩:=q1
 subst e
 cases r1
 obtain ⟨its,rv,p,hz⟩:=I1.tuple hq
 refine wpAny_pyIter_tuple (show s1.heap.IsTuple a its.toArray from p) ?_
 refine ⟨s1.heap.objs.size,[s1.heap.objs.size],_,_,H1,rfl,I1.kept (t':=s1.toks) λb o e=>Heap.get?_push_of_some _ e,q6t a _,⟨_,Heap.get?_push_size _ rfl,rfl,rfl⟩,λb hb=>?_,q⟩
 have e:b=s1.heap.objs.size:=by simpa using hb
 subst e
 exact I1.fpOk (Nat.le_refl _) (I1.hok.fresh (Nat.le_refl _))
def w3n (wi:TI) (g:TG) (tb:TS):TS:=λD σ H=>wi σ H λJ H1=>∃W:Nat->Nat->St->Hp->Prop,(∃m,W 0 m σ H1)/\∀i m σ H,W i m σ H ->
 (J.stop i H/\D.nx σ H)∨(J.go i H/\∃N:St->Hp->Prop,(∀σ' H',N σ' H'->∃m',m' < m/\W (i+1) m' σ' H')/\∀x H',J.yld i H x H'->g x σ H' fun σ2 H2=>tb { D with nx:=N,ct:=N,bk:=D.nx } σ2 H2)
def q3n (fp:List Addr) (h:Heap):List (Addr×Obj):=fp.filterMap λb=>(h.get? b).map λo=>(b,o)
theorem q0K {fp:List Addr} {h:Heap} {b:Addr} {o:Obj} (hb:b∈fp) (e:h.get? b=some o):(b,o)∈q3n fp h:=List.mem_filterMap.mpr ⟨b,hb,by rw [e];rfl⟩
theorem q69 {fp:List Addr} {h:Heap} {p:Addr×Obj} (hp:p∈q3n fp h):p.1∈fp/\h.get? p.1=some p.2:=by
 obtain ⟨b,hb,e⟩:=List.mem_filterMap.mp hp
 cases q:h.get? b with
 | none=>rw [q] at e;cases e
 | some o=>
  rw [q] at e
  have e':(b,o)=p:=Option.some.inj e
  subst e'
  exact ⟨hb,q⟩
theorem Inv.pinned {pins:List (Addr×Obj)} {σ:St} {H:Hp} {s:Shared} {fp:List Addr} (I:Inv X pins σ H s) (hf:∀b∈fp,q1X X pins H b) (ho:∀b∈fp,∃o,s.heap.get? b=some o/\∀v,o.data≠.cell v):Inv X (pins++q3n fp s.heap) σ H s:=
 I.pins_of λp hp=>(List.mem_append.mp hp).elim (λz=>I.pin p (List.mem_append_right _ z)) λz=>by
  obtain ⟨hb,e⟩:=q69 z
  obtain ⟨f0,f1,f2,_⟩:=hf p.1 hb
  obtain ⟨o,e',d⟩:=ho p.1 hb
  rw [e] at e';cases e'
  exact ⟨e,f0,f1,f2,d⟩
theorem Inv.unpinned {pins pl:List (Addr×Obj)} {σ:St} {H:Hp} {s:Shared} (I:Inv X (pins++pl) σ H s):Inv X pins σ H s:=I.pins_of λp hp=>I.pin p (List.mem_append_right _ (List.mem_append_left _ hp))
theorem j3C {iter:Expr} {body:List Stmt} {wi:TI} {g:TG} {tb:TS} {pos:Pos} (hp:PassesOwn (model X.prog X.w) X.A X.env X.xe) (hc:X.calm=true) (hi:PI X tg iter wi) (hg:PG X tg g) (hb:PSs X body tb)
 (hs:∀x,foldedSetIterable iter X.env x=pure x:=by intro _;rfl):PS X (.For tg iter body [] pos) (w3n wi g tb):=by
 intro pins s σ H D I h
 refine wpAny_For (thn (hi pins s σ H _ I h) λv s1 h1=>thn h1 λitv s2 h2=>?_) hs
 obtain ⟨it,fp,tn,J,H2,e,I2,T,st2,f2,W,⟨m0,w0⟩,turn⟩:=h2
 subst e
 have stat:∀{H':Hp},(∀b∈fp,H' b=none)->∀b∈fp,q1X X pins H' b:=λhn b hb=>⟨hn b hb,(f2 b hb).2⟩
 refine codeAny_forLoop_any (λn s'=>∃i σ' H',Inv X pins σ' H' s'/\tn i s'.heap/\(∀b∈fp,H' b=none)/\W i n σ' H') ?_ m0 ⟨0,σ,H2,I2,st2,λb hb=>(f2 b hb).1,w0⟩
 rintro n s3 ⟨i,σ3,H3,I3,st3,fr3,w3⟩
 rcases turn i n σ3 H3 w3 with ⟨stop,qn⟩ | ⟨go,N,hN,step⟩
 ·refine wpAny_passesOwn hp (thn (T.done X rfl rfl rfl hc i pins s3 σ3 H3 X.xe I3 (stat fr3) st3 stop) λr s4 ⟨hr,I4⟩=>?_)
  subst hr
  exact wpAny_execs_nil ⟨σ3,H3,I4,qn⟩
 ·refine wpAny_passesOwn hp (thn (T.item X rfl rfl rfl hc i pins s3 σ3 H3 X.xe I3 (stat fr3) st3 go) λr s4 ⟨u,hr,h4⟩=>?_)
  subst hr
  refine wpAny_passesOwn hp (thn h4 λ_ s5 ⟨x,H5,I5,r5,y5,st5,fr5⟩=>?_)
  have I5':=I5.pinned (stat fr5) (T.obj _ _ st5)
  refine wpAny_passesOwn hp (thn (hg _ s5 σ3 H5 x u _ I5' r5 (step x H5 y5)) λ_ s6 ⟨σ6,H6,I6,q6⟩=>?_)
  refine wpAny_passesOwn hp (thn (hb _ s6 σ6 H6 _ I6 q6) λf s7 q7=>?_)
  have again:∀{σ7:St} {H7:Hp},Inv X (pins++q3n fp s5.heap) σ7 H7 s7->N σ7 H7->∃m,m < n/\∃i σ' H',Inv X pins σ' H' s7/\tn i s7.heap/\(∀b∈fp,H' b=none)/\W i m σ' H':=λ{σ7 H7} I7 n7=>by
   obtain ⟨m',hm,w7⟩:=hN σ7 H7 n7
   refine ⟨m',hm,i+1,σ7,H7,I7.unpinned,T.keep _ _ _ st5 λb hb o e=>(I7.pin (b,o) (List.mem_append_right _ (List.mem_append_right _ (q0K hb e)))).1,λb hb=>?_,w7⟩
   obtain ⟨o,e,d⟩:=T.obj _ _ st5 b hb
   exact (I7.pin (b,o) (List.mem_append_right _ (List.mem_append_right _ (q0K hb e)))).2.1
  cases f with
  | next=>obtain ⟨σ7,H7,I7,n7⟩:=q7;exact again I7 n7
  | cont=>obtain ⟨σ7,H7,I7,n7⟩:=q7;exact again I7 n7
  | brk=>obtain ⟨σ7,H7,I7,q7⟩:=q7;exact ⟨σ7,H7,I7.unpinned,q7⟩
  | ret v=>obtain ⟨x7,σ7,H7,I7,r7,q7⟩:=q7;exact ⟨x7,σ7,H7,I7.unpinned,r7,q7⟩
end
abbrev R2:=V->V->Hp->VK->Prop
def OpR (X:Cx) (f:Value->Value->Sem Value) (r:R2):Prop:=
 ∀(pins:List (Addr×Obj)) (s:Shared) (σ:St) (H:Hp) (x y:V) (v u:Value) (Q:VK),Inv X pins σ H s->RelV x v->RelV y u->r x y H Q ->
  wpAny (model X.prog X.w) X.A (f v u) (EP X pins σ Q) X.xe s
def CallR (X:Cx) (f:Value) (r:List V->Hp->VK->Prop):Prop:=
 ∀(pins:List (Addr×Obj)) (s:Shared) (σ:St) (H:Hp) (xs:List V) (us:List Value) (Q:VK),Inv X pins σ H s->Vals xs us->r xs H Q ->
  wpAny (model X.prog X.w) X.A (call f us) (EP X pins σ Q) X.xe s
def w2M (X:Cx) (r:V->Hp->(Bool->Hp->Prop)->Prop):Prop:=
 ∀(pins:List (Addr×Obj)) (s:Shared) (σ:St) (H:Hp) (x:V) (v:Value) (Q:Bool->Hp->Prop),Inv X pins σ H s->RelV x v->r x H Q ->
  wpAny (model X.prog X.w) X.A (truthy v) (TP X pins σ Q) X.xe s
def tOp (r:R2) (ta tb:TE):TE:=fun σ H Q=>ta σ H λx H1=>tb σ H1 λy H2=>r x y H2 Q
def rI (C:Int->Int->Prop) (g:Int->Int->V):R2:=λx y H Q=>∃i j,x=.int i/\y=.int j/\C i j/\Q (g i j) H
def rI0 (g:Int->Int->V):R2:=λx y H Q=>∃i j,x=.int i/\y=.int j/\Q (g i j) H
section
variable {X:Cx} {a b c:Expr} {ta tb tc:TE} {pos:Pos}
theorem j9k (ha:PE X a ta) (hb:PE X b tb) {pins:List (Addr×Obj)} {s:Shared} {σ:St} {H:Hp} {R:V->V->Hp->Prop} (I:Inv X pins σ H s)
 (h:ta σ H λx H1=>tb σ H1 λy H2=>R x y H2) {Q:Value->Shared->Prop} {f:Value->Value->Sem Value}
 (hf:∀v u s2 x y H2,Inv X pins σ H2 s2->RelV x v->RelV y u->R x y H2->wpAny (model X.prog X.w) X.A (f v u) Q X.xe s2) :
 wpAny (model X.prog X.w) X.A (eval a X.env) (λv s₁=>wpAny (model X.prog X.w) X.A (eval b X.env) (λu s₂=>wpAny (model X.prog X.w) X.A (f v u) Q X.xe s₂) X.xe s₁) X.xe s:=by
 refine thn (ha pins s σ H _ I h) λv s1 ⟨x,H1,I1,r1,q1⟩=>?_
 refine thn (hb pins s1 σ H1 _ I1 q1) λu s2 ⟨y,H2,I2,r2,q2⟩=>?_
 exact hf v u s2 x y H2 I2 r1 r2 q2
theorem j2q {op:Operator} {r:R2} (ho:OpR X (binaryOp op) r) (ha:PE X a ta) (hb:PE X b tb):PE X (.BinOp a op b pos) (tOp r ta tb):=by
 intro pins s σ H Q I h
 exact wpAny_BinOp (j9k ha hb I h λv u s2 x y H2 I2 rx ry q=>ho pins s2 σ H2 x y v u Q I2 rx ry q)
theorem opI {f:Value->Value->Sem Value} {C:Int->Int->Prop} {g:Int->Int->Int}
 (rule:∀(i j:Int) (t u:Tok) (s:Shared) (Q:Value->Shared->Prop) (E:Value->Shared->Prop),C i j->Q (.int (g i j) s.toks) { s with toks:=s.toks+1 }->wpAny (model X.prog X.w) X.A (f (.int i t) (.int j u)) Q E s) :
 OpR X f (rI C λi j=>.int (g i j)):=by
 intro pins s σ H x y v u Q I rx ry h
 obtain ⟨i,j,rfl,rfl,hc,q⟩:=h
 obtain ⟨t,rfl⟩:=rx
 obtain ⟨t',rfl⟩:=ry
 exact rule i j t t' s _ _ hc ⟨.int (g i j),H,I.tok _,⟨_,rfl⟩,q⟩
theorem w1O {f:Value->Value->Sem Value} {g:Int->Int->Int}
 (rule:∀(i j:Int) (t u:Tok) (s:Shared) (Q:Value->Shared->Prop) (E:Value->Shared->Prop),Q (.int (g i j) s.toks) { s with toks:=s.toks+1 }->wpAny (model X.prog X.w) X.A (f (.int i t) (.int j u)) Q E s) :
 OpR X f (rI0 λi j=>.int (g i j)):=by
 intro pins s σ H x y v u Q I rx ry h
 obtain ⟨i,j,rfl,rfl,q⟩:=h
 obtain ⟨t,rfl⟩:=rx
 obtain ⟨t',rfl⟩:=ry
 exact rule i j t t' s _ _ ⟨.int (g i j),H,I.tok _,⟨_,rfl⟩,q⟩
theorem j7K {f:Value->Value->Sem Value} {g:Int->Int->Bool}
 (rule:∀(i j:Int) (t u:Tok) (s:Shared) (Q:Value->Shared->Prop) (E:Value->Shared->Prop),Q (.bool (g i j)) s->wpAny (model X.prog X.w) X.A (f (.int i t) (.int j u)) Q E s) :
 OpR X f (rI0 λi j=>.bl (g i j)):=by
 intro pins s σ H x y v u Q I rx ry h
 obtain ⟨i,j,rfl,rfl,q⟩:=h
 obtain ⟨t,rfl⟩:=rx
 obtain ⟨t',rfl⟩:=ry
 exact rule i j t t' s _ _ ⟨.bl (g i j),H,I,rfl,q⟩
def w22 (i j:Int):Prop:=0 < j/\j < 1073741824
def CMul (i j:Int):Prop:=(-(2 ^ 64) < i/\i < 2 ^ 64)∨(-(2 ^ 64) < j/\j < 2 ^ 64)
theorem CMul.ok {i j:Int} (h:CMul i j):IntMulOk i j:=by
 rcases h with ⟨h1,h2⟩ | ⟨h1,h2⟩
 ·exact .of_left (intBits_le_64 h1 h2)
 ·exact .of_right (intBits_le_64 h1 h2)
theorem j3p:OpR X (binaryOp .Add) (rI0 λi j=>.int (i+j)):=w1O λ_ _ _ _ _ _ _ q=>add_int q
theorem j5L:OpR X (binaryOp .Sub) (rI0 λi j=>.int (i-j)):=w1O λ_ _ _ _ _ _ _ q=>sub_int q
theorem j7w:OpR X (binaryOp .Mult) (rI CMul λi j=>.int (i*j)):=opI λ_ _ _ _ _ _ _ hc q=>mul_int q hc.ok
theorem j1h:OpR X (binaryOp .FloorDiv) (rI w22 λi j=>.int (i / j)):=opI λi j _ _ _ _ _ hc q=>by
 have h1:(0:Int) < j:=hc.1
 have h2:j < 1073741824:=hc.2
 exact floordiv_int (by omega) (by rw [Int.fdiv_eq_ediv_of_nonneg i (by omega)];exact q) (.inl (PyProof.noPylong_small (by omega)))
theorem j60:OpR X (binaryOp .Mod) (rI (λ_ j=>0 < j) λi j=>.int (i % j)):=opI λi j _ _ _ _ _ hc q=>by
 have h1:(0:Int) < j:=hc
 exact mod_int' (by omega) (by rw [Int.fmod_eq_emod_of_nonneg i (by omega)];exact q)
end
def scal:V->V->Bool
 | .non,.non=>true | .non,.int _=>true | .int _,.non=>true | .non,.bl _=>true | .bl _,.non=>true | .non,.str _=>true | .str _,.non=>true
 | .int _,.int _=>true | .bl _,.bl _=>true | .str _,.str _=>true | .byt _,.byt _=>true
 | .int _,.str _=>true | .str _,.int _=>true | .bl _,.str _=>true | .str _,.bl _=>true
 | _,_=>false
def rEq:R2:=λx y H Q=>scal x y=true/\Q (.bl (decide (x=y))) H
def rNe:R2:=λx y H Q=>scal x y=true/\Q (.bl (!decide (x=y))) H
theorem q7b {i j:Int}:decide (V.int i=V.int j)=(i==j):=by
 rw [Bool.eq_iff_iff]
 simp
theorem j0f {i j:Bool}:decide (V.bl i=V.bl j)=(i==j):=by
 rw [Bool.eq_iff_iff]
 simp
theorem q8g {i j:Str}:decide (V.str i=V.str j)=(i==j):=by
 rw [Bool.eq_iff_iff]
 simp
theorem q68 {i j:Array UInt8}:decide (V.byt i=V.byt j)=(i.toList==j.toList):=by
 rw [Bool.eq_iff_iff]
 cases i
 cases j
 simp
section
variable {X:Cx} {a b c:Expr} {ta tb tc:TE} {pos:Pos}
theorem q0H {pins:List (Addr×Obj)} {σ:St} {H:Hp} {s:Shared} {Q:VK} {k k':Bool} (I:Inv X pins σ H s) (q:Q (.bl k) H) (e:k=k'):EP X pins σ Q (.bool k') s:=by
 subst e
 exact ⟨.bl k,H,I,rfl,q⟩
theorem w0B:OpR X (compareOp .Eq) rEq:=by
 intro pins s σ H x y v u Q I rx ry h
 obtain ⟨hs,q⟩:=h
 cases x with
 | non=>
  cases rx
  cases y with
  | non=>cases ry;exact PySem.EqNone.eq_none_none (q0H I q (by simp))
  | bl j=>cases ry;exact PySem.EqNone.eq_none_bool (q0H I q (by simp))
  | int j=>obtain ⟨t',rfl⟩:=ry;exact PySem.EqNone.eq_none_int (q0H I q (by simp))
  | str j=>obtain ⟨t',rfl⟩:=ry;exact PySem.EqNone.eq_none_str (q0H I q (by simp))
  | _=>exact absurd (show false=true from hs) Bool.false_ne_true
 | bl i=>
  cases rx
  cases y with
  | non=>cases ry;exact PySem.EqNone.eq_bool_none (q0H I q (by simp))
  | bl j=>cases ry;exact eq_bool (q0H I q j0f)
  | str j=>obtain ⟨t',rfl⟩:=ry;exact PySem.EqMixed.eq_bool_str (q0H I q (by simp))
  | _=>exact absurd (show false=true from hs) Bool.false_ne_true
 | int i=>
  obtain ⟨t,rfl⟩:=rx
  cases y with
  | non=>cases ry;exact PySem.EqNone.eq_int_none (q0H I q (by simp))
  | int j=>obtain ⟨t',rfl⟩:=ry;exact eq_int (q0H I q q7b)
  | str j=>obtain ⟨t',rfl⟩:=ry;exact PySem.EqMixed.eq_int_str (q0H I q (by simp))
  | _=>exact absurd (show false=true from hs) Bool.false_ne_true
 | str i=>
  obtain ⟨t,rfl⟩:=rx
  cases y with
  | non=>cases ry;exact PySem.EqNone.eq_str_none (q0H I q (by simp))
  | bl j=>cases ry;exact PySem.EqMixed.eq_str_bool (q0H I q (by simp))
  | int j=>obtain ⟨t',rfl⟩:=ry;exact PySem.EqMixed.eq_str_int (q0H I q (by simp))
  | str j=>obtain ⟨t',rfl⟩:=ry;exact eq_str (q0H I q q8g)
  | _=>exact absurd (show false=true from hs) Bool.false_ne_true
 | byt i=>
  obtain ⟨t,rfl⟩:=rx
  cases y with
  | byt j=>obtain ⟨t',rfl⟩:=ry;exact PySem.W.eq_bytes (q0H I q q68)
  | _=>exact absurd (show false=true from hs) Bool.false_ne_true
 | _=>cases y<;>exact absurd (show false=true from hs) Bool.false_ne_true
theorem j9L:OpR X (compareOp .NotEq) rNe:=by
 intro pins s σ H x y v u Q I rx ry h
 obtain ⟨hs,q⟩:=h
 cases x with
 | non=>
  cases rx
  cases y with
  | non=>cases ry;exact PySem.EqNone.ne_none_none (q0H I q (by simp))
  | bl j=>cases ry;exact PySem.EqNone.ne_none_bool (q0H I q (by simp))
  | int j=>obtain ⟨t',rfl⟩:=ry;exact PySem.EqNone.ne_none_int (q0H I q (by simp))
  | str j=>obtain ⟨t',rfl⟩:=ry;exact PySem.EqNone.ne_none_str (q0H I q (by simp))
  | _=>exact absurd (show false=true from hs) Bool.false_ne_true
 | bl i=>
  cases rx
  cases y with
  | non=>cases ry;exact PySem.EqNone.ne_bool_none (q0H I q (by simp))
  | bl j=>cases ry;exact ne_bool (q0H I q (congrArg not j0f))
  | str j=>obtain ⟨t',rfl⟩:=ry;exact PySem.EqMixed.ne_bool_str (q0H I q (by simp))
  | _=>exact absurd (show false=true from hs) Bool.false_ne_true
 | int i=>
  obtain ⟨t,rfl⟩:=rx
  cases y with
  | non=>cases ry;exact PySem.EqNone.ne_int_none (q0H I q (by simp))
  | int j=>obtain ⟨t',rfl⟩:=ry;exact ne_int (q0H I q (congrArg not q7b))
  | str j=>obtain ⟨t',rfl⟩:=ry;exact PySem.EqMixed.ne_int_str (q0H I q (by simp))
  | _=>exact absurd (show false=true from hs) Bool.false_ne_true
 | str i=>
  obtain ⟨t,rfl⟩:=rx
  cases y with
  | non=>cases ry;exact PySem.EqNone.ne_str_none (q0H I q (by simp))
  | bl j=>cases ry;exact PySem.EqMixed.ne_str_bool (q0H I q (by simp))
  | int j=>obtain ⟨t',rfl⟩:=ry;exact PySem.EqMixed.ne_str_int (q0H I q (by simp))
  | str j=>obtain ⟨t',rfl⟩:=ry;exact ne_str (q0H I q (congrArg not q8g))
  | _=>exact absurd (show false=true from hs) Bool.false_ne_true
 | byt i=>
  obtain ⟨t,rfl⟩:=rx
  cases y with
  | byt j=>obtain ⟨t',rfl⟩:=ry;exact PySem.W.ne_bytes (q0H I q (congrArg not q68))
  | _=>exact absurd (show false=true from hs) Bool.false_ne_true
 | _=>cases y<;>exact absurd (show false=true from hs) Bool.false_ne_true
theorem j8T:OpR X (compareOp .Lt) (rI0 λi j=>.bl (decide (i < j))):=j7K λ_ _ _ _ _ _ _ q=>lt_int q
theorem w0M:OpR X (compareOp .LtE) (rI0 λi j=>.bl (decide (i<=j))):=j7K λ_ _ _ _ _ _ _ q=>le_int q
theorem w0G:OpR X (compareOp .Gt) (rI0 λi j=>.bl (decide (j < i))):=j7K λ_ _ _ _ _ _ _ q=>gt_int q
theorem j9S:OpR X (compareOp .GtE) (rI0 λi j=>.bl (decide (j<=i))):=j7K λ_ _ _ _ _ _ _ q=>ge_int q
theorem q64:OpR X (compareOp .In) (λx y H Q=>∃i j,x=.str i/\y=.str j/\Q (.bl (!(Builtin.Str.occurrences j i 0 j.length 1).isEmpty)) H):=by
 intro pins s σ H x y v u Q I rx ry h
 obtain ⟨i,j,rfl,rfl,q⟩:=h
 obtain ⟨t,rfl⟩:=rx
 obtain ⟨t',rfl⟩:=ry
 exact in_str (q0H I q rfl)
theorem j5p:OpR X (compareOp .Is) (λx y H Q=>y=.non/\Q (.bl (decide (x=.non))) H):=by
 intro pins s σ H x y v u Q I rx ry h
 obtain ⟨rfl,q⟩:=h
 cases ry
 refine is_none_gen (q0H I q ?_)
 cases x<;>first
  | (cases rx;rfl)
  | (obtain ⟨t,rfl⟩:=rx;rfl)
theorem j03:OpR X (compareOp .IsNot) (λx y H Q=>y=.non/\Q (.bl (!decide (x=.non))) H):=by
 intro pins s σ H x y v u Q I rx ry h
 obtain ⟨rfl,q⟩:=h
 cases ry
 refine isnot_none_gen (q0H I q ?_)
 cases x<;>first
  | (cases rx;rfl)
  | (obtain ⟨t,rfl⟩:=rx;rfl)
theorem q4m:OpR X (compareOp .NotIn) (λx y H Q=>∃i j,x=.str i/\y=.str j/\Q (.bl (!(!(Builtin.Str.occurrences j i 0 j.length 1).isEmpty))) H):=by
 intro pins s σ H x y v u Q I rx ry h
 obtain ⟨i,j,rfl,rfl,q⟩:=h
 obtain ⟨t,rfl⟩:=rx
 obtain ⟨t',rfl⟩:=ry
 exact notIn_str (q0H I q rfl)
theorem OpR.or {f:Value->Value->Sem Value} {r r':R2} (h:OpR X f r) (h':OpR X f r'):OpR X f (λx y H Q=>r x y H Q∨r' x y H Q):=by
 intro pins s σ H x y v u Q I rx ry q
 rcases q with q | q
 ·exact h pins s σ H x y v u Q I rx ry q
 ·exact h' pins s σ H x y v u Q I rx ry q
theorem nomark (b:Expr) {op:CmpOp} (h:op≠.In:=by decide) (h2:op≠.NotIn:=by decide):behindInMarks op b=false:=by
 have e1:(op==CmpOp.In)=false:=by cases op<;>first | rfl | exact absurd rfl h
 have e2:(op==CmpOp.NotIn)=false:=by cases op<;>first | rfl | exact absurd rfl h2
 cases b<;>simp [behindInMarks,e1,e2]
theorem j1R {op:CmpOp} {r:R2} (ho:OpR X (compareOp op) r) (ha:PE X a ta) (hb:PE X b tb) (hm:behindInMarks op b=false):PE X (.Compare a [op] [b] pos) (tOp r ta tb):=by
 intro pins s σ H Q I h
 exact wpAny_Compare1 (j9k ha hb I h λv u s2 x y H2 I2 rx ry q=>ho pins s2 σ H2 x y v u Q I2 rx ry q) hm
def j26 (t:TE):TT:=fun σ H Q=>t σ H λx H'=>∃k,x=.bl k/\Q k H'
theorem j13 {op:CmpOp} {r:R2} (ho:OpR X (compareOp op) r) (ha:PE X a ta) (hb:PE X b tb) (hm:behindInMarks op b=false):PT X (.Compare a [op] [b] pos) (j26 (tOp r ta tb)):=by
 intro pins s σ H Q I h
 refine wpAny_isTrue_Compare1 (thn (ha pins s σ H _ I h) λv s1 ⟨x,H1,I1,r1,q1⟩=>thn (hb pins s1 σ H1 _ I1 q1) λu s2 ⟨y,H2,I2,r2,q2⟩=>
  thn (ho pins s2 σ H2 x y v u _ I2 r1 r2 q2) λc s3 ⟨z,H3,I3,r3,k,e,q3⟩=>?_) hm
 subst e
 cases r3
 exact wpAny_truthy_bool ⟨H3,I3,q3⟩
def j0D (r r':R2) (ta tb tc:TE):TE:=fun σ H Q=>ta σ H λx H1=>tb σ H1 λy H2=>r x y H2 λz H3=>∃k,z=.bl k /\
 (if k=true then tc σ H3 λw' H4=>r' y w' H4 Q else Q (.bl false) H3)
theorem q9z {op op':CmpOp} {r r':R2} (ho:OpR X (compareOp op) r) (ho':OpR X (compareOp op') r') (ha:PE X a ta) (hb:PE X b tb) (hc:PE X c tc)
 (hm:lastMarks [op,op'] [b,c]=false:=by with_unfolding_all rfl):PT X (.Compare a [op,op'] [b,c] pos) (j26 (j0D r r' ta tb tc)):=by
 intro pins s σ H Q I h
 refine isTrue_chain (thn (ha pins s σ H _ I h) λv s1 ⟨x,H1,I1,r1,q1⟩=>test_link (thn (hb pins s1 σ H1 _ I1 q1) λu s2 ⟨y,H2,I2,r2,q2⟩=>
  thn (ho pins s2 σ H2 x y v u _ I2 r1 r2 q2) λd s3 ⟨z,H3,I3,r3,k,e,q3⟩=>?_)) hm
 subst e
 cases r3
 refine wpAny_truthy_bool ?_
 cases k with
 | false=>
  obtain ⟨k',e',q'⟩:=q3
  cases e'
  exact ite_ff ⟨H3,I3,q'⟩
 | true=>
  refine ite_tt (test_last (thn (hc pins s3 σ H3 _ I3 q3) λw' s4 ⟨z',H4,I4,r4,q4⟩=>thn (ho' pins s4 σ H4 y z' u w' _ I4 r2 r4 q4) λd' s5 ⟨z2,H5,I5,r5,k2,e2,q5⟩=>?_))
  subst e2
  cases r5
  exact wpAny_truthy_bool ⟨H5,I5,q5⟩
def j8S (K:PySem.W.Frag) (x:V) (H:Hp) (k:Bool):Prop:=
 match x with
 | .non=>k=false
 | .bl b=>k=b
 | .int i=>k=(i != 0)
 | .str y=>y.length<=sizeLine/\k=((y.length:Int) != 0)
 | .byt y=>y.size<=sizeLine/\k=((y.size:Int) != 0)
 | .ref p=>(∃xs,SqL K H p xs/\k=!xs.isEmpty)∨(∃xs,SqT K H p xs/\k=!xs.isEmpty)∨∃kvs,H p=some (.dK kvs)/\k=!kvs.isEmpty
 | _=>False
theorem q6s {κ:Type} {kvs:List (κ×V)} {vs:List (κ×Value)} (r:KV kvs vs):(!vs.isEmpty)=!kvs.isEmpty:=by
 cases r<;>rfl
theorem q3p {xs:List V} {its:List Value} (r:Vals xs its):(!its.toArray.isEmpty)=!xs.isEmpty:=by
 cases r<;>simp
theorem line63:(sizeLine:Nat) < 2 ^ 63:=by rw [sizeLine_eq];decide
theorem j5E:w2M X (λx H Q=>∃k,j8S X.K x H k/\Q k H):=by
 intro pins s σ H x v Q I rx h
 obtain ⟨k,e,q⟩:=h
 have hl:=line63
 have hs:sizeLine=16777216:=sizeLine_eq
 cases x with
 | non=>
  cases rx
  have e':k=false:=e
  subst e'
  exact truthy_none ⟨H,I,q⟩
 | bl b=>
  cases rx
  have e':k=b:=e
  subst e'
  exact wpAny_truthy_bool ⟨H,I,q⟩
 | int i=>
  obtain ⟨t,rfl⟩:=rx
  have e':k=(i != 0):=e
  subst e'
  exact PySem.P.truthy_int ⟨H,I,q⟩
 | str y=>
  obtain ⟨t,rfl⟩:=rx
  obtain ⟨hy,e'⟩:y.length<=sizeLine/\k=((y.length:Int) != 0):=e
  subst e'
  exact PySem.P.truthy_str (by omega) ⟨H,I.tok _,q⟩
 | byt y=>
  obtain ⟨t,rfl⟩:=rx
  obtain ⟨hy,e'⟩:y.size<=sizeLine/\k=((y.size:Int) != 0):=e
  subst e'
  exact PySem.W.truthy_bytes (by omega) ⟨H,I.tok _,q⟩
 | ref p=>
  cases rx
  have e':(∃xs,SqL X.K H p xs/\k=!xs.isEmpty)∨(∃xs,SqT X.K H p xs/\k=!xs.isEmpty)∨∃kvs,H p=some (.dK kvs)/\k=!kvs.isEmpty:=e
  rcases e' with ⟨xs,hx,e'⟩ | ⟨xs,hx,e'⟩ | ⟨kvs,hx,e'⟩
  ·subst e'
   obtain ⟨its,r,pl,hz⟩:=I.list hx
   have hlen:=r.length
   exact wpAny_truthy_list pl.isList (by simp only [List.size_toArray];omega) ⟨H,I.tok _,by rw [q3p r];exact q⟩
  ·subst e'
   obtain ⟨its,r,pl,hz⟩:=I.tuple hx
   have hlen:=r.length
   exact truthy_tuple pl (by simp only [List.size_toArray];omega) ⟨H,I.tok _,by rw [q3p r];exact q⟩
  ·subst e'
   obtain ⟨hz,hS,vs,r,m⟩:kvs.length<=sizeLine/\(p==sysModules)=false/\∃vs,KV kvs vs/\s.heap.DictOf (q40 X.prog X.w) p vs:=I.hok p _ hx
   have hlen:kvs.length=vs.length:=Paired.length r
   exact wpAny_truthy_dict hS m (by omega) ⟨H,I.tok _,by rw [q6s r];exact q⟩
 | _=>exact (show False from e).elim
theorem q8R (ha:PE X a ta) (he:∀whole,isTrue a X.env whole=(do let v <-whole;standAt a.pos;holding [v] (truthy v))) :
 PT X a (fun σ H Q=>ta σ H λx H'=>∃k,j8S X.K x H' k/\Q k H'):=by
 intro pins s σ H Q I h
 exact isTrue_plain (thn (ha pins s σ H _ I h) λv s1 ⟨x,H1,I1,r1,q1⟩=>j5E pins s1 σ H1 x v Q I1 r1 q1) (he _)
theorem q58:OpR X (binaryOp .Add) (λx y H Q=>∃i j,x=.str i/\y=.str j/\i.length+j.length<=sizeLine/\Q (.str (i++j)) H):=by
 intro pins s σ H x y v u Q I rx ry h
 obtain ⟨i,j,rfl,rfl,hz,q⟩:=h
 obtain ⟨t,rfl⟩:=rx
 obtain ⟨t',rfl⟩:=ry
 exact add_str (λt' tk=>⟨.str (i++j),H,I.tok _,⟨_,rfl⟩,q⟩) hz
theorem vals1 {x:V} {us:List Value} (r:Vals [x] us):∃u,us=[u]/\RelV x u:=by
 cases r with
 | cons r1 r2=>cases r2;exact ⟨_,rfl,r1⟩
theorem vals2 {x y:V} {us:List Value} (r:Vals [x,y] us):∃u w',us=[u,w']/\RelV x u/\RelV y w':=by
 cases r with
 | cons r1 r2=>
  cases r2 with
  | cons r3 r4=>cases r4;exact ⟨_,_,rfl,r1,r3⟩
theorem q83:CallR X (.builtin "abs") (λxs H Q=>∃i,xs=[.int i]/\Q (.int (if i < 0 then -i else i)) H):=by
 intro pins s σ H xs us Q I r h
 obtain ⟨i,rfl,q⟩:=h
 obtain ⟨u,rfl,t,rfl⟩:=vals1 r
 exact call_abs_int λu tk=>⟨.int (if i < 0 then -i else i),H,I.tok _,⟨_,rfl⟩,q⟩
theorem q6Z (hc:X.calm=true):CallR X (.builtin "max") (λxs H Q=>∃i j,xs=[.int i,.int j]/\Q (.int (if j > i then j else i)) H):=by
 intro pins s σ H xs us Q I r h
 obtain ⟨i,j,rfl,q⟩:=h
 obtain ⟨u,w',rfl,⟨t,rfl⟩,⟨t',rfl⟩⟩:=vals2 r
 refine max_two_ints (I.ok.hd hc) λh' tk k=>⟨_,H,I.kept k,?_,q⟩
 by_cases hj:j > i
 ·rw [if_pos hj,if_pos hj];exact ⟨_,rfl⟩
 ·rw [if_neg hj,if_neg hj];exact ⟨_,rfl⟩
theorem q6O (hc:X.calm=true):CallR X (.builtin "min") (λxs H Q=>∃i j,xs=[.int i,.int j]/\Q (.int (if j < i then j else i)) H):=by
 intro pins s σ H xs us Q I r h
 obtain ⟨i,j,rfl,q⟩:=h
 obtain ⟨u,w',rfl,⟨t,rfl⟩,⟨t',rfl⟩⟩:=vals2 r
 refine min_two_ints (I.ok.hd hc) λh' tk k=>⟨_,H,I.kept k,?_,q⟩
 by_cases hj:j < i
 ·rw [if_pos hj,if_pos hj];exact ⟨_,rfl⟩
 ·rw [if_neg hj,if_neg hj];exact ⟨_,rfl⟩
theorem q7x:CallR X (.type "int") (λxs H Q=>(∃i,xs=[.int i]/\Q (.int i) H)∨∃k,xs=[.bl k]/\Q (.int (if k then 1 else 0)) H):=by
 intro pins s σ H xs us Q I r h
 rcases h with ⟨i,rfl,q⟩ | ⟨k,rfl,q⟩
 ·obtain ⟨u,rfl,t,rfl⟩:=vals1 r
  exact call_int_int ⟨.int i,H,I,⟨_,rfl⟩,q⟩
 ·obtain ⟨u,rfl,r1⟩:=vals1 r
  cases r1
  exact call_int_bool ⟨.int (if k then 1 else 0),H,I.tok _,⟨_,rfl⟩,q⟩
theorem q4g:CallR X (.type "str") (λxs H Q=>∃i,xs=[.int i]/\i.natAbs.log2 < 1920/\Q (.str (toString i)) H):=by
 intro pins s σ H xs us Q I r h
 obtain ⟨i,rfl,hz,q⟩:=h
 obtain ⟨u,rfl,t,rfl⟩:=vals1 r
 exact PySem.P.str_of_int hz ⟨.str _,H,I.tok _,⟨_,rfl⟩,q⟩
def w3f (K:PySem.W.Frag) (x:V) (H:Hp) (n:Nat):Prop:=
 match x with
 | .str y=>y.length<=sizeLine/\n=y.length
 | .byt y=>y.size<=sizeLine/\n=y.size
 | .ref p=>(∃xs,SqL K H p xs/\n=xs.length)∨∃xs,SqT K H p xs/\n=xs.length
 | _=>False
theorem q5w:CallR X (.builtin "len") (λxs H Q=>∃x n,xs=[x]/\w3f X.K x H n/\Q (.int n) H):=by
 intro pins s σ H xs us Q I r h
 obtain ⟨x,n,rfl,e,q⟩:=h
 obtain ⟨u,rfl,rx⟩:=vals1 r
 have hl:=line63
 have hs:sizeLine=16777216:=sizeLine_eq
 cases x with
 | str y=>
  obtain ⟨t,rfl⟩:=rx
  obtain ⟨hy,e'⟩:y.length<=sizeLine/\n=y.length:=e
  subst e'
  exact len_str (by omega) ⟨.int _,H,I.tok _,⟨_,rfl⟩,q⟩
 | byt y=>
  obtain ⟨t,rfl⟩:=rx
  obtain ⟨hy,e'⟩:y.size<=sizeLine/\n=y.size:=e
  subst e'
  exact PySem.W.len_bytes (by omega) ⟨.int _,H,I.tok _,⟨_,rfl⟩,q⟩
 | ref p=>
  cases rx
  have e':(∃xs,SqL X.K H p xs/\n=xs.length)∨∃xs,SqT X.K H p xs/\n=xs.length:=e
  rcases e' with ⟨xs,hx,e'⟩ | ⟨xs,hx,e'⟩
  ·subst e'
   obtain ⟨its,r',pl,hz⟩:=I.list hx
   have hlen:=r'.length
   exact Calls.call_len_list pl.isList (by simp only [List.size_toArray];omega) ⟨.int xs.length,H,I.tok _,⟨_,by simp only [List.size_toArray];rw [hlen]⟩,q⟩
  ·subst e'
   obtain ⟨its,r',pl,hz⟩:=I.tuple hx
   have hlen:=r'.length
   exact len_tuple pl (by simp only [List.size_toArray];omega) ⟨.int xs.length,H,I.tok _,⟨_,by simp only [List.size_toArray];rw [hlen]⟩,q⟩
 | _=>exact (show False from e).elim
end
structure ObjM (h:Heap) (x dx C:Addr) (mA:Str->Option Value):Prop where
 obj:h.get? x=some (PySem.W.instObj C dx)
 ns:h.Ns1 dx mA
 ne:dx≠x
theorem q7k {h:Heap} {dx:Addr} {mA:Str->Option Value} (n:h.Ns1 dx mA):∃od,h.get? dx=some od/\∀name,PySem.W.lookIn name od=some (mA name):=by
 obtain ⟨o,es,ep,ho,hd,hk,_,hm⟩:=n
 refine ⟨o,ho,λname=>?_⟩
 have e:=hm name
 unfold nsFind findBy at e
 rw [<-Array.find?_toList] at e
 unfold PySem.W.lookIn
 rw [hd]
 dsimp only
 split
 ·rename_i y q
  rw [q] at e
  exact congrArg some e
 ·rename_i q
  rw [q] at e
  have a:es.toList.any (·.refKey)=false:=by
   rw [List.any_eq_false]
   intro y hy
   obtain ⟨z,t,hkey⟩:=hk y (Array.mem_toList_iff.mp hy)
   simp [DictEntry.refKey,hkey]
  have a':¬es.toList.any (·.refKey)=true:=by rw [a];exact Bool.false_ne_true
  rw [if_neg a']
  exact congrArg some e
theorem ObjM.look {h:Heap} {x dx C:Addr} {mA:Str->Option Value} (I:ObjM h x dx C mA):∃od,PySem.W.InstAt h x (PySem.W.instObj C dx) C (some od)/\∀name,PySem.W.lookIn name od=some (mA name):=
 let ⟨od,ho,hl⟩:=q7k I.ns
 ⟨od,⟨I.obj,rfl,rfl,ho⟩,hl⟩
section
variable {prog:Program} {w:World} {A:Around} {E:Value->Shared->Prop} {s:Shared} {K:PySem.W.Frag} {x dx C f:Addr} {mA:Str->Option Value} {name:Str} {v:Value}
theorem j1V {expr:Bool} {Q:Value->Shared->Prop} (X:K.In s.heap) (I:ObjM s.heap x dx C mA) (hg:PySem.W.plainGet K C name=true) (hh:PySem.W.hasDictIn K C=true)
 (ha:PySem.W.findIn K (.ref C) name=some none) (hv:mA name=some v) (hv':PySem.W.handedIn v=true) (h:Q v { s with toks:=s.toks+1 }) :
 wpAny (model prog w) A (getAttr (.ref x) name expr) Q E s:=by
 obtain ⟨od,J,hl⟩:=I.look
 exact PySem.W.get_value X J (PySem.W.plainGet_of hg).1 (PySem.W.findObj_own hh ha rfl (by rw [hl,hv])) hv' h
theorem q8M {pl:Sem Bool} {Q:Value×List Value->Shared->Prop} (X:K.In s.heap) (I:ObjM s.heap x dx C mA) (hg:PySem.W.plainGet K C name=true)
 (hf:PySem.W.findIn K (.ref C) name=some (some (.ref f))) (ht:PySem.W.isFn K (.ref f)=true) (hv:mA name=none) (h:Q (.ref f,[.ref x]) s) :
 wpAny (model prog w) A (getMethod (.ref x) name pl) Q E s:=by
 obtain ⟨od,J,hl⟩:=I.look
 exact PySem.W.method_fn X J (PySem.W.plainGet_of hg).1 (PySem.W.plainGet_of hg).2 hf (beq_iff_eq.mp ht) (by show (PySem.W.lookIn name od).map (·.isSome)=some false;rw [hl,hv];rfl) h
theorem j1v {ns:List Str} {Q:Unit->Shared->Prop} (X:K.In s.heap) (I:ObjM s.heap x dx C mA)
 (hs:PySem.W.findIn K (.ref C) "__setattr__" = some (some (.builtin "object.__setattr__"))) (hp:PySem.W.plainOver K C=true) (ht:PySem.W.takerIn K C name=some none) (hh:PySem.W.hasDictIn K C=true)
 (hw:PySem.Within mA ns) (hsz:ns.length<=sizeLine)
 (h:∀h',ObjM h' x dx C (λy=>if y=name then some v else mA y)->Heap.SameBut dx s.heap h'->Q () { s with heap:=h',toks:=s.toks+2 }) :
 wpAny (model prog w) A (setAttr (.ref x) name v) Q E s:=by
 obtain ⟨od,J,hl⟩:=I.look
 refine PySem.W.set_plain X J hs (PySem.W.osa_open (s:={ s with toks:=s.toks+1 }) (r:=none) X J hp ht λb=>?_)
 obtain ⟨cd,hc,hd'⟩:=PySem.W.any_some hh
 have hx:s.heap.get? x=some ⟨.ref C,some dx,.plain,#[]⟩:=I.obj
 refine wpAny_bind (wpAny_pure (wpAny_bind (wpAny_bind (wpAny_loadPart hx (wpAny_bind (PySem.W.Looks.here (s:={ s with toks:=s.toks+1 }) (PySem.W.looks_clsIn X hc) ?_))))))
 rw [hd']
 refine wpAny_pure (a:=some dx) (wpAny_bind (wpAny_pure (wpAny_bind ?_)))
 refine wpAny_nsSet1 (s:={ s with toks:=s.toks+1 }) I.ns λh' hn2 hs2=>?_
 obtain ⟨oD,esD,epD,hoD,hdD,hcD⟩:=hn2.count (PySem.Within.cons name v hw)
 refine wpAny_bind (wpAny_lookBehind hoD (by rw [hdD];exact pastItsLine_dict (Nat.le_trans hcD (by rw [List.length_cons];omega))) ?_)
 exact wpAny_pure (h _ ⟨(hs2.2 _ (Ne.symm I.ne)).trans I.obj,hn2,I.ne⟩ hs2)
theorem q8I {R:Result->Shared->Prop} {vs:List Value} {kw:List (Str×Value)} (X:K.In s.heap) (hm:PySem.W.makesIn K C=true)
 (hi:PySem.W.findIn K (.ref C) "__init__" = some (some (.ref f))) (hf:PySem.W.typeIn K (.ref f)=some (.type "function"))
 (h:codeAny (model prog w) (A.under (.builtin "type.__call__" ⟨.ref C::vs,kw⟩)) (.call (.ref f) ⟨.ref (s.heap.objs.size+1)::vs,kw⟩) (PySem.W.InitBack (s.heap.objs.size+1) R)
  { s with heap:=(s.heap.push PySem.W.emptyDict).push (PySem.W.instObj C s.heap.objs.size) }) :
 codeAny (model prog w) A (.call (.ref C) ⟨vs,kw⟩) R s:=by
 obtain ⟨hh,g,d,t,os⟩:=s
 exact PySem.W.make_core (PySem.W.makes_of X hm) (PySem.W.looks_findIn X hi) (λself=>PySem.W.bind_fn X self hf) (.inl rfl) h
end
def q3E (f:Str) (v:V):List (Str×V)->List (Str×V)
 | []=>[(f,v)]
 | (g,x)::r=>if g=f then (g,v)::r else (g,x)::q3E f v r
theorem q2V (f g:Str) (v:V):∀fs:List (Str×V),(q3E f v fs).lookup g=if g=f then some v else fs.lookup g
 | []=>by
  show List.lookup g [(f,v)]=_
  by_cases h:g=f
  ·have hb:(g==f)=true:=beq_iff_eq.mpr h
   simp only [List.lookup,hb,if_pos h]
  ·have hb:(g==f)=false:=beq_eq_false_iff_ne.mpr h
   simp only [List.lookup,hb,if_neg h]
 | (k,x)::r=>by
  have ih:=q2V f g v r
  rw [show q3E f v ((k,x)::r)=(if k=f then (k,v)::r else (k,x)::q3E f v r) from rfl]
  by_cases hk:k=f
  ·rw [if_pos hk]
   by_cases h:g=k
   ·have hb:(g==k)=true:=beq_iff_eq.mpr h
    simp only [List.lookup,hb,if_pos (h.trans hk)]
   ·have hb:(g==k)=false:=beq_eq_false_iff_ne.mpr h
    simp only [List.lookup,hb,if_neg (λe:g=f=>h (e.trans hk.symm))]
  ·rw [if_neg hk]
   by_cases h:g=k
   ·have hb:(g==k)=true:=beq_iff_eq.mpr h
    simp only [List.lookup,hb,if_neg (λe:g=f=>hk (h.symm.trans e))]
   ·have hb:(g==k)=false:=beq_eq_false_iff_ne.mpr h
    simp only [List.lookup,hb]
    exact ih
theorem q23 (f:Str) (v:V):∀fs:List (Str×V),f∈(q3E f v fs).map (·.1)/\∀g,g∈fs.map (·.1)->g∈(q3E f v fs).map (·.1)
 | []=>⟨by simp [q3E],λg h=>by simp at h⟩
 | (k,x)::r=>by
  obtain ⟨i1,i2⟩:=q23 f v r
  rw [show q3E f v ((k,x)::r)=(if k=f then (k,v)::r else (k,x)::q3E f v r) from rfl]
  by_cases hk:k=f
  ·rw [if_pos hk]
   subst hk
   exact ⟨by simp,λg h=>by simpa using h⟩
  ·rw [if_neg hk]
   refine ⟨?_,λg h=>?_⟩
   ·rw [List.map_cons]
    exact List.mem_cons_of_mem _ i1
   ·rw [List.map_cons] at h ⊢
    rcases List.mem_cons.mp h with e | e
    ·exact List.mem_cons.mpr (.inl e)
    ·exact List.mem_cons_of_mem _ (i2 g e)
theorem q2Y (f:Str) (v:V):∀fs:List (Str×V),(q3E f v fs).length<=fs.length+1
 | []=>by simp [q3E]
 | (k,x)::r=>by
  have ih:=q2Y f v r
  rw [show q3E f v ((k,x)::r)=(if k=f then (k,v)::r else (k,x)::q3E f v r) from rfl]
  by_cases hk:k=f
  ·rw [if_pos hk,List.length_cons,List.length_cons];omega
  ·rw [if_neg hk,List.length_cons,List.length_cons];omega
theorem RelO.some_of {v:V} {o:Option Value} (r:RelO (some v) o):∃u,o=some u/\RelV v u:=by
 cases o with
 | none=>exact (show False from r).elim
 | some u=>exact ⟨u,rfl,r⟩
theorem RelO.none_of {o:Option Value} (r:RelO none o):o=none:=by
 cases o with
 | none=>rfl
 | some u=>exact (show False from r).elim
theorem q77 {v:V} {u:Value} (r:RelV v u):PySem.W.handedIn u=true:=by
 cases v with
 | non=>cases (show u=Value.none from r);rfl
 | bl b=>cases (show u=Value.bool b from r);rfl
 | int i=>obtain ⟨t,e⟩:=(show ∃t,u=Value.int i t from r);cases e;rfl
 | str x=>obtain ⟨t,e⟩:=(show ∃t,u=Value.str x t from r);cases e;rfl
 | byt b=>obtain ⟨t,e⟩:=(show ∃t,u=Value.bytes b t from r);cases e;rfl
 | flt b=>obtain ⟨t,e⟩:=(show ∃t,u=Value.float b t from r);cases e;rfl
 | ref a=>cases (show u=Value.ref a from r);rfl
 | ty n=>cases (show u=Value.type n from r);rfl
section
variable {P:Program} {w:World} {H H':Hp} {h h':Heap} {a C dx:Addr} {fs fs':List (Str×V)}
theorem q3W (hok:HOk P w H h) (e:H a=some (.ins C dx fs)):∃mA,ObjM h a dx C mA/\(∀f,RelO (fs.lookup f) (mA f))/\PySem.Within mA (fs.map (·.1))/\fs.length<=1000/\H dx=some (.own a):=by
 obtain ⟨d,z,ne,ob,mA,n,r,q⟩:=(show ObjOk P w H h a (.ins C dx fs) from hok a _ e)
 exact ⟨mA,⟨ob,n,ne⟩,r,q,z,d⟩
end
structure Cls (K:PySem.W.Frag) (C:Addr):Prop where
 pg:PySem.W.plainGet K C Str.empty=true
 hd:PySem.W.hasDictIn K C=true
 po:PySem.W.plainOver K C=true
 sa:PySem.W.findIn K (.ref C) "__setattr__" = some (some (.builtin "object.__setattr__"))
theorem Cls.get {K:PySem.W.Frag} {C:Addr} (c:Cls K C) (f:Str):PySem.W.plainGet K C f=true:=c.pg
def NoAttr (K:PySem.W.Frag) (C:Addr) (f:Str):Prop:=PySem.W.findIn K (.ref C) f=some none
theorem NoAttr.taker {K:PySem.W.Frag} {C:Addr} {f:Str} (n:NoAttr K C f):PySem.W.takerIn K C f=some none:=by
 unfold PySem.W.takerIn
 rw [show PySem.W.findIn K (.ref C) f=some none from n]
 rfl
structure Con (K:PySem.W.Frag) (C:Addr) (f:Str) (v:V) (u:Value):Prop where
 at_:PySem.W.findIn K (.ref C) f=some (some u)
 rel:RelV v u
 get:PySem.W.specialIn K u "__get__" = some none
 cp:PySem.W.copiedNames.contains f=false
structure Meth (K:PySem.W.Frag) (C:Addr) (m:Str) (f:Addr):Prop where
 at_:PySem.W.findIn K (.ref C) m=some (some (.ref f))
 fn:PySem.W.isFn K (.ref f)=true
 kp:PySem.W.keepIn K (.ref f)=true
section
variable {X:Cx} {pins:List (Addr×Obj)} {σ:St} {H:Hp} {s:Shared} {a C dx:Addr} {fs:List (Str×V)} {f:Str} {v:V} {A:Around} {E:Value->Shared->Prop}
theorem q53 {b:Bool} {Q:Value->Shared->Prop} (I:Inv X pins σ H s) (e:H a=some (.ins C dx fs)) (c:Cls X.K C) (n:NoAttr X.K C f) (l:fs.lookup f=some v)
 (h:∀u s',Inv X pins σ H s'->RelV v u->Q u s'):wpAny (model X.prog X.w) A (getAttr (.ref a) f b) Q E s:=by
 obtain ⟨mA,O,r,_,_,_⟩:=q3W I.hok e
 obtain ⟨u,hu,ru⟩:=RelO.some_of (v:=v) (o:=mA f) (by rw [<-l];exact r f)
 exact j1V I.kIn O (c.get f) c.hd n hu (q77 ru) (h u _ (I.tok _) ru)
theorem q3h {m:Str} {g:Addr} {pl:Sem Bool} {Q:Value×List Value->Shared->Prop} (I:Inv X pins σ H s) (e:H a=some (.ins C dx fs)) (c:Cls X.K C) (k:Meth X.K C m g) (l:fs.lookup m=none)
 (h:Q (.ref g,[.ref a]) s):wpAny (model X.prog X.w) A (getMethod (.ref a) m pl) Q E s:=by
 obtain ⟨mA,O,r,_,_,_⟩:=q3W I.hok e
 have hn:mA m=none:=RelO.none_of (by rw [<-l];exact r m)
 exact q8M I.kIn O (c.get m) k.at_ k.fn hn h
theorem q56 {y:V} {u:Value} {Q:Unit->Shared->Prop} (I:Inv X pins σ H s) (e:H a=some (.ins C dx fs)) (c:Cls X.K C) (n:NoAttr X.K C f) (hl:fs.length < 1000) (ry:RelV y u)
 (h:∀s',Inv X pins σ (upd H a (.ins C dx (q3E f y fs))) s'->Q () s'):wpAny (model X.prog X.w) A (setAttr (.ref a) f u) Q E s:=by
 obtain ⟨mA,O,r,wi,_,ho⟩:=q3W I.hok e
 have hz:(fs.map (·.1)).length<=sizeLine:=by rw [List.length_map,sizeLine_eq];omega
 refine j1v I.kIn O c.sa c.po n.taker c.hd wi hz λh' O' sb=>h _ ?_
 have hd:∃o,h'.get? dx=some o:=let ⟨o,_,_,e',_⟩:=O'.ns;⟨o,e'⟩
 refine I.write (x:=a) (e:=dx) (by rw [e];exact True.intro) (.inr ho) (λb q hb z=>(sb.2 b hb).trans z) hd ?_
 refine ⟨by rw [q0h O.ne];exact ho,?_,O.ne,O'.obj,_,O'.ns,λg=>?_,λg hg=>?_⟩
 ·have:=q2Y f y fs;omega
 ·show RelO ((q3E f y fs).lookup g) (if g=f then some u else mA g)
  rw [q2V]
  by_cases q:g=f
  ·rw [if_pos q,if_pos q];exact ry
  ·rw [if_neg q,if_neg q];exact r g
 ·by_cases q:g=f
  ·rw [q];exact (q23 f y fs).1
  ·refine (q23 f y fs).2 g (wi g λz=>hg ?_)
   show (if g=f then some u else mA g)=none
   rw [if_neg q];exact z
theorem Inv.made (I:Inv X pins σ H s):Inv X pins σ (upd (upd H s.heap.objs.size (.own (s.heap.objs.size+1))) (s.heap.objs.size+1) (.ins C s.heap.objs.size []))
 { s with heap:=(s.heap.push PySem.W.emptyDict).push (PySem.W.instObj C s.heap.objs.size) }:=by
 have e1:(s.heap.push PySem.W.emptyDict).get? s.heap.objs.size=some PySem.W.emptyDict:=Heap.get?_push_size s.heap rfl
 have e2:((s.heap.push PySem.W.emptyDict).push (PySem.W.instObj C s.heap.objs.size)).get? (s.heap.objs.size+1)=some (PySem.W.instObj C s.heap.objs.size):=by
  have:=Heap.get?_push_size (s.heap.push PySem.W.emptyDict) (o:=PySem.W.instObj C s.heap.objs.size) rfl
  rwa [Heap.size_push] at this
 have e3:(s.heap.push PySem.W.emptyDict).Ns s.heap.objs.size (λ_=>none):=⟨PySem.W.emptyDict,#[],_,e1,rfl,(λe he=>absurd he (by simp)),λ_=>rfl⟩
 have I1:=I.laid (a:=s.heap.objs.size) (o:=.own (s.heap.objs.size+1)) (h':=s.heap.push PySem.W.emptyDict) (t':=s.toks) (λb u q=>Heap.get?_push_of_some _ q) (Nat.le_refl _) ⟨_,e1⟩
 refine I1.laid (a:=s.heap.objs.size+1) (o:=.ins C s.heap.objs.size []) (t':=s.toks) (λb u q=>Heap.get?_push_of_some _ q) (Nat.le_of_eq (Heap.size_push _ _)) ?_
 have ne:s.heap.objs.size≠s.heap.objs.size+1:=Nat.ne_of_lt (Nat.lt_succ_self _)
 refine ⟨by rw [q0h ne,q0p],Nat.zero_le _,ne,e2,λ_=>none,(Heap.Ns1.of_empty e3).at λo q=>Heap.get?_push_of_some _ q,λ_=>True.intro,λy hy=>absurd rfl hy⟩
theorem j2f {prog:Program} {w:World} {env:Env} {e:Expr} {f:Str} {pos:Pos} {s:Shared} {Q:Value->Shared->Prop} (hb:attributeBase e f env (eval e env)=eval e env)
 (h:wpAny (model prog w) A (eval e env) (λo s₁=>wpAny (model prog w) A (getAttr o f true) Q E s₁) E s):wpAny (model prog w) A (eval (.Attribute e f pos) env) Q E s:=
 Attribute_any_ h (by rw [arm_eval_Attribute,hb])
end
def w2P (K:PySem.W.Frag) (ta:TE) (f:Str):TE:=fun σ H Q=>ta σ H λx H1=>∃a C dx fs v,x=.ref a/\H1 a=some (.ins C dx fs)/\Cls K C/\NoAttr K C f/\fs.lookup f=some v/\Q v H1
def w3k (K:PySem.W.Frag) (ta tv:TE) (f:Str):TS:=λD σ H=>tv σ H λy H1=>ta σ H1 λx H2=>∃a C dx fs,x=.ref a/\H2 a=some (.ins C dx fs)/\Cls K C/\NoAttr K C f/\fs.length < 1000 /\
 D.nx σ (upd H2 a (.ins C dx (q3E f y fs)))
section
variable {X:Cx} {o e value:Expr} {f:Str} {pos pos' tpos:Pos} {ta tv:TE}
theorem j3v (he:PE X e ta) (hb:attributeBase e f X.env (eval e X.env)=eval e X.env):PE X (.Attribute e f pos) (w2P X.K ta f):=by
 intro pins s σ H Q I h
 refine j2f hb (thn (he pins s σ H _ I h) λu s1 ⟨x,H1,I1,rx,a,C,dx,fs,v,ex,ea,c,n,l,q⟩=>?_)
 subst ex
 obtain rfl:u=Value.ref a:=rx
 exact q53 I1 ea c n l λu' s2 I2 ru=>⟨v,H1,I2,ru,q⟩
theorem j64 (ha:PE X o ta) (hv:PE X value tv) (hs:swapsWith value (some (.Attribute o f pos')) pos.line X.env=pure false):PS X (.Assign [.Attribute o f pos'] value pos) (w3k X.K ta tv f):=by
 intro pins s σ H D I h
 refine plainObj_wpAny_Assign_Attribute (thn (hv pins s σ H _ I h) λu s1 ⟨y,H1,I1,ry,q⟩=>thn (ha pins s1 σ H1 _ I1 q) λov s2 ⟨x,H2,I2,rx,a,C,dx,fs,ex,ea,c,n,l,q2⟩=>?_) hs
 subst ex
 obtain rfl:ov=Value.ref a:=rx
 exact q56 I2 ea c n l ry λs3 I3=>⟨σ,_,I3,q2⟩
end
section
variable {X:Cx} {pins:List (Addr×Obj)} {σ:St} {H:Hp} {s:Shared} {A:Around} {E:Value->Shared->Prop} {Q:Value->Shared->Prop} {c:Value} {b:Bool}
inductive q6G (K:PySem.W.Frag) (H:Hp):V->Value->Prop where
 | non:q6G K H .non (.type "NoneType")
 | bl (x:Bool):q6G K H (.bl x) (.type "bool")
 | int (i:Int):q6G K H (.int i) (.type "int")
 | str (x:Str):q6G K H (.str x) (.type "str")
 | flt (x:UInt64):q6G K H (.flt x) (.type "float")
 | lst {a:Addr} {xs:List V} (e:H a=some (.lst xs)):q6G K H (.ref a) (.type "list")
 | frz {a:Addr} {o:Obj} {xs:List V} (e:H a=some (.frz o (.lst xs))):q6G K H (.ref a) (.type "list")
 | tup {a:Addr} {xs:List V} (e:H a=some (.tup xs)):q6G K H (.ref a) (.type "tuple")
 | dK {a:Addr} {kvs:List (Key×V)} (e:H a=some (.dK kvs)):q6G K H (.ref a) (.type "dict")
 | dT {a:Addr} {kvs:List (List Key×V)} (e:H a=some (.dT kvs)):q6G K H (.ref a) (.type "dict")
 | ins {a C dx:Addr} {fs:List (Str×V)} (e:H a=some (.ins C dx fs)) (cl:Cls K C) (ha:PySem.W.findIn K (.ref C) "__class__" = some (some (.builtin "object.__class__")))
  (hn:PySem.W.specialIn K (.builtin "object.__class__") "__get__" = some (some (.builtin "getset_descriptor.__get__"))) (htk:PySem.W.takesIn K (.builtin "object.__class__")=some true)
  (hm:PySem.W.mroIn K C (.type "object")=some true):q6G K H (.ref a) (.ref C)
theorem q1Q {x:V} {u t:Value} (I:Inv X pins σ H s) (rx:RelV x u) (ty:q6G X.K H x t) (e:PySem.W.kitOne X.K t c=some b) (h:∀tk,Q (.bool b) { s with toks:=tk }) :
 wpAny (model X.prog X.w) A (call (.builtin "isinstance") [u,c]) Q E s:=by
 cases ty with
 | non=>cases (show u=Value.none from rx);exact PySem.W.kia_one PySem.W.kitx_none I.kIn True.intro e (λz=>nomatch z) h
 | bl y=>cases (show u=Value.bool y from rx);exact PySem.W.kia_one PySem.W.kitx_bool I.kIn True.intro e (λz=>nomatch z) h
 | int i=>obtain ⟨t,q⟩:=(show ∃t,u=Value.int i t from rx);cases q;exact PySem.W.kia_one PySem.W.kitx_int I.kIn True.intro e (λz=>nomatch z) h
 | str y=>obtain ⟨t,q⟩:=(show ∃t,u=Value.str y t from rx);cases q;exact PySem.W.kia_one PySem.W.kitx_str I.kIn True.intro e (λz=>nomatch z) h
 | flt y=>obtain ⟨t,q⟩:=(show ∃t,u=Value.float y t from rx);cases q;exact PySem.W.kia_one PySem.W.kitx_float I.kIn True.intro e (λz=>nomatch z) h
 | @lst a xs ea=>
  cases (show u=Value.ref a from rx)
  obtain ⟨_,_,n,_,h1⟩:=(show ObjOk X.prog X.w H s.heap a (.lst xs) from I.hok a _ ea)
  exact PySem.W.kia_one PySem.W.kitx_list I.kIn ⟨_,h1,rfl⟩ e (λz=>nomatch z) h
 | @frz a ob xs ea=>
  cases (show u=Value.ref a from rx)
  obtain ⟨_,_,_,n,_,h1⟩:=(show ObjOk X.prog X.w H s.heap a (.frz ob (.lst xs)) from I.hok a _ ea)
  exact PySem.W.kia_one PySem.W.kitx_list I.kIn ⟨_,h1,rfl⟩ e (λz=>nomatch z) h
 | @tup a xs ea=>
  cases (show u=Value.ref a from rx)
  obtain ⟨_,_,_,p⟩:=(show ObjOk X.prog X.w H s.heap a (.tup xs) from I.hok a _ ea)
  obtain ⟨o,h1,h2,_⟩:=p
  exact PySem.W.kia_one PySem.W.kitx_tuple I.kIn ⟨o,h1,h2⟩ e (λz=>nomatch z) h
 | @dK a kvs ea=>
  cases (show u=Value.ref a from rx)
  obtain ⟨_,_,vs,_,p⟩:=(show ObjOk X.prog X.w H s.heap a (.dK kvs) from I.hok a _ ea)
  obtain ⟨o,es,ep,h1,h2,_⟩:=p
  exact PySem.W.kia_one PySem.W.kitx_dict I.kIn ⟨o,h1,h2.1⟩ e (λz=>nomatch z) h
 | @dT a kvs ea=>
  cases (show u=Value.ref a from rx)
  obtain ⟨_,_,xs,_,o,es,ep,h1,h2,_⟩:=(show ObjOk X.prog X.w H s.heap a (.dT kvs) from I.hok a _ ea)
  exact PySem.W.kia_one PySem.W.kitx_dict I.kIn ⟨o,h1,h2.1⟩ e (λz=>nomatch z) h
 | @ins a C dx fs ea cl ha hn htk hm=>
  cases (show u=Value.ref a from rx)
  obtain ⟨mA,O,_⟩:=q3W I.hok ea
  obtain ⟨od,J,_⟩:=O.look
  exact PySem.W.kia_one (PySem.W.kitx_own (cl.get _) cl.hd ha hn htk hm) I.kIn J e (λz=>nomatch z) h
end
structure Room (k:Nat) (A:Around):Prop where
 hd:A.handled=none
 dp:A.depth+3*k+5 < recursionLimit
 un:A.units+16*k+200 < cLine
 gd:A.guards=some []
theorem Room.mono {j k:Nat} {A:Around} (r:Room k A) (h:j<=k):Room j A:=⟨r.hd,by have:=r.dp;omega,by have:=r.un;omega,r.gd⟩
theorem Room.deeper {k:Nat} {A:Around} (r:Room (k+1) A) (env:Env):Room k (A.deeper env):=
 ⟨r.hd,by have:=r.dp;show A.depth+1+3*k+5 < _;omega,by have:=r.un;show A.units+3+16*k+200 < _;omega,r.gd⟩
theorem Room.in1 {k:Nat} {A:Around} (r:Room (k+1) A):Room k A.in1:=
 ⟨r.hd,by have:=r.dp;show A.depth+3*k+5 < _;omega,by have:=r.un;show A.units+1+16*k+200 < _;omega,r.gd⟩
theorem q6f {A:Around} {C:Addr} {us:List Value} {kw:List (Str×Value)}:(A.under (.builtin "type.__call__" ⟨.ref C::us,kw⟩)).depth=A.depth+1:=by
 first | rfl | simp [Around.under,Code.weight,Code.isCreation,Code.isGuard,Code.isCaller,Code.frames,Code.isFrame,guardIds]
theorem q6F {A:Around} {C:Addr} {us:List Value} {kw:List (Str×Value)}:(A.under (.builtin "type.__call__" ⟨.ref C::us,kw⟩)).units=A.units+1:=by
 first | rfl | simp [Around.under,Code.cUnits,Code.frames,Code.isFrame]
theorem q4M {A:Around} {C:Addr} {us:List Value} {kw:List (Str×Value)}:(A.under (.builtin "type.__call__" ⟨.ref C::us,kw⟩)).guards=A.guards:=by
 first | rfl | simp [Around.under,Code.guards,Code.isGuard,guardIds,pushGuards]
theorem Room.make {k:Nat} {A:Around} (r:Room (k+1) A) (C:Addr) (us:List Value) (kw:List (Str×Value)):Room k (A.under (.builtin "type.__call__" ⟨.ref C::us,kw⟩)):=
 ⟨r.hd,by have:=r.dp;rw [q6f];omega,by have:=r.un;rw [q6F];omega,by rw [q4M];exact r.gd⟩
theorem Room.depth {k:Nat} {A:Around} (r:Room k A):A.depth < recursionLimit:=by have:=r.dp;omega
theorem Room.units {k:Nat} {A:Around} (r:Room k A):A.units+64 < cLine:=by have:=r.un;omega
theorem Room.units0 {k:Nat} {A:Around} (r:Room k A):A.units < cLine:=by have:=r.un;omega
def w3a:TA:=λ_ H Q=>Q [] H
def w0c (ta:TE) (tr:TA):TA:=fun σ H Q=>ta σ H λx H1=>tr σ H1 λxs H2=>Q (x::xs) H2
section
variable {X:Cx} {e:Expr} {es:List Expr} {te:TE} {t:TA} {pos:Pos}
theorem q0Y:PA X [] w3a:=λ_ _ _ _ H Q I h=>Calls.spliced_nil ⟨[],H,I,.nil,h⟩
theorem q0C (ha:PE X e te) (hr:PA X es t) (hs:starEach (e::es) X.env=(false,eval e X.env)::starEach es X.env:=by rfl):PA X (e::es) (w0c te t):=by
 intro pos pins s σ H Q I h
 rw [hs]
 show wpAny _ _ (spliced ((false,eval e X.env)::backTo pos (starEach es X.env))) _ _ s
 refine Calls.spliced_cons (thn (ha pins s σ H _ I h) λu s1 ⟨x,H1,I1,r1,q1⟩=>?_)
 exact thn (hr pos pins s1 σ H1 _ I1 q1) λus s2 ⟨xs,H2,I2,r2,q2⟩=>⟨x::xs,H2,I2,.cons r1 r2,q2⟩
def w3d (t:TA):TE:=fun σ H Q=>t σ H λxs H1=>xs.length<=sizeLine/\∀p,H1 p=none->Q (.ref p) (upd H1 p (.tup xs))
def w2F (t:TA):TE:=fun σ H Q=>t σ H λxs H1=>xs.length<=sizeLine/\∀p,H1 p=none->Q (.ref p) (upd H1 p (.lst xs))
theorem j4t {x1} (h:PA X es t):PE X (.Tuple es x1 pos) (w3d t):=by
 intro pins s σ H Q I hq
 refine wpAny_Tuple_spliced (thn (h pos pins s σ H _ I hq) λus s1 ⟨xs,H1,I1,r,z,q⟩=>⟨by rw [<-r.length];exact z,?_⟩)
 have hf:H1 s1.heap.objs.size=none:=I1.hok.fresh (Nat.le_refl _)
 refine ⟨.ref s1.heap.objs.size,upd H1 s1.heap.objs.size (.tup xs),I1.laid (t':=s1.toks) (λb u e=>Heap.get?_push_of_some _ e) (Nat.le_refl _) ?_,rfl,q _ hf⟩
 exact ⟨z,us,r,⟨_,Heap.get?_push_size _ rfl,rfl,_,rfl⟩⟩
theorem j7g (h:PA X es t):PE X (.List es pos) (w2F t):=by
 intro pins s σ H Q I hq
 refine wpAny_List_spliced (thn (h pos pins s σ H _ I hq) λus s1 ⟨xs,H1,I1,r,z,q⟩=>⟨by rw [<-r.length];exact z,?_⟩)
 have hf:H1 s1.heap.objs.size=none:=I1.hok.fresh (Nat.le_refl _)
 refine ⟨.ref s1.heap.objs.size,upd H1 s1.heap.objs.size (.lst xs),I1.laid (t':=s1.toks) (λb u e=>Heap.get?_push_of_some _ e) (Nat.le_refl _) ?_,rfl,q _ hf⟩
 exact ⟨z,us,0,r,Heap.get?_push_size _ rfl⟩
end
abbrev Sp:=List V->Hp->VK->XK->Prop
abbrev CXT:=List Env->Hp->Shared->XK->Value->Shared->Prop
structure Env0 (P:Program) (w:World) (K:PySem.W.Frag) (mg:Str->Option Value) (base:Heap) (A:Around) (outer:List Env) (s:Shared) (H:Hp):Prop where
 frames:A.frames=some outer
 mod:Mod K mg base
 bs:∀b o,base.get? b=some o->s.heap.get? b=some o/\H b=none
 bsz:base.objs.size<=s.heap.objs.size
 funs:s.heap.FunFrames base outer
 frf:∀b∈frs outer,H b=none
 hok:HOk P w H s.heap
 bare:AllBare s.gens
def CE (outer:List Env) (P:Program) (w:World) (H:Hp) (s:Shared) (Q:VK) (u:Value) (s':Shared):Prop:=
 ∃v H',s'.os=s.os/\AllBare s'.gens/\Un (frs outer) [] H H' s.heap s'.heap/\HOk P w H' s'.heap/\RelV v u/\Q v H'
def CR (CX:CXT) (outer:List Env) (P:Program) (w:World) (H:Hp) (s:Shared) (Q:VK) (E:XK) (r:Result) (s':Shared):Prop:=
 match r with
 | .ok (.ret u)=>CE outer P w H s Q u s'
 | .ok _=>False
 | .error e=>CX outer H s E e s'
structure FnOk (P:Program) (w:World) (K:PySem.W.Frag) (mg:Str->Option Value) (base:Heap) (CX:CXT) (k:Nat) (f:Addr) (fd:FuncData) (ps:List Str) (sp:Sp):Prop where
 len:∀vs H Q E,sp vs H Q E->vs.length=ps.length
 run:∀(A:Around) (outer:List Env) (s:Shared) (H:Hp) (args:Args) (us:List Value) (vs:List V) (Q:VK) (E:XK),Room k A->Env0 P w K mg base A outer s H->BindsTo s fd args (ps.zip us)->Vals vs us->sp vs H Q E ->
  codeAny (model P w) A (.call (.ref f) args) (CR CX outer P w H s Q E) s
theorem FnOk.mono {P:Program} {w:World} {K:PySem.W.Frag} {mg:Str->Option Value} {base:Heap} {CX:CXT} {j k:Nat} {f:Addr} {fd:FuncData} {ps:List Str} {sp:Sp} (F:FnOk P w K mg base CX j f fd ps sp) (h:j<=k) :
 FnOk P w K mg base CX k f fd ps sp:=⟨F.len,λA outer s H args us vs Q E hr=>F.run A outer s H args us vs Q E (hr.mono h)⟩
theorem FnOk.imp {P:Program} {w:World} {K:PySem.W.Frag} {mg:Str->Option Value} {base:Heap} {CX:CXT} {k:Nat} {f:Addr} {fd:FuncData} {ps:List Str} {sp sp':Sp} (F:FnOk P w K mg base CX k f fd ps sp)
 (h:∀vs H Q E,sp' vs H Q E->sp vs H Q E):FnOk P w K mg base CX k f fd ps sp':=
 ⟨λvs H Q E q=>F.len vs H Q E (h _ _ _ _ q),λA outer s H args us vs Q E hr he hb hv hs=>F.run A outer s H args us vs Q E hr he hb hv (h _ _ _ _ hs)⟩
theorem Env0.make {P:Program} {w:World} {K:PySem.W.Frag} {mg:Str->Option Value} {base:Heap} {A:Around} {outer:List Env} {s:Shared} {H:Hp} (e:Env0 P w K mg base A outer s H) (C:Addr) (us:List Value) (kw:List (Str×Value)) :
 Env0 P w K mg base (A.under (.builtin "type.__call__" ⟨.ref C::us,kw⟩)) outer s H:=⟨by first | exact e.frames | (simpa [Around.under,Code.envs,Code.isFrame,pushEnvs] using e.frames),e.mod,e.bs,e.bsz,e.funs,e.frf,e.hok,e.bare⟩
theorem Env0.in1 {P:Program} {w:World} {K:PySem.W.Frag} {mg:Str->Option Value} {base:Heap} {A:Around} {outer:List Env} {s:Shared} {H:Hp} (e:Env0 P w K mg base A outer s H) :
 Env0 P w K mg base A.in1 outer s H:=⟨e.frames,e.mod,e.bs,e.bsz,e.funs,e.frf,e.hok,e.bare⟩
section
variable {X:Cx} {pins:List (Addr×Obj)} {σ:St} {H:Hp} {s s':Shared}
theorem Inv.env0 (I:Inv X pins σ H s):Env0 X.prog X.w X.K X.mg X.base X.A X.stack s H:=
 ⟨I.ok.frames,I.ok.mod,I.bs,Nat.le_trans I.ok.bsz I.sz,I.stack,I.stkFree,I.hok,I.bare⟩
theorem Inv.after {Q:VK} {u:Value} (I:Inv X pins σ H s) (h:CE X.stack X.prog X.w H s Q u s'):EP X pins σ Q u s':=by
 obtain ⟨v,H',os,bare,un,hok,r,q⟩:=h
 obtain ⟨hh,g,d,t,os'⟩:=s'
 obtain rfl:os'=s.os:=os
 exact ⟨v,H',I.call (h':=hh) (g':=g) (d':=d) (t':=t) (ch:=[]) un hok bare (λb z=>absurd z (by simp)),r,q⟩
end
def Binds (K:PySem.W.Frag) (fd:FuncData) (ps:List Str) (ds:List Value):Prop:=
 ∀(s:Shared) (us:List Value),K.In s.heap->(us++ds).length=ps.length->BindsTo s fd ⟨us,[]⟩ (ps.zip (us++ds))
theorem Binds.all {K:PySem.W.Frag} {fd:FuncData} {ps:List Str} (h:∀us:List Value,us.length=ps.length->bindArgs fd ⟨us,[]⟩=pure (ps.zip us)):Binds K fd ps []:=λs us _ hl=>by
 rw [List.append_nil] at hl ⊢
 exact .of_eq (h us hl)
section
variable {X:Cx} {CX:CXT} {k:Nat} {f C:Addr} {fd:FuncData} {ps:List Str} {sp:Sp} {dvs:List V} {ds:List Value} {E:XK} {x m:Str} {p pos apos:Pos} {e o:Expr} {es:List Expr} {ta:TE} {t:TA}
structure Mk (K:PySem.W.Frag) (C f:Addr):Prop where
 makes:PySem.W.makesIn K C=true
 init:PySem.W.findIn K (.ref C) "__init__" = some (some (.ref f))
 fn:PySem.W.isFn K (.ref f)=true
 kp:PySem.W.keepIn K (.ref C)=true
end
section
variable {X:Cx} {CX:CXT} {k:Nat} {f C:Addr} {fd:FuncData} {ps ks:List Str} {sp:Sp} {E:XK} {x m:Str} {p pos apos kpos:Pos} {e o:Expr} {es:List Expr} {kws:List Keyword} {te ta:TE} {t tk:TA} {nm:Option Str}
structure w1n (K:PySem.W.Frag) (fd:FuncData) (ps ks:List Str) (g:List Value->List Value->List Value) (gV:List V->List V->List V):Prop where
 to:∀(s:Shared) (us ws:List Value),K.In s.heap->(g us ws).length=ps.length->BindsTo s fd ⟨us,ks.zip ws⟩ (ps.zip (g us ws))
 rel:∀{vs:List V} {us:List Value} {zs:List V} {ws:List Value},Vals vs us->Vals zs ws->Vals (gV vs zs) (g us ws)
variable {g:List Value->List Value->List Value} {gV:List V->List V->List V}
end
structure q0m (N P:List Str) (sc:Scope):Prop where
 kind:sc.kind=.function
 co:sc.isCoroutine=false
 gen:sc.isGenerator=false
 nd:N.Nodup
 pre:N.take P.length=P
 par:∀x∈P,sc.names.lookup x=some .local∨sc.names.lookup x=some .cell
 nofree:∀y∈sc.names,y.2≠.free
theorem q4C {kindOf:Str->Option NameKind} {x:Str}:∀{binds:List (Str×Value)} {m:Str->Option Value},(∀v,(x,v)∉binds)->bindL kindOf binds m x=m x
 | [],_,_=>rfl
 | (n,v)::r,m,h=>by
  unfold bindL
  rw [q4C λw hw=>h w (List.mem_cons_of_mem _ hw)]
  split
  ·have:x≠n:=by rintro rfl;exact h v List.mem_cons_self
   simp [this]
  ·rfl
theorem q35 {kindOf:Str->Option NameKind} {x:Str}:∀{binds:List (Str×Value)} {m:Str->Option Value},(∀v,(x,v)∉binds)->bindC kindOf binds m x=m x
 | [],_,_=>rfl
 | (n,v)::r,m,h=>by
  unfold bindC
  rw [q35 λw hw=>h w (List.mem_cons_of_mem _ hw)]
  split
  ·rfl
  ·have:x≠n:=by rintro rfl;exact h v List.mem_cons_self
   simp [this]
theorem q4n {kindOf:Str->Option NameKind} {x:Str} {v:Value}:∀{P:List Str} {vs:List Value} {i:Nat} {m:Str->Option Value},P.Nodup->P[i]?=some x->vs[i]?=some v->kindOf x=some .local ->
 bindL kindOf (P.zip vs) m x=some v
 | [],_,_,_,_,h,_,_=>by simp at h
 | _::_,[],_,_,_,_,h,_=>by simp at h
 | p::P,w::vs,0,m,nd,h1,h2,hk=>by
  simp at h1 h2;subst h1;subst h2
  show bindL kindOf ((p,w)::P.zip vs) m p=_
  unfold bindL
  rw [q4C λv hv=>(List.nodup_cons.mp nd).1 (List.of_mem_zip hv).1,if_pos hk]
  simp
 | p::P,w::vs,i+1,m,nd,h1,h2,hk=>by
  show bindL kindOf ((p,w)::P.zip vs) m x=_
  unfold bindL
  exact q4n (i:=i) (List.nodup_cons.mp nd).2 (by simpa using h1) (by simpa using h2) hk
theorem q4u {kindOf:Str->Option NameKind} {x:Str} {v:Value}:∀{P:List Str} {vs:List Value} {i:Nat} {m:Str->Option Value},P.Nodup->P[i]?=some x->vs[i]?=some v->kindOf x≠some .local ->
 bindC kindOf (P.zip vs) m x=some v
 | [],_,_,_,_,h,_,_=>by simp at h
 | _::_,[],_,_,_,_,h,_=>by simp at h
 | p::P,w::vs,0,m,nd,h1,h2,hk=>by
  simp at h1 h2;subst h1;subst h2
  show bindC kindOf ((p,w)::P.zip vs) m p=_
  unfold bindC
  rw [q35 λv hv=>(List.nodup_cons.mp nd).1 (List.of_mem_zip hv).1,if_neg hk]
  simp
 | p::P,w::vs,i+1,m,nd,h1,h2,hk=>by
  show bindC kindOf ((p,w)::P.zip vs) m x=_
  unfold bindC
  exact q4u (i:=i) (List.nodup_cons.mp nd).2 (by simpa using h1) (by simpa using h2) hk
def start (N:List Str) (vs:List V):St:=vs.map some++List.replicate (N.length-vs.length) none
def j0X (CX:CXT) (P:Program) (w:World) (K:PySem.W.Frag) (mg:Str->Option Value) (base:Heap) (N:List Str) (qual:Str) (scope:Scope) (f:Addr) (cd:Value) (A:Around) (outer:List Env) (s:Shared) (H:Hp) (E:XK):Cx where
 prog:=P
 w:=w
 K:=K
 mg:=mg
 base:=base
 A:=A.deeper (envOfC qual scope s.heap.objs.size f cd)
 N:=N
 s₀:=s
 H₀:=H
 env:=envOfC qual scope s.heap.objs.size f cd
 outer:=outer
 stack:=envOfC qual scope s.heap.objs.size f cd::outer
 ex:=[]
 calm:=true
 fn:=λ_=>true
 pn:=[]
 xe:=λe s'=>wpAny (model P w) (A.deeper (envOfC qual scope s.heap.objs.size f cd)) (leaving (envOfC qual scope s.heap.objs.size f cd) e) (λ_ s''=>CX outer H s E e s'') (λe' s''=>CX outer H s E e' s'') s'
theorem q5v {sc:Scope} {n:Nat} {x:Str} (h:sc.names.lookup x=some .cell):∃c,(cellsFrom n sc.names []).lookup x=some c:=by
 have q:=PySem.W.cellsFrom_some sc.names n [] (.inl h)
 exact Option.isSome_iff_exists.mp q
theorem q4F (ca:Bool) {CX:CXT} {P:Program} {w:World} {K:PySem.W.Frag} {mg:Str->Option Value} {base:Heap} {N ps:List Str} {qual:Str} {scope:Scope} {f:Addr} {cd:Value} {A:Around} {outer:List Env} {s s1:Shared} {H:Hp} {E:XK} {us:List Value} {vs:List V}
 (S:q0m N ps scope) (hd:ca=true->A.handled=none) (e0:Env0 P w K mg base A outer s H) (hl:vs.length=ps.length) (r:Vals vs us)
 (x:InCallC s s.heap.objs.size (bindL (envOfC qual scope s.heap.objs.size f cd).kindOf (ps.zip us) λ_=>none) (cellsFrom (s.heap.objs.size+1) scope.names []) (bindC (envOfC qual scope s.heap.objs.size f cd).kindOf (ps.zip us) λ_=>none) s1) :
 Inv ({ j0X CX P w K mg base N qual scope f cd A outer s H E with calm:=ca }:Cx) [] (start N vs) H s1:=by
 have hpl:ps.length<=N.length:=by have:=congrArg List.length S.pre;rw [List.length_take] at this;omega
 obtain ⟨h1,tk,rfl,hk⟩:=x.done
 have noA:∀b:Addr,b∉({ j0X CX P w K mg base N qual scope f cd A outer s H E with calm:=ca }:Cx).ex:=λb z=>absurd (show b∈([]:List Addr) from z) (by simp)
 refine ⟨⟨e0.mod,S.kind,rfl,rfl,Nat.le_refl _,λy z c h1 h2=>?_,λy hy=>?_,λy c _ h=>?_,hd,Around.frames_deeper e0.frames,.inr ⟨rfl,rfl⟩,λb z=>absurd z (noA b),e0.bs,e0.bsz,λb _ _=>noA b,λb z=>absurd z (noA b),e0.funs,e0.frf⟩,
  rfl,e0.bare,Un.kept hk,⟨_,x.toInCall.ns,λi y v h1 h2 h3=>?_⟩,λy c h=>⟨_,x.cell y c h⟩,e0.hok.fresh (Nat.le_refl _),λy c h=>?_,λp hp=>absurd (show p∈([]:List (Addr×Obj)) from hp) (by simp),e0.hok.kept hk,?_⟩
 ·exact name_of_addr x.apart (PySem.mem_of_lookup h1) (PySem.mem_of_lookup h2)
 ·have hy:scope.names.lookup y=some .cell∨scope.names.lookup y=some .free:=hy
  rcases hy with hy | hy
  ·exact q5v hy
  ·exact absurd rfl (S.nofree _ (PySem.mem_of_lookup hy))
 ·exact Nat.le_of_lt (x.above y c (PySem.mem_of_lookup h))
 ·have hi:i < vs.length:=by
   unfold start at h2
   by_cases hi:i < vs.length
   ·exact hi
   ·rw [List.getElem?_append_right (by simpa using hi)] at h2
    rw [List.getElem?_replicate] at h2
    split at h2<;>cases h2
  have ha:vs[i]?=some v:=by
   unfold start at h2
   rw [List.getElem?_append_left (by simpa using hi),List.getElem?_map] at h2
   cases e:vs[i]? with
   | none=>rw [e] at h2;cases h2
   | some a=>rw [e] at h2;cases h2;rfl
  obtain ⟨u,hu,rv⟩:=r.get ha
  have hp:ps[i]?=some y:=by
   rw [<-S.pre,List.getElem?_take_of_lt (by omega)];exact h1
  have ndP:ps.Nodup:=by rw [<-S.pre];exact S.nd.sublist (List.take_sublist _ _)
  refine ⟨u,rv,?_⟩
  rcases S.par y (List.mem_of_getElem? hp) with k | k
  ·exact .inl ⟨k,q4n ndP hp hu k⟩
  ·obtain ⟨c,e⟩:=q5v (n:=s.heap.objs.size+1) k
   refine .inr ⟨.inl k,c,e,?_⟩
   have q:=x.cell y c e
   rw [q4u ndP hp hu (by show scope.names.lookup y≠_;rw [k];decide)] at q
   exact q
 ·exact e0.hok.fresh (Nat.le_of_lt (x.above y c (PySem.mem_of_lookup h)))
 ·unfold start
  show _=N.length
  rw [List.length_append,List.length_map,List.length_replicate]
  omega
theorem j0S {CX:CXT} {P:Program} {w:World} {K:PySem.W.Frag} {mg:Str->Option Value} {base:Heap} {k:Nat} {f:Addr} {name qual:Str} {params:Arguments} {body:List Stmt} {scope:Scope} {dV kV doc pm cdv ct oc:Value} {an od:Option Addr}
 {osl:Array (Option Value)} {N ps:List Str} {sp:Sp} (lk:K.lookup f=some ⟨oc,od,.func (PySem.W.fnOf name qual params body scope dV kV doc pm an cdv ct),osl⟩) (hcd:PySem.W.codeIn K cdv qual=true) (S:q0m N ps scope)
 (len:∀vs H Q E,sp vs H Q E->vs.length=ps.length)
 (hbody:∀(A:Around) (outer:List Env) (s:Shared) (H:Hp) (vs:List V) (Q:VK) (E:XK),Room k (A.deeper (envOfC qual scope s.heap.objs.size f cdv))->sp vs H Q E ->
  ∃t,PSs (j0X CX P w K mg base N qual scope f cdv A outer s H E) body t/\t { nx:=λ_ H'=>Q .non H',rt:=Q } (start N vs) H) :
 FnOk P w K mg base CX (k+1) f (PySem.W.fnOf name qual params body scope dV kV doc pm an cdv ct) ps sp:=by
 refine ⟨len,λA outer s H args us vs Q E hr e0 hb r hsp=>?_⟩
 have hl:=len _ _ _ _ hsp
 have KX:K.In s.heap:=e0.mod.kin.keeps λb o e=>(e0.bs b o e).1
 have lim:s.heap.NoLimit:=e0.mod.nolimit.keeps λb o e=>(e0.bs b o e).1
 have hkind:∀y∈ps.zip us,scope.names.lookup y.1=some .local∨(scope.names.lookup y.1=some .cell/\((cellsFrom (s.heap.objs.size+1) scope.names []).lookup y.1).isSome=true):=λ⟨n,v⟩ hy=>by
  rcases S.par n (List.of_mem_zip hy).1 with q | q
  ·exact .inl q
  ·exact .inr ⟨q,PySem.W.cellsFrom_some _ _ _ (.inl q)⟩
 refine codeAny_call_function hr.depth (KX _ _ lk) rfl S.co S.gen rfl (PySem.W.codeRec_of KX hcd) (hb _ _ _ _ ?_)
 refine wpAny_newFunctionEnv_cells S.kind hkind λenv he s1 x=>?_
 subst he
 refine ⟨lim.keeps x.toInCall.keep,codeAny_func ?_⟩
 obtain ⟨t,ht,hq⟩:=hbody A outer s H vs Q E (hr.deeper _) hsp
 have I:Inv (j0X CX P w K mg base N qual scope f cdv A outer s H E) [] (start N vs) H s1:=q4F true S (λ_=>hr.hd) e0 hl r x
 refine wpAny_mono (ht [] s1 (start N vs) H _ I hq) (λfl s' hs=>?_) λe s' hs=>hs
 have fin:∀{σ':St} {H':Hp} {v:V} {u:Value},Inv (j0X CX P w K mg base N qual scope f cdv A outer s H E) [] σ' H' s'->RelV v u->Q v H'->CE outer P w H s Q u s':=
  λ{σ' H' v u} J rv q=>⟨v,H',J.os,J.bare,J.base,J.hok,rv,q⟩
 cases fl with
 | ret u=>
  obtain ⟨v,σ',H',J,rv,q⟩:=hs
  exact fin J rv q
 | next=>
  obtain ⟨σ',H',J,q⟩:=hs
  exact fin (v:=V.non) (u:=Value.none) J rfl q
 | brk=>
  obtain ⟨_,_,_,q⟩:=hs
  exact False.elim q
 | cont=>
  obtain ⟨_,_,_,q⟩:=hs
  exact False.elim q
section
variable {X:Cx} {x:Str} {p pos:Pos} {e:Expr} {es:List Expr} {t:TA} {id T:String} {r:List V->Hp->VK->Prop}
def tCB (r:List V->Hp->VK->Prop) (t:TA):TE:=fun σ H Q=>t σ H λvs H1=>r vs H1 Q
theorem q2M (hc:CallR X (.builtin id) r) (hg:Gl X x) (hm:X.mg x=none) (hv:bootBuiltins x=some (.builtin id)) (ha:PA X (e::es) t) (hn:x≠"__name__":=by decide) (hdb:(x==("__debug__" : Str))=false:=by decide)
 (he:starEach (e::es) X.env=(false,eval e X.env)::starEach es X.env:=by rfl) (hpl:(backTo pos (starEach es X.env)).any (·.1)=false:=by rfl):PE X (.Call (.Name x p) (e::es) [] pos) (tCB r t):=by
 intro pins s σ H Q I h
 refine wpAny_Call_Name_kw (q1l I hg hm hv ?_ hn hdb)
 exact PyProof.Rows.callWith_builtin1 (thn (ha pos pins s σ H _ I h) λus s1 ⟨vs,H1,I1,r1,q1⟩=>hc pins s1 σ H1 vs us Q I1 r1 q1) he hpl
theorem q1K (hc:CallR X (.type T) r) (hg:Gl X x) (hm:X.mg x=none) (hv:bootBuiltins x=some (.type T)) (ha:PA X (e::es) t) (hn:x≠"__name__":=by decide) (hdb:(x==("__debug__" : Str))=false:=by decide)
 (he:starEach (e::es) X.env=(false,eval e X.env)::starEach es X.env:=by rfl) (hpl:(backTo pos (starEach es X.env)).any (·.1)=false:=by rfl):PE X (.Call (.Name x p) (e::es) [] pos) (tCB r t):=by
 intro pins s σ H Q I h
 refine wpAny_Call_Name_kw (q1l I hg hm hv ?_ hn hdb)
 exact PyProof.Rows.callWith_type1 (thn (ha pos pins s σ H _ I h) λus s1 ⟨vs,H1,I1,r1,q1⟩=>hc pins s1 σ H1 vs us Q I1 r1 q1) he hpl
end
end L2
namespace HT
open PySem PyProof.Rows
section
open PySem.SeqAt
open PySem.AutoSeq1 (wpAny_loadPart')
open PySem.MeetsSeq PySem.MeetsSeq2 PySem.MeetsSeq3
end
section
variable {prog:Program} {w:World} {A:Around} {E:Value->Shared->Prop} {s:Shared}
def sIx (n d:Nat):Option Int->Nat
 | none=>d
 | some v=>if v < 0 then (v+(n:Int)).toNat else min v.toNat n
end
end HT
namespace L2
open PySem PySem.Spec PyProof.Rows
abbrev TO:=St->Hp->(Option Int->Hp->Prop)->Prop
def PO (X:Cx) (e:Option Expr) (t:TO):Prop:=
 ∀(pins:List (Addr×Obj)) (s:Shared) (σ:St) (H:Hp) (Q:Option Int->Hp->Prop),Inv X pins σ H s->t σ H Q ->
  wpAny (model X.prog X.w) X.A (evalPart e X.env) (λu s'=>∃o H',Inv X pins σ H' s'/\IsPart u o/\Q o H') X.xe s
section
variable {X:Cx} {e:Expr} {te:TE} {lo hi:Option Expr} {tl th:TO} {pos p2:Pos}
def SlR (X:Cx) (r:V->Option Int->Option Int->Hp->VK->Prop):Prop:=
 ∀(pins:List (Addr×Obj)) (s:Shared) (σ:St) (H:Hp) (x:V) (v vl vu:Value) (lo hi:Option Int) (sl:Addr) (Q:VK),Inv X pins σ H s->RelV x v->s.heap.IsSliceOf sl vl vu .none->IsPart vl lo->IsPart vu hi->r x lo hi H Q ->
  ∃T id,typeLookup (.type T) "__getitem__" = pure (some (.builtin id))/\s.TypeIs v T/\wpAny (model X.prog X.w) X.A (getItem v (.ref sl)) (EP X pins σ Q) X.xe s
theorem SlR.or {r r':V->Option Int->Option Int->Hp->VK->Prop} (h:SlR X r) (h':SlR X r'):SlR X (λx lo hi H Q=>r x lo hi H Q∨r' x lo hi H Q):=by
 intro pins s σ H x v vl vu lo hi sl Q I rx hs pl pu q
 rcases q with q | q
 ·exact h pins s σ H x v vl vu lo hi sl Q I rx hs pl pu q
 ·exact h' pins s σ H x v vl vu lo hi sl Q I rx hs pl pu q
def w1F (xs:List V) (lo hi:Option Int):List V:=(xs.drop (HT.sIx xs.length 0 lo)).take (HT.sIx xs.length xs.length hi-HT.sIx xs.length 0 lo)
end
def ixN (n:Nat) (i:Int):Option Nat:=if 0<=i then (if i < n then some i.toNat else none) else if -(n:Int)<=i then some (i+n).toNat else none
def atI {α:Type} (xs:List α) (i:Int):Option α:=(ixN xs.length i).bind λj=>xs[j]?
theorem q8h {n:Nat} {i:Int} {j:Nat} (h:ixN n i=some j):seqIndex? i n=some j/\j < n/\-(n:Int)<=i/\i < n:=by
 unfold ixN at h
 by_cases h0:0<=i
 ·rw [if_pos h0] at h
  by_cases h1:i < n
  ·rw [if_pos h1] at h
   have e:i.toNat=j:=Option.some.inj h
   exact ⟨by rw [seqIndex_of h0 h1,e],by omega,by omega,h1⟩
  ·rw [if_neg h1] at h;cases h
 ·rw [if_neg h0] at h
  by_cases h1:-(n:Int)<=i
  ·rw [if_pos h1] at h
   have e:(i+n).toNat=j:=Option.some.inj h
   exact ⟨by rw [seqIndex_neg (by omega) h1,e],by omega,h1,by omega⟩
  ·rw [if_neg h1] at h;cases h
theorem q3H {α:Type} {xs:List α} {i:Int} {v:α} (h:atI xs i=some v):∃j,seqIndex? i xs.length=some j/\xs[j]?=some v/\j < xs.length/\-(xs.length:Int)<=i/\i < xs.length:=by
 unfold atI at h
 cases e:ixN xs.length i with
 | none=>rw [e] at h;cases h
 | some j=>
  rw [e] at h
  obtain ⟨h1,h2,h3,h4⟩:=q8h e
  exact ⟨j,h1,h,h2,h3,h4⟩
theorem j0T {α:Type} {xs:List α} {j:Nat} {v:α} (h:xs[j]?=some v):atI xs (j:Int)=some v:=by
 have hj:j < xs.length:=(List.getElem?_eq_some_iff.mp h).1
 have e:ixN xs.length (j:Int)=some j:=by
  unfold ixN
  rw [if_pos (by omega),if_pos (by omega)];simp
 unfold atI;rw [e];exact h
def q4V (b:Expr):Prop:=∀o i,subscripted b false o i=operate [o,i] (getItem o i)
def IxR (X:Cx) (r:R2):Prop:=
 ∀(value slice:Expr) (pins:List (Addr×Obj)) (s:Shared) (σ:St) (H:Hp) (x y:V) (v u:Value) (Q:VK),Inv X pins σ H s->RelV x v->RelV y u->r x y H Q ->
  subscripted slice false v u=operate [v,u] (getItem v u)->wpAny (model X.prog X.w) X.A (subscriptTail value slice v u) (EP X pins σ Q) X.xe s
def MtR (X:Cx) (id:String) (r:V->List V->Hp->VK->Prop):Prop:=
 ∀(pins:List (Addr×Obj)) (s:Shared) (σ:St) (H:Hp) (x:V) (xs:List V) (v:Value) (us:List Value) (Q:VK),Inv X pins σ H s->RelV x v->Vals xs us->r x xs H Q ->
  wpAny (model X.prog X.w) X.A (call (.builtin id) (v::us)) (EP X pins σ Q) X.xe s
section
variable {X:Cx} {a b:Expr} {ta tb:TE} {pos:Pos}
theorem IxR.or {r r':R2} (h:IxR X r) (h':IxR X r'):IxR X (λx y H Q=>r x y H Q∨r' x y H Q):=by
 intro value slice pins s σ H x y v u Q I rx ry q hs
 rcases q with q | q
 ·exact h value slice pins s σ H x y v u Q I rx ry q hs
 ·exact h' value slice pins s σ H x y v u Q I rx ry q hs
theorem MtR.or {id:String} {r r':V->List V->Hp->VK->Prop} (h:MtR X id r) (h':MtR X id r'):MtR X id (λx xs H Q=>r x xs H Q∨r' x xs H Q):=by
 intro pins s σ H x xs v us Q I rx rs q
 rcases q with q | q
 ·exact h pins s σ H x xs v us Q I rx rs q
 ·exact h' pins s σ H x xs v us Q I rx rs q
theorem j6h {r:R2} (hr:IxR X r) (ha:PE X a ta) (hb:PE X b tb) (hs:q4V b):PE X (.Subscript a b pos) (tOp r ta tb):=by
 intro pins s σ H Q I h
 exact Subscript_ (j9k ha hb I h λv u s2 x y H2 I2 rx ry q=>hr a b pins s2 σ H2 x y v u Q I2 rx ry q (hs _ _))
def w1W (K:PySem.W.Frag):R2:=λx y H Q=>∃p xs i v,x=.ref p/\y=.int i/\SqL K H p xs/\atI xs i=some v/\Q v H
def w2q (K:PySem.W.Frag):R2:=λx y H Q=>∃p xs i v,x=.ref p/\y=.int i/\SqT K H p xs/\atI xs i=some v/\Q v H
def w28:R2:=λx y H Q=>∃z i c,x=.str z/\y=.int i/\z.length<=sizeLine/\atI z.cps.toList i=some c/\Q (.str ⟨#[c]⟩) H
theorem q7z:IxR X (w1W X.K):=by
 intro value slice pins s σ H x y v u Q I rx ry h hs
 obtain ⟨p,xs,i,z,rfl,rfl,hq,he,q⟩:=h
 cases rx
 obtain ⟨t,rfl⟩:=ry
 obtain ⟨its,r,pl,hz⟩:=I.list hq
 obtain ⟨j,h1,h2,h3,h4,h5⟩:=q3H he
 obtain ⟨w,ew,rw'⟩:=r.get h2
 have hl:=r.length
 have hn:=line63
 have fin:EP X pins σ Q w s:=⟨z,H,I,rw',q⟩
 by_cases h0:0<=i
 ·have hj:i.toNat=j:=by
   rw [seqIndex_of h0 h5] at h1
   exact Option.some.inj h1
  exact item_listR pl.isList h0 (by omega) (by rw [hj];simpa using ew) fin hs
 ·have hj:(i+(its.toArray.size:Int)).toNat=j:=by
   rw [seqIndex_neg (by omega) h4] at h1
   rw [List.size_toArray,<-hl]
   exact Option.some.inj h1
  exact subscriptTail_builtinR (x:=w) pl.isList.typeIs slot_list_getitem.lookup
   (wpAny_getItem_list_neg (Q:=λr s'=>r=w/\EP X pins σ Q r s') pl.isList (by omega) (by rw [List.size_toArray]<;>omega) (by omega) (by rw [hj];simpa using ew) ⟨rfl,fin⟩) hs
theorem j2O:IxR X (w2q X.K):=by
 intro value slice pins s σ H x y v u Q I rx ry h hs
 obtain ⟨p,xs,i,z,rfl,rfl,hq,he,q⟩:=h
 cases rx
 obtain ⟨t,rfl⟩:=ry
 obtain ⟨its,r,pl,hz⟩:=I.tuple hq
 obtain ⟨j,h1,h2,h3,h4,h5⟩:=q3H he
 obtain ⟨w,ew,rw'⟩:=r.get h2
 have hl:=r.length
 have hn:=line63
 have fin:EP X pins σ Q w s:=⟨z,H,I,rw',q⟩
 exact subscriptTail_builtinR (x:=w) pl.typeIs slot_tuple_getitem.lookup
  (getItem_tuple (j:=j) (Q:=λr s'=>r=w/\EP X pins σ Q r s') pl (by omega) (by omega) (by rw [List.size_toArray,<-hl];exact h1) (by simpa using ew) ⟨rfl,fin⟩) hs
theorem j3n:IxR X w28:=by
 intro value slice pins s σ H x y v u Q I rx ry h hs
 obtain ⟨z,i,c,rfl,rfl,hz,he,q⟩:=h
 obtain ⟨t,rfl⟩:=rx
 obtain ⟨t',rfl⟩:=ry
 obtain ⟨j,h1,h2,h3,h4,h5⟩:=q3H he
 have hl:z.cps.toList.length=z.length:=by simp [Str.length]
 rw [hl] at h1 h4 h5
 have hn:=line63
 exact tail_any (typeIs_str s z t) slot_str_getitem.lookup (getItem_str (c:=c) (by
  have e1:decide (i < -(2 ^ 63:Int))=false:=decide_eq_false (by omega)
  have e2:decide (i ≥ 2 ^ 63)=false:=decide_eq_false (by omega)
  rw [e1,e2,Bool.or_false]) (by rw [h1];simpa using h2) ⟨.str ⟨#[c]⟩,H,I.tok _,⟨_,rfl⟩,q⟩) hs
theorem Inv.lst {pins:List (Addr×Obj)} {σ:St} {H:Hp} {s:Shared} {p:Addr} {xs:List V} (I:Inv X pins σ H s) (h:H p=some (.lst xs)) :
 ∃(its:List Value) (n:Nat),Vals xs its/\s.heap.get? p=some { cls:=.type "list",data:=.seq its.toArray n }/\xs.length<=sizeLine:=by
 obtain ⟨z,its,n,r,e⟩:=I.hok p _ h
 exact ⟨its,n,r,e,z⟩
def q17:V->Bool
 | .non=>true
 | .bl _=>true
 | .int _=>true
 | .str _=>true
 | _=>false
def eqV:V->V->Bool
 | .non,.non=>true
 | .bl a,.bl b=>a==b
 | .bl a,.int b=>(if a then 1 else 0)==b
 | .int a,.bl b=>a==(if b then 1 else 0)
 | .int a,.int b=>a==b
 | .str a,.str b=>a==b
 | _,_=>false
theorem j50 {A:Around} {s:Shared} {y x:V} {u v:Value} (ry:RelV y u) (rx:RelV x v) (fy:q17 y=true) (fx:q17 x=true):SeqAt.EqAt A s u v (eqV y x):=by
 cases y with
 | non=>
  cases ry
  cases x with
  | non=>cases rx;exact SeqAt.EqAt.same _
  | bl b=>cases rx;exact SeqAt.EqAt.none_bool b
  | int b=>obtain ⟨t,rfl⟩:=rx;exact SeqAt.EqAt.none_int b t
  | str b=>obtain ⟨t,rfl⟩:=rx;exact SeqAt.EqAt.none_str b t
  | _=>exact absurd (show false=true from fx) Bool.false_ne_true
 | bl a=>
  cases ry
  cases x with
  | non=>cases rx;exact SeqAt.EqAt.bool_none a
  | bl b=>cases rx;exact SeqAt.EqAt.bool_bool a b
  | int b=>obtain ⟨t,rfl⟩:=rx;exact SeqAt.EqAt.bool_int a b t
  | str b=>obtain ⟨t,rfl⟩:=rx;exact SeqAt.EqAt.bool_str a b t
  | _=>exact absurd (show false=true from fx) Bool.false_ne_true
 | int a=>
  obtain ⟨t',rfl⟩:=ry
  cases x with
  | non=>cases rx;exact SeqAt.EqAt.int_none a t'
  | bl b=>cases rx;exact SeqAt.EqAt.int_bool a t' b
  | int b=>obtain ⟨t,rfl⟩:=rx;exact SeqAt.EqAt.int_int a t' b t
  | str b=>obtain ⟨t,rfl⟩:=rx;exact SeqAt.EqAt.int_str a t' b t
  | _=>exact absurd (show false=true from fx) Bool.false_ne_true
 | str a=>
  obtain ⟨t',rfl⟩:=ry
  cases x with
  | non=>cases rx;exact SeqAt.EqAt.str_none a t'
  | bl b=>cases rx;exact SeqAt.EqAt.str_bool a t' b
  | int b=>obtain ⟨t,rfl⟩:=rx;exact SeqAt.EqAt.str_int a t' b t
  | str b=>obtain ⟨t,rfl⟩:=rx;exact SeqAt.EqAt.str_str a t' b t
  | _=>exact absurd (show false=true from fx) Bool.false_ne_true
 | _=>exact absurd (show false=true from fy) Bool.false_ne_true
def eqU (x:V) (u:Value):Bool:=match u with
 | .none=>eqV .non x
 | .bool b=>eqV (.bl b) x
 | .int i _=>eqV (.int i) x
 | .str z _=>eqV (.str z) x
 | _=>false
theorem q7n {x y:V} {u:Value} (r:RelV y u) (f:q17 y=true):eqU x u=eqV y x:=by
 cases y with
 | non=>cases r;rfl
 | bl b=>cases r;rfl
 | int i=>obtain ⟨t,rfl⟩:=r;rfl
 | str z=>obtain ⟨t,rfl⟩:=r;rfl
 | _=>exact absurd (show false=true from f) Bool.false_ne_true
theorem q22 {x:V}:∀{xs:List V} {us:List Value},Vals xs us->xs.all q17=true->us.any (eqU x)=xs.any λy=>eqV y x
 | _,_,.nil,_=>rfl
 | y::xs,u::us,.cons r t,f=>by
  rw [List.all_cons,Bool.and_eq_true] at f
  rw [List.any_cons,List.any_cons,q7n r f.1,q22 t f.2]
theorem q1Z {A:Around} {s:Shared} {x:V} {v:Value} (rx:RelV x v) (fx:q17 x=true):∀{xs:List V} {us:List Value},Vals xs us->xs.all q17=true->∀u∈us,SeqAt.EqAt A s u v (eqU x u)
 | _,_,.nil,_=>λu hu=>by cases hu
 | y::xs,u::us,.cons r t,f=>λu' hu=>by
  rw [List.all_cons,Bool.and_eq_true] at f
  rcases List.mem_cons.mp hu with rfl | hu
  ·rw [q7n r f.1];exact j50 r rx f.1 fx
  ·exact q1Z rx fx t f.2 u' hu
def inV (x:V) (xs:List V):Bool:=xs.any λy=>eqV y x
def rIn (K:PySem.W.Frag) (neg:Bool):R2:=λx y H Q=>∃p xs,y=.ref p/\(SqL K H p xs∨SqT K H p xs)/\q17 x=true/\xs.all q17=true/\Q (.bl (if neg then !inV x xs else inV x xs)) H
theorem q7w:OpR X (compareOp .In) (rIn X.K false):=by
 intro pins s σ H x y v u Q I rx ry h
 obtain ⟨p,xs,rfl,hq,fx,fs,q⟩:=h
 cases ry
 rcases hq with hq | hq
 ·obtain ⟨its,r,pl,hz⟩:=I.list hq
  refine SeqAt.in_listAt (eqU x) pl.isList (λw hw=>q1Z rx fx r fs w (by simpa using hw)) ⟨.bl _,H,I,rfl,?_⟩
  rw [show its.toArray.any (eqU x)=its.any (eqU x) by simp,q22 r fs]
  exact q
 ·obtain ⟨its,r,pl,hz⟩:=I.tuple hq
  refine SeqAt.in_tupleAt (eqU x) pl (λw hw=>q1Z rx fx r fs w (by simpa using hw)) ⟨.bl _,H,I,rfl,?_⟩
  rw [show its.toArray.any (eqU x)=its.any (eqU x) by simp,q22 r fs]
  exact q
theorem q39:OpR X (compareOp .NotIn) (rIn X.K true):=by
 intro pins s σ H x y v u Q I rx ry h
 obtain ⟨p,xs,rfl,hq,fx,fs,q⟩:=h
 cases ry
 rcases hq with hq | hq
 ·obtain ⟨its,r,pl,hz⟩:=I.list hq
  refine SeqAt.notIn_listAt (eqU x) pl.isList (λw hw=>q1Z rx fx r fs w (by simpa using hw)) ⟨.bl _,H,I,rfl,?_⟩
  rw [show its.toArray.any (eqU x)=its.any (eqU x) by simp,q22 r fs]
  exact q
 ·obtain ⟨its,r,pl,hz⟩:=I.tuple hq
  refine SeqAt.notIn_tupleAt (eqU x) pl (λw hw=>q1Z rx fx r fs w (by simpa using hw)) ⟨.bl _,H,I,rfl,?_⟩
  rw [show its.toArray.any (eqU x)=its.any (eqU x) by simp,q22 r fs]
  exact q
theorem CallR.or {f:Value} {r r':List V->Hp->VK->Prop} (h:CallR X f r) (h':CallR X f r'):CallR X f (λxs H Q=>r xs H Q∨r' xs H Q):=by
 intro pins s σ H xs us Q I rs q
 rcases q with q | q
 ·exact h pins s σ H xs us Q I rs q
 ·exact h' pins s σ H xs us Q I rs q
theorem q4t:CallR X (.type "list") (λxs H Q=>∃p ys,xs=[.ref p]/\(SqL X.K H p ys∨SqT X.K H p ys)/\∀l,H l=none->Q (.ref l) (upd H l (.lst ys))):=by
 intro pins s σ H xs us Q I r h
 obtain ⟨p,ys,rfl,hq,q⟩:=h
 obtain ⟨u,rfl,rx⟩:=vals1 r
 cases rx
 have fin:∀(its:List Value),Vals ys its->ys.length<=sizeLine->∀(h':Heap) (c':Nat),(∀b o',s.heap.get? b=some o'->h'.get? b=some o') ->
  h'.get? s.heap.objs.size=some { cls:=.type "list",dict:=none,data:=.seq its.toArray c',slots:=#[] }->EP X pins σ Q (.ref s.heap.objs.size) { s with heap:=h' }:=λits r' hz h' c' kp e=>
  ⟨.ref s.heap.objs.size,_,I.laid (t':=s.toks) kp (Nat.le_refl _) (show ObjOk X.prog X.w _ h' _ (.lst ys) from ⟨hz,its,c',r',e⟩),rfl,q _ (I.hok.fresh (Nat.le_refl _))⟩
 rcases hq with hq | hq
 ·obtain ⟨its,r',pl,hz⟩:=I.list hq
  have hlen:=r'.length
  obtain ⟨o,ho,hc,n,hd⟩:=pl.isList
  exact call_list_seq p (.inl rfl) ho hc hd (λh' c' kp e=>fin its r' hz h' c' kp e) (by simp only [List.size_toArray]<;>omega)
 ·obtain ⟨its,r',pl,hz⟩:=I.tuple hq
  have hlen:=r'.length
  obtain ⟨o,ho,hc,n,hd⟩:=pl
  exact call_list_seq p (.inr rfl) ho hc hd (λh' c' kp e=>fin its r' hz h' c' kp e) (by simp only [List.size_toArray]<;>omega)
theorem q3I:CallR X (.type "tuple") (λxs H Q=>∃p ys,xs=[.ref p]/\((SqL X.K H p ys/\∀l,H l=none->Q (.ref l) (upd H l (.tup ys)))∨(SqT X.K H p ys/\Q (.ref p) H))):=by
 intro pins s σ H xs us Q I r h
 obtain ⟨p,ys,rfl,h⟩:=h
 obtain ⟨u,rfl,rx⟩:=vals1 r
 cases rx
 rcases h with ⟨hq,q⟩ | ⟨hq,q⟩
 ·obtain ⟨its,r',pl,hz⟩:=I.list hq
  have hlen:=r'.length
  refine call_tuple_list pl.isList (λh' kp=>?_) (by simp only [List.size_toArray]<;>omega)
  have I1:Inv X pins σ H { s with heap:=h' }:=I.kept (t':=s.toks) kp
  have I2:Inv X pins σ (upd H h'.objs.size (.tup ys)) { s with heap:=h'.push { cls:=.type "tuple",data:=.seq its.toArray } }:=
   I1.laid (t':=s.toks) (λb o e=>Heap.get?_push_of_some _ e) (Nat.le_refl _) (show ObjOk X.prog X.w _ _ _ (.tup ys) from ⟨hz,its,r',IsTup.new _ _⟩)
  exact ⟨.ref h'.objs.size,_,I2,rfl,q _ (I1.hok.fresh (Nat.le_refl _))⟩
 ·obtain ⟨its,r',pl,hz⟩:=I.tuple hq
  exact call_tuple_same pl ⟨.ref p,H,I,rfl,q⟩
def tyV (K:PySem.W.Frag) (T:String) (x:V) (H:Hp):Prop:=match x with
 | .str _=>T="str"
 | .int _=>T="int"
 | .ref p=>(T="list"/\∃xs,SqL K H p xs)∨(T="tuple"/\∃o,K.lookup p=some o/\o.cls=.type "tuple"/\o.dict=none) ∨
  (T="dict"/\((∃kvs,H p=some (.dK kvs))∨∃kvs,H p=some (.dT kvs)))∨(T="set"/\∃S n,H p=some (.set S n))
 | _=>False
theorem j3B {pins:List (Addr×Obj)} {σ:St} {H:Hp} {s:Shared} {T:String} {x:V} {v:Value} (I:Inv X pins σ H s) (r:RelV x v) (ty:tyV X.K T x H) :
 s.TypeIs v T/\∀a,v=.ref a->∃ob,s.heap.get? a=some ob/\ob.dict=none:=by
 cases x with
 | str z=>
  obtain ⟨t,rfl⟩:=r
  cases (show T="str" from ty)
  exact ⟨typeIs_str s z t,λ_ e=>nomatch e⟩
 | int i=>
  obtain ⟨t,rfl⟩:=r
  cases (show T="int" from ty)
  exact ⟨typeIs_int s i t,λ_ e=>nomatch e⟩
 | ref p=>
  cases r
  rcases ty with ⟨rfl,xs,hq⟩ | ⟨rfl,o,hk,hc,hd⟩ | ⟨rfl,hk⟩ | ⟨rfl,S,n,hk⟩
  ·obtain ⟨its,_,pl,_⟩:=I.list hq
   refine ⟨pl.isList.typeIs,λa e=>?_⟩
   cases e
   obtain ⟨o,n,e,c,hd,_⟩:=pl
   exact ⟨o,e,hd⟩
  ·refine ⟨⟨o,I.kIn p o hk,hc⟩,λa e=>?_⟩
   cases e
   exact ⟨o,I.kIn _ o hk,hd⟩
  ·have z:∃o,s.heap.get? p=some o/\o.ExactDict:=by
    rcases hk with ⟨kvs,hk⟩ | ⟨kvs,hk⟩
    ·obtain ⟨_,_,_,_,o,_,_,e,ex,_⟩:=I.hok p _ hk
     exact ⟨o,e,ex⟩
    ·obtain ⟨_,_,_,_,o,_,_,e,ex,_⟩:=I.hok p _ hk
     exact ⟨o,e,ex⟩
   obtain ⟨o,e,ex⟩:=z
   refine ⟨⟨o,e,ex.1⟩,λa e2=>?_⟩
   cases e2
   exact ⟨o,e,ex.2.1⟩
  ·obtain ⟨o,_,_,_,e,ex,_⟩:=I.hok p _ hk
   refine ⟨⟨o,e,ex.1⟩,λa e2=>?_⟩
   cases e2
   exact ⟨o,e,ex.2.1⟩
 | _=>exact False.elim ty
def tBM (K:PySem.W.Frag) (T:String) (r:V->List V->Hp->VK->Prop) (to:TE) (t:TA):TE:=fun σ H Q=>to σ H λx H1=>tyV K T x H1/\t σ H1 λxs H2=>r x xs H2 Q
variable {o e:Expr} {es:List Expr} {to:TE} {t:TA} {name:Str} {apos cpos:Pos} {T id:String} {r:V->List V->Hp->VK->Prop}
theorem j1j (pa:PlainAttrs T) (slot:Slot T name id) (hty:typeOf (.builtin id)=pure (.type "method_descriptor")) (hm:MtR X id r) (ho:PE X o to) (ha:PA X (e::es) t)
 (hbase:attributeBase o name X.env (eval o X.env)=eval o X.env:=by rfl)
 (hfew:((backTo cpos (starEach (e::es) X.env)).all (λx=>!x.1) && (backToKw cpos (keywordEach [] X.env)).all (λx=>x.1.isSome)
  && decide ((e::es).length+([]:List Keyword).length+(if ([]:List Keyword).isEmpty then 0 else 1) < 30))=true:=by rfl)
 (hline:(apos.endLine==cpos.line)=true:=by rfl) (hs:starEach (e::es) X.env=(false,eval e X.env)::starEach es X.env:=by rfl) (hplain:(backTo cpos (starEach es X.env)).any (·.1)=false:=by rfl) :
 PE X (.Call (.Attribute o name apos) (e::es) [] cpos) (tBM X.K T r to t):=by
 intro pins s σ H Q I h
 refine wpAny_Call_method_late hbase hfew hline rfl (thn (ho pins s σ H _ I h) λv s1 ⟨x,H1,I1,r1,ty,q1⟩=>?_)
 obtain ⟨h1,h2⟩:=j3B I1 r1 ty
 refine ⟨T,id,pa,slot,hty,h1,h2,?_⟩
 have hA:=ha cpos pins s1 σ H1 _ I1 q1
 rw [hs] at hA ⊢
 refine Calls.callWith_builtin (by show (false || (backTo cpos (starEach es X.env)).any (·.1))=false;rw [hplain]<;>rfl) (Calls.evalArgs_plain ?_)
 exact thn hA λus s2 ⟨vs,H2,I2,r2,q2⟩=>hm pins s2 σ H2 x vs v us Q I2 r1 r2 q2
end
def MtM (X:Cx) (id:String) (r:V->List V->Hp->VK->Prop):Prop:=
 ∀(pins:List (Addr×Obj)) (s:Shared) (σ:St) (H:Hp) (x:V) (xs:List V) (v:Value) (us:List Value) (Q:VK),Inv X pins σ H s->RelV x v->Vals xs us->r x xs H Q ->
  wpAny (model X.prog X.w) X.A (call (.builtin id) (v::us)) (EP X pins σ Q) X.xe s
theorem Vals.one:∀{x:V} {us:List Value},Vals [x] us->∃u,us=[u]/\RelV x u
 | _,_,.cons r .nil=>⟨_,rfl,r⟩
theorem Vals.two:∀{x y:V} {us:List Value},Vals [x,y] us->∃u v,us=[u,v]/\RelV x u/\RelV y v
 | _,_,_,.cons r (.cons q .nil)=>⟨_,_,rfl,r,q⟩
theorem Vals.zero:∀{us:List Value},Vals [] us->us=[]
 | _,.nil=>rfl
theorem Vals.reverse {xs:List V} {us:List Value} (h:Vals xs us):Vals xs.reverse us.reverse:=by
 induction h with
 | nil=>exact .nil
 | cons r t ih=>rw [List.reverse_cons,List.reverse_cons];exact Vals.append ih (.cons r .nil)
theorem Vals.rep {xs:List V} {us:List Value} (h:Vals xs us):∀k:Nat,Vals (List.replicate k xs).flatten (List.replicate k us).flatten
 | 0=>.nil
 | k+1=>by
  rw [List.replicate_succ,List.replicate_succ,List.flatten_cons,List.flatten_cons]
  exact Vals.append h (Vals.rep h k)
theorem q4o (its:List Value):∀(k:Nat) (acc:List Value),
 List.foldl (λx1 x2=>x1++x2) acc.toArray (List.replicate k its.toArray)=(acc++(List.replicate k its).flatten).toArray
 | 0,acc=>by simp
 | k+1,acc=>by
  have e:acc.toArray++its.toArray=(acc++its).toArray:=by simp
  have e2:(acc++its)++(List.replicate k its).flatten=acc++(List.replicate (k+1) its).flatten:=by
   rw [List.replicate_succ,List.flatten_cons,List.append_assoc]
  rw [<-e2,<-q4o its k (acc++its),<-e,List.replicate_succ,List.foldl_cons]
section
variable {X:Cx} {pins:List (Addr×Obj)} {σ:St} {H:Hp} {s:Shared} {l b:Addr} {xs ys zs:List V}
theorem Inv.lset {its its':List Value} {n:Nat} {f:Array Value->Array Value} {t':Nat} (I:Inv X pins σ H s) (hH:H l=some (.lst xs))
 (e:s.heap.get? l=some { cls:=.type "list",data:=.seq its.toArray n }) (hf:f its.toArray=its'.toArray) (hv:Vals ys its') (hz:ys.length<=sizeLine) :
 Inv X pins σ (upd H l (.lst ys)) { s with heap:=s.heap.update l (Obj.mapSeq f),toks:=t' }:=by
 have q:=PySem.IsL.update e f
 rw [hf] at q
 refine I.write (x:=l) (e:=l) (by rw [hH];exact trivial) (.inl rfl) (λb' u hb hu=>(Heap.get?_update_other s.heap (Obj.mapSeq f) (Ne.symm hb)).trans hu) ⟨_,q⟩ ?_
 exact ⟨hz,its',_,hv,q⟩
theorem Inv.lnew {its:List Value} {t':Nat} (I:Inv X pins σ H s) (hv:Vals ys its) (hz:ys.length<=sizeLine) :
 Inv X pins σ (upd H s.heap.objs.size (.lst ys)) { s with heap:=s.heap.push { cls:=.type "list",data:=.seq its.toArray },toks:=t' }:=
 I.laid (λ_ _ q=>Heap.get?_push_of_some _ q) (Nat.le_refl _) ⟨hz,its,0,hv,Heap.get?_push_size _ rfl⟩
theorem Inv.fresh (I:Inv X pins σ H s):H s.heap.objs.size=none:=I.hok.fresh (Nat.le_refl _)
theorem Inv.lstM (I:Inv X pins σ H s) (hH:H l=some (.lst xs)):xs.length<=sizeLine/\∃(its:List Value) (n:Nat),Vals xs its/\xs.length=its.length/\s.heap.get? l=some { cls:=.type "list",data:=.seq its.toArray n }:=by
 obtain ⟨z,its,n,r,e⟩:=I.hok l _ hH
 exact ⟨z,its,n,r,r.length,e⟩
theorem q5E {n:Nat} (h:n<=sizeLine):Builtin.List.listTooLong n=false:=by
 unfold Builtin.List.listTooLong
 exact decide_eq_false (by omega)
end
section
variable {X:Cx}
def j1C:V->List V->Hp->VK->Prop:=λx vs H Q=>∃l xs y,x=.ref l/\vs=[y]/\H l=some (.lst xs)/\xs.length < sizeLine/\Q .non (upd H l (.lst (xs++[y])))
theorem q2k:MtM X "list.append" j1C:=by
 intro pins s σ H x vs v us Q I rx rv h
 obtain ⟨l,xs,y,rfl,rfl,hH,hz,q⟩:=h
 cases rx
 obtain ⟨u,rfl,ru⟩:=rv.one
 obtain ⟨z,its,n,r,hl,e⟩:=I.lstM hH
 refine call_meets F.slot_list_append ⟨_,e,rfl⟩ F.entry_list_append (F.args_list_append_2 _ _) (PySem.list_append l its.toArray n u (by rw [List.size_toArray];omega)) ⟨e,?_⟩
 refine ⟨.non,_,I.lset (its':=its++[u]) hH e (by simp) (r.append (.cons ru .nil)) ?_,rfl,q⟩
 rw [List.length_append,List.length_singleton]
 omega
def w2E:R2:=λx y H Q=>∃l k xs,x=.ref l/\y=.int k/\H l=some (.lst xs)/\-(2 ^ 63)<=k/\k < 2 ^ 63/\xs.length*k.toNat<=sizeLine /\
 ∀p,H p=none->Q (.ref p) (upd H p (.lst (List.replicate k.toNat xs).flatten))
theorem j1L {α:Type} (xs:List α) (k:Nat):(List.replicate k xs).flatten.length=k*xs.length:=by
 induction k with
 | zero=>simp
 | succ k ih=>rw [List.replicate_succ,List.flatten_cons,List.length_append,ih,Nat.succ_mul,Nat.add_comm]
theorem j6i:OpR X (binaryOp .Mult) w2E:=by
 intro pins s σ H x y v u Q I rx ry h
 obtain ⟨l,k,xs,rfl,rfl,hH,h1,h2,hz,q⟩:=h
 cases rx
 obtain ⟨t,rfl⟩:=ry
 obtain ⟨z,its,n,r,hl,e⟩:=I.lstM hH
 have hlen:its.toArray.size*k.toNat<=sizeLine:=by rw [List.size_toArray,<-hl];exact hz
 have hcap:¬its.toArray.size*k.toNat > (2 ^ 63-1) / 8:=by
  have:(sizeLine:Nat)<=(2 ^ 63-1) / 8:=by decide
  omega
 have hfit:¬(!Builtin.List.listFitsIndex k)=true:=by
  rw [fitsIndex_both h1 h2]
  exact Bool.false_ne_true
 have hlong:¬Builtin.List.listTooLong (its.toArray.size*k.toNat)=true:=by
  rw [q5E hlen]
  exact Bool.false_ne_true
 have hnew:List.foldl (λx1 x2=>x1++x2) #[] (List.replicate (if its.toArray.isEmpty=true then 0 else k.toNat) its.toArray)=(List.replicate k.toNat its).flatten.toArray:=by
  have f0:∀m:Nat,List.foldl (λx1 x2=>x1++x2) #[] (List.replicate m its.toArray)=(List.replicate m its).flatten.toArray:=λm=>by
   have:=q4o its m []
   rw [List.nil_append] at this
   exact this
  rw [f0]
  cases its with
  | nil=>simp
  | cons a r'=>rw [if_neg (by simp)]
 refine wpAny_binaryOp_repeat_ref (T:="list") (U:="int") (by decide) ⟨_,e,rfl⟩ (λs'=>typeIs_int s' k t) noFill_list_mul F.fills_int_mul F.slot_int_rmul repeat_list F.slot_int_index.lookup
  (call_meets F.slot_int_rmul (typeIs_int s k t) F.entry_int_rmul (F.args_int_rmul_2 _ _) (int___rmul___int_list k t l its.toArray n)
   ⟨e,rfl,⟨_,e,rfl⟩,call_meets F.slot_list_mul ⟨_,e,rfl⟩ F.entry_list_mul (F.args_list_mul_2 _ _) (AutoListH.list___mul___list_int_3 l its.toArray n k t hfit hcap hlong) ⟨e,?_⟩⟩)
 rw [hnew]
 exact ⟨.ref _,_,I.lnew (t':=s.toks) (r.rep k.toNat) (by rw [j1L,Nat.mul_comm];exact hz),rfl,q _ I.fresh⟩
end
section
variable {prog:Program} {w:World} {A:Around} {E:Value->Shared->Prop} {s:Shared}
end
section
variable {X:Cx}
end
end L2
namespace Att
open PySem PySem.W PySem.Calls PyProof.Rows
theorem q25 {P:Params} {h:Heap}:∀(ns:List Int) (vs:List Value),WellAll P h vs (ns.map WData.int)->IntsAre vs ns:=by
 intro ns
 induction ns with
 | nil=>
  intro vs w
  rw [List.map_nil] at w
  cases w
  exact .nil
 | cons n ns ih=>
  intro vs w
  rw [List.map_cons] at w
  cases w with
  | cons a b=>
   cases a
   exact .cons _ _ (ih _ b)
theorem q6K {l:OpenLaw} {n:Nat} (hn:l.most=some n) {P:Params} {h:Heap} {args:List WData} {vals:List Value}
 (hpre:l.row.toRowW.claim.pre args=true) (hwl:WellAll P h vals args) :
 ∃a vs ns,vals=[Value.ref a]/\args=[WData.list (ns.map WData.int)]/\h.get? a=some { cls:=.type "list",data:=.seq vs.toArray }/\IntsAre vs ns/\ns.length<=n:=by
 have hsh:WShape.hasAll [] args [.list .int]=true:=(pre_splitW hpre).1
 have hc:l.pre.holds [] { args:=args }=true:=(pre_splitW hpre).2
 obtain ⟨d,r,rfl,h1,h2⟩:=hasAllW_cons hsh
 obtain rfl:=hasAllW_nil h2
 obtain ⟨xs,rfl,h3⟩:=hasW_list h1
 obtain ⟨ns,rfl⟩:=items_int h3
 have hlen:ns.length<=n:=by
  unfold OpenLaw.pre at hc
  have h4:(WTm.not (.lt (.lit (.int (n:Int))) (.len (.arg 0)))).holds [] { args:=[.list (ns.map .int)] }=true:=by
   have h4:=(holds_andW hc).1
   rw [hn] at h4
   exact h4
  have h5:=condW_of h4 (w_not (w_lt w_lit (w_len_list (w_arg rfl))))
  rw [List.length_map] at h5
  refine Nat.le_of_not_lt λq=>?_
  have q':(n:Int) < ((ns.length:Nat):Int):=by omega
  first
   | (rw [decide_eq_true q'] at h5;exact absurd h5 (by decide))
   | (simp at h5;omega)
 cases hwl with
 | cons w1 w2=>
  cases w2
  cases w1 with
  | list ho hall=>exact ⟨_,_,ns,rfl,rfl,ho,q25 ns _ hall,hlen⟩
theorem q65 (l:OpenLaw) (args:List WData):l.row.toRowW.claim.post args (.bool true) args=true:=
 postW_of (r:=l.row.toRowW) (X:=(true==true))
  (show WShape.has [] (.bool true) .bool=true by first | rfl | decide | simp [WShape.has,WShape.arms,WShape.armsAll])
  (show (WTm.eq .res (.lit (.bool true))).value [] { args:=args,res:=some (.bool true),after:=args }=some (.bool (true==true)) from w_eq_bool (w_res rfl) w_lit) rfl
theorem attach_call {l:OpenLaw} {n:Nat} {q:Program} {loose:List Str} {XP:(Str->Option Value)->Heap->Prop} {YP:World->Heap->Prop} {d:DefRec}
 (hn:l.most=some n) (hdf:d.params.defaults=[])
 (call:∀(w:World) (s₀ s₁:Shared) (mg mb:Str->Option Value) (fa:Addr) (o:Obj) (pm cd doc:Value) (a:Addr) (vs:List Value) (ns:List Int),
  Ground q loose [] XP w s₀ mg mb s₁.heap->YP w s₁.heap ->
  s₁.heap.get? fa=some o->o.data=.func (docDef d.name d.params d.body d.scope pm cd doc)->s₁.heap.CodeRec cd d.name->mg d.name=some (.ref fa) ->
  s₁.heap.get? a=some { cls:=.type "list",data:=.seq vs.toArray }->IntsAre vs ns->ns.length<=n->s₁.gens=#[] ->
  codeAny (model l.prog w) callerA (.call (.ref fa) ⟨[.ref a],[]⟩) (λr s'=>r=.ok (.ret (.bool true))/\OldK s₁.heap s'.heap/\s'.os=s₁.os/\AllBare s'.gens) s₁) :
 WalkO q loose XP YP l.row.toRowW d [] (λf vs=>PySem.call f vs):=by
 intro w s₀ s₁ mg mb G Y fa o pm cd doc dV kV ho hd hcd hD hmg hg args vals as hpre hlay hrd hwl hlo
 obtain rfl:dV=.none:=Dflts.none hD hdf
 obtain rfl:kV=.none:=Dflts.noKw hD
 obtain ⟨a,vs,ns,rfl,rfl,hobj,hints,hlen⟩:=q6K hn hpre hwl
 refine enter_call (codeAny_mono (call w s₀ s₁ mg mb fa o pm cd doc a vs ns G Y ho (fd_plain hd) hcd hmg hobj hints hlen hg) λr s' hq=>?_)
 obtain ⟨rfl,h2,h3,h4⟩:=hq
 exact ⟨.inl ⟨.bool true,.bool true,[],rfl,λ_=>rfl,.bool true,q65 l _,λ_=>⟨List.Pairwise.nil,λ_ hm=>(nomatch hm)⟩⟩,h2,h3,h4⟩
section
variable {prog:Program} {w:World} {A:Around} {E:Value->Shared->Prop} {s:Shared} {K:Frag}
end
end Att
namespace L2
open PySem PySem.Spec PyProof.Rows
theorem q1A:∀{vs:List Value} {ns:List Int},IntsAre vs ns->Vals (ns.map V.int) vs
 | _,_,.nil=>.nil
 | _,_,.cons n t h=>.cons ⟨t,rfl⟩ (q1A h)
def Only (H:Hp):Prop:=∀b,H b=none∨∃o xs,H b=some (.frz o (.lst xs))
theorem q8O {P:Program} {w:World} {K:PySem.W.Frag} {mg mb:Str->Option Value} {CX:CXT} {k:Nat} {fa a:Addr} {fd:FuncData} {x:Str} {sp:Sp} {s₁:Shared} {vs:List Value} {ns:List Int}
 (KX:K.In s₁.heap) (hns:s₁.heap.Ns mainGlobals mg) (hb:s₁.heap.Ns builtinsNs mb) (hbb:∀x:Str,x≠"__name__"->mb x=bootBuiltins x) (hlim:s₁.heap.NoLimit) (hg:s₁.gens=#[])
 (ha:s₁.heap.get? a=some { cls:=.type "list",data:=.seq vs.toArray }) (hi:IntsAre vs ns) (hl:ns.length<=sizeLine) (hr:Room k callerA)
 (F:∀base:Heap,K.In base->base.Ns mainGlobals mg->FnOk P w K mg base CX k fa fd [x] sp) (hbind:∀(s:Shared) (u:Value),BindsTo s fd ⟨[u],[]⟩ [(x,u)])
 (hsp:∀H:Hp,Only H->SqL K H a (ns.map V.int)->sp [.ref a] H (λv _=>v=.bl true) λ_ _ _=>False)
 (hCX:∀H e s',CX [] H s₁ (λ_ _ _=>False) e s'->False) :
 codeAny (model P w) callerA (.call (.ref fa) ⟨[.ref a],[]⟩) (λr s'=>r=.ok (.ret (.bool true))/\OldK s₁.heap s'.heap/\s'.os=s₁.os/\AllBare s'.gens) s₁:=by
 have rv:=q1A hi
 have lenV:=hi.length
 have core:∀H:Hp,Only H->SqL K H a (ns.map V.int)->HOk P w H s₁.heap->(∀b,H b≠none->b=a)->(H a≠none->K.lookup a=none) ->
  codeAny (model P w) callerA (.call (.ref fa) ⟨[.ref a],[]⟩) (λr s'=>r=.ok (.ret (.bool true))/\OldK s₁.heap s'.heap/\s'.os=s₁.os/\AllBare s'.gens) s₁:=by
  intro H hO hS hok hA hK
  have base_of:∀{b:Addr} {o:Obj},s₁.heap.get? b=some o->H b=none->(q9F s₁.heap H).get? b=some o:=λe n=>q9k e n
  have noA:∀{b:Addr} {o:Obj} {es:Array DictEntry} {ep:Nat},s₁.heap.get? b=some o->o.data=.dict es ep->H b=none:=λ{b o es ep} e d=>by
   cases q:H b with
   | none=>rfl
   | some u=>
    have e':b=a:=hA b (by rw [q];simp)
    subst e'
    rw [ha] at e;cases e
    have d':Data.seq vs.toArray _=Data.dict es ep:=d
    cases d'
  have nsK:∀{b:Addr} {m:Str->Option Value},s₁.heap.Ns b m->(q9F s₁.heap H).Ns b m:=λ{b m} ⟨o,es,ep,e,d,r⟩=>⟨o,es,ep,base_of e (noA e d),d,r⟩
  have hKb:K.In (q9F s₁.heap H):=λb o e=>base_of (KX b o e) (by
   cases q:H b with
   | none=>rfl
   | some u=>
    have e':b=a:=hA b (by rw [q];simp)
    subst e'
    rw [hK (by rw [q];simp)] at e;cases e)
  have hM:Mod K mg (q9F s₁.heap H):=⟨hKb,nsK hns,⟨mb,nsK hb,hbb⟩,let ⟨mc,h1,h2⟩:=hlim;⟨mc,nsK h1,h2⟩⟩
  have e0:Env0 P w K mg (q9F s₁.heap H) callerA [] s₁ H:=⟨rfl,hM,λb o e=>j1M e,Nat.le_of_eq (q6V _ _),trivial,λb hb=>absurd (show b∈([]:List Addr) from hb) (by simp),hok,.of_eq hg⟩
  refine codeAny_mono ((F _ hKb (nsK hns)).run callerA [] s₁ H ⟨[.ref a],[]⟩ [.ref a] [.ref a] _ _ hr e0 (hbind s₁ (.ref a)) (.cons rfl .nil) (hsp H hO hS)) λr s' h=>?_
  cases r with
  | error e=>exact (hCX H e s' h).elim
  | ok fl=>
   cases fl with
   | next=>exact False.elim h
   | brk=>exact False.elim h
   | cont=>exact False.elim h
   | ret u=>
    obtain ⟨v,H',os,bare,un,hok',r',q⟩:=h
    have q':v=.bl true:=q
    subst q'
    obtain rfl:u=Value.bool true:=r'
    refine ⟨rfl,OldK.of_keep λb o e=>?_,os,bare⟩
    cases q:H b with
    | none=>exact un.keep b o e q (by intro z;exact absurd (show b∈([]:List Addr) from z) (by simp)) (by simp)
    | some u=>
     rcases hO b with z | ⟨ob,xs,z⟩
     ·rw [q] at z;cases z
     ·have z2:=un.frzs b ob _ z
      obtain ⟨e1,_⟩:=hok b _ z
      obtain ⟨e2,_⟩:=hok' b _ z2
      rw [e] at e1;cases e1
      exact e2
 cases hk:K.lookup a with
 | some o=>
  have e:=KX a o hk
  rw [ha] at e
  cases e
  refine core (λ_=>none) (λ_=>.inl rfl) (.inr ⟨_,vs.toArray,_,hk,rfl,rfl,rfl,by rw [List.size_toArray,lenV];exact hl,by simpa using rv⟩) (λb u z=>by have z':(none:Option HO)=some u:=z;cases z') (λb z=>absurd rfl z) λz=>absurd rfl z
 | none=>
  refine core (λb=>if b=a then some (.frz { cls:=.type "list",data:=.seq vs.toArray } (.lst (ns.map V.int))) else none) (λb=>?_) (.inl (.inr ⟨{ cls:=.type "list",data:=.seq vs.toArray },if_pos rfl⟩)) (λb u z=>?_) (λb z=>?_) λ_=>hk
  ·by_cases hb:b=a
   ·exact .inr ⟨_,_,if_pos hb⟩
   ·exact .inl (if_neg hb)
  ·by_cases hb:b=a
   ·have z':=(if_pos hb).symm.trans z
    cases z'
    subst hb
    exact ⟨ha,by rw [List.length_map];exact hl,vs,_,rv,ha⟩
   ·have z':=(if_neg hb).symm.trans z
    cases z'
  ·by_cases hb:b=a
   ·exact hb
   ·exact absurd (if_neg hb) z
abbrev CX0:CXT:=λ_ _ _ _ _ _=>False
structure Fun (K:PySem.W.Frag) (x qual:Str) (st:Stmt) (f:Addr) (fd:FuncData):Prop where
 ex:∃(oc:Value) (od:Option Addr) (kV doc pm:Value) (an:Option Addr) (cdv ct:Value) (osl:Array (Option Value)),
  fd=PySem.W.fnOf x qual (q1w st) (q1d st) (q0f st) .none kV doc pm an cdv ct/\K.lookup f=some ⟨oc,od,.func fd,osl⟩/\PySem.W.codeIn K cdv qual=true
 kp:PySem.W.keepIn K (.ref f)=true
section
variable {P:Program} {w:World} {K:PySem.W.Frag} {mg:Str->Option Value} {base:Heap}
theorem Fun.ok {x qual:Str} {st:Stmt} {f:Addr} {fd:FuncData} {N ps:List Str} {k:Nat} {sp:Sp} (F:Fun K x qual st f fd) (S:q0m N ps (q0f st)) (len:∀vs H Q E,sp vs H Q E->vs.length=ps.length)
 (hbody:∀(cdv:Value) (A:Around) (outer:List Env) (s:Shared) (H:Hp) (vs:List V) (Q:VK) (E:XK),Room k (A.deeper (envOfC qual (q0f st) s.heap.objs.size f cdv))->sp vs H Q E ->
  ∃t,PSs (j0X CX0 P w K mg base N qual (q0f st) f cdv A outer s H E).nox (q1d st) t/\t { nx:=λ_ H'=>Q .non H',rt:=Q } (start N vs) H):FnOk P w K mg base CX0 (k+1) f fd ps sp:=by
 obtain ⟨oc,od,kV,doc,pm,an,cdv,ct,osl,rfl,lk,hcd⟩:=F.ex
 refine j0S lk hcd S len λA outer s H vs Q E hr hsp=>?_
 obtain ⟨t,h,q⟩:=hbody cdv A outer s H vs Q E hr hsp
 exact ⟨t,h.nox,q⟩
theorem Fun.binds {x qual:Str} {st:Stmt} {f:Addr} {fd:FuncData} {ps:List Str} (F:Fun K x qual st f fd)
 (h:∀(kV doc pm:Value) (an:Option Addr) (cdv ct:Value) (us:List Value),us.length=ps.length->bindArgs (PySem.W.fnOf x qual (q1w st) (q1d st) (q0f st) .none kV doc pm an cdv ct) ⟨us,[]⟩=pure (ps.zip us)):Binds K fd ps []:=by
 obtain ⟨oc,od,kV,doc,pm,an,cdv,ct,osl,rfl,lk,hcd⟩:=F.ex
 exact .all (h kV doc pm an cdv ct)
theorem q0r {x qual:Str} {st:Stmt} {f:Addr} {oc:Value} {od an:Option Addr} {osl:Array (Option Value)} {kV doc pm cdv ct:Value} (l:K.lookup f=some ⟨oc,od,.func (PySem.W.fnOf x qual (q1w st) (q1d st) (q0f st) .none kV doc pm an cdv ct),osl⟩)
 (c:PySem.W.codeIn K cdv qual=true) (k:PySem.W.keepIn K (.ref f)=true):Fun K x qual st f (PySem.W.fnOf x qual (q1w st) (q1d st) (q0f st) .none kV doc pm an cdv ct):=⟨⟨oc,od,kV,doc,pm,an,cdv,ct,osl,rfl,l,c⟩,k⟩
end
section
variable {X:Cx}
end
def Same (H H':Hp):Prop:=∀b o,H b=some o->H' b=some o
theorem Same.refl (H:Hp):Same H H:=λ_ _ h=>h
theorem Same.trans {H H1 H2:Hp} (a:Same H H1) (b:Same H1 H2):Same H H2:=λc o h=>b c o (a c o h)
theorem Same.free {H H':Hp} (e:Same H H') {l:Addr} (h:H' l=Option.none):H l=Option.none:=by
 cases q:H l with
 | none=>rfl
 | some o=>
  rw [e l o q] at h
  cases h
theorem Same.seq {K:PySem.W.Frag} {H H':Hp} {a:Addr} {xs:List V} (e:Same H H') (h:SqL K H a xs):SqL K H' a xs:=by
 rcases h with (h | ⟨o,h⟩) | h
 ·exact .inl (.inl (e _ _ h))
 ·exact .inl (.inr ⟨o,e _ _ h⟩)
 ·exact .inr h
end L2
namespace L3
open PySem PySem.Spec PyProof.Rows L2
inductive Kp (J:Heap->Prop) {α:Type}:Sem α->Prop
 | pure (a:α):Kp J (.pure a)
 | raise (e:Value):Kp J (.raise e)
 | uns (x:String):Kp J (.unsupported x)
 | load {a:Addr} {q:Option Value} {k:Obj->Sem α}:(∀o,Kp J (k o))->Kp J (.load a q k)
 | upd {a:Addr} {q:Option Value} {f:Obj->Obj} {k:Unit->Sem α}:(∀h,J h->J (h.update a f))->Kp J (k ())->Kp J (.update a q f k)
 | alloc {o:Obj} {k:Addr->Sem α}:(∀a,Kp J (k a))->Kp J (.alloc o k)
 | stack {k:List (Code×Pos)->Sem α}:(∀l,Kp J (k l))->Kp J (.stack k)
 | rule {t:String} {k:Unit->Sem α}:Kp J (k ())->Kp J (.rule t k)
section
variable {J:Heap->Prop} {α β:Type}
theorem Kp.bind {m:Sem α} {f:α->Sem β} (h:Kp J m) (hf:∀a,Kp J (f a)):Kp J (m >>= f):=by
 show Kp J (m.bind f)
 induction h with
 | pure a=>exact hf a
 | raise e=>exact .raise e
 | uns x=>exact .uns x
 | load _ ih=>exact .load ih
 | upd h1 _ ih=>exact .upd h1 ih
 | alloc _ ih=>exact .alloc ih
 | stack _ ih=>exact .stack ih
 | rule _ ih=>exact .rule ih
theorem Kp.run {M:Model} {Γ:PySem.Ctx} {t:Sem α} {Q:α->Pos->Shared->Prop} {E:Value->Pos->Shared->Prop} (hp:∀h o,J h->J (h.push o)) (h:Kp J t) :
 ∀(p:Pos) (s:Shared),J s.heap->Sem.wp M Γ t Q E p s->Sem.wp M Γ t (λa p s=>Q a p s/\J s.heap) (λe p s=>E e p s/\J s.heap) p s:=by
 induction h with
 | pure a=>exact λp s j z=>⟨z,j⟩
 | raise e=>exact λp s j z=>⟨z,j⟩
 | uns x=>exact λp s j z=>z
 | load _ ih=>rintro p s j ⟨o,e,z⟩;exact ⟨o,e,ih o p s j z⟩
 | upd h1 _ ih=>rintro p s j ⟨e,z⟩;exact ⟨e,ih p _ (h1 _ j) z⟩
 | alloc _ ih=>exact λp s j z=>ih _ p _ (hp _ _ j) z
 | stack _ ih=>exact λp s j z=>ih _ p s j z
 | rule _ ih=>exact λp s j z=>ih p s j z
theorem Kp.any {M:Model} {A:Around} {t:Sem α} {Q:α->Shared->Prop} {E:Value->Shared->Prop} {s:Shared} (hp:∀h o,J h->J (h.push o)) (h:Kp J t) (j:J s.heap) (z:wpAny M A t Q E s) :
 wpAny M A t (λa s=>Q a s/\J s.heap) (λe s=>E e s/\J s.heap) s:=fun Γ p hΓ=>h.run hp p s j (z Γ p hΓ)
end
def Nc (ea:Addr) (h:Heap):Prop:=∃(oe:Obj) (vs:Array Value),h.get? ea=some oe/\oe.data=.fields vs/\vs[2]?=some .none/\oe.dict=none
section
variable {ea:Addr}
theorem q85 {o:Obj} {vs:Array Value} (d:o.data=.fields vs):o.isFreed=false:=by
 obtain ⟨c,dd,da,sl⟩:=o
 have d:da=.fields vs:=d
 subst d
 rfl
theorem Nc.push (h:Heap) (o:Obj) (j:Nc ea h):Nc ea (h.push o):=by
 obtain ⟨oe,vs,e,d,z⟩:=j
 exact ⟨oe,vs,Heap.get?_push_of_some _ e,d,z⟩
theorem Nc.upd {b:Addr} {f:Obj->Obj} (hf:∀o vs,o.data=.fields vs->vs[2]?=some .none->∃ws,(f o).data=.fields ws/\ws[2]?=some .none/\(f o).dict=o.dict) (h:Heap) (j:Nc ea h):Nc ea (h.update b f):=by
 obtain ⟨oe,vs,e,d,z,dn⟩:=j
 by_cases q:b=ea
 ·subst q
  obtain ⟨ws,d',z',dd⟩:=hf oe vs d z
  exact ⟨f oe,ws,Heap.get?_update_self _ e (q85 d'),d',z',dd.trans dn⟩
 ·exact ⟨oe,vs,by rw [Heap.get?_update_other _ _ q];exact e,d,z,dn⟩
theorem Nc.set {i:Nat} {x:Value} (hi:i≠2) (o:Obj) (vs:Array Value) (d:o.data=.fields vs) (z:vs[2]?=some .none):∃ws,(Obj.mapFields (·.setIfInBounds i x) o).data=.fields ws/\ws[2]?=some .none/\(Obj.mapFields (·.setIfInBounds i x) o).dict=o.dict:=by
 obtain ⟨c,dd,da,sl⟩:=o
 have d:da=.fields vs:=d
 subst d
 exact ⟨_,rfl,by rw [Array.getElem?_setIfInBounds_ne hi];exact z,rfl⟩
theorem q43 {v:Value} {J:Heap->Prop}:Kp J (PySem.fieldsOf v):=by
 unfold PySem.fieldsOf
 split
 ·refine Kp.bind (.load λo=>.pure o) λo=>?_
  split
  ·exact .pure _
  ·exact .uns _
 ·exact .uns _
theorem q2J {v:Value} {i:Nat} {J:Heap->Prop}:Kp J (field v i):=by
 unfold field
 refine Kp.bind q43 λvs=>?_
 split
 ·exact .pure _
 ·exact .uns _
theorem q16 {v x:Value} {i:Nat} (hi:i≠2):Kp (Nc ea) (setField v i x):=by
 unfold setField
 split
 ·unfold updateField
  refine Kp.bind (.load λo=>.pure o) λo=>?_
  split
  ·split
   ·exact .upd (Nc.upd λo vs=>Nc.set hi o vs) (.pure ())
   ·exact .uns _
  ·exact .uns _
 ·exact .uns _
theorem q1M {u:Value} {f:Option Addr}:Kp (Nc ea) (setFlight u f):=by
 unfold setFlight
 refine Kp.bind q2J λtb=>?_
 split
 ·exact q16 (by decide)
 ·exact .pure ()
theorem q5y:∀(l:List Env),Kp (Nc ea) (readyFrames l)
 | []=>.pure ()
 | env::outer=>by
  unfold readyFrames
  split
  ·refine Kp.bind (.load λo=>.pure o) λo=>?_
   split
   ·exact .pure ()
   ·refine Kp.bind ?_ λim=>Kp.bind ?_ λback=>Kp.bind (.upd (Nc.upd λo vs d z=>⟨vs,d,z,rfl⟩) (.pure ())) λ_=>q5y outer
    ·unfold behindIsImport
     split
     ·exact .pure _
     ·split
      ·exact .pure _
      ·exact Kp.bind q2J λ_=>.pure _
    ·unfold keptBack
     split
     ·split
      ·exact .pure _
      ·exact Kp.bind (Kp.bind (.stack λl=>.pure l) λ_=>.pure _) λ_=>.pure _
     ·exact .pure _
  ·exact .uns _
theorem q6E {env:Env}:Kp (Nc ea) (PySem.frameOf env):=by
 unfold PySem.frameOf
 refine Kp.bind (Kp.bind (.stack λl=>.pure l) λ_=>.pure _) λl=>Kp.bind ?_ λo=>?_
 ·unfold frameObject
  split
  ·exact .pure _
  ·exact Kp.bind (q5y _) λ_=>.pure _
 ·split
  ·exact .pure _
  ·exact .uns _
theorem q4B (vs:List Value):Kp (Nc ea) (newFields "traceback" vs):=by
 unfold newFields newObj
 have fin:∀d,Kp (Nc ea) (newObjAsIs (.type "traceback") d none):=λd=>Kp.bind (.alloc λa=>.pure a) λa=>.pure _
 dsimp only
 split
 ·exact Kp.bind (.uns _) λ_=>fin _
 ·exact fin _
theorem q2v {u:Value} {env:Env}:Kp (Nc ea) (noteFrame u env):=by
 unfold noteFrame
 split
 ·refine Kp.bind q2J λhead=>?_
  rename_i f _
  have last:Kp (Nc ea) (do setField u 1 (<-EntryCells.newEntry head (<-PySem.frameOf env) .none (rawInt f) .none (<-entryPlaceOf f (head != .none)))):=by
   refine Kp.bind q6E λfr=>Kp.bind ?_ λpl=>Kp.bind ?_ λtb=>q16 (by decide)
   ·unfold entryPlaceOf
    refine Kp.bind (.stack λl=>.pure l) λacts=>?_
    split
    ·exact .pure _
    ·exact .pure _
   ·exact q4B _
  split
  ·refine Kp.bind q2J λx=>?_
   split
   ·exact .pure ()
   ·exact Kp.bind (q16 (by decide)) λ_=>last
  ·exact last
 ·exact .uns _
theorem q6l {u:Value} {env:Env}:Kp (Nc ea) (leaving env u):=Kp.bind q2v λ_=>q1M
end
structure q9m (K:PySem.W.Frag) (C:Addr):Prop where
 ga:PySem.W.findIn K (.ref C) "__getattribute__" = some (some (.builtin "BaseException.__getattribute__"))
 gh:PySem.W.findIn K (.ref C) "__getattr__" = some none
 ha:PySem.W.findIn K (.ref C) "__class__" = some (some (.builtin "object.__class__"))
 hn:PySem.W.specialIn K (.builtin "object.__class__") "__get__" = some (some (.builtin "getset_descriptor.__get__"))
 htk:PySem.W.takesIn K (.builtin "object.__class__")=some true
 hm:PySem.W.mroIn K C (.type "object")=some true
 hb:PySem.W.mroIn K C (.type "BaseException")=some true
def j1x (x C:Addr) (h:Heap):Prop:=∃o,PySem.W.InstAt h x o C none
section
variable {K:PySem.W.Frag} {x C:Addr}
theorem q9f {prog:Program} {w:World} {A:Around} {E:Value->Shared->Prop} {Q:Fin->Shared->Prop} {s:Shared} {tk:Tok} (F:q9m K C) (X:K.In s.heap) (p:j1x x C s.heap) (hq:Q (.done (.ret (.ref C))) s) :
 wpAny (model prog w) A (Builtin.«object.__getattribute__» ⟨[.ref x,.str "__class__" tk],[]⟩) Q E s:=by
 obtain ⟨o,I⟩:=p
 have hc:(PySem.W.clsIn K C).isSome=true:=by
  obtain ⟨cd,h,_⟩:=Option.bind_eq_some_iff.mp F.hm
  rw [h];rfl
 have hf:PySem.W.findObj K C none "__class__" = some (.bind (.builtin "getset_descriptor.__get__") (.builtin "object.__class__")):=by
  obtain ⟨cd,hc⟩:=Option.isSome_iff_exists.mp hc
  unfold PySem.W.findObj
  rw [hc,Option.bind_some,F.ha,Option.bind_some]
  simp [F.hn,F.htk]
 have L0:=I.type (M:=model prog w)
 have L1:=PySem.W.looks_find (M:=model prog w) X I hf
 unfold Builtin.«object.__getattribute__»
 refine wpAny_bind (m:=slotArgs _ _ _) (wpAny_pure ?_)
 refine wpAny_bind (wpAny_pure ?_)
 refine wpAny_bind (L0.at (wpAny_bind (L1.at ?_)))
 show wpAny _ _ (holding [_] (call _ _) >>= ret) _ _ _
 exact wpAny_bind (wpAny_holding (wpAny_call (PySem.W.class_get X I F.hm (wpAny_pure hq))))
theorem q78 {prog:Program} {w:World} {A:Around} {E:Value->Shared->Prop} {Q:Option Value->Shared->Prop} {s:Shared} (F:q9m K C) (X:K.In s.heap) (p:j1x x C s.heap) (hq:Q (some (.ref C)) { s with toks:=s.toks+1 }) :
 wpAny (model prog w) A (getAttr? (.ref x) "__class__") Q E s:=by
 have p2:=p
 obtain ⟨o,I⟩:=p
 have L0:=I.type (M:=model prog w)
 have L1:=PySem.W.looks_findIn (M:=model prog w) X F.ga
 have L2:=PySem.W.looks_findIn (M:=model prog w) X F.gh
 have LB:=PySem.W.looks_mroIn (M:=model prog w) X F.hb
 have ne:¬(onTheHeap (Value.ref C) && Value.builtin "BaseException.__getattribute__"==Value.builtin "object.__getattribute__")=true:=by
  have:(Value.builtin "BaseException.__getattribute__"==Value.builtin "object.__getattribute__")=false:=by decide +kernel
  rw [this];simp
 unfold getAttr? getAttrBy? getAttrBy
 refine wpAny_bind (wpAny_mkText (wpAny_bind (wpAny_attempt (wpAny_holding (wpAny_bind (L0.at (wpAny_bind (L1.at ?_))))))))
 dsimp only
 rw [if_neg ne]
 unfold getAttrByItsOwn hookBefore
 refine wpAny_bind ?_
 rw [if_pos (show onTheHeap (Value.ref C)=true from rfl)]
 refine L2.at ?_
 refine wpAny_bind (wpAny_attempt (wpAny_holding ?_))
 unfold callGetattribute
 rw [if_neg (by simp)]
 unfold boundAndCalled
 have f3:=PySem.F.excAttr_ValueError.ga.bind (.ref x)
 rw [f3]
 refine wpAny_bind (wpAny_pure ?_)
 have hk:builtinKind "BaseException.__getattribute__" = some .slot:=by decide +kernel
 have hsplit:splitId "BaseException.__getattribute__" = some ("BaseException","__getattribute__"):=by decide +kernel
 refine wpAny_call (codeAny_call_builtin PySem.F.excAttr_ValueError.ga.plain PySem.F.entry_bexc_ga ?_)
 have ha:=PySem.F.args_bexc_ga (.ref x) (.str "__class__" s.toks)
 simp only [checkBuiltinCall,hk,hsplit]
 refine wpAny_bind ?_
 unfold isInstance
 refine wpAny_bind (L0.at (LB.at ?_))
 rw [if_neg (by simp)]
 refine wpAny_of_eq (a:=()) ha ?_
 exact q9f (s:={ s with toks:=s.toks+1 }) F X p2 (PySem.W.handed_on rfl (wpAny_pure hq))
theorem q9r (F:q9m K C):PySem.W.KitX K (.ref x) (.ref C) (j1x x C) where
 ty:=λ_ _ _ ⟨_,I⟩=>I.type
 it:=λ_ _ X _=>by
  obtain ⟨cdD,hcD,_⟩:=Option.bind_eq_some_iff.mp F.hm
  unfold PySem.W.clsIn at hcD
  split at hcD
  ·rename_i c' d' cd' sl' ho
   intro A' Q' E' s' k q
   unfold isType loadHead
   exact wpAny_bind (wpAny_loadPart (k _ _ (X _ _ ho)) (wpAny_pure q))
  ·cases hcD
 ne:=λh tp dd its n sl X htp=>by
  obtain ⟨cdD,hcD,_⟩:=Option.bind_eq_some_iff.mp F.hm
  refine Bool.eq_false_iff.mpr λq=>?_
  have e:C=tp:=Value.ref.inj (beq_iff_eq.mp q)
  subst e
  unfold PySem.W.clsIn at hcD
  split at hcD
  ·rename_i c' d' cd' sl' ho
   have z:=(X _ _ ho).symm.trans htp
   cases z
  ·cases hcD
 ca:=λX p k=>q78 F X p k
end
inductive D where
 | non | bl (b:Bool) | int (i:Int) | str (x:Str)
 | tup (ds:List D) | lst (ds:List D) | ins (c:Nat) (ds:List D) | exc (c:Nat)
inductive Out (α:Type) where
 | ok (a:α) | exc (c:Nat) | bad
def Out.bind {α β:Type}:Out α->(α->Out β)->Out β
 | .ok a,k=>k a
 | .exc c,_=>.exc c
 | .bad,_=>.bad
@[simp] theorem Out.ok_bind {α β:Type} (a:α) (k:α->Out β):(Out.ok a).bind k=k a:=(rfl)
@[simp] theorem Out.exc_bind {α β:Type} (c:Nat) (k:α->Out β):(Out.exc c:Out α).bind k=.exc c:=(rfl)
@[simp] theorem Out.bad_bind {α β:Type} (k:α->Out β):(Out.bad:Out α).bind k=.bad:=(rfl)
structure Tb where
 ca:Nat->Addr
 fa:Addr->List Str
 me:Option Addr:=none
def Tb.fl (T:Tb) (c:Nat):List Str:=T.fa (T.ca c)
section
variable (T:Tb) (K:PySem.W.Frag)
def FzL (K:PySem.W.Frag) (H:Hp) (a:Addr) (xs:List V):Prop:=
 (∃o,H a=some (.frz o (.lst xs))) ∨
  ∃(o:Obj) (its:Array Value) (n:Nat),K.lookup a=some o/\o.cls=.type "list"/\o.dict=none/\o.data=.seq its n/\its.size<=sizeLine/\Vals xs its.toList
theorem FzL.sq {K:PySem.W.Frag} {H:Hp} {a:Addr} {xs:List V} (h:FzL K H a xs):SqL K H a xs:=by
 rcases h with h | h
 ·exact .inl (.inr h)
 ·exact .inr h
mutual
def Rep (T:Tb) (K:PySem.W.Frag) (H:Hp):D->V->Prop
 | .non,v=>v=.non
 | .bl b,v=>v=.bl b
 | .int i,v=>v=.int i
 | .str x,v=>v=.str x
 | .tup ds,v=>∃a vs,v=.ref a/\SqT K H a vs/\RepL T K H ds vs
 | .lst ds,v=>∃a vs,v=.ref a/\FzL K H a vs/\RepL T K H ds vs
 | .ins c ds,v=>∃a dx fs,v=.ref a/\H a=some (.ins (T.ca c) dx fs)/\fs.map (·.1)=T.fl c/\RepL T K H ds (fs.map (·.2))
 | .exc c,v=>∃a o,v=.ref a/\H a=some (.frz o (.ext λ_=>True))/\o.cls=.ref (T.ca c)/\PySem.W.notCls o=true/\o.dict=none
def RepL (T:Tb) (K:PySem.W.Frag) (H:Hp):List D->List V->Prop
 | [],vs=>vs=[]
 | d::ds,vs=>∃v r,vs=v::r/\Rep T K H d v/\RepL T K H ds r
end
end
section
variable {T:Tb} {K:PySem.W.Frag} {H H':Hp}
theorem Same.sqT {a:Addr} {xs:List V} (e:Same H H') (h:SqT K H a xs):SqT K H' a xs:=by
 rcases h with (h | ⟨o,h⟩) | h
 ·exact .inl (.inl (e _ _ h))
 ·exact .inl (.inr ⟨o,e _ _ h⟩)
 ·exact .inr h
theorem Same.fz {a:Addr} {xs:List V} (e:Same H H') (h:FzL K H a xs):FzL K H' a xs:=by
 rcases h with ⟨o,h⟩ | h
 ·exact .inl ⟨o,e _ _ h⟩
 ·exact .inr h
mutual
theorem Rep.mono (e:Same H H'):∀(d:D) (v:V),Rep T K H d v->Rep T K H' d v
 | .non,_,h=>h
 | .bl _,_,h=>h
 | .int _,_,h=>h
 | .str _,_,h=>h
 | .tup ds,_,h=>by
  obtain ⟨a,vs,r1,r2,r3⟩:=h
  exact ⟨a,vs,r1,Same.sqT e r2,RepL.mono e ds vs r3⟩
 | .lst ds,_,h=>by
  obtain ⟨a,vs,r1,r2,r3⟩:=h
  exact ⟨a,vs,r1,Same.fz e r2,RepL.mono e ds vs r3⟩
 | .ins c ds,_,h=>by
  obtain ⟨a,dx,fs,r1,r2,r3,r4⟩:=h
  exact ⟨a,dx,fs,r1,e _ _ r2,r3,RepL.mono e ds _ r4⟩
 | .exc c,_,h=>by
  obtain ⟨a,o,r1,r2,r3⟩:=h
  exact ⟨a,o,r1,e _ _ r2,r3⟩
theorem RepL.mono (e:Same H H'):∀(ds:List D) (vs:List V),RepL T K H ds vs->RepL T K H' ds vs
 | [],_,h=>h
 | d::ds,_,h=>by
  obtain ⟨v,r,r1,r2,r3⟩:=h
  exact ⟨v,r,r1,Rep.mono e d v r2,RepL.mono e ds r r3⟩
end
mutual
theorem q1L {T:Tb} {K:PySem.W.Frag} {H:Hp} {z:Option Addr}:∀(d:D) (v:V),Rep { T with me:=z } K H d v↔Rep T K H d v
 | .non,_=>Iff.rfl
 | .bl _,_=>Iff.rfl
 | .int _,_=>Iff.rfl
 | .str _,_=>Iff.rfl
 | .tup ds,_=>⟨λ⟨a,vs,r1,r2,r3⟩=>⟨a,vs,r1,r2,(repL_me ds vs).mp r3⟩,λ⟨a,vs,r1,r2,r3⟩=>⟨a,vs,r1,r2,(repL_me ds vs).mpr r3⟩⟩
 | .lst ds,_=>⟨λ⟨a,vs,r1,r2,r3⟩=>⟨a,vs,r1,r2,(repL_me ds vs).mp r3⟩,λ⟨a,vs,r1,r2,r3⟩=>⟨a,vs,r1,r2,(repL_me ds vs).mpr r3⟩⟩
 | .ins c ds,_=>⟨λ⟨a,dx,fs,r1,r2,r3,r4⟩=>⟨a,dx,fs,r1,r2,r3,(repL_me ds _).mp r4⟩,λ⟨a,dx,fs,r1,r2,r3,r4⟩=>⟨a,dx,fs,r1,r2,r3,(repL_me ds _).mpr r4⟩⟩
 | .exc c,_=>Iff.rfl
theorem repL_me {T:Tb} {K:PySem.W.Frag} {H:Hp} {z:Option Addr}:∀(ds:List D) (vs:List V),RepL { T with me:=z } K H ds vs↔RepL T K H ds vs
 | [],_=>Iff.rfl
 | d::ds,_=>⟨λ⟨v,r,r1,r2,r3⟩=>⟨v,r,r1,(q1L d v).mp r2,(repL_me ds r).mp r3⟩,λ⟨v,r,r1,r2,r3⟩=>⟨v,r,r1,(q1L d v).mpr r2,(repL_me ds r).mpr r3⟩⟩
end
theorem RepL.length:∀(ds:List D) (vs:List V),RepL T K H ds vs->vs.length=ds.length
 | [],_,h=>by cases h;rfl
 | d::ds,_,h=>by
  obtain ⟨v,r,rfl,_,h3⟩:=h
  simp [RepL.length ds r h3]
theorem RepL.get:∀(ds:List D) (vs:List V) (i:Nat) (d:D),RepL T K H ds vs->ds[i]?=some d->∃v,vs[i]?=some v/\Rep T K H d v
 | [],_,_,_,_,e=>by simp at e
 | d::ds,_,0,x,h,e=>by
  obtain ⟨v,r,rfl,h2,_⟩:=h
  simp at e;subst e
  exact ⟨v,rfl,h2⟩
 | d::ds,_,i+1,x,h,e=>by
  obtain ⟨v,r,rfl,_,h3⟩:=h
  obtain ⟨u,e1,e2⟩:=RepL.get ds r i x h3 (by simpa using e)
  exact ⟨u,by simpa using e1,e2⟩
theorem RepL.append:∀(ds:List D) (vs:List V) (es:List D) (us:List V),RepL T K H ds vs->RepL T K H es us->RepL T K H (ds++es) (vs++us)
 | [],_,_,_,h,h'=>by cases h;exact h'
 | d::ds,_,es,us,h,h'=>by
  obtain ⟨v,r,rfl,h2,h3⟩:=h
  exact ⟨v,r++us,rfl,h2,RepL.append ds r es us h3 h'⟩
theorem RepL.set:∀(ds:List D) (vs:List V) (i:Nat) (d:D) (v:V),RepL T K H ds vs->Rep T K H d v->RepL T K H (ds.set i d) (vs.set i v)
 | [],_,_,_,_,h,_=>by cases h;exact rfl
 | d::ds,_,0,x,y,h,q=>by
  obtain ⟨v,r,rfl,_,h3⟩:=h
  exact ⟨y,r,rfl,q,h3⟩
 | d::ds,_,i+1,x,y,h,q=>by
  obtain ⟨v,r,rfl,h2,h3⟩:=h
  exact ⟨v,r.set i y,rfl,h2,RepL.set ds r i x y h3 q⟩
theorem RepL.drop:∀(n:Nat) (ds:List D) (vs:List V),RepL T K H ds vs->RepL T K H (ds.drop n) (vs.drop n)
 | 0,_,_,h=>h
 | _+1,[],_,h=>by cases h;exact rfl
 | n+1,d::ds,_,h=>by
  obtain ⟨v,r,rfl,_,h3⟩:=h
  exact RepL.drop n ds r h3
theorem RepL.take:∀(n:Nat) (ds:List D) (vs:List V),RepL T K H ds vs->RepL T K H (ds.take n) (vs.take n)
 | 0,_,_,_=>rfl
 | _+1,[],_,h=>by cases h;exact rfl
 | n+1,d::ds,_,h=>by
  obtain ⟨v,r,rfl,h2,h3⟩:=h
  exact ⟨v,r.take n,rfl,h2,RepL.take n ds r h3⟩
theorem RepL.reverse (ds:List D) (vs:List V) (h:RepL T K H ds vs):RepL T K H ds.reverse vs.reverse:=by
 induction ds generalizing vs with
 | nil=>cases h;exact rfl
 | cons d ds ih=>
  obtain ⟨v,r,rfl,h2,h3⟩:=h
  rw [List.reverse_cons,List.reverse_cons]
  exact RepL.append _ _ _ _ (ih r h3) ⟨v,[],rfl,h2,rfl⟩
theorem RepL.ints (ns:List Int):RepL T K H (ns.map D.int) (ns.map V.int):=by
 induction ns with
 | nil=>exact rfl
 | cons n ns ih=>exact ⟨.int n,ns.map V.int,rfl,rfl,ih⟩
end
inductive Sl where
 | no | sh (d:D) | ow (ds:List D) | bo (ds:List D) | me (c:Nat) (ds:List D)
 | ox (t:Bool) (pre ds post:List D)
inductive Rv where
 | sh (d:D) | fr (ds:List D)
 | tf (t:Bool) (pre ds post:List D)
abbrev Ro:=List Sl
def OutAt (H:Hp):Bool->Addr->List V->Prop
 | true,a,us=>H a=some (.tup us)
 | false,a,us=>∃o,H a=some (.frz o (.lst us))
theorem OutAt.uniq {H:Hp} {t:Bool} {a:Addr} {us ws:List V} (h:OutAt H t a us) (h':OutAt H t a ws):us=ws:=by
 cases t with
 | true=>
  have h:H a=some (.tup us):=h
  have h':H a=some (.tup ws):=h'
  rw [h] at h';cases h';rfl
 | false=>
  obtain ⟨o,h⟩:=h
  obtain ⟨o',h'⟩:=h'
  rw [h] at h';cases h';rfl
theorem OutAt.keep {H H':Hp} {t:Bool} {a:Addr} {us:List V} (k:∀o,H a=some o->(∀xs,o≠.lst xs)->(∀c dx fs,o≠.ins c dx fs)->H' a=some o) (h:OutAt H t a us):OutAt H' t a us:=by
 cases t with
 | true=>exact k _ h (λ_ z=>by cases z) (λ_ _ _ z=>by cases z)
 | false=>
  obtain ⟨o,h⟩:=h
  exact ⟨o,k _ h (λ_ z=>by cases z) (λ_ _ _ z=>by cases z)⟩
theorem OutAt.nlst {H:Hp} {t:Bool} {a:Addr} {us ws:List V} (h:OutAt H t a us):H a≠some (.lst ws):=λz=>by
 cases t with
 | true=>
  have h:H a=some (.tup us):=h
  rw [h] at z;cases z
 | false=>
  obtain ⟨o,h⟩:=h
  rw [h] at z;cases z
def SlOk (T:Tb) (K:PySem.W.Frag) (G H:Hp) (x:Option (Option V)):Sl->Prop
 | .no=>True
 | .sh d=>∃v,x=some (some v)/\Rep T K H d v
 | .ow ds=>∃a vs,x=some (some (.ref a))/\H a=some (.lst vs)/\G a=none/\RepL T K H ds vs
 | .bo ds=>∃a vs,x=some (some (.ref a))/\G a=some (.lst vs)/\RepL T K H ds vs
 | .me c ds=>∃a dx fs,T.me=some a/\x=some (some (.ref a))/\H a=some (.ins (T.ca c) dx fs)/\G a=none/\fs.map (·.1)=(T.fl c).take ds.length/\RepL T K H ds (fs.map (·.2))
 | .ox t pre ds post=>∃a vp b vq ws,x=some (some (.ref a))/\OutAt H t a (vp++.ref b::vq)/\RepL T K H pre vp/\RepL T K H post vq/\H b=some (.lst ws)/\G b=none/\RepL T K H ds ws
def q4L (H:Hp) (x:Option (Option V)) (b:Addr):Sl->Prop
 | .ow _=>x=some (some (.ref b))
 | .ox t pre _ _=>∃a us,x=some (some (.ref a))/\OutAt H t a us/\us[pre.length]?=some (.ref b)
 | _=>False
structure FR (T:Tb) (K:PySem.W.Frag) (G H:Hp) (σ:L2.St) (ρ:Ro):Prop where
 same:Same G H
 len:ρ.length=σ.length
 sl:∀(i:Nat) (s:Sl),ρ[i]?=some s->SlOk T K G H σ[i]? s
 ne:∀(i j:Nat) (s t:Sl) (b:Addr),i≠j->ρ[i]?=some s->ρ[j]?=some t->q4L H σ[i]? b s->q4L H σ[j]? b t->False
 me:∀x,T.me=some x->σ[0]?=some (some (.ref x))
 me0:∀(i:Nat) (c:Nat) (ds:List D),ρ[i]?=some (.me c ds)->i=0
def RvOk (T:Tb) (K:PySem.W.Frag) (G H:Hp) (v:V):Rv->Prop
 | .sh d=>Rep T K H d v
 | .fr ds=>∃a vs,v=.ref a/\H a=some (.lst vs)/\G a=none/\RepL T K H ds vs
 | .tf t pre ds post=>∃a vp b vq ws,v=.ref a/\OutAt H t a (vp++.ref b::vq)/\RepL T K H pre vp/\RepL T K H post vq/\H b=some (.lst ws)/\G b=none/\RepL T K H ds ws
section
variable {T:Tb} {K:PySem.W.Frag} {G H H':Hp} {σ:L2.St} {ρ:Ro}
theorem SlOk.mono {x:Option (Option V)} {s:Sl} (e:Same H H') (h:SlOk T K G H x s):SlOk T K G H' x s:=by
 cases s with
 | no=>trivial
 | sh d=>
  obtain ⟨v,e1,r⟩:=h
  exact ⟨v,e1,Rep.mono e _ _ r⟩
 | ow ds=>
  obtain ⟨a,vs,e1,e2,e3,r⟩:=h
  exact ⟨a,vs,e1,e _ _ e2,e3,RepL.mono e _ _ r⟩
 | bo ds=>
  obtain ⟨a,vs,e1,e2,r⟩:=h
  exact ⟨a,vs,e1,e2,RepL.mono e _ _ r⟩
 | me c ds=>
  obtain ⟨a,dx,fs,e0,e1,e2,e3,e4,r⟩:=h
  exact ⟨a,dx,fs,e0,e1,e _ _ e2,e3,e4,RepL.mono e _ _ r⟩
 | ox t pre ds post=>
  obtain ⟨a,vp,b,vq,ws,e1,e2,r1,r2,e3,e4,r3⟩:=h
  exact ⟨a,vp,b,vq,ws,e1,e2.keep λo q _ _=>e _ _ q,RepL.mono e _ _ r1,RepL.mono e _ _ r2,e _ _ e3,e4,RepL.mono e _ _ r3⟩
theorem SlOk.own {x:Option (Option V)} {s:Sl} {b:Addr} (h:SlOk T K G H x s) (o:q4L H x b s):(∃ws,H b=some (.lst ws))/\G b=none:=by
 cases s with
 | ow ds=>
  obtain ⟨a,vs,e1,e2,e3,r⟩:=h
  have o:x=some (some (.ref b)):=o
  rw [e1] at o;cases o
  exact ⟨⟨vs,e2⟩,e3⟩
 | ox t pre ds post=>
  obtain ⟨a,vp,c,vq,ws,e1,e2,r1,r2,e3,e4,r3⟩:=h
  obtain ⟨a',us,o1,o2,o3⟩:=o
  rw [e1] at o1;cases o1
  have:=e2.uniq o2
  subst this
  rw [<-RepL.length _ _ r1,List.getElem?_append_right (Nat.le_refl _),Nat.sub_self] at o3
  have o3:(some (V.ref c))=some (.ref b):=o3
  cases o3
  exact ⟨⟨ws,e3⟩,e4⟩
 | _=>exact o.elim
theorem SlOk.back {x:Option (Option V)} {s:Sl} {b:Addr} (h:SlOk T K G H x s) (k:∀a o,H a=some o->(∀xs,o≠.lst xs)->(∀c dx fs,o≠.ins c dx fs)->H' a=some o) (o:q4L H' x b s):q4L H x b s:=by
 cases s with
 | ow ds=>exact o
 | ox t pre ds post=>
  obtain ⟨a,vp,c,vq,ws,e1,e2,r1,r2,e3,e4,r3⟩:=h
  obtain ⟨a',us,o1,o2,o3⟩:=o
  rw [e1] at o1;cases o1
  have:=(e2.keep (k a)).uniq o2
  subst this
  exact ⟨a,_,e1,e2,o3⟩
 | _=>exact o.elim
theorem FR.mono (e:Same H H') (h:FR T K G H σ ρ):FR T K G H' σ ρ:=⟨h.same.trans e,h.len,λi s q=>SlOk.mono e (h.sl i s q),λi j s t b hij q1 q2 o1 o2=>h.ne i j s t b hij q1 q2 ((h.sl i s q1).back (λa o z _ _=>e a o z) o1) ((h.sl j t q2).back (λa o z _ _=>e a o z) o2),h.me,h.me0⟩
theorem FR.sh_at (h:FR T K G H σ ρ) {i:Nat} {d:D} (e:ρ[i]?=some (.sh d)):∃v,σ[i]?=some (some v)/\Rep T K H d v:=h.sl i _ e
theorem RvOk.mono {v:V} {r:Rv} (e:Same H H') (h:RvOk T K G H v r):RvOk T K G H' v r:=by
 cases r with
 | sh d=>exact Rep.mono e _ _ h
 | fr ds=>
  obtain ⟨a,vs,e1,e2,e3,r⟩:=h
  exact ⟨a,vs,e1,e _ _ e2,e3,RepL.mono e _ _ r⟩
 | tf t pre ds post=>
  obtain ⟨a,vp,b,vq,ws,e1,e2,r1,r2,e3,e4,r3⟩:=h
  exact ⟨a,vp,b,vq,ws,e1,e2.keep λo q _ _=>e _ _ q,RepL.mono e _ _ r1,RepL.mono e _ _ r2,e _ _ e3,e4,RepL.mono e _ _ r3⟩
theorem q21 {H1:Hp} {v:V} {r:Rv} (s1:Same H H1) (h:RvOk T K H1 H' v r):RvOk T K H H' v r:=by
 cases r with
 | sh d=>exact h
 | fr ds=>
  obtain ⟨a,us,e1,e2,e3,e4⟩:=h
  exact ⟨a,us,e1,e2,s1.free e3,e4⟩
 | tf t pre ds post=>
  obtain ⟨a,vp,b,vq,ws,e1,e2,r1,r2,e3,e4,r3⟩:=h
  exact ⟨a,vp,b,vq,ws,e1,e2,r1,r2,e3,s1.free e4,r3⟩
theorem q8d {i:Nat} {v:Option V} (hz:T.me=none∨i≠0) (h:∀x,T.me=some x->σ[0]?=some (some (.ref x))):∀x,T.me=some x->(σ.set i v)[0]?=some (some (.ref x)):=λx e=>by
 rcases hz with z | z
 ·rw [z] at e;cases e
 ·rw [List.getElem?_set_ne z];exact h x e
theorem q2P {i:Nat} {s:Sl} (hs:∀c ds,s≠.me c ds) (h:∀(i:Nat) (c:Nat) (ds:List D),ρ[i]?=some (.me c ds)->i=0):∀(j:Nat) (c:Nat) (ds:List D),(ρ.set i s)[j]?=some (.me c ds)->j=0:=λj c ds e=>by
 by_cases hj:j=i
 ·subst hj
  have hl:j < ρ.length:=by
   have:=(List.getElem?_eq_some_iff.mp e).1;simpa using this
  rw [List.getElem?_set_self hl] at e
  exact absurd (Option.some.inj e) (hs c ds)
 ·rw [List.getElem?_set_ne (Ne.symm hj)] at e;exact h j c ds e
theorem FR.set_sh (h:FR T K G H σ ρ) {i:Nat} {d:D} {v:V} (r:Rep T K H d v) (hz:T.me=none∨i≠0):FR T K G H (σ.set i (some v)) (ρ.set i (.sh d)):=by
 refine ⟨h.same,by simp [h.len],λj s q=>?_,λj k s1 s2 b hjk q1 q2 o1 o2=>?_,q8d hz h.me,q2P (λ_ _ z=>by cases z) h.me0⟩
 ·by_cases hj:j=i
  ·subst hj
   have hl:j < ρ.length:=by
    have:=(List.getElem?_eq_some_iff.mp q).1;simpa using this
   rw [List.getElem?_set_self hl] at q
   cases q
   exact ⟨v,by rw [List.getElem?_set_self (by rw [<-h.len];exact hl)],r⟩
  ·rw [List.getElem?_set_ne (Ne.symm hj)] at q ⊢
   exact h.sl j s q
 ·have hj:j≠i:=by
   rintro rfl
   have hl:j < ρ.length:=by
    have:=(List.getElem?_eq_some_iff.mp q1).1;simpa using this
   rw [List.getElem?_set_self hl] at q1;cases q1;exact o1
  have hk:k≠i:=by
   rintro rfl
   have hl:k < ρ.length:=by
    have:=(List.getElem?_eq_some_iff.mp q2).1;simpa using this
   rw [List.getElem?_set_self hl] at q2;cases q2;exact o2
  rw [List.getElem?_set_ne (Ne.symm hj)] at q1 o1
  rw [List.getElem?_set_ne (Ne.symm hk)] at q2 o2
  exact h.ne j k s1 s2 b hjk q1 q2 o1 o2
theorem FR.set_own (h:FR T K G H σ ρ) {i:Nat} {v:V} (w:Sl) (hw:i < ρ.length->SlOk T K G H (some (some v)) w)
 (hn:∀j s b,j≠i->ρ[j]?=some s->q4L H (some (some v)) b w->¬q4L H σ[j]? b s) (hm:∀c ds,w≠.me c ds) (hz:T.me=none∨i≠0):FR T K G H (σ.set i (some v)) (ρ.set i w):=by
 have hlen:(ρ.set i w).length=(σ.set i (some v)).length:=by simp [h.len]
 have lt:∀{m:Nat} {z:Sl},(ρ.set i w)[m]?=some z->(m=i/\z=w/\(σ.set i (some v))[m]?=some (some v)/\i < ρ.length)∨(m≠i/\ρ[m]?=some z/\(σ.set i (some v))[m]?=σ[m]?):=λ{m z} q=>by
  by_cases hmi:m=i
  ·subst hmi
   have hl:m < ρ.length:=by
    have:=(List.getElem?_eq_some_iff.mp q).1;simpa using this
   rw [List.getElem?_set_self hl] at q
   exact .inl ⟨rfl,(Option.some.inj q).symm,by rw [List.getElem?_set_self (by rw [<-h.len];exact hl)],hl⟩
  ·rw [List.getElem?_set_ne (Ne.symm hmi)] at q
   exact .inr ⟨hmi,q,by rw [List.getElem?_set_ne (Ne.symm hmi)]⟩
 refine ⟨h.same,hlen,λj s q=>?_,λj k s1 s2 b hjk q1 q2 o1 o2=>?_,q8d hz h.me,q2P hm h.me0⟩
 ·rcases lt q with ⟨rfl,rfl,e,hl⟩ | ⟨_,q,e⟩
  ·rw [e];exact hw hl
  ·rw [e];exact h.sl j s q
 ·rcases lt q1 with ⟨rfl,rfl,e,hl⟩ | ⟨hj,p1,e⟩
  ·rw [e] at o1
   rcases lt q2 with ⟨rfl,_⟩ | ⟨hk,q2,e'⟩
   ·exact hjk rfl
   ·rw [e'] at o2;exact hn k s2 b hk q2 o1 o2
  ·rw [e] at o1
   rcases lt q2 with ⟨rfl,rfl,e',hl⟩ | ⟨hk,q2,e'⟩
   ·rw [e'] at o2;exact hn j s1 b hj p1 o2 o1
   ·rw [e'] at o2;exact h.ne j k s1 s2 b hjk p1 q2 o1 o2
theorem FR.set_ow (h:FR T K G H σ ρ) {i:Nat} {ds:List D} {a:Addr} {vs:List V} (ha:H a=some (.lst vs)) (hg:G a=none) (r:RepL T K H ds vs)
 (hn:∀j s,j≠i->ρ[j]?=some s->¬q4L H σ[j]? a s) (hz:T.me=none∨i≠0):FR T K G H (σ.set i (some (.ref a))) (ρ.set i (.ow ds)):=by
 refine h.set_own (.ow ds) ?_ ?_ (λc ds z=>by cases z) hz
 ·exact λ_=>⟨a,vs,rfl,ha,hg,r⟩
 ·intro j s b hj q o1 o2
  have o1:some (some (V.ref a))=some (some (.ref b)):=o1
  cases o1
  exact hn j s hj q o2
end
def Free (X:Cx) (pins:List (Addr×Obj)) (b:Addr):Prop:=
 (b∈X.ex∨X.s₀.heap.get? b=none)/\b≠X.env.locals/\(∀x c,X.env.cells.lookup x=some c->c≠b)/\∀p∈X.pn++pins,p.1≠b
def w00 (T:Tb) (c:Nat) (ea:Addr) (H:Hp) (h:Heap) (P:Addr->Prop):Prop:=
 H ea=none/\P ea/\Nc ea h/\∃(oe:Obj) (vs:Array Value) (a0:Value),h.get? ea=some oe/\oe.cls=.ref (T.ca c)/\oe.data=.fields vs/\vs[0]?=some a0 /\
  (vs[1]?=some .none∨∃(tb:Addr) (ot:Obj) (ts:Array Value),vs[1]?=some (.ref tb)/\tb≠ea/\h.get? tb=some ot/\ot.data=.fields ts/\ts[3]?=some .none/\H tb=none/\P tb)
def Flying (T:Tb) (X:Cx) (pins:List (Addr×Obj)) (c:Nat) (u:Value) (H:Hp) (s:Shared):Prop:=
 ∃ea,u=.ref ea/\w00 T c ea H s.heap (Free X pins)
def XW (T:Tb) (X:Cx) (E:Value->Shared->Prop) (σ:L2.St) (H:Hp) (c:Nat):Prop:=
 ∀(pins:List (Addr×Obj)) (s:Shared) (u:Value) (H':Hp),Inv X pins σ H' s->Same H H'->Flying T X pins c u H' s->E u s
theorem XW.mono {T:Tb} {X:Cx} {E:Value->Shared->Prop} {σ:L2.St} {H H':Hp} {c:Nat} (e:Same H H') (h:XW T X E σ H c):XW T X E σ H' c:=
 λpins s u H'' I q f=>h pins s u H'' I (e.trans q) f
def Acc {α:Type} (T:Tb) (X:Cx) (E:Value->Shared->Prop) (σ:L2.St) (H:Hp) (o:Out α) (k:α->Prop):Prop:=
 match o with
 | .ok a=>k a
 | .exc c=>XW T X E σ H c
 | .bad=>False
section
variable {T:Tb} {X:Cx} {E:Value->Shared->Prop} {σ:L2.St} {H H':Hp} {α β:Type}
theorem Acc.mono {o:Out α} {k k':α->Prop} (h:Acc T X E σ H o k) (f:∀a,o=.ok a->k a->k' a):Acc T X E σ H o k':=by
 cases o with
 | ok a=>exact f a rfl h
 | exc c=>exact h
 | bad=>exact h
theorem Acc.heap {o:Out α} {k:α->Prop} (e:Same H H') (h:Acc T X E σ H o k):Acc T X E σ H' o k:=by
 cases o with
 | ok a=>exact h
 | exc c=>exact XW.mono e h
 | bad=>exact h
theorem Acc.bind {o:Out α} {g:α->Out β} {k:β->Prop} (h:Acc T X E σ H (o.bind g) k):Acc T X E σ H o (λa=>Acc T X E σ H (g a) k):=by
 cases o with
 | ok a=>exact h
 | exc c=>exact h
 | bad=>exact h
end
abbrev Ev:=Ro->Out D
def kE (T:Tb) (K:PySem.W.Frag) (H:Hp) (Q:VK) (d:D):Prop:=∀v H',Same H H'->Rep T K H' d v->Q v H'
def tE (T:Tb) (X:Cx) (G:Hp) (E:Value->Shared->Prop) (f:Ev):TE:=fun σ H Q=>∃ρ,FR T X.K G H σ ρ/\Acc T X E σ H (f ρ) (kE T X.K H Q)
structure DE (T:Tb) (X:Cx) (e:Expr) (f:Ev):Prop where
 mk ::
 run:∀(G:Hp) (E:Value->Shared->Prop),PassesOwn (model X.prog X.w) X.A X.env E->PE (X.wish E) e (tE T X G E f)
def kT (H:Hp) (Q:Bool->Hp->Prop) (b:Bool):Prop:=∀H',Same H H'->Q b H'
def tT (T:Tb) (X:Cx) (G:Hp) (E:Value->Shared->Prop) (f:Ro->Out Bool):TT:=fun σ H Q=>∃ρ,FR T X.K G H σ ρ/\Acc T X E σ H (f ρ) (kT H Q)
structure DT (T:Tb) (X:Cx) (e:Expr) (f:Ro->Out Bool):Prop where
 mk ::
 run:∀(G:Hp) (E:Value->Shared->Prop),PassesOwn (model X.prog X.w) X.A X.env E->PT (X.wish E) e (tT T X G E f)
structure DW (T:Tb) (X:Cx) (e:Expr) (f:Ro->Out Bool):Prop where
 mk ::
 run:∀(G:Hp) (E:Value->Shared->Prop),PassesOwn (model X.prog X.w) X.A X.env E->PW (X.wish E) e (tT T X G E f)
theorem DW.dt {T:Tb} {X:Cx} {e:Expr} {f:Ro->Out Bool} (h:DW T X e f):DT T X e f:=.mk λG E hp=>(h.run G E hp).pt
def tA (T:Tb) (X:Cx) (G:Hp) (E:Value->Shared->Prop) (f:Ro->Out (List D)):TA:=fun σ H Q=>∃ρ,FR T X.K G H σ ρ/\Acc T X E σ H (f ρ) (λds=>∀vs H',Same H H'->RepL T X.K H' ds vs->Q vs H')
structure DA (T:Tb) (X:Cx) (es:List Expr) (f:Ro->Out (List D)):Prop where
 mk ::
 run:∀(G:Hp) (E:Value->Shared->Prop),PassesOwn (model X.prog X.w) X.A X.env E->PA (X.wish E) es (tA T X G E f)
def tF (T:Tb) (X:Cx) (G:Hp) (E:Value->Shared->Prop) (f:Ro->Out (List D)):TE:=fun σ H Q=>∃ρ,FR T X.K G H σ ρ/\Acc T X E σ H (f ρ) (λds=>∀a vs H',Same H H'->H a=none->H' a=some (.lst vs)->RepL T X.K H' ds vs->Q (.ref a) H')
structure DF (T:Tb) (X:Cx) (e:Expr) (f:Ro->Out (List D)):Prop where
 mk ::
 run:∀(G:Hp) (E:Value->Shared->Prop),PassesOwn (model X.prog X.w) X.A X.env E->PE (X.wish E) e (tF T X G E f)
def tL (T:Tb) (X:Cx) (G:Hp) (E:Value->Shared->Prop) (f:Ro->Out (List D)):TE:=fun σ H Q=>∃ρ,FR T X.K G H σ ρ/\Acc T X E σ H (f ρ) (λds=>∀a vs H',Same H H'->SqL X.K H' a vs->RepL T X.K H' ds vs->Q (.ref a) H')
structure DL (T:Tb) (X:Cx) (e:Expr) (f:Ro->Out (List D)):Prop where
 mk ::
 run:∀(G:Hp) (E:Value->Shared->Prop),PassesOwn (model X.prog X.w) X.A X.env E->PE (X.wish E) e (tL T X G E f)
def tR (T:Tb) (X:Cx) (G:Hp) (E:Value->Shared->Prop) (f:Ro->Out Rv):TE:=fun σ H Q=>∃ρ,FR T X.K G H σ ρ/\Acc T X E σ H (f ρ) (λr=>∀v H',Same H H'->RvOk T X.K H H' v r->Q v H')
structure DR (T:Tb) (X:Cx) (e:Expr) (f:Ro->Out Rv):Prop where
 mk ::
 run:∀(G:Hp) (E:Value->Shared->Prop),PassesOwn (model X.prog X.w) X.A X.env E->PE (X.wish E) e (tR T X G E f)
theorem PE.imp {X:Cx} {e:Expr} {t t':TE} (h:PE X e t) (k:∀σ H Q,t' σ H Q->t σ H Q):PE X e t':=λpins s σ H Q I q=>h pins s σ H Q I (k σ H Q q)
theorem PT.imp {X:Cx} {e:Expr} {t t':TT} (h:PT X e t) (k:∀σ H Q,t' σ H Q->t σ H Q):PT X e t':=λpins s σ H Q I q=>h pins s σ H Q I (k σ H Q q)
theorem PW.imp {X:Cx} {e:Expr} {t t':TT} (h:PW X e t) (k:∀σ H Q,t' σ H Q->t σ H Q):PW X e t':=λw pins s σ H Q I q=>h w pins s σ H Q I (k σ H Q q)
theorem PA.imp {X:Cx} {es:List Expr} {t t':TA} (h:PA X es t) (k:∀σ H Q,t' σ H Q->t σ H Q):PA X es t':=λp pins s σ H Q I q=>h p pins s σ H Q I (k σ H Q q)
theorem PS.imp {X:Cx} {e:Stmt} {t t':TS} (h:PS X e t) (k:∀D σ H,t' D σ H->t D σ H):PS X e t':=λpins s σ H D I q=>h pins s σ H D I (k D σ H q)
theorem PSs.imp {X:Cx} {e:List Stmt} {t t':TS} (h:PSs X e t) (k:∀D σ H,t' D σ H->t D σ H):PSs X e t':=λpins s σ H D I q=>h pins s σ H D I (k D σ H q)
inductive Fl where
 | nx (ρ:Ro) | rt (r:Rv) | exc (c:Nat) (ρ:Ro) | bk (ρ:Ro) | ct (ρ:Ro) | bad
def stays (b:Bool):HO->Bool
 | .lst _=>false
 | .ins _ _ _=>!b
 | _=>true
def Pers (b:Bool) (H H':Hp):Prop:=∀a o,H a=some o->stays b o=true->H' a=some o
theorem Pers.refl {b:Bool} (H:Hp):Pers b H H:=λ_ _ e _=>e
theorem Pers.trans {b:Bool} {H H1 H2:Hp} (x:Pers b H H1) (y:Pers b H1 H2):Pers b H H2:=λc o e s=>y c o (x c o e s) s
theorem Pers.of {b:Bool} {H H':Hp} (x:Same H H'):Pers b H H':=λc o e _=>x c _ e
theorem Pers.fz {b:Bool} {K:PySem.W.Frag} {H H':Hp} {a:Addr} {vs:List V} (p:Pers b H H') (h:FzL K H a vs):FzL K H' a vs:=by
 rcases h with ⟨o,h⟩ | h
 ·exact .inl ⟨o,p _ _ h rfl⟩
 ·exact .inr h
mutual
theorem Rep.pers {T:Tb} {K:PySem.W.Frag} {H H':Hp} (e:Pers false H H'):∀(d:D) (v:V),Rep T K H d v->Rep T K H' d v
 | .non,_,h=>h
 | .bl _,_,h=>h
 | .int _,_,h=>h
 | .str _,_,h=>h
 | .tup ds,_,h=>by
  obtain ⟨a,vs,r1,r2,r3⟩:=h
  refine ⟨a,vs,r1,?_,RepL.pers e ds vs r3⟩
  rcases r2 with (r2 | ⟨o,r2⟩) | r2
  ·exact .inl (.inl (e _ _ r2 rfl))
  ·exact .inl (.inr ⟨o,e _ _ r2 rfl⟩)
  ·exact .inr r2
 | .lst ds,_,h=>by
  obtain ⟨a,vs,r1,r2,r3⟩:=h
  exact ⟨a,vs,r1,e.fz r2,RepL.pers e ds vs r3⟩
 | .ins c ds,_,h=>by
  obtain ⟨a,dx,fs,r1,r2,r3,r4⟩:=h
  exact ⟨a,dx,fs,r1,e _ _ r2 rfl,r3,RepL.pers e ds _ r4⟩
 | .exc c,_,h=>by
  obtain ⟨a,o,r1,r2,r3⟩:=h
  exact ⟨a,o,r1,e _ _ r2 rfl,r3⟩
theorem RepL.pers {T:Tb} {K:PySem.W.Frag} {H H':Hp} (e:Pers false H H'):∀(ds:List D) (vs:List V),RepL T K H ds vs->RepL T K H' ds vs
 | [],_,h=>h
 | d::ds,_,h=>by
  obtain ⟨v,r,r1,r2,r3⟩:=h
  exact ⟨v,r,r1,Rep.pers e d v r2,RepL.pers e ds r r3⟩
end
def AccS (T:Tb) (b:Bool) (X:Cx) (G:Hp) (E:Value->Shared->Prop) (H₁:Hp) (o:Fl) (D:Ends):Prop:=
 match o with
 | .nx ρ=>∀σ H,FR T X.K G H σ ρ->Pers b H₁ H->D.nx σ H
 | .bk ρ=>∀σ H,FR T X.K G H σ ρ->Pers b H₁ H->D.bk σ H
 | .ct ρ=>∀σ H,FR T X.K G H σ ρ->Pers b H₁ H->D.ct σ H
 | .rt r=>∀v H,Same G H->RvOk T X.K G H v r->D.rt v H
 | .exc c ρ=>∀σ H,FR T X.K G H σ ρ->Pers b H₁ H->XW T X E σ H c
 | .bad=>False
theorem AccS.heap {T:Tb} {b:Bool} {X:Cx} {G:Hp} {E:Value->Shared->Prop} {H H':Hp} {o:Fl} {D:Ends} (p:Pers b H H') (h:AccS T b X G E H o D):AccS T b X G E H' o D:=by
 cases o with
 | nx ρ=>exact fun σ H2 fr q=>h σ H2 fr (p.trans q)
 | bk ρ=>exact fun σ H2 fr q=>h σ H2 fr (p.trans q)
 | ct ρ=>exact fun σ H2 fr q=>h σ H2 fr (p.trans q)
 | rt r=>exact h
 | exc c ρ=>exact fun σ H2 fr q=>h σ H2 fr (p.trans q)
 | bad=>exact h
def tS (T:Tb) (b:Bool) (X:Cx) (G:Hp) (E:Value->Shared->Prop) (f:Ro->Fl):TS:=λD σ H=>∃ρ,FR T X.K G H σ ρ/\AccS T b X G E H (f ρ) D
structure DS (T:Tb) (b:Bool) (X:Cx) (st:Stmt) (f:Ro->Fl):Prop where
 mk ::
 run:∀(G:Hp) (E:Value->Shared->Prop),PassesOwn (model X.prog X.w) X.A X.env E->PS (X.wish E) st (tS T b X G E f)
structure DSs (T:Tb) (b:Bool) (X:Cx) (st:List Stmt) (f:Ro->Fl):Prop where
 mk ::
 run:∀(G:Hp) (E:Value->Shared->Prop),PassesOwn (model X.prog X.w) X.A X.env E->PSs (X.wish E) st (tS T b X G E f)
def Fl.bind (o:Fl) (k:Ro->Fl):Fl:=match o with
 | .nx ρ=>k ρ
 | o=>o
@[simp] theorem Fl.nx_bind (ρ:Ro) (k:Ro->Fl):(Fl.nx ρ).bind k=k ρ:=(rfl)
@[simp] theorem Fl.rt_bind (r:Rv) (k:Ro->Fl):(Fl.rt r).bind k=.rt r:=(rfl)
@[simp] theorem Fl.exc_bind (c:Nat) (ρ:Ro) (k:Ro->Fl):(Fl.exc c ρ).bind k=.exc c ρ:=(rfl)
@[simp] theorem Fl.bk_bind (ρ:Ro) (k:Ro->Fl):(Fl.bk ρ).bind k=.bk ρ:=(rfl)
@[simp] theorem Fl.ct_bind (ρ:Ro) (k:Ro->Fl):(Fl.ct ρ).bind k=.ct ρ:=(rfl)
@[simp] theorem Fl.bad_bind (k:Ro->Fl):Fl.bad.bind k=.bad:=(rfl)
def Out.fl {α:Type} (o:Out α) (ρ:Ro) (k:α->Fl):Fl:=match o with
 | .ok a=>k a
 | .exc c=>.exc c ρ
 | .bad=>.bad
@[simp] theorem Out.ok_fl {α:Type} (a:α) (ρ:Ro) (k:α->Fl):(Out.ok a).fl ρ k=k a:=(rfl)
@[simp] theorem Out.exc_fl {α:Type} (c:Nat) (ρ:Ro) (k:α->Fl):(Out.exc c:Out α).fl ρ k=.exc c ρ:=(rfl)
@[simp] theorem Out.bad_fl {α:Type} (ρ:Ro) (k:α->Fl):(Out.bad:Out α).fl ρ k=.bad:=(rfl)
section
variable {T:Tb} {b:Bool} {X:Cx} {G:Hp} {E:Value->Shared->Prop} {σ:L2.St} {H:Hp} {α:Type}
theorem AccS.fl {o:Out α} {ρ:Ro} {k:α->Fl} {D:Ends} (fr:FR T X.K G H σ ρ) (h:AccS T b X G E H (o.fl ρ k) D):Acc T X E σ H o (λa=>AccS T b X G E H (k a) D):=by
 cases o with
 | ok a=>exact h
 | exc c=>exact h σ H fr (Pers.refl H)
 | bad=>exact h
end
def q2X:Expr->Bool
 | .Starred ..=>false
 | _=>true
theorem q0w {e:Expr} {es:List Expr} {env:Env} (h:q2X e=true):starEach (e::es) env=(false,eval e env)::starEach es env:=by
 cases e<;>first | rfl | cases h
theorem q0z {pos:Pos} {env:Env}:∀{es:List Expr},es.all q2X=true->(backTo pos (starEach es env)).any (·.1)=false
 | [],_=>rfl
 | e::es,h=>by
  rw [List.all_cons,Bool.and_eq_true] at h
  rw [q0w h.1]
  show (false || (backTo pos (starEach es env)).any (·.1))=false
  rw [q0z h.2];rfl
theorem q3a {pos:Pos} {env:Env}:∀{es:List Expr},es.all q2X=true->(backTo pos (starEach es env)).all (λx=>!x.1)=true
 | [],_=>rfl
 | e::es,h=>by
  rw [List.all_cons,Bool.and_eq_true] at h
  rw [q0w h.1]
  show (true && (backTo pos (starEach es env)).all (λx=>!x.1))=true
  rw [q3a h.2];rfl
theorem q7s {pos:Pos} {env:Env} {e:Expr} {es:List Expr} (h:(e::es).all q2X=true) (hl:decide ((e::es).length+([]:List Keyword).length+(if ([]:List Keyword).isEmpty then 0 else 1) < 30)=true) :
 ((backTo pos (starEach (e::es) env)).all (λx=>!x.1) && (backToKw pos (keywordEach [] env)).all (λx=>x.1.isSome) && decide ((e::es).length+([]:List Keyword).length+(if ([]:List Keyword).isEmpty then 0 else 1) < 30))=true:=by
 rw [q3a h,hl];rfl
def j18:Expr->Bool
 | .ListComp ..=>false
 | .SetComp ..=>false
 | .DictComp ..=>false
 | _=>true
theorem q2d {e:Expr} {t:Option Expr} {n:Nat} {env:Env} (h:j18 e=true):swapsWith e t n env=pure false:=by
 cases e<;>first | rfl | cases h
section
variable {T:Tb} {X:Cx} {pos:Pos}
@[simp] def q0g (i:Nat) (ρ:Ro):Out D:=match ρ[i]? with
 | some (.sh d)=>.ok d
 | _=>.bad
theorem q0a (i:Nat) {x:Str} (hN:X.N[i]?=some x:=by rfl) (hv:Vis X.env.scope x:=by walk_at "v0") (hd:(x==("__debug__" : Str))=false:=by decide)
 (hcd:(x==("__classdict__" : Str))=false:=by decide):DE T X (.Name x pos) (q0g i):=.mk λG E hp=>by
 refine PE.imp (q3b (X:=X.wish E) hN hv hd hcd) fun σ H Q ⟨ρ,fr,h⟩=>?_
 unfold q0g at h
 split at h
 ·rename_i d e
  obtain ⟨v,e1,r⟩:=fr.sh_at e
  exact ⟨v,e1,h v H (Same.refl H) r⟩
 ·exact h.elim
@[simp] def j2g (i:Nat) (ρ:Ro):Out (List D):=match ρ[i]? with
 | some (.ow ds)=>.ok ds
 | some (.bo ds)=>.ok ds
 | some (.sh (.lst ds))=>.ok ds
 | _=>.bad
theorem q33 (i:Nat) {x:Str} (hN:X.N[i]?=some x:=by rfl) (hv:Vis X.env.scope x:=by walk_at "v0") (hd:(x==("__debug__" : Str))=false:=by decide)
 (hcd:(x==("__classdict__" : Str))=false:=by decide):DL T X (.Name x pos) (j2g i):=.mk λG E hp=>by
 refine PE.imp (q3b (X:=X.wish E) hN hv hd hcd) fun σ H Q ⟨ρ,fr,h⟩=>?_
 unfold j2g at h
 split at h
 ·rename_i ds e
  obtain ⟨a,vs,e1,e2,e3,r⟩:=fr.sl i _ e
  exact ⟨_,e1,h a vs H (Same.refl H) (SqL.of e2) r⟩
 ·rename_i ds e
  obtain ⟨a,vs,e1,e2,r⟩:=fr.sl i _ e
  exact ⟨_,e1,h a vs H (Same.refl H) (SqL.of (fr.same _ _ e2)) r⟩
 ·rename_i ds e
  obtain ⟨v,e1,a,vs,rfl,e2,r⟩:=fr.sl i _ e
  exact ⟨_,e1,h a vs H (Same.refl H) e2.sq r⟩
 ·exact h.elim
@[simp] def eC (d:D) (ρ:Ro):Out D:=.ok d
theorem PE.const {e:Expr} {v:V} {d:D} {E:Value->Shared->Prop} {G:Hp} (h:PE (X.wish E) e (tC v)) (r:∀H,Rep T X.K H d v):PE (X.wish E) e (tE T X G E (eC d)):=
 PE.imp h fun σ H Q ⟨ρ,fr,h⟩=>h v H (Same.refl H) (r H)
theorem q0i {i j}:DE T X (.Constant (.int i) j pos) (eC (.int i)):=.mk λG E hp=>PE.const j6K λ_=>rfl
theorem q51 {j}:DE T X (.Constant .none j pos) (eC .non):=.mk λG E hp=>PE.const j2Z λ_=>rfl
theorem q0T {x j}:DE T X (.Constant (.str x) j pos) (eC (.str x)):=.mk λG E hp=>PE.const j5y λ_=>rfl
theorem q46 {x:Str} {d:D} {v:V} {u:Value} (hg:Gl X x) (hm:X.mg x=some u) (r:RelV v u) (rd:∀H,Rep T X.K H d v) (hd:(x==("__debug__" : Str))=false:=by decide):DE T X (.Name x pos) (eC d):=
 .mk λG E hp=>PE.const (q41 (X:=X.wish E) hg hm r hd) rd
end
def OpD (T:Tb) (X:Cx) (f:Value->Value->Sem Value) (g:D->D->Out D):Prop:=∀E:Value->Shared->Prop,∃r:R2,OpR (X.wish E) f r /\
 ∀(dx dy:D) (x y:V) (σ:L2.St) (H:Hp) (Q:VK),Rep T X.K H dx x->Rep T X.K H dy y->Acc T X E σ H (g dx dy) (kE T X.K H Q)->r x y H Q
@[simp] def e2 (g:D->D->Out D) (fa fb:Ev) (ρ:Ro):Out D:=(fa ρ).bind λx=>(fb ρ).bind λy=>g x y
section
variable {T:Tb} {X:Cx} {pos:Pos} {a b:Expr} {fa fb:Ev}
theorem q5F {G H:Hp} {E:Value->Shared->Prop} {σ:L2.St} {Q:VK} {g:D->D->Out D} {r:R2}
 (hg:∀(dx dy:D) (x y:V) (σ:L2.St) (H:Hp) (Q:VK),Rep T X.K H dx x->Rep T X.K H dy y->Acc T X E σ H (g dx dy) (kE T X.K H Q)->r x y H Q) {ρ:Ro} (fr:FR T X.K G H σ ρ) (h:Acc T X E σ H (e2 g fa fb ρ) (kE T X.K H Q)) :
 tOp r (tE T X G E fa) (tE T X G E fb) σ H Q:=by
 refine ⟨ρ,fr,Acc.mono (Acc.bind h) λdx _ hx v H1 s1 r1=>⟨ρ,fr.mono s1,Acc.mono (Acc.bind (Acc.heap s1 hx)) λdy _ hy u H2 s2 r2=>?_⟩⟩
 refine hg dx dy v u σ H2 Q (Rep.mono s2 _ _ r1) r2 (Acc.mono (Acc.heap s2 hy) λd _ hd w H3 s3 r3=>hd w H3 ((s1.trans s2).trans s3) r3)
theorem q0N {op:Operator} {g:D->D->Out D} (ho:OpD T X (binaryOp op) g) (ha:DE T X a fa) (hb:DE T X b fb):DE T X (.BinOp a op b pos) (e2 g fa fb):=.mk λG E hp=>by
 obtain ⟨r,hr,hg⟩:=ho E
 exact PE.imp (j2q hr (ha.run G E hp) (hb.run G E hp)) fun σ H Q ⟨ρ,fr,h⟩=>q5F hg fr h
theorem q4s {op:CmpOp} {g:D->D->Out D} (ho:OpD T X (compareOp op) g) (ha:DE T X a fa) (hb:DE T X b fb) (hm:behindInMarks op b=false):DE T X (.Compare a [op] [b] pos) (e2 g fa fb):=.mk λG E hp=>by
 obtain ⟨r,hr,hg⟩:=ho E
 exact PE.imp (j1R hr (ha.run G E hp) (hb.run G E hp) hm) fun σ H Q ⟨ρ,fr,h⟩=>q5F hg fr h
@[simp] def D.toB:D->Out Bool
 | .bl b=>.ok b
 | _=>.bad
@[simp] def tB2 (g:D->D->Out D) (fa fb:Ev) (ρ:Ro):Out Bool:=(e2 g fa fb ρ).bind D.toB
theorem q0t {op:CmpOp} {g:D->D->Out D} (ho:OpD T X (compareOp op) g) (ha:DE T X a fa) (hb:DE T X b fb) (hm:behindInMarks op b=false):DT T X (.Compare a [op] [b] pos) (tB2 g fa fb):=.mk λG E hp=>by
 obtain ⟨r,hr,hg⟩:=ho E
 refine PT.imp (j13 hr (ha.run G E hp) (hb.run G E hp) hm) fun σ H Q ⟨ρ,fr,h⟩=>q5F hg fr (Acc.mono (Acc.bind h) λd _ hd v H1 s1 r1=>?_)
 cases d with
 | bl k=>exact ⟨k,r1,hd H1 s1⟩
 | _=>exact hd.elim
@[simp] def i2 (f:Int->Int->D):D->D->Out D
 | .int i,.int j=>.ok (f i j)
 | _,_=>.bad
theorem q7o {f:Value->Value->Sem Value} {g:Int->Int->V} {g':Int->Int->D} (h:∀E,OpR (X.wish E) f (rI0 g)) (hg:∀i j H,Rep T X.K H (g' i j) (g i j)):OpD T X f (i2 g'):=λE=>
 ⟨_,h E,λdx dy x y σ H Q rx ry q=>by
  cases dx with
  | int i=>
   cases dy with
   | int j=>exact ⟨i,j,rx,ry,q _ H (Same.refl H) (hg i j H)⟩
   | _=>exact q.elim
  | _=>first | exact q.elim | (cases dy<;>exact q.elim)⟩
@[simp] def i2c (c:Int->Int->Bool) (f:Int->Int->D):D->D->Out D
 | .int i,.int j=>if c i j=true then .ok (f i j) else .bad
 | _,_=>.bad
theorem q7X {f:Value->Value->Sem Value} {C:Int->Int->Prop} {g:Int->Int->V} {c:Int->Int->Bool} {g':Int->Int->D} (h:∀E,OpR (X.wish E) f (rI C g)) (hc:∀i j,c i j=true->C i j) (hg:∀i j H,Rep T X.K H (g' i j) (g i j)):OpD T X f (i2c c g'):=λE=>
 ⟨_,h E,λdx dy x y σ H Q rx ry q=>by
  cases dx with
  | int i=>
   cases dy with
   | int j=>
    have q':Acc T X E σ H (if c i j=true then .ok (g' i j) else .bad) (kE T X.K H Q):=q
    by_cases e:c i j=true
    ·rw [if_pos e] at q'
     exact ⟨i,j,rx,ry,hc i j e,q' _ H (Same.refl H) (hg i j H)⟩
    ·rw [if_neg e] at q'
     exact q'.elim
   | _=>exact q.elim
  | _=>first | exact q.elim | (cases dy<;>exact q.elim)⟩
def q4z (i j:Int):Bool:=(decide (-(2 ^ 64) < i) && decide (i < 2 ^ 64)) || (decide (-(2 ^ 64) < j) && decide (j < 2 ^ 64))
@[simp] def j2p (_ j:Int):Bool:=decide (0 < j) && decide (j < 1073741824)
@[simp] def j2h (_ j:Int):Bool:=decide (0 < j)
theorem q1u:OpD T X (binaryOp .Sub) (i2 λi j=>.int (i-j)):=q7o (λE=>j5L) λ_ _ _=>rfl
theorem j4c:OpD T X (binaryOp .Mult) (i2c q4z λi j=>.int (i*j)):=q7X (λE=>j7w) (λi j h=>by
 simp only [q4z,Bool.or_eq_true,Bool.and_eq_true,decide_eq_true_eq] at h;exact h) λ_ _ _=>rfl
theorem q8u:OpD T X (binaryOp .FloorDiv) (i2c j2p λi j=>.int (i / j)):=q7X (λE=>j1h) (λi j h=>by
 simp only [j2p,Bool.and_eq_true,decide_eq_true_eq] at h;exact h) λ_ _ _=>rfl
theorem q14:OpD T X (binaryOp .Mod) (i2c j2h λi j=>.int (i % j)):=q7X (λE=>j60) (λi j h=>by
 simp only [j2h,decide_eq_true_eq] at h;exact h) λ_ _ _=>rfl
theorem q36:OpD T X (compareOp .Lt) (i2 λi j=>.bl (decide (i < j))):=q7o (λE=>j8T) λ_ _ _=>rfl
theorem q1N:OpD T X (compareOp .LtE) (i2 λi j=>.bl (decide (i<=j))):=q7o (λE=>w0M) λ_ _ _=>rfl
theorem q3g:OpD T X (compareOp .Gt) (i2 λi j=>.bl (decide (j < i))):=q7o (λE=>w0G) λ_ _ _=>rfl
theorem j8W:OpD T X (compareOp .GtE) (i2 λi j=>.bl (decide (j<=i))):=q7o (λE=>j9S) λ_ _ _=>rfl
end
theorem q3D {P:Program} {w:World} {H:Hp} {h:Heap} {a:Addr} {o:HO} (x:ObjOk P w H h a o):∃u,h.get? a=some u:=by
 cases o with
 | lst xs=>obtain ⟨_,_,_,_,e⟩:=x;exact ⟨_,e⟩
 | tup xs=>obtain ⟨_,_,_,_,e,_⟩:=x;exact ⟨_,e⟩
 | dK kvs=>obtain ⟨_,_,_,_,o,_,_,e,_⟩:=x;exact ⟨_,e⟩
 | dT kvs=>obtain ⟨_,_,_,_,o,_,_,e,_⟩:=x;exact ⟨_,e⟩
 | set S n=>obtain ⟨o,_,_,_,e,_⟩:=x;exact ⟨_,e⟩
 | ins C dx fs=>obtain ⟨_,_,_,e,_⟩:=x;exact ⟨_,e⟩
 | own y=>obtain ⟨_,e⟩:=x;exact ⟨_,e⟩
 | xd fs=>obtain ⟨_,⟨_,_,_,e,_⟩,_⟩:=x;exact ⟨_,e⟩
 | rng lo hi=>obtain ⟨_,_,_,e⟩:=x;exact ⟨_,e⟩
 | frz ob u=>obtain ⟨e,_⟩:=x;exact ⟨_,e⟩
 | tbl ps=>exact ⟨_,(show h.get? a=some _ from x)⟩
 | met f y=>exact ⟨_,(show h.get? a=some _ from x)⟩
 | ext φ=>obtain ⟨_,⟨_,e⟩,_⟩:=x;exact ⟨_,e⟩
def CXE (T:Tb) (P:Program) (w:World):CXT:=λouter H s E e s'=>
 ∃(ea:Addr) (c:Nat) (H':Hp),e=.ref ea/\s'.os=s.os/\AllBare s'.gens/\Un (frs outer) [] H H' s.heap s'.heap/\HOk P w H' s'.heap/\w00 T c ea H' s'.heap (λb=>s.heap.get? b=none)/\E (.ref (T.ca c)) none H'
section
variable {T:Tb} {X:Cx} {pins:List (Addr×Obj)} {σ:L2.St} {H:Hp} {s:Shared} {c:Nat} {u:Value}
structure Noted (X:Cx) (L:List Addr) (h h':Heap):Prop where
 kb:∀b o,h.get? b=some o->b∉L->h'.get? b=some o
 up:∀b o,h.get? b=some o->(∀vs,o.data≠.fields vs)->∃sl,h'.get? b=some { o with slots:=sl }
theorem q4E {L:List Addr} {h':Heap} (I:Inv X pins σ H s) (N:Noted X L s.heap h') (hL:∀b∈L,H b=none):HOk X.prog X.w H h':=λa o e=>
 (I.hok a o e).stay (λb v hb q=>N.kb b v q λhm=>by
  rcases hb with z | z
  ·rw [z] at hm;rw [hL _ hm] at e;cases e
  ·rw [hL b hm] at z;cases z) (λ_ q=>q) λ_ _ q=>q
theorem q5R {E:XK} {L:List Addr} {h':Heap} {ea:Addr} {a0:Value} (I:Inv X pins σ H s) (hst:X.stack=X.env::X.outer) (hex:X.ex=[]) (hn:H ea=none) (hfr:X.s₀.heap.get? ea=none)
 (hea:ea∈L) (hL:∀b∈L,H b=none/\(X.s₀.heap.get? b=none∨b∈X.fs)) (hS:∀b∈L,b=ea∨(∃o vs,s.heap.get? b=some o/\o.data=.fields vs/\X.s₀.heap.get? b=none)∨b∈frs X.stack)
 (lw:Heap.LeftW (PySem.W.hideAll s.heap L) (X.env::X.outer) ea (.ref (T.ca c)) a0 s.heap h') (nc:Nc ea h') (hE:E (.ref (T.ca c)) none H) :
 CXE T X.prog X.w X.outer X.H₀ X.s₀ E (.ref ea) { s with heap:=h' }:=by
 obtain ⟨k1,k2,k3,k4⟩:=lw
 have kb:∀b o,s.heap.get? b=some o->b∉L->h'.get? b=some o:=λb o e n=>k1 b o (PySem.W.hideAll_get _ e n)
 have nofl:∀b∈X.fs,∀o,s.heap.get? b=some o->∀vs,o.data≠.fields vs:=λb hb o e=>by
  obtain ⟨_,o',e',d⟩:=I.funs.mem hb
  rw [e] at e';cases e';exact d
 have hok:=q4E I ⟨kb,k4⟩ λb hb=>(hL b hb).1
 refine ⟨ea,c,H,rfl,I.os,I.bare,⟨λb o e n hb _=>?_,λb o e n hb _=>?_,λb o e n _=>?_,λb o e _=>?_,I.base.tups,I.base.frzs,I.base.tbls⟩,hok,⟨hn,hfr,nc,?_⟩,hE⟩
 ·refine kb b o (I.base.keep b o e n hb (by rw [hex];simp)) λhm=>?_
  rcases (hL b hm).2 with z | z
  ·rw [e] at z;cases z
  ·exact hb z
 ·obtain ⟨sl,e1⟩:=I.base.slot b o e n hb (by rw [hex];simp)
  obtain ⟨sl',e2⟩:=k4 b _ e1 (nofl b hb _ e1)
  exact ⟨sl',e2⟩
 ·exact I.base.free b o e n (by rw [hex];simp)
 ·obtain ⟨o',e1⟩:=I.base.there b o e (by rw [hex];simp)
  by_cases hm:b∈L
  ·rcases (hL b hm).2 with z | z
   ·rw [e] at z;cases z
   ·obtain ⟨sl',e2⟩:=k4 b _ e1 (nofl b z _ e1)
    exact ⟨_,e2⟩
  ·exact ⟨o',kb b o' e1 hm⟩
 ·obtain ⟨oe,vs,tb,ot,ts,he,⟨hc,h0⟩,hd,h1,hnT,hTe,hT,hdT,h3⟩:=k3
  have hid:∀b,(PySem.W.hideAll s.heap L).get? b=none->(∃o,s.heap.get? b=some o)->b∈L:=λb hb ⟨o,e⟩=>Classical.byContradiction λz=>by
   rw [PySem.W.hideAll_get _ e z] at hb;cases hb
  have notfr:tb∉frs X.stack:=λhm=>by
   rw [hst] at hm
   obtain ⟨_,o,e,d⟩:=k2.mem hm
   rw [hT] at e;cases e;exact d ts hdT
  have key:∀o,s.heap.get? tb=some o->X.s₀.heap.get? tb=none:=λo e=>by
   rcases hS tb (hid tb hnT ⟨o,e⟩) with z | ⟨_,_,_,_,z⟩ | z
   ·exact absurd z hTe
   ·exact z
   ·exact absurd z notfr
  refine ⟨oe,vs,a0,he,hc,hd,h0,.inr ⟨tb,ot,ts,h1,hTe,hT,hdT,h3,?_,?_⟩⟩
  ·cases q:H tb with
   | none=>rfl
   | some z=>
    obtain ⟨o,e⟩:=q3D (I.hok tb z q)
    have:=(hL tb (hid tb hnT ⟨o,e⟩)).1
    rw [q] at this;cases this
  ·show X.s₀.heap.get? tb=none
   cases q:X.s₀.heap.get? tb with
   | none=>rfl
   | some o=>
    obtain ⟨o',e⟩:=I.base.there tb o q (by rw [hex];simp)
    rw [key o' e] at q;cases q
theorem q29 {E:XK} {E':Value->Shared->Prop} (I:Inv X pins σ H s) (hst:X.stack=X.env::X.outer) (hf:X.env.frame=some X.env.locals) (hex:X.ex=[]) (fl:Flying T X pins c u H s) (hE:E (.ref (T.ca c)) none H) :
 wpAny (model X.prog X.w) X.A (leaving X.env u) (λ_ s''=>CXE T X.prog X.w X.outer X.H₀ X.s₀ E u s'') E' s:=by
 obtain ⟨ea,rfl,hn,fe,nc,oe,vs,a0,he,hc,hd,h0,h1⟩:=fl
 have hfr:X.A.frames=some (X.env::X.outer):=by rw [I.ok.frames,hst]
 have FF:s.heap.FunFrames X.base (X.env::X.outer):=by rw [<-hst];exact I.stack
 have fr0:∀b,Free X pins b->X.s₀.heap.get? b=none:=λb ⟨z,_⟩=>by
  rcases z with z | z
  ·rw [hex] at z;simp at z
  ·exact z
 have stk:∀b∈frs X.stack,H b=none/\(X.s₀.heap.get? b=none∨b∈X.fs):=λb hb=>⟨I.stkFree b hb,by
  rcases List.mem_cons.mp (I.stkSub b hb) with z | z
  ·rw [z];exact .inl (Heap.get?_none_of_le I.ok.above)
  ·exact .inr z⟩
 have infr:∀(L:List Addr),(∀b∈frs X.stack,b∈L)->s.heap.FunFrames (PySem.W.hideAll s.heap L) (X.env::X.outer):=λL hL=>PySem.W.funFrames_hide FF λenv he b hb=>hL b (by
  rw [hst];exact List.mem_filterMap.mpr ⟨env,he,hb⟩)
 have hidn:∀(L:List Addr) (b:Addr),b∈L->(PySem.W.hideAll s.heap L).get? b=none:=λL b hb=>PySem.W.hideAll_none L hb
 refine wpAny_mono (Kp.any (Q:=λ_ s''=>Nc ea s''.heap->CXE T X.prog X.w X.outer X.H₀ X.s₀ E (.ref ea) s'') (E:=E') Nc.push q6l nc ?_) (λ_ _ z=>z.1 z.2) λ_ _ z=>z.1
 rcases h1 with h1 | ⟨tb,ot,ts,h1,hne,ht,hdt,h3,hnt,ft⟩
 ·refine wpAny_leaving_firstW (base:=PySem.W.hideAll s.heap (ea::frs X.stack)) hfr (infr _ λb hb=>List.mem_cons_of_mem _ hb) hf he (λb o q=>PySem.W.of_hideAll _ q) (hidn _ _ List.mem_cons_self) hd h1 h0 λh' lw nc'=>?_
  rw [hc] at lw
  refine q5R (L:=ea::frs X.stack) I hst hex hn (fr0 ea fe) List.mem_cons_self (λb hb=>?_) (λb hb=>?_) lw nc' hE
  ·rcases List.mem_cons.mp hb with z | z
   ·rw [z];exact ⟨hn,.inl (fr0 ea fe)⟩
   ·exact stk b z
  ·rcases List.mem_cons.mp hb with z | z
   ·exact .inl z
   ·exact .inr (.inr z)
 ·refine wpAny_leaving_nextW (base:=PySem.W.hideAll s.heap (ea::tb::frs X.stack)) (cls:=.ref (T.ca c)) (a0:=a0) hfr (infr _ λb hb=>List.mem_cons_of_mem _ (List.mem_cons_of_mem _ hb)) hf ⟨oe,vs,tb,ot,ts,he,⟨hc,h0⟩,hd,h1,hidn _ _ (by simp),hne,ht,hdt,h3⟩ (λb o q=>PySem.W.of_hideAll _ q) (hidn _ _ List.mem_cons_self) λh' lw nc'=>?_
  refine q5R (L:=ea::tb::frs X.stack) I hst hex hn (fr0 ea fe) List.mem_cons_self (λb hb=>?_) (λb hb=>?_) lw nc' hE
  ·rcases List.mem_cons.mp hb with z | z
   ·rw [z];exact ⟨hn,.inl (fr0 ea fe)⟩
   ·rcases List.mem_cons.mp z with z | z
    ·rw [z];exact ⟨hnt,.inl (fr0 tb ft)⟩
    ·exact stk b z
  ·rcases List.mem_cons.mp hb with z | z
   ·exact .inl z
   ·rcases List.mem_cons.mp z with z | z
    ·rw [z];exact .inr (.inl ⟨ot,ts,ht,hdt,fr0 tb ft⟩)
    ·exact .inr (.inr z)
end
def ArgOk (T:Tb) (K:PySem.W.Frag) (H:Hp) (v:V):Sl->Prop
 | .sh d=>Rep T K H d v
 | .bo ds=>∃a vs,v=.ref a/\H a=some (.lst vs)/\RepL T K H ds vs
 | _=>False
def ArgsOk (T:Tb) (K:PySem.W.Frag) (H:Hp):List V->List Sl->Prop
 | vs,[]=>vs=[]
 | vs,s::ss=>∃v r,vs=v::r/\ArgOk T K H v s/\ArgsOk T K H r ss
section
variable {T:Tb} {K:PySem.W.Frag} {H H':Hp}
theorem ArgOk.mono {v:V} {s:Sl} (e:Same H H') (h:ArgOk T K H v s):ArgOk T K H' v s:=by
 cases s with
 | sh d=>exact Rep.mono e _ _ h
 | bo ds=>
  obtain ⟨a,vs,e1,e2,r⟩:=h
  exact ⟨a,vs,e1,e _ _ e2,RepL.mono e _ _ r⟩
 | _=>exact h
theorem ArgsOk.mono (e:Same H H'):∀(ss:List Sl) (vs:List V),ArgsOk T K H vs ss->ArgsOk T K H' vs ss
 | [],_,h=>h
 | s::ss,_,h=>by
  obtain ⟨v,r,e1,h1,h2⟩:=h
  exact ⟨v,r,e1,ArgOk.mono e h1,ArgsOk.mono e ss r h2⟩
theorem ArgsOk.length:∀(ss:List Sl) (vs:List V),ArgsOk T K H vs ss->vs.length=ss.length
 | [],_,h=>by cases h;rfl
 | s::ss,_,h=>by
  obtain ⟨v,r,rfl,_,h2⟩:=h
  simp [ArgsOk.length ss r h2]
theorem ArgsOk.get:∀(ss:List Sl) (vs:List V) (i:Nat) (s:Sl),ArgsOk T K H vs ss->ss[i]?=some s->∃v,vs[i]?=some v/\ArgOk T K H v s
 | [],_,_,_,_,e=>by simp at e
 | s::ss,_,0,x,h,e=>by
  obtain ⟨v,r,rfl,h1,_⟩:=h
  simp at e;subst e
  exact ⟨v,rfl,h1⟩
 | s::ss,_,i+1,x,h,e=>by
  obtain ⟨v,r,rfl,_,h2⟩:=h
  obtain ⟨u,e1,e2⟩:=ArgsOk.get ss r i x h2 (by simpa using e)
  exact ⟨u,by simpa using e1,e2⟩
theorem ArgsOk.append:∀(ss:List Sl) (vs:List V) (ts:List Sl) (us:List V),ArgsOk T K H vs ss->ArgsOk T K H us ts->ArgsOk T K H (vs++us) (ss++ts)
 | [],_,_,_,h,h'=>by cases h;exact h'
 | s::ss,_,ts,us,h,h'=>by
  obtain ⟨v,r,rfl,h1,h2⟩:=h
  exact ⟨v,r++us,rfl,h1,ArgsOk.append ss r ts us h2 h'⟩
end
abbrev Fn:=List Sl->Out Rv
def j91 (T:Tb) (K:PySem.W.Frag) (H:Hp) (Q:VK) (E:XK):Out Rv->Prop
 | .ok r=>∀v H',Same H H'->RvOk T K H H' v r->Q v H'
 | .exc c=>∀H',Same H H'->E (.ref (T.ca c)) none H'
 | .bad=>False
def spD (T:Tb) (K:PySem.W.Frag) (n:Nat) (F:Fn):Sp:=λvs H Q E=>∃ss:List Sl,ArgsOk T K H vs ss/\vs.length=n/\j91 T K H Q E (F ss)
@[simp] def fnF (n:Nat) (f:Ro->Fl) (ss:List Sl):Out Rv:=match f (ss++List.replicate (n-ss.length) .no) with
 | .nx _=>.ok (.sh .non)
 | .rt r=>.ok r
 | .exc c _=>.exc c
 | _=>.bad
theorem q5Z {T:Tb} {K:PySem.W.Frag} {H:Hp} {N:List Str} {vs:List V} {ss:List Sl} (hT:T.me=none) (h:ArgsOk T K H vs ss):FR T K H H (start N vs) (ss++List.replicate (N.length-ss.length) .no):=by
 have hl:=ArgsOk.length ss vs h
 have noow:∀(i:Nat) (s:Sl) (x:Option (Option V)) (b:Addr),(ss++List.replicate (N.length-ss.length) Sl.no)[i]?=some s->¬q4L H x b s:=λi s x b z o=>by
  by_cases hi:i < ss.length
  ·rw [List.getElem?_append_left hi] at z
   obtain ⟨v,_,r⟩:=ArgsOk.get ss vs i _ h z
   cases s with
   | sh d=>exact o
   | bo ds=>exact o
   | _=>exact r
  ·rw [List.getElem?_append_right (by omega),List.getElem?_replicate] at z
   split at z
   ·cases z;exact o
   ·cases z
 have nome:∀(i:Nat) (c:Nat) (es:List D),(ss++List.replicate (N.length-ss.length) Sl.no)[i]?≠some (.me c es):=λi c es z=>by
  by_cases hi:i < ss.length
  ·rw [List.getElem?_append_left hi] at z
   obtain ⟨v,_,r⟩:=ArgsOk.get ss vs i _ h z
   exact r
  ·rw [List.getElem?_append_right (by omega),List.getElem?_replicate] at z
   split at z<;>cases z
 refine ⟨Same.refl H,by unfold L2.start;simp [hl],λi s e=>?_,λi j s t b _ z _ o _=>noow i s _ b z o,(λx e=>by rw [hT] at e;cases e),(λi c es z=>absurd z (nome i c es))⟩
 by_cases hi:i < ss.length
 ·rw [List.getElem?_append_left hi] at e
  obtain ⟨v,e1,r⟩:=ArgsOk.get ss vs i s h e
  have e2:(start N vs)[i]?=some (some v):=by
   unfold L2.start
   rw [List.getElem?_append_left (by simp [hl,hi]),List.getElem?_map,e1];rfl
  rw [e2]
  cases s with
  | sh d=>exact ⟨v,rfl,r⟩
  | bo ds=>
   obtain ⟨a,us,rfl,r2,r3⟩:=r
   exact ⟨a,us,rfl,r2,r3⟩
  | _=>exact r.elim
 ·rw [List.getElem?_append_right (by omega),List.getElem?_replicate] at e
  split at e
  ·cases e;trivial
  ·cases e
section
variable {P:Program} {w:World} {K:PySem.W.Frag} {mg:Str->Option Value} {base:Heap} {T:Tb}
abbrev CxD (T:Tb) (P:Program) (w:World) (K:PySem.W.Frag) (mg:Str->Option Value) (base:Heap) (N:List Str) (qual:Str) (scope:Scope) (f:Addr) (cd:Value) (A:Around) (outer:List Env) (s:Shared) (H:Hp) (E:XK):Cx:=
 j0X (CXE T P w) P w K mg base N qual scope f cd A outer s H E
theorem q1j {x qual:Str} {st:Stmt} {fa:Addr} {fd:FuncData} {N ps:List Str} {k:Nat} {f:Ro->Fl} (hT:T.me=none) (F:L2.Fun K x qual st fa fd) (S:q0m N ps (q0f st))
 (hb:∀(cdv:Value) (A:Around) (outer:List Env) (s:Shared) (H:Hp) (E:XK),Room k (A.deeper (envOfC qual (q0f st) s.heap.objs.size fa cdv))->DSs T false (CxD T P w K mg base N qual (q0f st) fa cdv A outer s H E) (q1d st) f) :
 FnOk P w K mg base (CXE T P w) (k+1) fa fd ps (spD T K ps.length (fnF N.length f)):=by
 obtain ⟨oc,od,kV,doc,pm,an,cdv,ct,osl,rfl,lk,hcd⟩:=F.ex
 refine j0S lk hcd S (λvs H Q E ⟨ss,_,e,_⟩=>e) λA outer s H vs Q E hr ⟨ss,ha,hl,ho⟩=>?_
 have fr:=q5Z (N:=N) hT ha
 have hb':=hb cdv A outer s H E hr
 refine ⟨_,hb'.run H (CxD T P w K mg base N qual (q0f st) fa cdv A outer s H E).xe PassesOwn.leaving,_,fr,?_⟩
 unfold fnF at ho
 cases e:f (ss++List.replicate (N.length-ss.length) .no) with
 | nx ρ=>
  rw [e] at ho
  exact fun σ H' fr' _=>ho .non H' fr'.same rfl
 | rt r=>
  rw [e] at ho
  exact λv H' hs r'=>ho v H' hs r'
 | exc c ρ=>
  rw [e] at ho
  intro σ' H' fr' _ pins s' u H'' I hs fl
  exact q29 I rfl rfl rfl fl (ho H'' (fr'.same.trans hs))
 | bk ρ=>rw [e] at ho;exact ho.elim
 | ct ρ=>rw [e] at ho;exact ho.elim
 | bad=>rw [e] at ho;exact ho.elim
end
def tG (T:Tb) (X:Cx) (G:Hp) (E:Value->Shared->Prop) (f:Ro->Out (List Sl)):TA:=fun σ H Q=>∃ρ,FR T X.K G H σ ρ/\Acc T X E σ H (f ρ) (λss=>∀vs H',Same H H'->ArgsOk T X.K H' vs ss->Q vs H')
structure DG (T:Tb) (X:Cx) (es:List Expr) (f:Ro->Out (List Sl)):Prop where
 mk ::
 run:∀(G:Hp) (E:Value->Shared->Prop),PassesOwn (model X.prog X.w) X.A X.env E->PA (X.wish E) es (tG T X G E f)
section
variable {T:Tb} {X:Cx} {e:Expr} {es:List Expr} {pos p:Pos} {fe:Ev} {fs:Ro->Out (List Sl)}
@[simp] def gN0 (ρ:Ro):Out (List Sl):=.ok []
@[simp] def gSh (fe:Ev) (fs:Ro->Out (List Sl)) (ρ:Ro):Out (List Sl):=(fe ρ).bind λd=>(fs ρ).bind λss=>.ok (.sh d::ss)
@[simp] def gBo (i:Nat) (fs:Ro->Out (List Sl)) (ρ:Ro):Out (List Sl):=match ρ[i]? with
 | some (.ow ds)=>(fs ρ).bind λss=>.ok (.bo ds::ss)
 | some (.bo ds)=>(fs ρ).bind λss=>.ok (.bo ds::ss)
 | some (.sh d)=>(fs ρ).bind λss=>.ok (.sh d::ss)
 | _=>.bad
theorem q0k:DG T X [] gN0:=.mk λG E hp=>PA.imp q0Y fun σ H Q ⟨ρ,fr,h⟩=>h [] H (Same.refl H) rfl
theorem q0c (ha:DE T X e fe) (hr:DG T X es fs) (hs:starEach (e::es) X.env=(false,eval e X.env)::starEach es X.env:=by exact q0w rfl):DG T X (e::es) (gSh fe fs):=.mk λG E hp=>by
 refine PA.imp (q0C (X:=X.wish E) (ha.run G E hp) (hr.run G E hp) hs) fun σ H Q ⟨ρ,fr,h⟩=>?_
 refine ⟨ρ,fr,Acc.mono (Acc.bind h) λd _ hd v H1 s1 r1=>⟨ρ,fr.mono s1,Acc.mono (Acc.bind (Acc.heap s1 hd)) λss _ hss vs H2 s2 r2=>?_⟩⟩
 exact hss (v::vs) H2 (s1.trans s2) ⟨v,vs,rfl,Rep.mono s2 _ _ r1,r2⟩
theorem q8T (i:Nat) {x:Str} (hr:DG T X es fs) (hs:starEach (.Name x pos::es) X.env=(false,eval (.Name x pos) X.env)::starEach es X.env:=by exact q0w rfl) (hN:X.N[i]?=some x:=by rfl) (hv:Vis X.env.scope x:=by walk_at "v0") (hd:(x==("__debug__" : Str))=false:=by decide)
 (hcd:(x==("__classdict__" : Str))=false:=by decide):DG T X (.Name x pos::es) (gBo i fs):=.mk λG E hp=>by
 refine PA.imp (q0C (X:=X.wish E) (q3b (X:=X.wish E) hN hv hd hcd) (hr.run G E hp) hs) fun σ H Q ⟨ρ,fr,h⟩=>?_
 unfold gBo at h
 split at h
 ·rename_i ds e
  obtain ⟨a,vs,e1,e2,e3,r⟩:=fr.sl i _ e
  refine ⟨_,e1,ρ,fr,Acc.mono (Acc.bind h) λss _ hss us H2 s2 r2=>?_⟩
  exact hss (.ref a::us) H2 s2 ⟨_,us,rfl,⟨a,vs,rfl,s2 _ _ e2,RepL.mono s2 _ _ r⟩,r2⟩
 ·rename_i ds e
  obtain ⟨a,vs,e1,e2,r⟩:=fr.sl i _ e
  refine ⟨_,e1,ρ,fr,Acc.mono (Acc.bind h) λss _ hss us H2 s2 r2=>?_⟩
  exact hss (.ref a::us) H2 s2 ⟨_,us,rfl,⟨a,vs,rfl,s2 _ _ (fr.same _ _ e2),RepL.mono s2 _ _ r⟩,r2⟩
 ·rename_i d e
  obtain ⟨v,e1,r⟩:=fr.sl i _ e
  refine ⟨_,e1,ρ,fr,Acc.mono (Acc.bind h) λss _ hss us H2 s2 r2=>?_⟩
  exact hss (v::us) H2 s2 ⟨_,us,rfl,Rep.mono s2 _ _ r,r2⟩
 ·exact h.elim
theorem Inv.flown {pins:List (Addr×Obj)} {σ:L2.St} {H:Hp} {s s':Shared} {E:XK} {u:Value} (I:Inv X pins σ H s) (h:CXE T X.prog X.w X.stack H s E u s'):∃c H',Inv X pins σ H' s'/\Flying T X pins c u H' s'/\E (.ref (T.ca c)) none H':=by
 obtain ⟨ea,c,H',rfl,os,bare,un,hok,⟨h1,h2,nc,oe,vs,a0,he,hc,hd,h0,ht⟩,hE⟩:=h
 have free:∀b,s.heap.get? b=none->Free X pins b:=λb hb=>by
  refine ⟨?_,λz=>?_,λx cc e z=>?_,λq hq z=>?_⟩
  ·by_cases hx:b∈X.ex
   ·exact .inl hx
   ·refine .inr ?_
    cases q:X.s₀.heap.get? b with
    | none=>rfl
    | some o=>
     obtain ⟨o',e⟩:=I.base.there b o q hx
     rw [hb] at e;cases e
  ·obtain ⟨m,⟨o,_,_,ho,_⟩,_⟩:=I.loc
   rw [<-z,hb] at ho;cases ho
  ·obtain ⟨v,o,ho,_⟩:=I.cell x cc e
   rw [z,hb] at ho;cases ho
  ·obtain ⟨e,_⟩:=I.pin q hq
   rw [z,hb] at e;cases e
 refine ⟨c,H',I.call' os un hok bare λb z=>absurd z (by simp),⟨ea,rfl,h1,free ea h2,nc,oe,vs,a0,he,hc,hd,h0,?_⟩,hE⟩
 rcases ht with ht | ⟨tb,ot,ts,t1,t2,t3,t4,t5,t6,t7⟩
 ·exact .inl ht
 ·exact .inr ⟨tb,ot,ts,t1,t2,t3,t4,t5,t6,free tb t7⟩
variable {k n:Nat} {f C:Addr} {fd:FuncData} {ps:List Str} {F:Fn} {ds:List Value} {dvs:List V} {dss:List Sl} {x m:Str} {apos:Pos} {o:Expr}
theorem q8V {pins:List (Addr×Obj)} {σ:L2.St} {H:Hp} {s:Shared} {E:Value->Shared->Prop} {Q:VK} {us:List Value} {vs:List V} {ss:List Sl} (FO:FnOk X.prog X.w X.K X.mg X.base (CXE T X.prog X.w) k f fd ps (spD T X.K ps.length F)) (hr:Room k X.A) (hb:Binds X.K fd ps ds) (hd:Vals dvs ds)
 (I:Inv (X.wish E) pins σ H s) (r:Vals vs us) (ha:ArgsOk T X.K H (vs++dvs) ss) (hl:(us++ds).length=ps.length) (h:Acc T X E σ H (F ss) (λr=>∀v H',Same H H'->RvOk T X.K H H' v r->Q v H')) :
 wpAny (model X.prog X.w) X.A (call (.ref f) us) (EP (X.wish E) pins σ Q) E s:=by
 have r2:Vals (vs++dvs) (us++ds):=r.append hd
 have IX:Inv X pins σ H s:=I.unwish
 let EX:XK:=λcls _ H'=>∃c,cls=.ref (T.ca c)/\F ss=.exc c/\Same H H'
 refine wpAny_call (codeAny_mono (FO.run X.A X.stack s H ⟨us,[]⟩ (us++ds) (vs++dvs) Q EX hr IX.env0 (hb s us IX.kIn hl) r2 ⟨ss,ha,r2.length.trans hl,?_⟩) λres s' hq=>?_)
 ·cases e:F ss with
  | ok r=>rw [e] at h;exact h
  | exc c=>exact λH' hs=>⟨c,rfl,e,hs⟩
  | bad=>rw [e] at h;exact h.elim
 ·cases res with
  | error ev=>
   obtain ⟨c,H',I',fl,c',ec,eF,hs⟩:=Inv.flown IX hq
   rw [eF] at h
   refine h pins s' ev H' I' hs ?_
   obtain ⟨ea,rfl,h1,h2,nc,oe,vs',a0,he,hc,rest⟩:=fl
   exact ⟨ea,rfl,h1,h2,nc,oe,vs',a0,he,hc.trans ec,rest⟩
  | ok fl=>
   cases fl with
   | ret u=>
    obtain ⟨v,H',I',rv,q⟩:=IX.after hq
    exact ⟨v,H',I'.wish E,rv,q⟩
   | next=>exact False.elim hq
   | brk=>exact False.elim hq
   | cont=>exact False.elim hq
@[simp] def q6y (F:Fn) (dss:List Sl) (fs:Ro->Out (List Sl)) (ρ:Ro):Out Rv:=(fs ρ).bind λss=>if ss.length+dss.length=n then F (ss++dss) else .bad
theorem q0l (FO:FnOk X.prog X.w X.K X.mg X.base (CXE T X.prog X.w) k f fd ps (spD T X.K ps.length F)) (hr:Room k X.A) (hg:Gl X x) (hm:X.mg x=some (.ref f)) (hk:PySem.W.keepIn X.K (.ref f)=true) (hb:Binds X.K fd ps ds) (hd:Vals dvs ds)
 (hds:∀H,ArgsOk T X.K H dvs dss) (hn:n=ps.length) (ha:DG T X (e::es) fs) (hdb:(x==("__debug__" : Str))=false:=by decide) (he:starEach (e::es) X.env=(false,eval e X.env)::starEach es X.env:=by exact q0w rfl) (hpl:(backTo pos (starEach es X.env)).any (·.1)=false:=by exact q0z rfl) :
 DR T X (.Call (.Name x p) (e::es) [] pos) (q6y (n:=n) F dss fs):=.mk λG E hp=>by
 rintro pins s σ H Q I ⟨ρ,fr,h⟩
 refine wpAny_Call_Name_kw (q15 (X:=X.wish E) I hg hm ?_ hdb)
 refine PySem.W.callWith_K (h₀:=X.base) I.ok.mod.kin hk (thn (ha.run G E hp pos pins s σ H (λvs H1=>∃ss,ArgsOk T X.K H1 vs ss/\ss.length+dss.length=n/\Same H H1/\Acc T X E σ H1 (F (ss++dss)) (λr=>∀v H',Same H1 H'->RvOk T X.K H1 H' v r->Q v H')) I ⟨ρ,fr,?_⟩) λus s1 ⟨vs,H1,I1,r,ss,ha1,hl1,s1',q⟩=>⟨I1.kIn,?_⟩) he hpl
 ·refine Acc.mono (Acc.bind h) λss _ hss vs H1 s1 r1=>?_
  by_cases hl:ss.length+dss.length=n
  ·rw [if_pos hl] at hss
   exact ⟨ss,r1,hl,s1,Acc.mono (Acc.heap s1 hss) λr _ hr' v H' s2 r2=>hr' v H' (s1.trans s2) (q21 s1 r2)⟩
  ·rw [if_neg hl] at hss;exact hss.elim
 ·have la:=ArgsOk.length ss vs ha1
  have lr:=r.length
  have ld:=ArgsOk.length dss dvs (hds H1)
  have lv:=hd.length
  exact q8V (X:=X) FO hr hb hd I1 r (ArgsOk.append _ _ _ _ ha1 (hds H1)) (by simp only [List.length_append,List.nil_append];omega) q
end
theorem Inv.freeze {X:Cx} {pins:List (Addr×Obj)} {σ:L2.St} {H:Hp} {s:Shared} {a:Addr} {vs:List V} (I:Inv X pins σ H s) (h:H a=some (.lst vs)):∃o,Inv X pins σ (upd H a (.frz o (.lst vs))) s:=by
 obtain ⟨z,its,n,r,e⟩:=I.hok a _ h
 refine ⟨{ cls:=.type "list",data:=.seq its.toArray n },I.un (H':=upd H a (.frz { cls:=.type "list",data:=.seq its.toArray n } (.lst vs))) (h':=s.heap) (t':=s.toks) ⟨λb o q _ _ _=>q,λb o q _ _ _=>⟨o.slots,q⟩,λb o q n' _=>?_,λb o q _=>⟨o,q⟩,λb xs q=>?_,λb o u q=>?_,λb ps q=>⟨#[],?_⟩⟩ λb u q=>?_⟩
 ·rw [q0h (λz=>by rw [z,h] at n';cases n')];exact n'
 ·rw [q0h (λz=>by rw [z,h] at q;cases q)];exact q
 ·rw [q0h (λz=>by rw [z,h] at q;cases q)];exact q
 ·rw [q0h (λz=>by rw [z,h] at q;cases q),q];simp
 ·have own:∀b y,H b=some (.own y)->upd H a (.frz { cls:=.type "list",data:=.seq its.toArray n } (.lst vs)) b=some (.own y):=λb y q=>by
   rw [q0h (λz=>by rw [z,h] at q;cases q)];exact q
  have tup:∀b xs,H b=some (.tup xs)->upd H a (.frz { cls:=.type "list",data:=.seq its.toArray n } (.lst vs)) b=some (.tup xs):=λb y q=>by
   rw [q0h (λz=>by rw [z,h] at q;cases q)];exact q
  by_cases hb:b=a
  ·subst hb
   rw [q0p] at q;cases q
   exact ⟨e,(I.hok _ _ h).stay (λ_ _ _ q=>q) (λc=>own c _) tup⟩
  ·rw [q0h hb] at q
   exact (I.hok b u q).stay (λ_ _ _ q=>q) (λc=>own c _) tup
theorem PE.freeze {X:Cx} {e:Expr} {t:TE} (h:PE X e t):PE X e (fun σ H Q=>t σ H λv H1=>∃a vs,v=.ref a/\H1 a=some (.lst vs)/\∀o,Q v (upd H1 a (.frz o (.lst vs)))):=λpins s σ H Q I q=>
 thn (h pins s σ H _ I q) λu s1 ⟨v,H1,I1,r,a,vs,e,ha,k⟩=>by
  obtain ⟨o,I2⟩:=Inv.freeze I1 ha
  exact ⟨v,_,I2,r,k o⟩
theorem q0A {H:Hp} {a:Addr} {o:HO} (h:H a=none):Same H (upd H a o):=λb u e=>by
 rw [q0h (λz=>by rw [z,h] at e;cases e)];exact e
section
variable {T:Tb} {X:Cx} {e:Expr}
mutual
theorem Rep.froz {K:PySem.W.Frag} {H:Hp} {a:Addr} {vs:List V} {o:Obj} (h:H a=some (.lst vs)):∀(d:D) (v:V),Rep T K H d v->Rep T K (upd H a (.frz o (.lst vs))) d v
 | .non,_,q=>q
 | .bl _,_,q=>q
 | .int _,_,q=>q
 | .str _,_,q=>q
 | .tup ds,_,q=>by
  obtain ⟨b,ws,r1,r2,r3⟩:=q
  refine ⟨b,ws,r1,?_,RepL.froz h ds ws r3⟩
  rcases r2 with (r2 | ⟨o',r2⟩) | r2
  ·exact .inl (.inl (by rw [q0h (λz=>by rw [z,h] at r2;cases r2)];exact r2))
  ·exact .inl (.inr ⟨o',by rw [q0h (λz=>by rw [z,h] at r2;cases r2)];exact r2⟩)
  ·exact .inr r2
 | .lst ds,_,q=>by
  obtain ⟨b,ws,r1,r2,r3⟩:=q
  refine ⟨b,ws,r1,?_,RepL.froz h ds ws r3⟩
  rcases r2 with ⟨o',r2⟩ | r2
  ·exact .inl ⟨o',by rw [q0h (λz=>by rw [z,h] at r2;cases r2)];exact r2⟩
  ·exact .inr r2
 | .ins c ds,_,q=>by
  obtain ⟨b,dx,fs,r1,r2,r3,r4⟩:=q
  exact ⟨b,dx,fs,r1,by rw [q0h (λz=>by rw [z,h] at r2;cases r2)];exact r2,r3,RepL.froz h ds _ r4⟩
 | .exc c,_,q=>by
  obtain ⟨b,o',r1,r2,r3⟩:=q
  exact ⟨b,o',r1,by rw [q0h (λz=>by rw [z,h] at r2;cases r2)];exact r2,r3⟩
theorem RepL.froz {K:PySem.W.Frag} {H:Hp} {a:Addr} {vs:List V} {o:Obj} (h:H a=some (.lst vs)):∀(ds:List D) (us:List V),RepL T K H ds us->RepL T K (upd H a (.frz o (.lst vs))) ds us
 | [],_,q=>q
 | d::ds,_,q=>by
  obtain ⟨v,r,r1,r2,r3⟩:=q
  exact ⟨v,r,r1,Rep.froz h d v r2,RepL.froz h ds r r3⟩
end
@[simp] def q1r (f:Ro->Out (List D)) (ρ:Ro):Out D:=(f ρ).bind λds=>.ok (.lst ds)
theorem DF.de {f:Ro->Out (List D)} (h:DF T X e f):DE T X e (q1r f):=.mk λG E hp=>by
 refine PE.imp (PE.freeze (h.run G E hp)) fun σ H Q ⟨ρ,fr,q⟩=>⟨ρ,fr,Acc.mono (Acc.bind q) λds _ hd a vs H' s1 ha ha' r=>⟨a,vs,rfl,ha',λo=>?_⟩⟩
 refine hd _ _ (λb u e=>?_) ⟨a,vs,rfl,.inl ⟨o,q0p⟩,RepL.froz ha' _ _ r⟩
 rw [q0h (λz=>by rw [z,ha] at e;cases e)];exact s1 b u e
theorem DF.dr {f:Ro->Out (List D)} (h:DF T X e f):DR T X e (fun ρ=>(f ρ).bind λds=>.ok (.fr ds)):=.mk λG E hp=>
 PE.imp (h.run G E hp) fun σ H Q ⟨ρ,fr,q⟩=>⟨ρ,fr,Acc.mono (Acc.bind q) λds _ hd a vs H' s1 ha ha' r=>hd _ _ s1 ⟨a,vs,rfl,ha',ha,r⟩⟩
theorem DE.dr {f:Ev} (h:DE T X e f):DR T X e (fun ρ=>(f ρ).bind λd=>.ok (.sh d)):=.mk λG E hp=>
 PE.imp (h.run G E hp) fun σ H Q ⟨ρ,fr,q⟩=>⟨ρ,fr,Acc.mono (Acc.bind q) λd _ hd v H' s1 r=>hd _ _ s1 r⟩
@[simp] def mkO (t:Bool) (ds:List D):D:=if t=true then .tup ds else .lst ds
@[simp] def Rv.d:Rv->D
 | .sh d=>d
 | .fr ds=>.lst ds
 | .tf t pre ds post=>mkO t (pre++.lst ds::post)
theorem OutAt.rep {K:PySem.W.Frag} {H:Hp} {t:Bool} {a b:Addr} {vp vq ws:List V} {pre ds post:List D} {o:Obj} (e2:OutAt H t a (vp++.ref b::vq)) (r1:RepL T K H pre vp) (r2:RepL T K H post vq) (e3:H b=some (.lst ws)) (r3:RepL T K H ds ws) :
 Rep T K (upd H b (.frz o (.lst ws))) (mkO t (pre++.lst ds::post)) (.ref a):=by
 have hl:RepL T K (upd H b (.frz o (.lst ws))) (pre++.lst ds::post) (vp++.ref b::vq):=
  RepL.append _ _ _ _ (RepL.froz e3 _ _ r1) ⟨_,_,rfl,⟨b,ws,rfl,.inl ⟨o,q0p⟩,RepL.froz e3 _ _ r3⟩,RepL.froz e3 _ _ r2⟩
 have ha:OutAt (upd H b (.frz o (.lst ws))) t a (vp++.ref b::vq):=e2.keep λu q _ _=>by
  rw [q0h (λz=>by subst z;exact e2.nlst e3)];exact q
 cases t with
 | true=>exact ⟨a,_,rfl,.inl (.inl ha),hl⟩
 | false=>
  obtain ⟨o',ha⟩:=ha
  exact ⟨a,_,rfl,.inl ⟨o',ha⟩,hl⟩
@[simp] def rD (f:Ro->Out Rv) (ρ:Ro):Out D:=(f ρ).bind λr=>.ok r.d
theorem DR.de {f:Ro->Out Rv} (h:DR T X e f):DE T X e (rD f):=.mk λG E hp=>by
 rintro pins s σ H Q I ⟨ρ,fr,q⟩
 refine thn (h.run G E hp pins s σ H (λv H1=>∃r,Same H H1/\RvOk T X.K H H1 v r/\kE T X.K H Q r.d) I ⟨ρ,fr,Acc.mono (Acc.bind q) λr _ hr v H' s1 r1=>⟨r,s1,r1,hr⟩⟩) λu s1 ⟨v,H1,I1,rv,r,sm,rok,k⟩=>?_
 cases r with
 | sh d=>exact ⟨v,H1,I1,rv,k v H1 sm rok⟩
 | fr ds=>
  obtain ⟨a,vs,rfl,ha',ha,rl⟩:=rok
  obtain ⟨o,I2⟩:=Inv.freeze I1 ha'
  refine ⟨_,_,I2,rv,k _ _ (λb u e=>?_) ⟨a,vs,rfl,.inl ⟨o,q0p⟩,RepL.froz ha' _ _ rl⟩⟩
  rw [q0h (λz=>by rw [z,ha] at e;cases e)];exact sm b u e
 | tf t pre ds post=>
  obtain ⟨a,vp,b,vq,ws,rfl,e2,r1,r2,e3,e4,r3⟩:=rok
  obtain ⟨o,I2⟩:=Inv.freeze I1 e3
  refine ⟨_,_,I2,rv,k _ _ (λc u e=>?_) (e2.rep r1 r2 e3 r3)⟩
  rw [q0h (λz=>by rw [z,e4] at e;cases e)];exact sm c u e
theorem DF.dl {f:Ro->Out (List D)} (h:DF T X e f):DL T X e f:=.mk λG E hp=>
 PE.imp (h.run G E hp) fun σ H Q ⟨ρ,fr,q⟩=>⟨ρ,fr,Acc.mono q λds _ hd a vs H' s1 ha ha' r=>hd a vs H' s1 (SqL.of ha') r⟩
@[simp] def D.toL:D->Out (List D)
 | .lst ds=>.ok ds
 | _=>.bad
@[simp] def q1n (f:Ev) (ρ:Ro):Out (List D):=(f ρ).bind D.toL
theorem DE.dl {f:Ev} (h:DE T X e f):DL T X e (q1n f):=.mk λG E hp=>
 PE.imp (h.run G E hp) fun σ H Q ⟨ρ,fr,q⟩=>⟨ρ,fr,Acc.mono (Acc.bind q) λd _ hd v H' s1 r=>by
  cases d with
  | lst ds=>
   obtain ⟨a,vs,rfl,e2,r2⟩:=r
   exact hd a vs H' s1 e2.sq r2
  | _=>exact hd.elim⟩
end
section
variable {T:Tb} {X:Cx} {a b:Expr} {rest:List Expr} {pos:Pos} {fa fb:Ro->Out Bool} {f:Ev}
@[simp] def D.tru:D->Out Bool
 | .non=>.ok false
 | .bl b=>.ok b
 | .int i=>.ok (i != 0)
 | .str x=>if x.length<=1000000 then .ok ((x.length:Int) != 0) else .bad
 | .tup ds=>.ok (!ds.isEmpty)
 | .lst ds=>.ok (!ds.isEmpty)
 | _=>.bad
theorem line6 {n:Nat} (h:n<=1000000):n<=sizeLine:=by rw [sizeLine_eq];omega
theorem q4w {ds:List D} {vs:List V} (h:vs.length=ds.length):(!vs.isEmpty)=!ds.isEmpty:=by
 cases ds<;>cases vs<;>simp_all
theorem w3j {H:Hp} {d:D} {v:V} {k:Bool} (r:Rep T X.K H d v) (h:d.tru=.ok k):j8S X.K v H k:=by
 cases d with
 | non=>cases r;cases h;exact rfl
 | bl b=>cases r;cases h;exact rfl
 | int i=>cases r;cases h;exact rfl
 | str x=>
  cases r
  have h':(if x.length<=1000000 then Out.ok ((x.length:Int) != 0) else .bad)=.ok k:=h
  by_cases z:x.length<=1000000
  ·rw [if_pos z] at h';cases h';exact ⟨line6 z,rfl⟩
  ·rw [if_neg z] at h';cases h'
 | tup ds=>
  obtain ⟨a,vs,rfl,e,r⟩:=r
  cases h
  exact .inr (.inl ⟨vs,e,(q4w (RepL.length _ _ r)).symm⟩)
 | lst ds=>
  obtain ⟨a,vs,rfl,e,r⟩:=r
  cases h
  exact .inl ⟨vs,e.sq,(q4w (RepL.length _ _ r)).symm⟩
 | ins c ds=>cases h
 | exc c=>cases h
@[simp] def q8L (f:Ev) (ρ:Ro):Out Bool:=(f ρ).bind D.tru
theorem q1t (h:DE T X a f) (he:∀whole,isTrue a X.env whole=(do let v <-whole;standAt a.pos;holding [v] (truthy v)):=by intro _;rfl):DT T X a (q8L f):=.mk λG E hp=>by
 refine PT.imp (q8R (X:=X.wish E) (h.run G E hp) he) fun σ H Q ⟨ρ,fr,q⟩=>⟨ρ,fr,Acc.mono (Acc.bind q) λd _ hd v H' s1 r=>?_⟩
 cases e:d.tru with
 | ok k=>rw [e] at hd;exact ⟨k,w3j r e,hd H' s1⟩
 | exc c=>
  cases d with
  | str x=>
   have h':(if x.length<=1000000 then Out.ok ((x.length:Int) != 0) else .bad)=.exc c:=e
   by_cases z:x.length<=1000000
   ·rw [if_pos z] at h';cases h'
   ·rw [if_neg z] at h';cases h'
  | _=>cases e
 | bad=>rw [e] at hd;exact hd.elim
@[simp] def q2i (f:Ro->Out Bool) (ρ:Ro):Out Bool:=(f ρ).bind λb=>.ok (!b)
@[simp] def q6a (f g:Ro->Out Bool) (ρ:Ro):Out Bool:=(f ρ).bind λb=>if b=true then g ρ else .ok false
@[simp] def j1Q (f g:Ro->Out Bool) (ρ:Ro):Out Bool:=(f ρ).bind λb=>if b=true then .ok true else g ρ
theorem q1y (h:DT T X a fa):DT T X (.UnaryOp .Not a pos) (q2i fa):=.mk λG E hp=>
 PT.imp (j4O (X:=X.wish E) (h.run G E hp)) fun σ H Q ⟨ρ,fr,q⟩=>⟨ρ,fr,Acc.mono (Acc.bind q) λb _ hb H' s1=>hb H' s1⟩
theorem q24 (ha:DT T X a fa):DW T X (.BoolOp .And [a] pos) fa:=.mk λG E hp=>j2c (ha.run G E hp)
theorem q5O (ha:DT T X a fa):DW T X (.BoolOp .Or [a] pos) fa:=.mk λG E hp=>j4Q (ha.run G E hp)
theorem q4c (ha:DT T X a fa) (hb:DW T X (.BoolOp .And (b::rest) pos) fb):DW T X (.BoolOp .And (a::b::rest) pos) (q6a fa fb):=.mk λG E hp=>
 PW.imp (j5K (ha.run G E hp) (hb.run G E hp)) fun σ H Q ⟨ρ,fr,q⟩=>⟨ρ,fr,Acc.mono (Acc.bind q) λb _ hb H' s1=>by
  cases b with
  | true=>exact ⟨ρ,fr.mono s1,Acc.mono (Acc.heap s1 hb) λc _ hc H2 s2=>hc H2 (s1.trans s2)⟩
  | false=>exact hb H' s1⟩
theorem q6g (ha:DT T X a fa) (hb:DW T X (.BoolOp .Or (b::rest) pos) fb):DW T X (.BoolOp .Or (a::b::rest) pos) (j1Q fa fb):=.mk λG E hp=>
 PW.imp (w0y (ha.run G E hp) (hb.run G E hp)) fun σ H Q ⟨ρ,fr,q⟩=>⟨ρ,fr,Acc.mono (Acc.bind q) λb _ hb H' s1=>by
  cases b with
  | false=>exact ⟨ρ,fr.mono s1,Acc.mono (Acc.heap s1 hb) λc _ hc H2 s2=>hc H2 (s1.trans s2)⟩
  | true=>exact hb H' s1⟩
variable {ga gb:Ev}
@[simp] def q70 (f g:Ev) (ρ:Ro):Out D:=(f ρ).bind λd=>d.toB.bind λb=>if b=true then g ρ else .ok (.bl false)
@[simp] def j16 (f:Ev) (ρ:Ro):Out D:=(f ρ).bind λd=>d.toB.bind λb=>.ok (.bl (!b))
theorem q5g {α:Type} {E:Value->Shared->Prop} {σ:L2.St} {H:Hp} {d:D} {g:Bool->Out α} {k:α->Prop} (h:Acc T X E σ H (d.toB.bind g) k):∃b,d=.bl b/\Acc T X E σ H (g b) k:=by
 cases d with
 | bl b=>exact ⟨b,rfl,h⟩
 | _=>exact h.elim
theorem j0x {op} (h:DE T X a ga):DE T X (.BoolOp op [a] pos) ga:=.mk λG E hp=>j7f (h.run G E hp)
theorem q5B (ha:DE T X a ga) (hb:DE T X (.BoolOp .And (b::rest) pos) gb):DE T X (.BoolOp .And (a::b::rest) pos) (q70 ga gb):=.mk λG E hp=>
 PE.imp (j6n (ha.run G E hp) (hb.run G E hp)) fun σ H Q ⟨ρ,fr,q⟩=>⟨ρ,fr,Acc.mono (Acc.bind q) λd _ hd v H' s1 r=>by
  obtain ⟨c,rfl,hc⟩:=q5g hd
  refine ⟨c,r,?_⟩
  cases c with
  | true=>exact ⟨ρ,fr.mono s1,Acc.mono (Acc.heap s1 hc) λc _ hc v2 H2 s2 r2=>hc v2 H2 (s1.trans s2) r2⟩
  | false=>exact hc _ H' s1 rfl⟩
theorem j0d (ha:DE T X a ga):DE T X (.UnaryOp .Not a pos) (j16 ga):=.mk λG E hp=>
 PE.imp (j4F (ha.run G E hp)) fun σ H Q ⟨ρ,fr,q⟩=>⟨ρ,fr,Acc.mono (Acc.bind q) λd _ hd v H' s1 r=>by
  obtain ⟨c,rfl,hc⟩:=q5g hd
  exact ⟨c,r,hc _ H' s1 rfl⟩⟩
@[simp] def eIf (t:Ro->Out Bool) (f g:Ev) (ρ:Ro):Out D:=(t ρ).bind λb=>if b=true then f ρ else g ρ
theorem w0z {c:Expr} {ft:Ro->Out Bool} (hc:DT T X c ft) (ha:DE T X a ga) (hb:DE T X b gb):DE T X (.IfExp c a b pos) (eIf ft ga gb):=.mk λG E hp=>
 PE.imp (q86 (hc.run G E hp) (ha.run G E hp) (hb.run G E hp)) fun σ H Q ⟨ρ,fr,q⟩=>⟨ρ,fr,Acc.mono (Acc.bind q) λb _ hb H' s1=>by
  cases b with
  | true=>exact ⟨ρ,fr.mono s1,Acc.mono (Acc.heap s1 hb) λc _ hc v2 H2 s2 r2=>hc v2 H2 (s1.trans s2) r2⟩
  | false=>exact ⟨ρ,fr.mono s1,Acc.mono (Acc.heap s1 hb) λc _ hc v2 H2 s2 r2=>hc v2 H2 (s1.trans s2) r2⟩⟩
end
section
variable {T:Tb} {ib:Bool} {X:Cx} {e:Expr} {st:Stmt} {sts:List Stmt} {pos pos':Pos} {f g:Ro->Fl} {fe:Ev}
theorem q0x:DSs T ib X [] Fl.nx:=.mk λG E hp=>PSs.imp j1s λD σ H ⟨ρ,fr,h⟩=>h σ H fr (Pers.refl H)
theorem q0b (h1:DS T ib X st f) (h2:DSs T ib X sts g):DSs T ib X (st::sts) (fun ρ=>(f ρ).bind g):=.mk λG E hp=>
 PSs.imp (q9w (h1.run G E hp) (h2.run G E hp)) λD σ H ⟨ρ,fr,h⟩=>⟨ρ,fr,by
  have h:AccS T ib X G E H ((f ρ).bind g) D:=h
  cases e:f ρ with
  | nx ρ'=>rw [e] at h;exact fun σ' H' fr' p=>⟨ρ',fr',AccS.heap p h⟩
  | rt r=>rw [e] at h;exact h
  | exc c ρ'=>rw [e] at h;exact h
  | bk ρ'=>rw [e] at h;exact h
  | ct ρ'=>rw [e] at h;exact h
  | bad=>rw [e] at h;exact h⟩
theorem q0d (h1:DS T ib X st f):DSs T ib X [st] f:=.mk λG E hp=>j0H (h1.run G E hp)
@[simp] def q1i (i:Nat) (fe:Ev) (ρ:Ro):Fl:=(fe ρ).fl ρ λd=>.nx (ρ.set i (.sh d))
theorem q0B (i:Nat) {x:Str} (hN:X.N.Nodup) (he:DE T X e fe) (hi:X.N[i]?=some x:=by rfl) (hx:Loc X.env.scope x:=by walk_at "v3") (hs:swapsWith e (some (.Name x pos')) pos.line X.env=pure false:=by exact q2d rfl) (hf:X.fn x=true∨X.env.scope.names.lookup x=some .local:=by walk_at "v2")
 (hz:T.me=none∨i≠0:=by walk_at "v1") :
 DS T ib X (.Assign [.Name x pos'] e pos) (q1i i fe):=.mk λG E hp=>
 PS.imp (q9X (X:=X.wish E) hN hi hx (he.run G E hp) hs hf) λD σ H ⟨ρ,fr,h⟩=>⟨ρ,fr,Acc.mono (AccS.fl fr h) λd _ hd v H1 s1 r1=>hd _ _ ((fr.mono s1).set_sh r1 hz) (Pers.of s1)⟩
theorem q50 {K:PySem.W.Frag} {G H H1:Hp} {σ:L2.St} {ρ:Ro} {a:Addr} (fr:FR T K G H σ ρ) (s1:Same H H1) (ha:H a=none) (j:Nat) (s:Sl) (e:ρ[j]?=some s):¬q4L H1 σ[j]? a s:=λz=>by
 obtain ⟨⟨ws,q⟩,_⟩:=(fr.sl j s e).own ((fr.sl j s e).back (λa o q _ _=>s1 a o q) z)
 rw [ha] at q;cases q
@[simp] def q19 (i:Nat) (f:Ro->Out Rv) (ρ:Ro):Fl:=(f ρ).fl ρ λr=>.nx (ρ.set i (match r with | .sh d=>.sh d | .fr ds=>.ow ds | .tf t pre ds post=>.ox t pre ds post))
theorem q1b (i:Nat) {x:Str} {f:Ro->Out Rv} (hN:X.N.Nodup) (he:DR T X e f) (hi:X.N[i]?=some x:=by rfl) (hx:Loc X.env.scope x:=by walk_at "v3") (hs:swapsWith e (some (.Name x pos')) pos.line X.env=pure false:=by exact q2d rfl) (hf:X.fn x=true∨X.env.scope.names.lookup x=some .local:=by walk_at "v2")
 (hz:T.me=none∨i≠0:=by walk_at "v1") :
 DS T ib X (.Assign [.Name x pos'] e pos) (q19 i f):=.mk λG E hp=>
 PS.imp (q9X (X:=X.wish E) hN hi hx (he.run G E hp) hs hf) λD σ H ⟨ρ,fr,h⟩=>⟨ρ,fr,Acc.mono (AccS.fl fr h) λr _ hr v H1 s1 r1=>by
  cases r with
  | sh d=>exact hr _ _ ((fr.mono s1).set_sh r1 hz) (Pers.of s1)
  | fr ds=>
   obtain ⟨a,vs,rfl,ha',ha,rl⟩:=r1
   exact hr _ _ ((fr.mono s1).set_ow ha' (fr.same.free ha) rl (λj es _ e=>q50 (H1:=H1) fr s1 ha j es e) hz) (Pers.of s1)
  | tf t pre ds post=>
   obtain ⟨a,vp,b,vq,ws,rfl,e2,q1,q2,e3,e4,q3⟩:=r1
   refine hr _ _ ((fr.mono s1).set_own (.ox t pre ds post) (λ_=>⟨a,vp,b,vq,ws,rfl,e2,q1,q2,e3,fr.same.free e4,q3⟩) (λj s c hj q o1 o2=>?_) (λ_ _ z=>by cases z) hz) (Pers.of s1)
   obtain ⟨a',us,z1,z2,z3⟩:=o1
   cases z1
   have:=e2.uniq z2
   subst this
   rw [<-RepL.length _ _ q1,List.getElem?_append_right (Nat.le_refl _),Nat.sub_self] at z3
   have z3:(some (V.ref b))=some (.ref c):=z3
   cases z3
   exact q50 (H1:=H1) fr s1 e4 j s q o2⟩
@[simp] def sIf (t:Ro->Out Bool) (f g:Ro->Fl) (ρ:Ro):Fl:=(t ρ).fl ρ λb=>if b=true then f ρ else g ρ
theorem q0I {c:Expr} {a b:List Stmt} {ft:Ro->Out Bool} (hc:DT T X c ft) (ha:DSs T ib X a f) (hb:DSs T ib X b g):DS T ib X (.If c a b pos) (sIf ft f g):=.mk λG E hp=>
 PS.imp (w0g (hc.run G E hp) (ha.run G E hp) (hb.run G E hp)) λD σ H ⟨ρ,fr,h⟩=>⟨ρ,fr,Acc.mono (AccS.fl fr h) λb _ hb H1 s1=>by
  cases b with
  | true=>exact ⟨ρ,fr.mono s1,AccS.heap (Pers.of s1) hb⟩
  | false=>exact ⟨ρ,fr.mono s1,AccS.heap (Pers.of s1) hb⟩⟩
@[simp] def q3u (fe:Ev) (ρ:Ro):Fl:=(fe ρ).fl ρ λd=>.rt (.sh d)
theorem q1a (he:DE T X e fe):DS T ib X (.Return (some e) pos) (q3u fe):=.mk λG E hp=>
 PS.imp (q7Z (he.run G E hp)) λD σ H ⟨ρ,fr,h⟩=>⟨ρ,fr,Acc.mono (AccS.fl fr h) λd _ hd v H1 s1 r1=>hd v H1 (fr.same.trans s1) r1⟩
@[simp] def q2B (f:Ro->Out Rv) (ρ:Ro):Fl:=(f ρ).fl ρ λr=>.rt r
theorem q1s {f:Ro->Out Rv} (he:DR T X e f):DS T ib X (.Return (some e) pos) (q2B f):=.mk λG E hp=>
 PS.imp (q7Z (he.run G E hp)) λD σ H ⟨ρ,fr,h⟩=>⟨ρ,fr,Acc.mono (AccS.fl fr h) λr _ hr v H1 s1 r1=>hr v H1 (fr.same.trans s1) (q21 fr.same r1)⟩
@[simp] def q2W (i:Nat) (ρ:Ro):Fl:=match ρ[i]? with
 | some (.ow ds)=>.rt (.fr ds)
 | some (.sh d)=>.rt (.sh d)
 | _=>.bad
theorem q1E (i:Nat) {x:Str} (hN:X.N[i]?=some x:=by rfl) (hv:Vis X.env.scope x:=by walk_at "v0") (hd:(x==("__debug__" : Str))=false:=by decide)
 (hcd:(x==("__classdict__" : Str))=false:=by decide):DS T ib X (.Return (some (.Name x pos')) pos) (q2W i):=.mk λG E hp=>
 PS.imp (q7Z (q3b (X:=X.wish E) hN hv hd hcd)) λD σ H ⟨ρ,fr,h⟩=>by
  unfold q2W at h
  split at h
  ·rename_i ds e
   obtain ⟨a,vs,e1,e2,e3,r⟩:=fr.sl i _ e
   exact ⟨_,e1,h _ H fr.same ⟨a,vs,rfl,e2,e3,r⟩⟩
  ·rename_i d e
   obtain ⟨v,e1,r⟩:=fr.sl i _ e
   exact ⟨_,e1,h _ H fr.same r⟩
  ·exact h.elim
@[simp] def q0V (fe:Ev) (ρ:Ro):Fl:=(fe ρ).fl ρ λ_=>.nx ρ
theorem q0u (he:DE T X e fe) (hs:swapsWith e none pos.line X.env=pure false:=by exact q2d rfl):DS T ib X (.Expr e pos) (q0V fe):=.mk λG E hp=>
 PS.imp (q7B (X:=X.wish E) (he.run G E hp) hs) λD σ H ⟨ρ,fr,h⟩=>⟨ρ,fr,Acc.mono (AccS.fl fr h) λd _ hd v H1 s1 r1=>hd σ H1 (fr.mono s1) (Pers.of s1)⟩
@[simp] def j8D (i:Nat) (f:Ro->Fl) (ρ:Ro):Fl:=match ρ[i]? with
 | some (.ow ds)=>f (ρ.set i (.sh (.lst ds)))
 | some (.sh _)=>f ρ
 | some (.ox t pre ds post)=>f (ρ.set i (.sh (mkO t (pre++.lst ds::post))))
 | _=>.bad
theorem q7p {K:PySem.W.Frag} {G H:Hp} {σ:L2.St} {ρ:Ro} {i:Nat} {a:Addr} {vs:List V} {s0:Sl} {d:D} {v:V} {o:Obj} (fr:FR T K G H σ ρ) (e:ρ[i]?=some s0) (oa:q4L H σ[i]? a s0) (e2:H a=some (.lst vs)) (e3:G a=none) (e1:σ[i]?=some (some v)) (r:Rep T K (upd H a (.frz o (.lst vs))) d v) :
 FR T K G (upd H a (.frz o (.lst vs))) σ (ρ.set i (.sh d)):=by
 have hl:i < ρ.length:=(List.getElem?_eq_some_iff.mp e).1
 have lt:∀{m:Nat} {z:Sl},(ρ.set i (.sh d))[m]?=some z->m=i∨(m≠i/\ρ[m]?=some z):=λ{m z} q=>by
  by_cases hm:m=i
  ·exact .inl hm
  ·rw [List.getElem?_set_ne (Ne.symm hm)] at q;exact .inr ⟨hm,q⟩
 refine ⟨λb u q=>?_,by simp [fr.len],λj s q=>?_,λj k s1 s2 b hjk q1 q2 o1 o2=>?_,fr.me,q2P (λ_ _ z=>by cases z) fr.me0⟩
 ·rw [q0h (λz=>by rw [z,e3] at q;cases q)];exact fr.same b u q
 ·rcases lt q with rfl | ⟨hj,q⟩
  ·rw [List.getElem?_set_self hl] at q;cases q
   exact ⟨_,e1,r⟩
  ·have h:=fr.sl j s q
   cases s with
   | no=>trivial
   | sh d=>obtain ⟨v,z1,z2⟩:=h;exact ⟨v,z1,Rep.froz e2 _ _ z2⟩
   | ow es=>
    obtain ⟨b,ws,z1,z2,z3,z4⟩:=h
    have hab:b≠a:=λz=>fr.ne j i _ _ b hj q e z1 (by rw [z];exact oa)
    exact ⟨b,ws,z1,by rw [q0h hab];exact z2,z3,RepL.froz e2 _ _ z4⟩
   | bo es=>obtain ⟨b,ws,z1,z2,z4⟩:=h;exact ⟨b,ws,z1,z2,RepL.froz e2 _ _ z4⟩
   | me c es=>
    obtain ⟨b,dx,fs,z0,z1,z2,z3,z4,z5⟩:=h
    exact ⟨b,dx,fs,z0,z1,by rw [q0h (λz=>by rw [z,e2] at z2;cases z2)];exact z2,z3,z4,RepL.froz e2 _ _ z5⟩
   | ox t pre es post=>
    have hb0:=λy=>fr.ne j i _ _ y hj q e
    obtain ⟨c,vp,b,vq,ws,z1,z2,z3,z4,z5,z6,z7⟩:=h
    have hab:b≠a:=λz=>hb0 b ⟨c,_,z1,z2,by rw [<-RepL.length _ _ z3,List.getElem?_append_right (Nat.le_refl _),Nat.sub_self];rfl⟩ (by rw [z];exact oa)
    exact ⟨c,vp,b,vq,ws,z1,z2.keep λu w _ _=>by rw [q0h (λy=>by subst y;exact z2.nlst e2)];exact w,RepL.froz e2 _ _ z3,RepL.froz e2 _ _ z4,by rw [q0h hab];exact z5,z6,RepL.froz e2 _ _ z7⟩
 ·have hj:j≠i:=by
   rintro rfl
   rw [List.getElem?_set_self hl] at q1;cases q1;exact o1
  have hk:k≠i:=by
   rintro rfl
   rw [List.getElem?_set_self hl] at q2;cases q2;exact o2
  rw [List.getElem?_set_ne (Ne.symm hj)] at q1
  rw [List.getElem?_set_ne (Ne.symm hk)] at q2
  have bk:∀(c:Addr) (u:HO),H c=some u->(∀xs,u≠.lst xs)->(∀x dx fs,u≠.ins x dx fs)->upd H a (.frz o (.lst vs)) c=some u:=λc u w n _=>by
   rw [q0h (λy=>by subst y;rw [e2] at w;cases w;exact n _ rfl)];exact w
  exact fr.ne j k s1 s2 b hjk q1 q2 ((fr.sl j s1 q1).back bk o1) ((fr.sl k s2 q2).back bk o2)
theorem j3h {K:PySem.W.Frag} {G H:Hp} {σ:L2.St} {ρ:Ro} {i:Nat} {a:Addr} {vs:List V} {ds:List D} {o:Obj} (fr:FR T K G H σ ρ) (e:ρ[i]?=some (.ow ds)) (e1:σ[i]?=some (some (.ref a))) (e2:H a=some (.lst vs)) (e3:G a=none) (r:RepL T K H ds vs) :
 FR T K G (upd H a (.frz o (.lst vs))) σ (ρ.set i (.sh (.lst ds))):=q7p fr e e1 e2 e3 e1 ⟨a,vs,rfl,.inl ⟨o,q0p⟩,RepL.froz e2 _ _ r⟩
theorem j5e {K:PySem.W.Frag} {H:Hp} {x:Option (Option V)} {t:Bool} {a b:Addr} {vp vq:List V} {pre ds post:List D} (z1:x=some (some (.ref a))) (z2:OutAt H t a (vp++.ref b::vq)) (z3:RepL T K H pre vp):q4L H x b (.ox t pre ds post):=
 ⟨a,_,z1,z2,by rw [<-RepL.length _ _ z3,List.getElem?_append_right (Nat.le_refl _),Nat.sub_self];rfl⟩
theorem q92 {K:PySem.W.Frag} {G H:Hp} {σ:L2.St} {ρ:Ro} {i:Nat} {t:Bool} {a b:Addr} {vp vq ws:List V} {pre ds post:List D} {o:Obj} (fr:FR T K G H σ ρ) (e:ρ[i]?=some (.ox t pre ds post)) (e1:σ[i]?=some (some (.ref a))) (e2:OutAt H t a (vp++.ref b::vq)) (r1:RepL T K H pre vp) (r2:RepL T K H post vq) (e3:H b=some (.lst ws)) (e4:G b=none) (r3:RepL T K H ds ws) :
 FR T K G (upd H b (.frz o (.lst ws))) σ (ρ.set i (.sh (mkO t (pre++.lst ds::post)))):=q7p fr e (j5e e1 e2 r1) e3 e4 e1 (e2.rep r1 r2 e3 r3)
theorem q7R (i:Nat) (h:DSs T ib X sts f):DSs T ib X sts (j8D i f):=.mk λG E hp=>by
 rintro pins s σ H D I ⟨ρ,fr,q⟩
 unfold j8D at q
 split at q
 ·rename_i ds e
  obtain ⟨a,vs,e1,e2,e3,r⟩:=fr.sl i _ e
  obtain ⟨o,I2⟩:=Inv.freeze I e2
  exact h.run G E hp pins s σ _ D I2 ⟨_,j3h fr e e1 e2 e3 r,AccS.heap (λb u z w=>by rw [q0h (λy=>by rw [y,e2] at z;cases z;cases w)];exact z) q⟩
 ·exact h.run G E hp pins s σ H D I ⟨ρ,fr,q⟩
 ·rename_i t pre ds post e
  obtain ⟨a,vp,b,vq,ws,e1,e2,r1,r2,e3,e4,r3⟩:=fr.sl i _ e
  obtain ⟨o,I2⟩:=Inv.freeze I e3
  exact h.run G E hp pins s σ _ D I2 ⟨_,q92 fr e e1 e2 r1 r2 e3 e4 r3,AccS.heap (λb u z w=>by rw [q0h (λy=>by rw [y,e3] at z;cases z;cases w)];exact z) q⟩
 ·exact q.elim
end
def q8y (b:Ro->D->Fl):List D->Ro->Fl
 | [],ρ=>.nx ρ
 | d::ds,ρ=>match b ρ d with
  | .nx ρ'=>q8y b ds ρ'
  | .ct ρ'=>q8y b ds ρ'
  | .bk ρ'=>.nx ρ'
  | o=>o
section
variable {T:Tb} {ib:Bool} {X:Cx} {tg iter:Expr} {body:List Stmt} {pos:Pos} {fb:Ro->Fl}
def TgD (T:Tb) (X:Cx) (tg:Expr) (g:Ro->D->Out Ro):Prop:=∀(E:Value->Shared->Prop),∃tgr:TG,PG (X.wish E) tg tgr/\∀(G H:Hp) (σ:L2.St) (ρ ρ':Ro) (d:D) (v:V) (Q:L2.St->Hp->Prop),FR T X.K G H σ ρ->Rep T X.K H d v->g ρ d=.ok ρ'->(∀σ',FR T X.K G H σ' ρ'->Q σ' H)->tgr v σ H Q
@[simp] def q4G (i:Nat) (ρ:Ro) (d:D):Out Ro:=.ok (ρ.set i (.sh d))
theorem q07 (i:Nat) {x:Str} (hN:X.N.Nodup) (hi:X.N[i]?=some x:=by rfl) (hx:Loc X.env.scope x:=by walk_at "v3") (hf:X.fn x=true∨X.env.scope.names.lookup x=some .local:=by walk_at "v2") (hz:T.me=none∨i≠0:=by walk_at "v1"):TgD T X (.Name x pos) (q4G i):=λE=>
 ⟨_,q18 (X:=X.wish E) (i:=i) hN hi hx hf,λG H σ ρ ρ' d v Q fr r e k=>by cases e;exact k _ (fr.set_sh r hz)⟩
@[simp] def q2R (g:Ro->D->Out Ro) (fb:Ro->Fl) (ρ:Ro) (d:D):Fl:=match g ρ d with
 | .ok ρ'=>fb ρ'
 | _=>.bad
theorem q9C {G H:Hp} {E:Value->Shared->Prop} {D:Ends} {o:Fl} {N:L2.St->Hp->Prop} {k:Ro->Fl}
 (h:AccS T ib X G E H (match o with | .nx ρ'=>k ρ' | .ct ρ'=>k ρ' | .bk ρ'=>.nx ρ' | o=>o) D)
 (hN:∀ρ' σ' H',FR T X.K G H' σ' ρ'->Pers ib H H'->AccS T ib X G E H' (k ρ') D->N σ' H'):AccS T ib X G E H o { D with nx:=N,ct:=N,bk:=D.nx }:=by
 cases o with
 | nx ρ'=>exact fun σ' H' fr p=>hN ρ' σ' H' fr p (AccS.heap p h)
 | ct ρ'=>exact fun σ' H' fr p=>hN ρ' σ' H' fr p (AccS.heap p h)
 | bk ρ'=>exact h
 | rt r=>exact h
 | exc c ρ'=>exact h
 | bad=>exact h
theorem q7J (b:Ro->D->Fl) (d:D) (ds:List D) (ρ:Ro):q8y b (d::ds) ρ=(match b ρ d with | .nx ρ'=>q8y b ds ρ' | .ct ρ'=>q8y b ds ρ' | .bk ρ'=>.nx ρ' | o=>o):=rfl
theorem q9v {g:Ro->D->Out Ro} {G H:Hp} {E:Value->Shared->Prop} {DD:Ends} {N:L2.St->Hp->Prop} {σ:L2.St} {ρ:Ro} {d:D} {ds:List D} {v:V} {tgr:TG} {tb:TS}
 (hg:∀(G H:Hp) (σ:L2.St) (ρ ρ':Ro) (d:D) (v:V) (Q:L2.St->Hp->Prop),FR T X.K G H σ ρ->Rep T X.K H d v->g ρ d=.ok ρ'->(∀σ',FR T X.K G H σ' ρ'->Q σ' H)->tgr v σ H Q)
 (htb:∀DD σ H,tS T ib X G E fb DD σ H->tb DD σ H)
 (fr:FR T X.K G H σ ρ) (r:Rep T X.K H d v) (h:AccS T ib X G E H (q8y (q2R g fb) (d::ds) ρ) DD)
 (hN:∀ρ' σ' H',FR T X.K G H' σ' ρ'->Pers ib H H'->AccS T ib X G E H' (q8y (q2R g fb) ds ρ') DD->N σ' H') :
 tgr v σ H fun σ2 H2=>tb { DD with nx:=N,ct:=N,bk:=DD.nx } σ2 H2:=by
 rw [q7J] at h
 cases e:g ρ d with
 | ok ρ'=>
  have e2:q2R g fb ρ d=fb ρ':=by unfold q2R;rw [e]
  rw [e2] at h
  exact hg G H σ ρ ρ' d v _ fr r e fun σ' fr'=>htb _ _ _ ⟨ρ',fr',q9C h hN⟩
 | exc c=>
  have e2:q2R g fb ρ d=.bad:=by unfold q2R;rw [e]
  rw [e2] at h;exact h.elim
 | bad=>
  have e2:q2R g fb ρ d=.bad:=by unfold q2R;rw [e]
  rw [e2] at h;exact h.elim
def Stb (K:PySem.W.Frag) (G H:Hp) (a:Addr) (vs:List V):Prop:=FzL K H a vs∨G a=some (.lst vs)
theorem Stb.sq {K:PySem.W.Frag} {G H:Hp} {a:Addr} {vs:List V} (h:Stb K G H a vs) (s:Same G H):SqL K H a vs:=by
 rcases h with h | h
 ·exact h.sq
 ·exact SqL.of (s _ _ h)
theorem Stb.pers {K:PySem.W.Frag} {G H H':Hp} {a:Addr} {vs:List V} (h:Stb K G H a vs) (p:Pers ib H H'):Stb K G H' a vs:=by
 rcases h with h | h
 ·exact .inl (p.fz h)
 ·exact .inr h
def tP (T:Tb) (X:Cx) (G:Hp) (E:Value->Shared->Prop) (f:Ro->Out (List D)):TE:=fun σ H Q=>∃ρ,FR T X.K G H σ ρ/\Acc T X E σ H (f ρ) (λds=>∀a vs H',Same H H'->Stb X.K G H' a vs->RepL T X.K H' ds vs->Q (.ref a) H')
structure DP (T:Tb) (X:Cx) (e:Expr) (f:Ro->Out (List D)):Prop where
 mk ::
 run:∀(G:Hp) (E:Value->Shared->Prop),PassesOwn (model X.prog X.w) X.A X.env E->PE (X.wish E) e (tP T X G E f)
theorem DE.dp {e:Expr} {f:Ev} (h:DE T X e f):DP T X e (q1n f):=.mk λG E hp=>
 PE.imp (h.run G E hp) fun σ H Q ⟨ρ,fr,q⟩=>⟨ρ,fr,Acc.mono (Acc.bind q) λd _ hd v H' s1 r=>by
  cases d with
  | lst ds=>
   obtain ⟨a,vs,rfl,e2,r2⟩:=r
   exact hd a vs H' s1 (.inl e2) r2
  | _=>exact hd.elim⟩
@[simp] def j76 (i:Nat) (ρ:Ro):Out (List D):=match ρ[i]? with
 | some (.bo ds)=>.ok ds
 | some (.sh (.lst ds))=>.ok ds
 | _=>.bad
theorem q90 (i:Nat) {x:Str} (hN:X.N[i]?=some x:=by rfl) (hv:Vis X.env.scope x:=by walk_at "v0") (hd:(x==("__debug__" : Str))=false:=by decide)
 (hcd:(x==("__classdict__" : Str))=false:=by decide):DP T X (.Name x pos) (j76 i):=.mk λG E hp=>by
 refine PE.imp (q3b (X:=X.wish E) hN hv hd hcd) fun σ H Q ⟨ρ,fr,h⟩=>?_
 unfold j76 at h
 split at h
 ·rename_i ds e
  obtain ⟨a,vs,e1,e2,r⟩:=fr.sl i _ e
  exact ⟨_,e1,h a vs H (Same.refl H) (.inr e2) r⟩
 ·rename_i ds e
  obtain ⟨v,e1,a,vs,rfl,e2,r⟩:=fr.sl i _ e
  exact ⟨_,e1,h a vs H (Same.refl H) (.inl e2) r⟩
 ·exact h.elim
@[simp] def q2G (fl:Ro->Out (List D)) (g:Ro->D->Out Ro) (fb:Ro->Fl) (ρ:Ro):Fl:=(fl ρ).fl ρ λds=>q8y (q2R g fb) ds ρ
def rgD (lo:Int) (n:Nat):List D:=(List.range n).map λ(k:Nat)=>D.int (lo+(k:Int))
def tN (T:Tb) (X:Cx) (G:Hp) (E:Value->Shared->Prop) (f:Ro->Out (Int×Nat)):TI:=fun σ H R=>∃ρ,FR T X.K G H σ ρ/\Acc T X E σ H (f ρ) (λp=>∀H',Same H H'->R (Itr p.1 p.2) H')
structure DN (T:Tb) (X:Cx) (tg e:Expr) (f:Ro->Out (Int×Nat)):Prop where
 mk ::
 run:∀(G:Hp) (E:Value->Shared->Prop),PassesOwn (model X.prog X.w) X.A X.env E->PI (X.wish E) tg e (tN T X G E f)
theorem PI.imp {X:Cx} {tg e:Expr} {t t':TI} (h:PI X tg e t) (k:∀σ H R,t' σ H R->t σ H R):PI X tg e t':=λpins s σ H R I q=>h pins s σ H R I (k σ H R q)
@[simp] def n1 (fe:Ev) (ρ:Ro):Out (Int×Nat):=(fe ρ).bind λd=>match d with
 | .int i=>if -(2 ^ 62)<=i/\i < 2 ^ 62 then .ok (0,i.toNat) else .bad
 | _=>.bad
@[simp] def n2 (fa fe:Ev) (ρ:Ro):Out (Int×Nat):=(fa ρ).bind λd=>(fe ρ).bind λd'=>match d,d' with
 | .int i,.int j=>if (-(2 ^ 62)<=i/\i < 2 ^ 62)/\-(2 ^ 62)<=j/\j < 2 ^ 62 then .ok (i,(j-i).toNat) else .bad
 | _,_=>.bad
end
section
variable {T:Tb} {X:Cx} {e a b:Expr} {es:List Expr} {pos p:Pos} {fe fa fb:Ev} {fs:Ro->Out (List D)}
@[simp] def q0G (ρ:Ro):Out (List D):=.ok []
@[simp] def q0o (fe:Ev) (fs:Ro->Out (List D)) (ρ:Ro):Out (List D):=(fe ρ).bind λd=>(fs ρ).bind λds=>.ok (d::ds)
theorem q0j:DA T X [] q0G:=.mk λG E hp=>PA.imp q0Y fun σ H Q ⟨ρ,fr,h⟩=>h [] H (Same.refl H) rfl
theorem q0e (ha:DE T X e fe) (hr:DA T X es fs) (hs:starEach (e::es) X.env=(false,eval e X.env)::starEach es X.env:=by exact q0w rfl):DA T X (e::es) (q0o fe fs):=.mk λG E hp=>by
 refine PA.imp (q0C (X:=X.wish E) (ha.run G E hp) (hr.run G E hp) hs) fun σ H Q ⟨ρ,fr,h⟩=>?_
 refine ⟨ρ,fr,Acc.mono (Acc.bind h) λd _ hd v H1 s1 r1=>⟨ρ,fr.mono s1,Acc.mono (Acc.bind (Acc.heap s1 hd)) λds _ hds vs H2 s2 r2=>?_⟩⟩
 exact hds (v::vs) H2 (s1.trans s2) ⟨v,vs,rfl,Rep.mono s2 _ _ r1,r2⟩
def CaD (T:Tb) (X:Cx) (f:Value) (g:List D->Out D):Prop:=∀E:Value->Shared->Prop,∃r:List V->Hp->VK->Prop,CallR (X.wish E) f r /\
 ∀(ds:List D) (vs:List V) (σ:L2.St) (H:Hp) (Q:VK),RepL T X.K H ds vs->Acc T X E σ H (g ds) (kE T X.K H Q)->r vs H Q
@[simp] def eCB (g:List D->Out D) (fs:Ro->Out (List D)) (ρ:Ro):Out D:=(fs ρ).bind g
theorem q7Y {G H:Hp} {E:Value->Shared->Prop} {σ:L2.St} {Q:VK} {g:List D->Out D} {r:List V->Hp->VK->Prop}
 (hg:∀(ds:List D) (vs:List V) (σ:L2.St) (H:Hp) (Q:VK),RepL T X.K H ds vs->Acc T X E σ H (g ds) (kE T X.K H Q)->r vs H Q) {ρ:Ro} (fr:FR T X.K G H σ ρ) (h:Acc T X E σ H (eCB g fs ρ) (kE T X.K H Q)) :
 tCB r (tA T X G E fs) σ H Q:=
 ⟨ρ,fr,Acc.mono (Acc.bind h) λds _ hd vs H1 s1 r1=>hg ds vs σ H1 Q r1 (Acc.mono (Acc.heap s1 hd) λd _ k v H2 s2 r2=>k v H2 (s1.trans s2) r2)⟩
theorem q0s {id:String} {x:Str} {g:List D->Out D} (hc:CaD T X (.builtin id) g) (hg:Gl X x) (hm:X.mg x=none) (hv:bootBuiltins x=some (.builtin id)) (ha:DA T X (e::es) fs) (hn:x≠"__name__":=by decide) (hdb:(x==("__debug__" : Str))=false:=by decide)
 (he:starEach (e::es) X.env=(false,eval e X.env)::starEach es X.env:=by exact q0w rfl) (hpl:(backTo pos (starEach es X.env)).any (·.1)=false:=by exact q0z rfl):DE T X (.Call (.Name x p) (e::es) [] pos) (eCB g fs):=.mk λG E hp=>by
 obtain ⟨r,hr,hg'⟩:=hc E
 exact PE.imp (q2M (X:=X.wish E) hr hg hm hv (ha.run G E hp) hn hdb he hpl) fun σ H Q ⟨ρ,fr,h⟩=>q7Y hg' fr h
theorem q2g {TT:String} {x:Str} {g:List D->Out D} (hc:CaD T X (.type TT) g) (hg:Gl X x) (hm:X.mg x=none) (hv:bootBuiltins x=some (.type TT)) (ha:DA T X (e::es) fs) (hn:x≠"__name__":=by decide) (hdb:(x==("__debug__" : Str))=false:=by decide)
 (he:starEach (e::es) X.env=(false,eval e X.env)::starEach es X.env:=by exact q0w rfl) (hpl:(backTo pos (starEach es X.env)).any (·.1)=false:=by exact q0z rfl):DE T X (.Call (.Name x p) (e::es) [] pos) (eCB g fs):=.mk λG E hp=>by
 obtain ⟨r,hr,hg'⟩:=hc E
 exact PE.imp (q1K (X:=X.wish E) hr hg hm hv (ha.run G E hp) hn hdb he hpl) fun σ H Q ⟨ρ,fr,h⟩=>q7Y hg' fr h
theorem RepL.one {K:PySem.W.Frag} {H:Hp} {d:D} {vs:List V} (h:RepL T K H [d] vs):∃v,vs=[v]/\Rep T K H d v:=by
 obtain ⟨v,r,rfl,h1,rfl⟩:=h;exact ⟨v,rfl,h1⟩
theorem RepL.two {K:PySem.W.Frag} {H:Hp} {d d':D} {vs:List V} (h:RepL T K H [d,d'] vs):∃v v',vs=[v,v']/\Rep T K H d v/\Rep T K H d' v':=by
 obtain ⟨v,r,rfl,h1,v',r',rfl,h2,rfl⟩:=h;exact ⟨v,v',rfl,h1,h2⟩
@[simp] def j9f:List D->Out D
 | [.int i]=>.ok (.int (if i < 0 then -i else i))
 | _=>.bad
theorem j3w:CaD T X (.builtin "abs") j9f:=λE=>⟨_,q83,λds vs σ H Q r h=>by
 unfold j9f at h
 split at h
 ·rename_i i
  obtain ⟨v,rfl,rv⟩:=r.one
  exact ⟨i,by rw [show v=V.int i from rv],h _ H (Same.refl H) rfl⟩
 ·exact h.elim⟩
@[simp] def j53:List D->Out D
 | [.int i,.int j]=>.ok (.int (if j < i then j else i))
 | _=>.bad
@[simp] def w0i:List D->Out D
 | [.int i,.int j]=>.ok (.int (if j > i then j else i))
 | _=>.bad
theorem q8m (hc:X.calm=true):CaD T X (.builtin "min") j53:=λE=>⟨_,q6O hc,λds vs σ H Q r h=>by
 unfold j53 at h
 split at h
 ·rename_i i j
  obtain ⟨v,v',rfl,rv,rv'⟩:=r.two
  exact ⟨i,j,by rw [show v=V.int i from rv,show v'=V.int j from rv'],h _ H (Same.refl H) rfl⟩
 ·exact h.elim⟩
theorem j2G (hc:X.calm=true):CaD T X (.builtin "max") w0i:=λE=>⟨_,q6Z hc,λds vs σ H Q r h=>by
 unfold w0i at h
 split at h
 ·rename_i i j
  obtain ⟨v,v',rfl,rv,rv'⟩:=r.two
  exact ⟨i,j,by rw [show v=V.int i from rv,show v'=V.int j from rv'],h _ H (Same.refl H) rfl⟩
 ·exact h.elim⟩
@[simp] def q2E:List D->Out D
 | [.str x]=>if x.length<=1000000 then .ok (.int x.length) else .bad
 | [.tup ds]=>.ok (.int ds.length)
 | [.lst ds]=>.ok (.int ds.length)
 | _=>.bad
theorem q02:CaD T X (.builtin "len") q2E:=λE=>⟨_,q5w,λds vs σ H Q r h=>by
 unfold q2E at h
 split at h
 ·rename_i x
  obtain ⟨v,rfl,rv⟩:=r.one
  by_cases z:x.length<=1000000
  ·rw [if_pos z] at h
   exact ⟨v,x.length,rfl,by rw [show v=V.str x from rv];exact ⟨line6 z,rfl⟩,h _ H (Same.refl H) rfl⟩
  ·rw [if_neg z] at h;exact h.elim
 ·rename_i es
  obtain ⟨v,rfl,a,us,rfl,e,rl⟩:=r.one
  exact ⟨_,us.length,rfl,.inr ⟨us,e,rfl⟩,h _ H (Same.refl H) (by rw [RepL.length _ _ rl];exact rfl)⟩
 ·rename_i es
  obtain ⟨v,rfl,a,us,rfl,e,rl⟩:=r.one
  exact ⟨_,us.length,rfl,.inl ⟨us,e.sq,rfl⟩,h _ H (Same.refl H) (by rw [RepL.length _ _ rl];exact rfl)⟩
 ·exact h.elim⟩
@[simp] def j7O (fl:Ro->Out (List D)) (ρ:Ro):Out D:=(fl ρ).bind λds=>.ok (.int ds.length)
theorem q4X {fl:Ro->Out (List D)} (hg:Gl X "len") (hm:X.mg "len" = none) (hl:DL T X e fl) (he:starEach [e] X.env=[(false,eval e X.env)]:=by rfl):DE T X (.Call (.Name "len" p) [e] [] pos) (j7O fl):=.mk λG E hp=>
 PE.imp (q2M (X:=X.wish E) q5w hg hm rfl (q0C (X:=X.wish E) (hl.run G E hp) q0Y he) (by decide) (by decide) he rfl) fun σ H Q ⟨ρ,fr,h⟩=>⟨ρ,fr,Acc.mono (Acc.bind h) λds _ hd a vs H1 s1 sq r=>
  ⟨_,vs.length,rfl,.inl ⟨vs,sq,rfl⟩,hd _ H1 s1 (by rw [RepL.length _ _ r];exact rfl)⟩⟩
def j6w (T:Tb):D->Value
 | .non=>.type "NoneType"
 | .bl _=>.type "bool"
 | .int _=>.type "int"
 | .str _=>.type "str"
 | .tup _=>.type "tuple"
 | .lst _=>.type "list"
 | .ins c _=>.ref (T.ca c)
 | .exc c=>.ref (T.ca c)
structure w1b (K:PySem.W.Frag) (C:Addr):Prop where
 cl:Cls K C
 ha:PySem.W.findIn K (.ref C) "__class__" = some (some (.builtin "object.__class__"))
 hn:PySem.W.specialIn K (.builtin "object.__class__") "__get__" = some (some (.builtin "getset_descriptor.__get__"))
 htk:PySem.W.takesIn K (.builtin "object.__class__")=some true
 hm:PySem.W.mroIn K C (.type "object")=some true
def q4k (T:Tb) (K:PySem.W.Frag) (cls:Value) (g:D->Out Bool):Prop:=∀d b,g d=.ok b->PySem.W.kitOne K (j6w T d) cls=some b/\(∀c ds,d=.ins c ds->w1b K (T.ca c))/\∀c,d=.exc c->q9m K (T.ca c)
theorem j1y {pins:List (Addr×Obj)} {σ:L2.St} {H:Hp} {s:Shared} {A:Around} {E:Value->Shared->Prop} {Q:Value->Shared->Prop} {cls u:Value} {d:D} {v:V} {k:Bool} (I:Inv X pins σ H s) (rv:RelV v u) (r:Rep T X.K H d v)
 (hk:PySem.W.kitOne X.K (j6w T d) cls=some k) (hi:∀c ds,d=.ins c ds->w1b X.K (T.ca c)) (hx:∀c,d=.exc c->q9m X.K (T.ca c)) (h:∀tk,Q (.bool k) { s with toks:=tk }):wpAny (model X.prog X.w) A (call (.builtin "isinstance") [u,cls]) Q E s:=by
 cases d with
 | non=>cases r;exact q1Q I rv .non hk h
 | bl y=>cases r;exact q1Q I rv (.bl y) hk h
 | int i=>cases r;exact q1Q I rv (.int i) hk h
 | str y=>cases r;exact q1Q I rv (.str y) hk h
 | tup ds=>
  obtain ⟨a,vs,rfl,e,_⟩:=r
  cases (show u=Value.ref a from rv)
  obtain ⟨its,_,⟨o,h1,h2,_⟩,_⟩:=I.tuple e
  exact PySem.W.kia_one PySem.W.kitx_tuple I.kIn ⟨o,h1,h2⟩ hk (λz=>nomatch z) h
 | lst ds=>
  obtain ⟨a,vs,rfl,e,_⟩:=r
  cases (show u=Value.ref a from rv)
  obtain ⟨its,_,⟨o,n,h1,h2,_⟩,_⟩:=I.list e.sq
  exact PySem.W.kia_one PySem.W.kitx_list I.kIn ⟨o,h1,h2⟩ hk (λz=>nomatch z) h
 | ins c ds=>
  obtain ⟨a,dx,fs,rfl,e,_⟩:=r
  obtain ⟨cl,ha,hn,htk,hm⟩:=hi c ds rfl
  exact q1Q I rv (.ins e cl ha hn htk hm) hk h
 | exc c=>
  obtain ⟨a,o,rfl,e1,e2,e3,e4⟩:=r
  cases (show u=Value.ref a from rv)
  obtain ⟨ho,_⟩:=(show ObjOk X.prog X.w H s.heap a (.frz o _) from I.hok a _ e1)
  exact PySem.W.kia_one (q9r (hx c rfl)) I.kIn ⟨o,ho,e2,e3,by rw [e4];trivial⟩ hk (λz=>nomatch z) h
@[simp] def q2H (g:D->Out Bool) (fe:Ev) (ρ:Ro):Out D:=(fe ρ).bind λd=>(g d).bind λb=>.ok (.bl b)
theorem j0m {c:Str} {cv:V} {clsv:Value} {g:D->Out Bool} {p2:Pos} (hg:Gl X "isinstance") (hm:X.mg "isinstance" = none) (ha:DE T X e fe) (hc:∀E,PE (X.wish E) (.Name c p2) (tC cv)) (rc:∀u,RelV cv u->u=clsv) (hi:q4k T X.K clsv g)
 (hng:∀d cc,g d≠.exc cc) (hs1:starEach [e,.Name c p2] X.env=(false,eval e X.env)::starEach [.Name c p2] X.env:=by rfl):DE T X (.Call (.Name "isinstance" p) [e,.Name c p2] [] pos) (q2H g fe):=.mk λG E hp=>by
 rintro pins s σ H Q I ⟨ρ,fr,h⟩
 refine wpAny_Call_Name_kw (q1l (X:=X.wish E) I hg hm (u:=.builtin "isinstance") rfl ?_)
 refine PyProof.Rows.callWith_builtin1 (thn ((q0C (X:=X.wish E) (ha.run G E hp) (q0C (X:=X.wish E) (hc E) q0Y rfl) hs1) pos pins s σ H (λvs H1=>∃d v,vs=[v,cv]/\Same H H1/\Rep T X.K H1 d v/\Acc T X E σ H ((g d).bind λb=>.ok (.bl b)) (kE T X.K H Q)) I ⟨ρ,fr,Acc.mono (Acc.bind h) λd _ hd v H1 s1 r1=>⟨d,v,rfl,s1,r1,hd⟩⟩) λus s1 ⟨vs,H1,I1,rvs,d,v,ev,sm,rd,hd⟩=>?_) hs1 rfl
 subst ev
 obtain ⟨u,u',rfl,r1,r2⟩:=Vals.two rvs
 obtain rfl:=rc u' r2
 cases e1:g d with
 | ok k=>
  rw [e1] at hd
  obtain ⟨z1,z2,z3⟩:=hi d k e1
  exact j1y (X:=X.wish E) I1 r1 rd z1 z2 z3 λtk=>⟨.bl k,H1,I1.tok _,rfl,hd _ H1 sm rfl⟩
 | exc cc=>exact absurd e1 (hng d cc)
 | bad=>rw [e1] at hd;exact hd.elim
@[simp] def atD (ds:List D) (i:Int):Out D:=match atI ds i with
 | some d=>.ok d
 | none=>.bad
theorem RepL.at {K:PySem.W.Frag} {H:Hp} {ds:List D} {vs:List V} {i:Int} {d:D} (r:RepL T K H ds vs) (h:atI ds i=some d):∃v,atI vs i=some v/\Rep T K H d v:=by
 obtain ⟨j,e1,e2,e3,e4,e5⟩:=q3H h
 obtain ⟨v,e6,e7⟩:=RepL.get _ _ _ _ r e2
 refine ⟨v,?_,e7⟩
 have hl:=RepL.length _ _ r
 unfold atI at h ⊢
 rw [hl]
 cases z:ixN ds.length i with
 | none=>rw [z] at h;cases h
 | some k=>
  have:k=j:=by
   have:=(q8h z).1
   rw [e1] at this;exact (Option.some.inj this).symm
  subst this
  exact e6
@[simp] def ixD:D->D->Out D
 | .tup ds,.int i=>atD ds i
 | .lst ds,.int i=>atD ds i
 | .str z,.int i=>if z.length<=1000000 then (match atI z.cps.toList i with | some c=>.ok (.str ⟨#[c]⟩) | none=>.bad) else .bad
 | _,_=>.bad
theorem q1S (ha:DE T X a fa) (hb:DE T X b fb) (hs:q4V b:=by exact λ_ _=>rfl):DE T X (.Subscript a b pos) (e2 ixD fa fb):=.mk λG E hp=>by
 refine PE.imp (j6h (X:=X.wish E) (IxR.or (IxR.or q7z j2O) j3n) (ha.run G E hp) (hb.run G E hp) hs) fun σ H Q ⟨ρ,fr,h⟩=>q5F (T:=T) (g:=ixD) (λdx dy x y σ H Q rx ry q=>?_) fr h
 have key:∀(ds:List D) (i:Int) (vs:List V),RepL T X.K H ds vs->Acc T X E σ H (atD ds i) (kE T X.K H Q)->∃v,atI vs i=some v/\Q v H:=λds i vs r q=>by
  unfold atD at q
  split at q
  ·rename_i d e
   obtain ⟨v,e1,rd⟩:=r.at e
   exact ⟨v,e1,q v H (Same.refl H) rd⟩
  ·exact q.elim
 cases dy with
 | int i=>
  cases dx with
  | tup ds=>
   obtain ⟨a,vs,rfl,sq,r⟩:=rx
   obtain ⟨v,e1,q⟩:=key ds i vs r q
   exact .inl (.inr ⟨a,vs,i,v,rfl,ry,sq,e1,q⟩)
  | lst ds=>
   obtain ⟨a,vs,rfl,sq,r⟩:=rx
   obtain ⟨v,e1,q⟩:=key ds i vs r q
   exact .inl (.inl ⟨a,vs,i,v,rfl,ry,sq.sq,e1,q⟩)
  | str z=>
   have q':Acc T X E σ H (if z.length<=1000000 then (match atI z.cps.toList i with | some c=>.ok (.str ⟨#[c]⟩) | none=>.bad) else .bad) (kE T X.K H Q):=q
   by_cases hz:z.length<=1000000
   ·rw [if_pos hz] at q'
    split at q'
    ·rename_i c e
     exact .inr ⟨z,i,c,rx,ry,line6 hz,e,q' _ H (Same.refl H) rfl⟩
    ·exact q'.elim
   ·rw [if_neg hz] at q';exact q'.elim
  | _=>exact q.elim
 | _=>first | exact q.elim | (cases dx<;>exact q.elim)
@[simp] def w1e (fl:Ro->Out (List D)) (fb:Ev) (ρ:Ro):Out D:=(fl ρ).bind λds=>(fb ρ).bind λd=>match d with
 | .int i=>atD ds i
 | _=>.bad
theorem j3R {fl:Ro->Out (List D)} (ha:DL T X a fl) (hb:DE T X b fb) (hs:q4V b:=by exact λ_ _=>rfl):DE T X (.Subscript a b pos) (w1e fl fb):=.mk λG E hp=>by
 refine PE.imp (j6h (X:=X.wish E) q7z (ha.run G E hp) (hb.run G E hp) hs) fun σ H Q ⟨ρ,fr,h⟩=>⟨ρ,fr,Acc.mono (Acc.bind h) λds _ hd a vs H1 s1 sq r=>⟨ρ,fr.mono s1,Acc.mono (Acc.bind (Acc.heap s1 hd)) λd _ hd2 v H2 s2 r2=>?_⟩⟩
 cases d with
 | int i=>
  have hd3:Acc T X E σ H1 (atD ds i) (kE T X.K H Q):=hd2
  unfold atD at hd3
  split at hd3
  ·rename_i d e
   obtain ⟨w,e1,rd⟩:=(RepL.mono s2 _ _ r).at e
   exact ⟨a,vs,i,w,rfl,r2,s2.seq sq,e1,hd3 w H2 (s1.trans s2) rd⟩
  ·exact hd3.elim
 | _=>exact hd2.elim
@[simp] def j2z (fs:Ro->Out (List D)) (ρ:Ro):Out D:=(fs ρ).bind λds=>if ds.length<=1000000 then .ok (.tup ds) else .bad
theorem q4q {x1} (h:DA T X es fs):DE T X (.Tuple es x1 pos) (j2z fs):=.mk λG E hp=>
 PE.imp (j4t (X:=X.wish E) (h.run G E hp)) fun σ H Q ⟨ρ,fr,q⟩=>⟨ρ,fr,Acc.mono (Acc.bind q) λds _ hd vs H1 s1 r=>by
  have hl:=RepL.length _ _ r
  by_cases z:ds.length<=1000000
  ·rw [if_pos z] at hd
   exact ⟨by rw [hl];exact line6 z,λp hp'=>hd _ _ (s1.trans (q0A hp')) ⟨p,vs,rfl,SqT.of q0p,RepL.mono (q0A hp') _ _ r⟩⟩
  ·rw [if_neg z] at hd;exact hd.elim⟩
@[simp] def q0L (fs:Ro->Out (List D)) (ρ:Ro):Out (List D):=(fs ρ).bind λds=>if ds.length<=1000000 then .ok ds else .bad
theorem q0y (h:DA T X es fs):DF T X (.List es pos) (q0L fs):=.mk λG E hp=>
 PE.imp (j7g (X:=X.wish E) (h.run G E hp)) fun σ H Q ⟨ρ,fr,q⟩=>⟨ρ,fr,Acc.mono (Acc.bind q) λds _ hd vs H1 s1 r=>by
  have hl:=RepL.length _ _ r
  by_cases z:ds.length<=1000000
  ·rw [if_pos z] at hd
   exact ⟨by rw [hl];exact line6 z,λp hp'=>hd p vs _ (s1.trans (q0A hp')) (s1.free hp') q0p (RepL.mono (q0A hp') _ _ r)⟩
  ·rw [if_neg z] at hd;exact hd.elim⟩
@[simp] def w1x:D->D->Out D
 | .int i,.int j=>.ok (.int (i+j))
 | .str x,.str y=>if x.length+y.length<=1000000 then .ok (.str (x++y)) else .bad
 | _,_=>.bad
theorem q1c:OpD T X (binaryOp .Add) w1x:=λE=>⟨_,OpR.or j3p q58,λdx dy x y σ H Q rx ry q=>by
 cases dx with
 | int i=>
  cases dy with
  | int j=>exact .inl ⟨i,j,rx,ry,q _ H (Same.refl H) rfl⟩
  | _=>exact q.elim
 | str u=>
  cases dy with
  | str v=>
   have q':Acc T X E σ H (if u.length+v.length<=1000000 then .ok (.str (u++v)) else .bad) (kE T X.K H Q):=q
   by_cases z:u.length+v.length<=1000000
   ·rw [if_pos z] at q'
    exact .inr ⟨u,v,rx,ry,line6 z,q' _ H (Same.refl H) rfl⟩
   ·rw [if_neg z] at q';exact q'.elim
  | _=>exact q.elim
 | _=>first | exact q.elim | (cases dy<;>exact q.elim)⟩
@[simp] def eqS:D->D->Out Bool
 | .int i,.int j=>.ok (decide (i=j))
 | .bl i,.bl j=>.ok (decide (i=j))
 | .str i,.str j=>.ok (decide (i=j))
 | .non,.non=>.ok true
 | _,_=>.bad
@[simp] def bD (neg:Bool) (o:Out Bool):Out D:=o.bind λb=>.ok (.bl (if neg then !b else b))
theorem j0v (neg:Bool) (op:CmpOp) (ho:∀E,OpR (X.wish E) (compareOp op) (λx y H Q=>scal x y=true/\Q (.bl (if neg then !decide (x=y) else decide (x=y))) H)):OpD T X (compareOp op) (λa b=>bD neg (eqS a b)):=λE=>⟨_,ho E,λdx dy x y σ H Q rx ry q=>by
 have key:∀(k:Bool),scal x y=true->decide (x=y)=k->eqS dx dy=.ok k->scal x y=true/\Q (.bl (if neg then !decide (x=y) else decide (x=y))) H:=λk h1 h2 h3=>by
  have q':Acc T X E σ H (bD neg (eqS dx dy)) (kE T X.K H Q):=q
  rw [h3] at q'
  refine ⟨h1,?_⟩
  rw [h2]
  exact q' _ H (Same.refl H) rfl
 cases dx with
 | int i=>
  cases dy with
  | int j=>cases rx;cases ry;exact key _ rfl (by simp) rfl
  | _=>exact q.elim
 | bl i=>
  cases dy with
  | bl j=>cases rx;cases ry;exact key _ rfl (by simp) rfl
  | _=>exact q.elim
 | str i=>
  cases dy with
  | str j=>cases rx;cases ry;exact key _ rfl (by simp) rfl
  | _=>exact q.elim
 | non=>
  cases dy with
  | non=>cases rx;cases ry;exact key true rfl (by simp) rfl
  | _=>exact q.elim
 | _=>first | exact q.elim | (cases dy<;>exact q.elim)⟩
theorem q1m:OpD T X (compareOp .Eq) (λa b=>bD false (eqS a b)):=j0v false .Eq λE=>w0B
theorem q2y:OpD T X (compareOp .NotEq) (λa b=>bD true (eqS a b)):=j0v true .NotEq λE=>j9L
end
section
variable {T:Tb} {X:Cx} {e:Expr} {pos p:Pos} {fe:Ev}
theorem q3Q {c:Str} {t:String} {g:D->Out Bool} {p2:Pos} (hg:Gl X "isinstance") (hm:X.mg "isinstance" = none) (ha:DE T X e fe) (hgc:Gl X c) (hmc:X.mg c=none) (hv:bootBuiltins c=some (.type t)) (hi:q4k T X.K (.type t) g)
 (hng:∀d cc,g d≠.exc cc) (hs1:starEach [e,.Name c p2] X.env=(false,eval e X.env)::starEach [.Name c p2] X.env:=by rfl) (hn:c≠"__name__":=by decide) (hd:(c==("__debug__" : Str))=false:=by decide):DE T X (.Call (.Name "isinstance" p) [e,.Name c p2] [] pos) (q2H g fe):=
 j0m (cv:=.ty t) (clsv:=.type t) hg hm ha (λE=>j1t (X:=X.wish E) hgc hmc hv rfl hn hd) (λu r=>r) hi hng hs1
@[simp] def j1E:D->Out Bool
 | .int _=>.ok true
 | .bl _=>.ok true
 | .non=>.ok false
 | .str _=>.ok false
 | .tup _=>.ok false
 | .lst _=>.ok false
 | _=>.bad
@[simp] def q8o:D->Out Bool
 | .bl _=>.ok true
 | .int _=>.ok false
 | .non=>.ok false
 | .str _=>.ok false
 | .tup _=>.ok false
 | .lst _=>.ok false
 | _=>.bad
@[simp] def q7q:D->Out Bool
 | .lst _=>.ok true
 | .bl _=>.ok false
 | .int _=>.ok false
 | .non=>.ok false
 | .str _=>.ok false
 | .tup _=>.ok false
 | _=>.bad
theorem j0R {K:PySem.W.Frag}:q4k T K (.type "int") j1E:=λd b h=>by
 cases d<;>first | (cases h;exact ⟨(by with_unfolding_all rfl),(λ_ _ z=>by cases z),(λ_ z=>by cases z)⟩) | (cases h)
theorem q9x {K:PySem.W.Frag}:q4k T K (.type "bool") q8o:=λd b h=>by
 cases d<;>first | (cases h;exact ⟨(by with_unfolding_all rfl),(λ_ _ z=>by cases z),(λ_ z=>by cases z)⟩) | (cases h)
theorem q9c {K:PySem.W.Frag}:q4k T K (.type "list") q7q:=λd b h=>by
 cases d<;>first | (cases h;exact ⟨(by with_unfolding_all rfl),(λ_ _ z=>by cases z),(λ_ z=>by cases z)⟩) | (cases h)
theorem q6x (d:D) (c:Nat):j1E d≠.exc c:=by cases d<;>(intro h;cases h)
theorem q5b (d:D) (c:Nat):q8o d≠.exc c:=by cases d<;>(intro h;cases h)
theorem q5f (d:D) (c:Nat):q7q d≠.exc c:=by cases d<;>(intro h;cases h)
end
theorem q76 {a:Int} (h:a.natAbs.log2 < 1920):(Str.ofString (toString a)).length<=1921:=by
 have e:=int_text_length_le (k:=1920) (by decide) h
 rw [PySem.ofString_length];exact e
@[simp] def q3c:D->Out Str
 | .int i=>if i.natAbs.log2 < 1920 then .ok (toString i) else .bad
 | .str x=>if x.length<=200000 then .ok x else .bad
 | _=>.bad
@[simp] def q6z:D->Out Str
 | .int i=>if i.natAbs.log2 < 1920 then .ok (toString i) else .bad
 | .str x=>if (reprText x).length<=200000 then .ok (reprText x) else .bad
 | _=>.bad
section
variable {T:Tb} {X:Cx} {e v:Expr} {es:List Expr} {pos p:Pos} {fe:Ev} {fs:Ro->Option (List Str)}
theorem j1l {M:Program} {w:World} {A:Around} {E:Value->Shared->Prop} {pins:List (Addr×Obj)} {σ:L2.St} {H:Hp} {s:Shared} {d:D} {x:V} {u:Value} {y:Str} {Q:Value->Shared->Prop} (r:Rep T X.K H d x) (rv:RelV x u) (e:q3c d=.ok y) (k:∀t tk,y.length<=200000->Q (.str y t) { s with toks:=tk }) :
 wpAny (model M w) A (formatField u Str.empty) Q E s:=by
 cases d with
 | int i=>
  obtain rfl:x=V.int i:=r
  obtain ⟨t,rfl⟩:=rv
  have e':(if i.natAbs.log2 < 1920 then Out.ok (toString i:Str) else .bad)=.ok y:=e
  by_cases z:i.natAbs.log2 < 1920
  ·rw [if_pos z] at e'
   cases e'
   exact formatField_int_small z (k _ _ (by have:=q76 z;omega))
  ·rw [if_neg z] at e';cases e'
 | str z=>
  obtain rfl:x=V.str z:=r
  obtain ⟨t,rfl⟩:=rv
  have e':(if z.length<=200000 then Out.ok z else .bad)=.ok y:=e
  by_cases h:z.length<=200000
  ·rw [if_pos h] at e'
   cases e'
   exact formatField_str (λt' tk=>k t' tk h) (by rw [sizeLine_eq];omega)
  ·rw [if_neg h] at e';cases e'
 | _=>cases e
theorem q9o {M:Program} {w:World} {A:Around} {E:Value->Shared->Prop} {σ:L2.St} {H:Hp} {s:Shared} {d:D} {x:V} {u:Value} {y:Str} {Q:Value->Shared->Prop} (r:Rep T X.K H d x) (rv:RelV x u) (e:q6z d=.ok y) (k:∀t tk,y.length<=200000->Q (.str y t) { s with toks:=tk }) :
 wpAny (model M w) A (pyReprObj u) (λr s₂=>wpAny (model M w) A (formatField r Str.empty) Q E s₂) E s:=by
 have fin:∀(y:Str) (t:Tok) (tk:Nat),y.length<=200000->(∀t tk,y.length<=200000->Q (.str y t) { s with toks:=tk })->wpAny (model M w) A (formatField (.str y t) Str.empty) Q E { s with toks:=tk }:=λy t tk hy k=>formatField_str (λt' tk'=>k t' tk' hy) (by rw [sizeLine_eq];omega)
 cases d with
 | int i=>
  obtain rfl:x=V.int i:=r
  obtain ⟨t,rfl⟩:=rv
  have e':(if i.natAbs.log2 < 1920 then Out.ok (toString i:Str) else .bad)=.ok y:=e
  by_cases z:i.natAbs.log2 < 1920
  ·rw [if_pos z] at e'
   cases e'
   exact pyReprObj_int z (fin _ _ _ (by have:=q76 z;omega) k)
  ·rw [if_neg z] at e';cases e'
 | str z=>
  obtain rfl:x=V.str z:=r
  obtain ⟨t,rfl⟩:=rv
  have e':(if (reprText z).length<=200000 then Out.ok (reprText z) else .bad)=.ok y:=e
  by_cases h:(reprText z).length<=200000
  ·rw [if_pos h] at e'
   cases e'
   exact pyReprObj_str (fin _ _ _ h k) (by rw [sizeLine_eq];omega)
  ·rw [if_neg h] at e';cases e'
 | _=>cases e
structure DJ (T:Tb) (X:Cx) (es:List Expr) (f:Ro->Option (List Str)):Prop where
 mk ::
 run:∀(G:Hp) (E:Value->Shared->Prop),PassesOwn (model X.prog X.w) X.A X.env E->∀(pins:List (Addr×Obj)) (s:Shared) (σ:L2.St) (H:Hp) (acc:Str) (Q:Str->Shared->Prop),Inv (X.wish E) pins σ H s ->
 (∃ρ xs,FR T X.K G H σ ρ/\f ρ=some xs/\acc.length+200000*xs.length<=sizeLine/\∀H' s',Same H H'->Inv (X.wish E) pins σ H' s'->(xs.foldl (·++·) acc).length<=acc.length+200000*xs.length->Q (xs.foldl (·++·) acc) s') ->
 Joins (model X.prog X.w) X.A E (evalEach es X.env) acc Q s
@[simp] def jN0 (ρ:Ro):Option (List Str):=some []
@[simp] def q2F (x:Str) (fs:Ro->Option (List Str)) (ρ:Ro):Option (List Str):=if x.length<=200000 then (match fs ρ with | some xs=>some (x::xs) | none=>none) else none
@[simp] def q2m (g:D->Out Str) (fe:Ev) (fs:Ro->Option (List Str)) (ρ:Ro):Option (List Str):=match (fe ρ).bind g with
 | .ok x=>(match fs ρ with | some xs=>some (x::xs) | none=>none)
 | _=>none
theorem q1z:DJ T X [] jN0:=.mk λG E hp pins s σ H acc Q I ⟨ρ,xs,fr,e,_,h⟩=>by
 cases e
 exact h H s (Same.refl H) I (by simp)
theorem q3X {G:Hp} {E:Value->Shared->Prop} (hp:PassesOwn (model X.prog X.w) X.A X.env E) {pins:List (Addr×Obj)} {s:Shared} {σ:L2.St} {H H1:Hp} {acc x:Str} {Q:Str->Shared->Prop} {t:Tok} {ρ:Ro} {xs:List Str} (hr:DJ T X es fs) (I:Inv (X.wish E) pins σ H1 s) (fr:FR T X.K G H1 σ ρ) (s1:Same H H1) (hx:x.length<=200000)
 (ef:fs ρ=some xs) (z:acc.length+200000*(x::xs).length<=sizeLine) (k:∀H' s',Same H H'->Inv (X.wish E) pins σ H' s'->((x::xs).foldl (·++·) acc).length<=acc.length+200000*(x::xs).length->Q ((x::xs).foldl (·++·) acc) s') :
 ∃y t',(Value.str x t)=.str y t'/\(acc++y).length<=sizeLine/\Joins (model X.prog X.w) X.A E (evalEach es X.env) (acc++y) Q s:=by
 have hl:(acc++x).length=acc.length+x.length:=strLen_append acc x
 rw [List.length_cons] at z k
 refine ⟨x,t,rfl,by rw [hl];omega,hr.run G E hp pins s σ H1 (acc++x) Q I ⟨ρ,xs,fr,ef,by rw [hl];omega,λH' s' s2 I' hz=>?_⟩⟩
 have hz':(List.foldl (·++·) acc (x::xs)).length<=acc.length+200000*(xs.length+1):=by
  rw [List.foldl_cons];rw [hl] at hz;omega
 exact k H' s' (s1.trans s2) I' hz'
theorem q01 {x:Str} {j:Nat} (hr:DJ T X es fs):DJ T X (.Constant (.str x) j pos::es) (q2F x fs):=.mk λG E hp pins s σ H acc Q I ⟨ρ,ys,fr,e,z,k⟩=>by
 simp only [q2F] at e
 by_cases hx:x.length<=200000
 ·rw [if_pos hx] at e
  cases ef:fs ρ with
  | none=>rw [ef] at e;cases e
  | some xs=>
   rw [ef] at e
   cases e
   exact Calls.Constant_str (q3X hp hr (I.tok _) fr (Same.refl H) hx ef z k)
 ·rw [if_neg hx] at e;cases e
theorem q5W {g:D->Out Str} {ρ:Ro} {ys:List Str} (e:q2m g fe fs ρ=some ys):∃d x xs,fe ρ=.ok d/\g d=.ok x/\fs ρ=some xs/\ys=x::xs:=by
 simp only [q2m] at e
 cases ed:fe ρ with
 | ok d=>
  rw [ed] at e
  cases eg:g d with
  | ok x=>
   simp only [Out.ok_bind,eg] at e
   cases ef:fs ρ with
   | some xs=>rw [ef] at e;cases e;exact ⟨d,x,xs,rfl,eg,rfl,rfl⟩
   | none=>rw [ef] at e;cases e
  | exc c=>simp only [Out.ok_bind,eg] at e;cases e
  | bad=>simp only [Out.ok_bind,eg] at e;cases e
 | exc c=>rw [ed] at e;cases e
 | bad=>rw [ed] at e;cases e
theorem q08 (he:DE T X v fe) (hr:DJ T X es fs):DJ T X (.FormattedValue v (-1) none pos::es) (q2m q3c fe fs):=.mk λG E hp pins s σ H acc Q I ⟨ρ,ys,fr,e,z,k⟩=>by
 obtain ⟨d,x,xs,ed,eg,ef,rfl⟩:=q5W e
 refine FormattedValue_plain (thn (he.run G E hp pins s σ H (λw H1=>Same H H1/\Rep T X.K H1 d w) I ⟨ρ,fr,?_⟩) λu s1 ⟨w,H1,I1,rv,sm,rd⟩=>?_)
 ·rw [ed];exact λw H1 sm rd=>⟨sm,rd⟩
 ·exact j1l (X:=X) (pins:=pins) (σ:=σ) rd rv eg λt tk hx=>q3X hp hr (I1.tok _) (fr.mono sm) sm hx ef z k
theorem q3y (he:DE T X v fe) (hr:DJ T X es fs):DJ T X (.FormattedValue v 114 none pos::es) (q2m q6z fe fs):=.mk λG E hp pins s σ H acc Q I ⟨ρ,ys,fr,e,z,k⟩=>by
 obtain ⟨d,x,xs,ed,eg,ef,rfl⟩:=q5W e
 refine wpAny_FormattedValue_repr (thn (he.run G E hp pins s σ H (λw H1=>Same H H1/\Rep T X.K H1 d w) I ⟨ρ,fr,?_⟩) λu s1 ⟨w,H1,I1,rv,sm,rd⟩=>?_)
 ·rw [ed];exact λw H1 sm rd=>⟨sm,rd⟩
 ·exact q9o (X:=X) (σ:=σ) rd rv eg λt tk hx=>q3X hp hr (I1.tok _) (fr.mono sm) sm hx ef z k
@[simp] def eJ (fs:Ro->Option (List Str)) (ρ:Ro):Out D:=match fs ρ with
 | some xs=>if xs.length<=20 then .ok (.str (xs.foldl (·++·) Str.empty)) else .bad
 | none=>.bad
theorem q1h {v1 v2:Expr} (h:DJ T X (v1::v2::es) fs):DE T X (.JoinedStr (v1::v2::es) pos) (eJ fs):=.mk λG E hp=>by
 rintro pins s σ H Q I ⟨ρ,fr,q⟩
 simp only [eJ] at q
 cases ef:fs ρ with
 | none=>rw [ef] at q;exact q.elim
 | some xs=>
  rw [ef] at q
  by_cases hx:xs.length<=20
  ·simp only [if_pos hx] at q
   refine wpAny_JoinedStr (h.run G E hp pins s σ H Str.empty _ I ⟨ρ,xs,fr,ef,by rw [sizeLine_eq];show 0+_<=_;omega,λH' s' sm I' hz=>⟨?_,?_⟩⟩)
   ·have z0:Str.empty.length=0:=rfl
    rw [sizeLine_eq];omega
   ·exact ⟨.str _,H',I'.tok _,⟨_,rfl⟩,q _ H' sm rfl⟩
  ·simp only [if_neg hx] at q;exact q.elim
@[simp] def j5N:List D->Out D
 | [.int i]=>if i.natAbs.log2 < 1920 then .ok (.str (toString i)) else .bad
 | _=>.bad
theorem q7t:CaD T X (.type "str") j5N:=λE=>⟨_,q4g,λds vs σ H Q r h=>by
 unfold j5N at h
 split at h
 ·rename_i i
  obtain ⟨v,rfl,rv⟩:=r.one
  by_cases z:i.natAbs.log2 < 1920
  ·rw [if_pos z] at h
   exact ⟨i,by rw [show v=V.int i from rv],z,h _ H (Same.refl H) rfl⟩
  ·rw [if_neg z] at h;exact h.elim
 ·exact h.elim⟩
end
abbrev j5X:List Value:=[.type "ValueError",.type "Exception",.type "BaseException",.type "object"]
def q3d (K:PySem.W.Frag) (C:Addr):Prop:=PySem.W.excIn K C j5X "ValueError.__new__" = true
theorem j14 {K:PySem.W.Frag} {h:Heap} {C:Addr} (X:K.In h) (q:q3d K C) :
 ∃bm N nm qn bs hd sn sub ab col dd k0 k1 k2 k3 k5 mN,h.get? C=some (excClassObj nm qn C N bs bm hd sn sub ab col dd k0 k1 k2 k3 k5 "ValueError.__new__")/\h.Ns N mN/\mN "__init__" = none/\OwnTail h j5X bm:=by
 have q2:=q
 unfold q3d PySem.W.excIn at q2
 split at q2
 ·rename_i dd cd sl lk
  split at q2
  ·rename_i C2 bm k0 k1 k2 k3 n k5 em es
   simp only [Bool.and_eq_true,beq_iff_eq,Bool.not_eq_true'] at q2
   obtain ⟨⟨⟨⟨⟨eC,en⟩,nd⟩,tl⟩,okN⟩,ni⟩:=q2
   subst eC en
   cases cd with
   | mk nm bs mro ns qn hd sn sub ab col del=>
    simp only at em nd okN ni
    subst em nd
    have e3:sl=#[k0,k1,k2,k3,some (.builtin "ValueError.__new__"),k5]:=Array.toList_inj.mp es
    subst e3
    exact ⟨bm,ns,nm,qn,bs,hd,sn,sub,ab,col,dd,k0,k1,k2,k3,k5,_,X _ _ lk,.of_isNs (PySem.W.isNs_of_in X okN),PySem.W.nsMap_none_of_in X okN ni,PySem.W.tail_of_in X tl⟩
  ·cases q2
 ·cases q2
theorem q4S {X:Cx} {pins:List (Addr×Obj)} {σ:L2.St} {H:Hp} {s:Shared} (I:Inv X pins σ H s) {b:Addr} (hb:s.heap.get? b=none):Free X pins b:=by
 refine ⟨?_,λz=>?_,λx cc e z=>?_,λq hq z=>?_⟩
 ·by_cases hx:b∈X.ex
  ·exact .inl hx
  ·refine .inr ?_
   cases q:X.s₀.heap.get? b with
   | none=>rfl
   | some o=>
    obtain ⟨o',e⟩:=I.base.there b o q hx
    rw [hb] at e;cases e
 ·obtain ⟨m,⟨o,_,_,ho,_⟩,_⟩:=I.loc
  rw [<-z,hb] at ho;cases ho
 ·obtain ⟨v,o,ho,_⟩:=I.cell x cc e
  rw [z,hb] at ho;cases ho
 ·obtain ⟨e,_⟩:=I.pin q hq
  rw [z,hb] at e;cases e
section
variable {T:Tb} {ib:Bool} {X:Cx} {e:Expr} {es:List Expr} {pos np cpos:Pos} {fe:Ev} {fs:Ro->Out (List D)} {x:Str} {c:Nat}
@[simp] def q1f (c:Nat) (fs:Ro->Out (List D)) (ρ:Ro):Fl:=(fs ρ).fl ρ λ_=>.exc c ρ
theorem q0R (hc:X.calm=true) (hx:q3d X.K (T.ca c)) (hg:Gl X x) (hm:X.mg x=some (.ref (T.ca c))) (ha:DA T X (e::es) fs) (hsh:∀ρ ds,fs ρ=.ok ds->ds.length<=1000) (hdb:(x==("__debug__" : Str))=false:=by decide)
 (he:starEach (e::es) X.env=(false,eval e X.env)::starEach es X.env:=by exact q0w rfl) (hpl:(backTo cpos (starEach (e::es) X.env)).any (·.1)=false:=by exact q0z rfl):DS T ib X (.Raise (some (.Call (.Name x np) (e::es) [] cpos)) none pos) (q1f c fs):=.mk λG E hp=>by
 rintro pins s σ H D I ⟨ρ,fr,h⟩
 have IX:Inv X pins σ H s:=I.unwish
 obtain ⟨bm,N,nm,qn,bs,hd,sn,sub,ab,col,dd,k0,k1,k2,k3,k5,mN,hC,hN,hni,TL⟩:=j14 I.ok.mod.kin hx
 refine wpAny_Raise_call_subU (C:=T.ca c) (nm:=nm) (q:=qn) (N:=N) (bs:=bs) (bm:=bm) (hdct:=hd) (sn:=sn) (sub:=sub) (ab:=ab) (col:=col) (dd:=dd) (k0:=k0) (k1:=k1) (k2:=k2) (k3:=k3) (k5:=k5)
  PySem.F.excBase_ValueError (by decide) PySem.F.excBase_ValueError (mN:=mN) (TL.hasType (by decide)) (I.ok.hd hc) hpl hni (q15 (X:=X.wish E) I hg hm ⟨rfl,?_⟩ hdb)
 have hA:=ha.run G E hp cpos pins s σ H (λvs H1=>∃ds,fs ρ=.ok ds/\Same H H1/\vs.length=ds.length) I ⟨ρ,fr,Acc.mono (AccS.fl fr h) λds e1 _ vs H1 s1 r=>⟨ds,e1,s1,RepL.length _ _ r⟩⟩
 rw [he] at hA ⊢
 refine Calls.evalArgs_plain (thn hA λus s1 ⟨vs,H1,I1,rv,ds,e1,sm,hl⟩=>?_)
 have I1X:Inv X pins σ H1 s1:=I1.unwish
 have hlen:us.length<=sizeLine:=by
  have:=hsh ρ ds e1
  rw [<-rv.length,hl,sizeLine_eq];omega
 refine ⟨rfl,hlen,I1X.bk _ _ hC,hN.keeps I1X.bk,TL.keeps I1X.bk,λh' ea hm'=>?_⟩
 have h2:=AccS.fl fr h
 rw [e1] at h2
 refine h2 σ H fr (Pers.refl H) pins { s1 with heap:=h' } (.ref ea) H1 (I1X.kept (t':=s1.toks) hm'.keeps) sm ⟨ea,rfl,?_,q4S I1X hm'.new,?_,?_⟩
 ·cases q:H1 ea with
  | none=>rfl
  | some o=>
   obtain ⟨u,eu⟩:=q3D (I1X.hok ea o q)
   rw [hm'.new] at eu;cases eu
 ·obtain ⟨t,ht,_⟩:=hm'.there
  exact ⟨_,_,ht,rfl,rfl,rfl⟩
 ·obtain ⟨t,ht,_⟩:=hm'.there
  exact ⟨_,_,_,ht,rfl,rfl,rfl,.inl rfl⟩
end
theorem w0C {X:Cx} {pins:List (Addr×Obj)} {σ:L2.St} {H H':Hp} {s:Shared} {h':Heap} {g':Array GenState} {t':Nat} {d':Drawn} {ch:List Addr} (I:Inv X pins σ H s)
 (hch:∀b∈ch,Free X pins b)
 (keep:∀b o,b≠X.env.locals->b∉X.fs->b∉ch->s.heap.get? b=some o->H b=none->h'.get? b=some o)
 (slot:∀b o,b≠X.env.locals->b∈X.fs->b∉ch->s.heap.get? b=some o->H b=none->∃sl,h'.get? b=some { o with slots:=sl }) (free:∀b o,b∉ch->s.heap.get? b=some o->H b=none->H' b=none)
 (there:∀b o,b∉ch->s.heap.get? b=some o->∃o',h'.get? b=some o')
 (tups:∀b xs,H b=some (.tup xs)->H' b=some (.tup xs)) (frzs:∀b o u,H b=some (.frz o u)->H' b=some (.frz o u)) (tbls:∀b ps,H b=some (.tbl ps)->∃more,H' b=some (.tbl (ps++more)))
 (ns:∀m,s.heap.Ns X.env.locals m->h'.Ns X.env.locals m) (hok:HOk X.prog X.w H' h') (hg:AllBare g') :
 Inv X pins σ H' { s with heap:=h',gens:=g',drawn:=d',toks:=t' }:=by
 have neL:∀b o,X.s₀.heap.get? b=some o->b≠X.env.locals:=λb o e=>Nat.ne_of_lt (Nat.lt_of_lt_of_le (Heap.lt_size e) I.ok.above)
 have neC:∀b o,X.s₀.heap.get? b=some o->b∉X.ex->b∉ch:=λb o e hx hb=>by
  rcases (hch b hb).1 with z | z
  ·exact hx z
  ·rw [e] at z;cases z
 have cellK:∀x c,X.env.cells.lookup x=some c->∀v,s.heap.IsCell c v->h'.IsCell c v:=λx c e v ⟨o,ho,hd⟩=>by
  have nch:c∉ch:=λz=>(hch c z).2.2.1 x c e rfl
  by_cases hc:c∈X.fs
  ·obtain ⟨sl,q⟩:=slot c o (I.cne x c e) hc nch ho (I.freeC x c e)
   exact ⟨_,q,hd⟩
  ·exact ⟨o,keep c o (I.cne x c e) hc nch ho (I.freeC x c e),hd⟩
 refine ⟨I.ok,I.os,hg,⟨λb o e n hb hx=>?_,λb o e n hb hx=>?_,λb o e n hx=>?_,λb o e hx=>?_,λb xs e=>tups b xs (I.base.tups b xs e),λb o xs e=>frzs b o xs (I.base.frzs b o xs e),λb ps e=>?_⟩,?_,λx c e=>?_,?_,λx c e=>?_,λp hp=>?_,hok,I.len⟩
 ·exact keep b o (neL b o e) hb (neC b o e hx) (I.base.keep b o e n hb hx) (I.base.free b o e n hx)
 ·obtain ⟨sl,e1⟩:=I.base.slot b o e n hb hx
  obtain ⟨sl',e2⟩:=slot b _ (neL b o e) hb (neC b o e hx) e1 (I.base.free b o e n hx)
  exact ⟨sl',e2⟩
 ·obtain ⟨o',e1⟩:=I.base.there b o e hx
  exact free b o' (neC b o e hx) e1 (I.base.free b o e n hx)
 ·obtain ⟨o',e1⟩:=I.base.there b o e hx
  exact there b o' (neC b o e hx) e1
 ·obtain ⟨m1,e1⟩:=I.base.tbls b ps e
  obtain ⟨m2,e2⟩:=tbls b _ e1
  exact ⟨m1++m2,by rw [e2,Array.append_assoc]⟩
 ·obtain ⟨m,hn,hl⟩:=I.loc
  refine ⟨m,ns m hn,λi x v e1 e2 e3=>?_⟩
  obtain ⟨u,r,l⟩:=hl i x v e1 e2 e3
  refine ⟨u,r,?_⟩
  rcases l with l | ⟨k,c,e,z⟩
  ·exact .inl l
  ·exact .inr ⟨k,c,e,cellK x c e _ z⟩
 ·obtain ⟨v,z⟩:=I.cell x c e
  exact ⟨v,cellK x c e v z⟩
 ·obtain ⟨m,⟨o,_,_,ho,_⟩,_⟩:=I.loc
  exact free _ o (λz=>(hch _ z).2.1 rfl) ho I.free
 ·obtain ⟨v,o,ho,hd⟩:=I.cell x c e
  exact free c o (λz=>(hch c z).2.2.1 x c e rfl) ho (I.freeC x c e)
 ·obtain ⟨e,n,ne,nf,d⟩:=I.pin p hp
  have nch:p.1∉ch:=λz=>(hch p.1 z).2.2.2 p hp rfl
  exact ⟨keep p.1 p.2 ne nf nch e n,free p.1 p.2 nch e n,ne,nf,d⟩
section
variable {T:Tb} {ib:Bool} {X:Cx} {pins:List (Addr×Obj)} {σ:L2.St} {H:Hp} {s:Shared} {c:Nat} {u:Value}
theorem q4y {L ch:List Addr} {h':Heap} (I:Inv X pins σ H s) (kb:∀b o,s.heap.get? b=some o->b∉L->h'.get? b=some o) (up:s.heap.UpToSlots h') (hch:∀b∈ch,Free X pins b/\H b=none) (hL:∀b∈L,b∈ch∨b∈frs X.stack):Inv X pins σ H { s with heap:=h' }:=by
 have nofl:∀b∈frs X.stack,∀o,s.heap.get? b=some o->∀vs,o.data≠.fields vs:=λb hb o e=>by
  obtain ⟨_,o',e',d⟩:=I.stack.mem hb
  rw [e] at e';cases e';exact d
 have hok:HOk X.prog X.w H h':=q4E I ⟨kb,up⟩ λb hb=>by
  rcases hL b hb with z | z
  ·exact (hch b z).2
  ·exact I.stkFree b z
 exact w0C (g':=s.gens) (d':=s.drawn) (t':=s.toks) (ch:=ch) I (λb hb=>(hch b hb).1)
  (λb o n1 n2 n3 e _=>kb b o e λhm=>by
   rcases hL b hm with z | z
   ·exact n3 z
   ·exact (List.mem_cons.mp (I.stkSub b z)).elim n1 n2)
  (λb o _ hb n3 e n=>by
   by_cases hm:b∈L
   ·rcases hL b hm with z | z
    ·exact absurd z n3
    ·exact up b o e (nofl b z o e)
   ·exact ⟨o.slots,kb b o e hm⟩)
  (λ_ _ _ _ n=>n)
  (λb o n3 e=>by
   by_cases hm:b∈L
   ·rcases hL b hm with z | z
    ·exact absurd z n3
    ·obtain ⟨sl,q⟩:=up b o e (nofl b z o e)
     exact ⟨_,q⟩
   ·exact ⟨o,kb b o e hm⟩)
  (λ_ _ e=>e) (λ_ _ _ e=>e) (λb ps e=>⟨#[],by rw [e];simp⟩) (λm hm=>up.ns hm) hok I.bare
def Landed (T:Tb) (X:Cx) (pins:List (Addr×Obj)) (c:Nat) (ea:Addr) (H:Hp) (h:Heap):Prop:=
 H ea=none/\Free X pins ea/\Nc ea h/\∃(B:Heap) (a0:Value) (L ch:List Addr),Heap.FlyingW B X.stack ea (.ref (T.ca c)) a0 h/\(∀b o,h.get? b=some o->b∉L->B.get? b=some o)/\(∀b∈ch,Free X pins b/\H b=none)/\(∀b∈L,b∈ch∨b∈frs X.stack)
theorem q7U {B h h':Heap} {L ch:List Addr} {ea:Addr} {a0 fl:Value} (I:Inv X pins σ H s) (hn:H ea=none) (fe:Free X pins ea) (hst:X.stack=X.env::X.outer) (hB:B=PySem.W.hideAll s.heap L) (hch:∀b∈ch,Free X pins b/\H b=none) (hL:∀b∈L,b∈ch∨b∈frs X.stack) (hea:ea∈L)
 (fly:Heap.FlyingW B X.stack ea (.ref (T.ca c)) a0 h') (up:s.heap.UpToSlots h') (nc:Nc ea h'):Inv X pins σ H { s with heap:=h' }/\Landed T X pins c ea H h':=by
 subst hB
 have kb:∀b o,s.heap.get? b=some o->b∉L->h'.get? b=some o:=λb o e n=>fly.1 b o (PySem.W.hideAll_get _ e n)
 have I':=q4y I kb up hch hL
 refine ⟨I',hn,fe,nc,?_⟩
 obtain ⟨f1,f2,f3,f4⟩:=id fly
 obtain ⟨oe,vs,tb,ot,ts,he,hc,hd,h1,hnT,hTe,hT,hdT,h3⟩:=id f4
 have notfr:tb∉frs X.stack:=λhm=>by
  obtain ⟨_,o,e,d⟩:=f3.mem hm
  rw [hT] at e;cases e;exact d ts hdT
 have ftb:Free X pins tb/\H tb=none:=by
  cases q:s.heap.get? tb with
  | none=>
   refine ⟨q4S I q,?_⟩
   cases z:H tb with
   | none=>rfl
   | some o=>
    obtain ⟨w,ew⟩:=q3D (I.hok tb o z)
    rw [q] at ew;cases ew
  | some o=>
   have hm:tb∈L:=Classical.byContradiction λn=>by
    rw [PySem.W.hideAll_get _ q n] at hnT;cases hnT
   rcases hL tb hm with z | z
   ·exact hch tb z
   ·exact absurd z notfr
 refine ⟨PySem.W.hideAll h' (ea::tb::frs X.stack),a0,ea::tb::frs X.stack,[ea,tb],⟨λb o q=>PySem.W.of_hideAll _ q,PySem.W.hideAll_none _ List.mem_cons_self,?_,oe,vs,tb,ot,ts,he,hc,hd,h1,PySem.W.hideAll_none _ (by simp),hTe,hT,hdT,h3⟩,λb o e n=>PySem.W.hideAll_get _ e n,λb hb=>?_,λb hb=>?_⟩
 ·exact PySem.W.funFrames_hide f3 λenv he b hb=>List.mem_cons_of_mem _ (List.mem_cons_of_mem _ (List.mem_filterMap.mpr ⟨env,he,hb⟩))
 ·rcases List.mem_cons.mp hb with z | z
  ·rw [z];exact ⟨fe,hn⟩
  ·rw [List.mem_singleton.mp z];exact ftb
 ·rcases List.mem_cons.mp hb with z | z
  ·exact .inl (by simp [z])
  ·rcases List.mem_cons.mp z with z | z
   ·exact .inl (by simp [z])
   ·exact .inr z
theorem q9K {E:Value->Shared->Prop} {P:Shared->Prop} (I:Inv X pins σ H s) (hst:X.stack=X.env::X.outer) (hf:X.env.frame=some X.env.locals) (fl:Flying T X pins c u H s)
 (k:∀ea h',u=.ref ea->Inv X pins σ H { s with heap:=h' }->Landed T X pins c ea H h'->P { s with heap:=h' }) :
 wpAny (model X.prog X.w) X.A (noteFrame u X.env) (λ_ s₂=>wpAny (model X.prog X.w) X.A (setFlight u none) (λ_ s₃=>P s₃) E s₂) E s:=by
 obtain ⟨ea,rfl,hn,fe,nc,oe,vs,a0,he,hc,hd,h0,h1⟩:=fl
 refine wpAny_mono (Kp.any (Q:=λ_ s₂=>Nc ea s₂.heap->wpAny (model X.prog X.w) X.A (setFlight (.ref ea) none) (λ_ s₃=>P s₃) E s₂) (E:=E) Nc.push q2v nc ?_) (λ_ _ z=>z.1 z.2) λ_ _ z=>z.1
 have hfr:X.A.frames=some (X.env::X.outer):=by rw [I.ok.frames,hst]
 have FF:s.heap.FunFrames X.base (X.env::X.outer):=by rw [<-hst];exact I.stack
 have infr:∀(L:List Addr),(∀b∈frs X.stack,b∈L)->s.heap.FunFrames (PySem.W.hideAll s.heap L) (X.env::X.outer):=λL hL=>PySem.W.funFrames_hide FF λenv he b hb=>hL b (by
  rw [hst];exact List.mem_filterMap.mpr ⟨env,he,hb⟩)
 have fin:∀(L ch:List Addr),ea∈L->(∀b∈ch,Free X pins b/\H b=none)->(∀b∈L,b∈ch∨b∈frs X.stack)->∀h',Heap.NotedW (PySem.W.hideAll s.heap L) (X.env::X.outer) ea (.ref (T.ca c)) a0 (rawInt X.env.locals) s.heap h'->Nc ea h' ->
  wpAny (model X.prog X.w) X.A (setFlight (.ref ea) none) (λ_ s₃=>P s₃) E { s with heap:=h' }:=λL ch hea hch hL h' ⟨k1,k2,k3,k4⟩ nc1=>by
  refine wpAny_mono (Kp.any (Q:=λ_ s₂=>Nc ea s₂.heap->P s₂) (E:=E) Nc.push q1M nc1 ?_) (λ_ _ z=>z.1 z.2) λ_ _ z=>z.1
  refine wpAny_setFlight_noneW k1 k2 k3 λh2 m1 m2 m3 m4 nc2=>?_
  have fly:Heap.FlyingW (PySem.W.hideAll s.heap L) X.stack ea (.ref (T.ca c)) a0 h2:=⟨m1,PySem.W.hideAll_none _ hea,by rw [hst];exact m2,m3⟩
  have up:s.heap.UpToSlots h2:=λb o e nd=>by
   obtain ⟨sl,e1⟩:=k4 b o e nd
   exact ⟨sl,m4 b _ e1 nd⟩
  obtain ⟨I2,ld⟩:=q7U (fl:=.none) (h:=h') I hn fe hst rfl hch hL hea fly up nc2
  exact k ea h2 rfl I2 ld
 rcases h1 with h1 | ⟨tb,ot,ts,h1,hne,ht,hdt,h3,hnt,ft⟩
 ·have hsz:1 < vs.size:=(Array.getElem?_eq_some_iff.mp h1).1
  unfold noteFrame
  simp only [hf]
  refine wpAny_bind (wpAny_field he hd h1 ?_)
  rw [if_neg (by decide)]
  refine wpAny_entryW (base:=PySem.W.hideAll s.heap (ea::frs X.stack)) hfr (infr _ λb hb=>List.mem_cons_of_mem _ hb) hf he (λb o q=>PySem.W.of_hideAll _ q) (PySem.W.hideAll_none _ List.mem_cons_self) hd hsz h0 λh' nw=>?_
  rw [hc] at nw
  refine fin (ea::frs X.stack) [ea] List.mem_cons_self (λb hb=>?_) (λb hb=>?_) h' nw
  ·rw [List.mem_singleton.mp hb];exact ⟨fe,hn⟩
  ·rcases List.mem_cons.mp hb with z | z
   ·exact .inl (by simp [z])
   ·exact .inr z
 ·refine wpAny_noteFrame_onW (base:=PySem.W.hideAll s.heap (ea::tb::frs X.stack)) (cls:=.ref (T.ca c)) (a0:=a0) hfr (infr _ λb hb=>List.mem_cons_of_mem _ (List.mem_cons_of_mem _ hb)) hf ⟨oe,vs,tb,ot,ts,he,⟨hc,h0⟩,hd,h1,PySem.W.hideAll_none _ (by simp),hne,ht,hdt,h3⟩ (λb o q=>PySem.W.of_hideAll _ q) (PySem.W.hideAll_none _ List.mem_cons_self) λh' nw=>?_
  refine fin (ea::tb::frs X.stack) [ea,tb] List.mem_cons_self (λb hb=>?_) (λb hb=>?_) h' nw
  ·rcases List.mem_cons.mp hb with z | z
   ·rw [z];exact ⟨fe,hn⟩
   ·rw [List.mem_singleton.mp z];exact ⟨ft,hnt⟩
  ·rcases List.mem_cons.mp hb with z | z
   ·exact .inl (by simp [z])
   ·rcases List.mem_cons.mp z with z | z
    ·exact .inl (by simp [z])
    ·exact .inr z
end
abbrev mk (X:Cx) (u:Value):Cx:={ X with A:=X.A.mark (some u),calm:=false }
abbrev pinX (X:Cx) (pn:List (Addr×Obj)):Cx:={ X with pn:=pn }
abbrev j2s (X:Cx) (ea:Addr) (ob:Obj):Cx:={ X with A:=X.A.mark (some (.ref ea)),calm:=false,H₀:=upd X.H₀ ea (.frz ob (.ext λ_=>True)) }
def j8l (A:Around) (H:Hp):Prop:=∃(ea:Addr) (ob:Obj) (vs:Array Value),A.handled=some (.ref ea)/\H ea=some (.frz ob (.ext λ_=>True))/\ob.data=.fields vs/\vs[2]?=some .none
abbrev Hot (X:Cx):Prop:=j8l X.A X.H₀
section
variable {T:Tb} {ib:Bool} {X:Cx} {pins:List (Addr×Obj)} {σ:L2.St} {H:Hp} {s:Shared} {c:Nat} {u:Value}
theorem Inv.mk (I:Inv X pins σ H s) (u:Value):Inv (mk X u) pins σ H s:=
 ⟨⟨I.ok.mod,I.ok.kind,I.ok.glob,I.ok.blt,I.ok.above,I.ok.inj,I.ok.has,I.ok.cab,(λz=>by cases z),I.ok.frames,I.ok.stk,I.ok.exf,I.ok.bs,I.ok.bsz,I.ok.noex,I.ok.exfs,I.ok.funs,I.ok.frf⟩,I.os,I.bare,I.base,I.loc,I.cell,I.free,I.freeC,I.pin,I.hok,I.len⟩
theorem Inv.pinX (I:Inv X pins σ H s):Inv (L3.pinX X (X.pn++pins)) [] σ H s:=
 ⟨⟨I.ok.mod,I.ok.kind,I.ok.glob,I.ok.blt,I.ok.above,I.ok.inj,I.ok.has,I.ok.cab,I.ok.hd,I.ok.frames,I.ok.stk,I.ok.exf,I.ok.bs,I.ok.bsz,I.ok.noex,I.ok.exfs,I.ok.funs,I.ok.frf⟩,I.os,I.bare,I.base,I.loc,I.cell,I.free,I.freeC,λp hp=>I.pin p (by simpa using hp),I.hok,I.len⟩
theorem Inv.unpinX (ok:X.Ok) {pins':List (Addr×Obj)} {E:Value->Shared->Prop} (I:Inv ((L3.pinX X (X.pn++pins)).wish E) pins' σ H s):Inv X pins σ H s:=
 ⟨ok,I.os,I.bare,I.base,I.loc,I.cell,I.free,I.freeC,λp hp=>I.pin p (List.mem_append_left _ hp),I.hok,I.len⟩
def DH (T:Tb) (ib:Bool) (X:Cx) (hs:List ExceptHandler) (f:Nat->Ro->Fl):Prop:=∀(G:Hp) (E:Value->Shared->Prop) (pins:List (Addr×Obj)) (s:Shared) (σ:L2.St) (H:Hp) (D:Ends) (c:Nat) (ea:Addr),Inv X pins σ H s->Landed T X pins c ea H s.heap ->
 (∃ρ,FR T X.K G H σ ρ/\AccS T ib X G E H (f c ρ) D)->wpAny (model X.prog X.w) X.A (handleBy (.ref ea) X.env hs) (SP X pins D) E s
theorem j5Z:DH T ib X [] (λ_ _=>.bad):=λG E pins s σ H D c ea I ld ⟨ρ,fr,h⟩=>h.elim
theorem q7c {M:Model} {ea:Addr} {h:Heap} (ld:Landed T X pins c ea H h):PySem.W.Looks M h (typeOf (.ref ea)) (.ref (T.ca c)):=by
 obtain ⟨_,_,_,B,a0,L,ch,fly,_⟩:=ld
 obtain ⟨ob,hob,hc⟩:=fly.there
 exact hc ▸ (PySem.W.Looks.ld hob).andThen .now
theorem q6e {M:Model} {A:Around} {E:Value->Shared->Prop} {Q:Unit->Shared->Prop} {ea:Addr} (I:Inv X pins σ H s) (ld:Landed T X pins c ea H s.heap) (k:∀h',Inv X pins σ H { s with heap:=h' }->(∃ob,h'.get? ea=some ob/\ob.cls=.ref (T.ca c))->Nc ea h'->Q () { s with heap:=h' }) :
 wpAny M A (setFlight (.ref ea) none) Q E s:=by
 obtain ⟨hn,fe,nc,B,a0,L,ch,fly,hB,hch,hL⟩:=ld
 refine wpAny_mono (Kp.any (Q:=λu s₂=>Nc ea s₂.heap->Q u s₂) (E:=E) Nc.push q1M nc ?_) (λ_ _ z=>z.1 z.2) λ_ _ z=>z.1
 exact lands_againW fly λh' fly' up nc'=>k h' (q4y I (λb o e n=>fly'.1 b o (hB b o e n)) up hch hL) fly'.there nc'
section
variable {x n:Str} {k i:Nat} {m:Nat->Option Bool} {np pos:Pos} {b₀:Stmt} {suite:List Stmt} {hs:List ExceptHandler} {fh:Ro->Fl} {fr':Nat->Ro->Fl}
theorem Inv.track {ea:Addr} {ob:Obj} (I:Inv X pins σ H s) (hn:H ea=none) (fe:Free X pins ea) (ho:s.heap.get? ea=some ob) :
 Inv X pins σ (upd H ea (.frz ob (.ext λ_=>True))) s:=by
 obtain ⟨f1,f2,f3,f4⟩:=fe
 have ne:∀b o,H b=some o->b≠ea:=λb o e z=>by rw [z,hn] at e;cases e
 refine ⟨I.ok,I.os,I.bare,⟨I.base.keep,I.base.slot,λb o e n hx=>?_,I.base.there,λb xs e=>?_,λb o v e=>?_,λb ps e=>?_⟩,I.loc,I.cell,?_,λy cc e=>?_,λp hp=>?_,λb o e=>?_,I.len⟩
 ·rw [q0h (λz=>?_)]
  ·exact I.base.free b o e n hx
  ·rcases f1 with f1 | f1
   ·exact hx (z ▸ f1)
   ·rw [z] at e;rw [f1] at e;cases e
 ·have q:=I.base.tups b xs e;rw [q0h (ne b _ q)];exact q
 ·have q:=I.base.frzs b o v e;rw [q0h (ne b _ q)];exact q
 ·obtain ⟨more,q⟩:=I.base.tbls b ps e
  exact ⟨more,by rw [q0h (ne b _ q)];exact q⟩
 ·rw [q0h (Ne.symm f2)];exact I.free
 ·rw [q0h (f3 y cc e)];exact I.freeC y cc e
 ·obtain ⟨a1,a2,a3⟩:=I.pin p hp
  exact ⟨a1,by rw [q0h (f4 p hp)];exact a2,a3⟩
 ·have ow:∀b y,H b=some (.own y)->upd H ea (.frz ob (.ext λ_=>True)) b=some (.own y):=λb y q=>by rw [q0h (ne b _ q)];exact q
  have tu:∀b y,H b=some (.tup y)->upd H ea (.frz ob (.ext λ_=>True)) b=some (.tup y):=λb y q=>by rw [q0h (ne b _ q)];exact q
  by_cases hb:b=ea
  ·subst hb
   rw [q0p] at e;cases e
   exact ⟨ho,trivial,⟨ob,ho⟩,λ_ _ _ _=>trivial⟩
  ·rw [q0h hb] at e
   exact (I.hok b o e).stay (λ_ _ _ q=>q) (λcc=>ow cc _) tu
theorem Inv.hot {ea:Addr} {ob:Obj} (I:Inv X pins σ H s) (f1:ea∈X.ex∨X.s₀.heap.get? ea=none) (he:H ea=some (.frz ob (.ext λ_=>True))):Inv (j2s X ea ob) pins σ H s:=by
 have n0:∀b o,X.s₀.heap.get? b=some o->b∉X.ex->b≠ea:=λb o e hx z=>by
  rcases f1 with f | f
  ·exact hx (z ▸ f)
  ·rw [z,f] at e;cases e
 have up:∀b,upd X.H₀ ea (.frz ob (.ext λ_=>True)) b=none->X.H₀ b=none:=λb e=>by
  by_cases z:b=ea
  ·rw [z,q0p] at e;cases e
  ·rwa [q0h z] at e
 have ot:∀b o,upd X.H₀ ea (.frz ob (.ext λ_=>True)) b=some o->(b=ea/\o=.frz ob (.ext λ_=>True))∨X.H₀ b=some o:=λb o e=>by
  by_cases z:b=ea
  ·rw [z,q0p] at e;exact .inl ⟨z,(Option.some.inj e).symm⟩
  ·rw [q0h z] at e;exact .inr e
 refine ⟨⟨I.ok.mod,I.ok.kind,I.ok.glob,I.ok.blt,I.ok.above,I.ok.inj,I.ok.has,I.ok.cab,(λz=>by cases z),I.ok.frames,I.ok.stk,I.ok.exf,λb o e=>?_,I.ok.bsz,I.ok.noex,I.ok.exfs,I.ok.funs,λb hb=>?_⟩,I.os,I.bare,
  ⟨λb o e n=>I.base.keep b o e (up b n),λb o e n=>I.base.slot b o e (up b n),λb o e n=>I.base.free b o e (up b n),I.base.there,λb xs e=>?_,λb o u e=>?_,λb ps e=>?_⟩,I.loc,I.cell,I.free,I.freeC,I.pin,I.hok,I.len⟩
 ·obtain ⟨e1,e2⟩:=I.ok.bs b o e
  exact ⟨e1,by show upd X.H₀ ea _ b=none;rw [q0h (n0 b o e1 (I.ok.noex b o e))];exact e2⟩
 ·show upd X.H₀ ea _ b=none
  obtain ⟨_,o,e,_⟩:=I.ok.funs.mem hb
  rw [q0h (n0 b o e λhx=>I.ok.exfs b hx hb)];exact I.ok.frf b hb
 ·rcases ot b _ e with ⟨_,z⟩ | z
  ·cases z
  ·exact I.base.tups b xs z
 ·rcases ot b _ e with ⟨z1,z⟩ | z
  ·rw [z1,z];exact he
  ·exact I.base.frzs b o u z
 ·rcases ot b _ e with ⟨_,z⟩ | z
  ·cases z
  ·exact I.base.tbls b ps z
theorem Inv.unhot {ea:Addr} {ob:Obj} {E:Value->Shared->Prop} {H1:Hp} {s1:Shared} (I0:Inv X pins σ H1 s1) (h0:H1 ea=none) (f1:ea∈X.ex∨X.s₀.heap.get? ea=none) {pins':List (Addr×Obj)} {σ':L2.St} (I:Inv ((j2s X ea ob).wish E) pins' σ' H s):Inv X pins' σ' H s:=by
 have n0:∀b o,X.s₀.heap.get? b=some o->b∉X.ex->b≠ea:=λb o e hx z=>by
  rcases f1 with f | f
  ·exact hx (z ▸ f)
  ·rw [z,f] at e;cases e
 have up:∀b,b≠ea->(j2s X ea ob).H₀ b=X.H₀ b:=λb z=>q0h z
 refine ⟨I0.ok,I.os,I.bare,⟨λb o e n h1 hx=>I.base.keep b o e ((up b (n0 b o e hx)).trans n) h1 hx,λb o e n h1 hx=>I.base.slot b o e ((up b (n0 b o e hx)).trans n) h1 hx,λb o e n hx=>I.base.free b o e ((up b (n0 b o e hx)).trans n) hx,I.base.there,λb xs e=>?_,λb o u e=>?_,λb ps e=>?_⟩,I.loc,I.cell,I.free,I.freeC,I.pin,I.hok,I.len⟩
 ·refine I.base.tups b xs ((up b λz=>?_).trans e)
  have:=I0.base.tups b xs e;rw [z,h0] at this;cases this
 ·refine I.base.frzs b o u ((up b λz=>?_).trans e)
  have:=I0.base.frzs b o u e;rw [z,h0] at this;cases this
 ·refine I.base.tbls b ps ((up b λz=>?_).trans e)
  obtain ⟨_,this⟩:=I0.base.tbls b ps e;rw [z,h0] at this;cases this
theorem q6q {ea:Addr} {o:HO} (hn:H ea=none):Same H (upd H ea o):=q0A hn
theorem Inv.gone {h':Heap} {t':Nat} {v:Option Value} {mm:Str->Option Value} (I:Inv X pins σ H s) (hi:X.N[i]?=some n) (hN:X.N.Nodup) (hk:X.env.scope.names.lookup n=some .local) (hm:s.heap.Ns X.env.locals mm) (hl:∀(j:Nat) (y:Str) (w:V),X.N[j]?=some y->σ[j]?=some (some w)->Vis X.env.scope y->∃u,RelV w u/\Look X.env s.heap mm y u)
 (hn':h'.Ns X.env.locals (λy=>if y=n then v else mm y)) (hs:Heap.SameBut X.env.locals s.heap h'):Inv X pins (σ.set i none) H { s with heap:=h',toks:=t' }:=by
 have cne:=I.cne
 have lt0:∀b o,X.s₀.heap.get? b=some o->b≠X.env.locals:=λb o e=>Nat.ne_of_lt (Nat.lt_of_lt_of_le (Heap.lt_size e) I.ok.above)
 refine ⟨I.ok,I.os,I.bare,⟨λb o e n2 hb hx=>(hs.2 b (lt0 b o e)).trans (I.base.keep b o e n2 hb hx),λb o e n2 hb hx=>?_,I.base.free,λb o e hx=>?_,I.base.tups,I.base.frzs,I.base.tbls⟩,⟨_,hn',λj y w e1 e2 e3=>?_⟩,λy c e=>?_,I.free,I.freeC,λp hp=>?_,λb ob e=>?_,by simpa using I.len⟩
 ·obtain ⟨sl,e1⟩:=I.base.slot b o e n2 hb hx
  exact ⟨sl,(hs.2 b (lt0 b o e)).trans e1⟩
 ·obtain ⟨o',e1⟩:=I.base.there b o e hx
  exact ⟨o',(hs.2 b (lt0 b o e)).trans e1⟩
 ·have hj:j≠i:=by
   rintro rfl
   have hlt:j < σ.length:=by
    have:=(List.getElem?_eq_some_iff.mp e2).1;simpa using this
   rw [List.getElem?_set_self hlt] at e2;cases e2
  rw [List.getElem?_set_ne (Ne.symm hj)] at e2
  obtain ⟨u',r',q⟩:=hl j y w e1 e2 e3
  refine ⟨u',r',?_⟩
  have hy:y≠n:=λz=>hj (q2K hN e1 (z ▸ hi))
  rcases q with ⟨k1,q1⟩ | ⟨k1,cc,q1,q2⟩
  ·exact .inl ⟨k1,by simp [hy,q1]⟩
  ·exact .inr ⟨k1,cc,q1,q2.sameBut hs (cne y cc q1)⟩
 ·obtain ⟨w',z⟩:=I.cell y c e
  exact ⟨w',z.sameBut hs (cne y c e)⟩
 ·obtain ⟨e,n2,ne,nf,d⟩:=I.pin p hp
  exact ⟨(hs.2 p.1 ne).trans e,n2,ne,nf,d⟩
 ·refine (I.hok b ob e).stay (λcc w' hc q=>(hs.2 cc ?_).trans q) (λ_ q=>q) λ_ _ q=>q
  intro z
  have hf:=I.free
  rcases hc with hc | hc
  ·rw [<-hc,z,hf] at e;cases e
  ·rw [z,hf] at hc;cases hc
theorem FR.forget {K:PySem.W.Frag} {G H:Hp} {σ:L2.St} {ρ:Ro} (h:FR T K G H σ ρ) (i:Nat) (hz:T.me=none∨i≠0):FR T K G H (σ.set i none) (ρ.set i .no):=by
 have at_:∀{j:Nat} {z:Sl},(ρ.set i .no)[j]?=some z->z=.no∨(j≠i/\ρ[j]?=some z):=λ{j z} q=>by
  by_cases hj:j=i
  ·subst hj
   have hlt:j < ρ.length:=by
    have:=(List.getElem?_eq_some_iff.mp q).1;simpa using this
   rw [List.getElem?_set_self hlt] at q
   exact .inl (Option.some.inj q).symm
  ·rw [List.getElem?_set_ne (Ne.symm hj)] at q;exact .inr ⟨hj,q⟩
 refine ⟨h.same,by simp [h.len],λj z q=>?_,λj k s1 s2 b hjk q1 q2 o1 o2=>?_,q8d hz h.me,q2P (λ_ _ z=>by cases z) h.me0⟩
 ·rcases at_ q with rfl | ⟨hj,q⟩
  ·trivial
  ·rw [List.getElem?_set_ne (Ne.symm hj)];exact h.sl j z q
 ·rcases at_ q1 with z | ⟨hj,p1⟩
  ·subst z;exact o1
  ·rcases at_ q2 with z | ⟨hk,p2⟩
   ·subst z;exact o2
   ·rw [List.getElem?_set_ne (Ne.symm hj)] at o1
    rw [List.getElem?_set_ne (Ne.symm hk)] at o2
    exact h.ne j k s1 s2 b hjk p1 p2 o1 o2
@[simp] def j1w (i:Nat):Fl->Fl
 | .nx ρ=>.nx (ρ.set i .no)
 | .bk ρ=>.bk (ρ.set i .no)
 | .ct ρ=>.ct (ρ.set i .no)
 | .rt r=>.rt r
 | _=>.bad
@[simp] def q2q (i:Nat) (m:Nat->Option Bool) (fh:Ro->Fl) (fr:Nat->Ro->Fl) (c:Nat) (ρ:Ro):Fl:=match m c with
 | some true=>j1w i (fh (ρ.set i (.sh (.exc c))))
 | some false=>fr c ρ
 | none=>.bad
theorem q7S (i:Nat) (hN:X.N.Nodup) (hg:Gl X x) (hm:X.mg x=some (.ref (T.ca k))) (hdec:∀c b,m c=some b->PySem.W.exmOne X.K (.ref (T.ca c)) (.ref (T.ca k))=some b) (hsu:∀ea ob,Hot (j2s X ea ob)->DSs T ib (j2s X ea ob) (b₀::suite) fh) (hr:DH T ib X hs fr') (hi:X.N[i]?=some n:=by rfl) (hlo:X.env.scope.names.lookup n=some .local:=by rfl) (hlk:X.env.kindOf n=some .local:=by rfl) (hz:T.me=none∨i≠0:=by walk_at "v1") (hdb:(x==("__debug__" : Str))=false:=by decide) :
 DH T ib X (.ExceptHandler (some (.Name x np)) (some n) (b₀::suite) pos::hs) (q2q i m fh fr'):=λG E pins s σ H D c ea I ld ⟨ρ,fr,h⟩=>by
 refine wpAny_handleBy_cons (codeAny_handlers_test (q15 (X:=L3.mk X (.ref ea)) (Inv.mk I _) hg hm ?_ hdb)) (by intro q;cases q)
 have h':AccS T ib X G E H (q2q i m fh fr' c ρ) D:=h
 cases em:m c with
 | none=>simp only [q2q,em] at h';exact h'.elim
 | some b=>
  simp only [q2q,em] at h'
  refine PySem.W.exm_one I.kIn (q7c ld) (hdec c b em) _ _ _ _ (λ_ _ z=>z) ?_
  cases b with
  | false=>exact hr G E pins s σ H D c ea I ld ⟨ρ,fr,h'⟩
  | true=>
   refine codeAny_handlers_suite_as (q6e I ld λh2 I2 ⟨ob,hob,hoc⟩ nc2=>?_)
   refine q4f (v:=.ref ea) I2 hN hi (.inl hlo) rfl (λs3 I3 ⟨a3,sb3,ha3⟩=>?_) (.inr hlo)
   have hob3:s3.heap.get? ea=some ob:=by
    refine (sb3.2 ea ?_).trans hob
    rcases ha3 with z | z
    ·rw [z];exact ld.2.1.2.1
    ·exact λy=>ld.2.1.2.2.1 n a3 z y.symm
   obtain ⟨ob',vs,g1,g2,g3,g4⟩:=nc2
   have eob:ob'=ob:=Option.some.inj (g1.symm.trans hob)
   subst eob
   have I4:=Inv.track I3 ld.1 ld.2.1 hob3
   have sm:=q6q (ea:=ea) (o:=.frz ob' (.ext λ_=>True)) ld.1
   have fr4:FR T X.K G _ (σ.set i (some (.ref ea))) (ρ.set i (.sh (.exc c))):=(fr.mono sm).set_sh ⟨ea,ob',rfl,q0p,hoc,by unfold PySem.W.notCls;rw [g2],g4⟩ hz
   let D':Ends:={ nx:=fun σ' H'=>D.nx (σ'.set i none) H',rt:=D.rt,bk:=fun σ' H'=>D.bk (σ'.set i none) H',ct:=fun σ' H'=>D.ct (σ'.set i none) H' }
   have acc:AccS T ib (j2s X ea ob') G (λ_ _=>False) (upd H ea (.frz ob' (.ext λ_=>True))) (fh (ρ.set i (.sh (.exc c)))) D':=by
    have h2:=AccS.heap (Pers.of (b:=ib) sm) h'
    cases eo:fh (ρ.set i (.sh (.exc c))) with
    | nx ρ'=>rw [eo] at h2;exact fun σ' H' f p=>h2 _ _ (FR.forget f i hz) p
    | bk ρ'=>rw [eo] at h2;exact fun σ' H' f p=>h2 _ _ (FR.forget f i hz) p
    | ct ρ'=>rw [eo] at h2;exact fun σ' H' f p=>h2 _ _ (FR.forget f i hz) p
    | rt r=>rw [eo] at h2;exact h2
    | exc c ρ'=>rw [eo] at h2;exact h2.elim
    | bad=>rw [eo] at h2;exact h2.elim
   refine wpAny_mono ((hsu ea ob' ⟨ea,ob',vs,rfl,q0p,g2,g3⟩).run G (λ_ _=>False) PassesOwn.never pins _ _ _ D' ((Inv.hot I4 ld.2.1.1 q0p).wish _) ⟨_,fr4,acc⟩) (λf s5 q=>?_) λ_ _ z=>z.elim
   have hp:(X.env.scope.kind==.class || (X.env.scope.kind==.module && X.env.locals != X.env.globals))=false:=by rw [I.ok.kind];rfl
   have go:∀{σ':L2.St} {H':Hp} {R:Unit->Shared->Prop},Inv X pins σ' H' s5->(∀s6,Inv X pins (σ'.set i none) H' s6->R () s6)->wpAny (model X.prog X.w) X.A (do bindName X.env n .none;unbindBehindTheSuite X.env n pos) R E s5:=λ{σ' H' R} I5 k=>by
    obtain ⟨mm,hmm,hl⟩:=id I5.loc
    exact wpAny_nameGoes_keeps hlk hmm hp λh6 v n6 sb6=>k _ (Inv.gone (v:=v) I5 hi hN hlo hmm hl n6 sb6)
   cases f with
   | next=>obtain ⟨σ',H',I5,q⟩:=q;exact go (Inv.unhot I ld.1 ld.2.1.1 I5) λs6 I6=>⟨_,H',I6,q⟩
   | brk=>obtain ⟨σ',H',I5,q⟩:=q;exact go (Inv.unhot I ld.1 ld.2.1.1 I5) λs6 I6=>⟨_,H',I6,q⟩
   | cont=>obtain ⟨σ',H',I5,q⟩:=q;exact go (Inv.unhot I ld.1 ld.2.1.1 I5) λs6 I6=>⟨_,H',I6,q⟩
   | ret u=>obtain ⟨v,σ',H',I5,r,q⟩:=q;exact go (Inv.unhot I ld.1 ld.2.1.1 I5) λs6 I6=>⟨v,_,H',I6,r,q⟩
end
@[simp] def q8z (fb:Ro->Fl) (fh:Nat->Ro->Fl) (ρ:Ro):Fl:=match fb ρ with
 | .exc c ρ'=>fh c ρ'
 | o=>o
theorem j4T {body:List Stmt} {h₀:ExceptHandler} {hs:List ExceptHandler} {pos:Pos} {fb:Ro->Fl} {fh:Nat->Ro->Fl} (hst:X.stack=X.env::X.outer) (hf:X.env.frame=some X.env.locals) (hb:∀pn,DSs T ib (L3.pinX X pn) body fb) (hh:DH T ib X (h₀::hs) fh) :
 DS T ib X (.Try body (h₀::hs) [] [] pos) (q8z fb fh):=.mk λG E hp=>by
 rintro pins s σ H D I ⟨ρ,fr,h⟩
 have IX:Inv X pins σ H s:=I.unwish
 have ok:=IX.ok
 have h:AccS T ib X G E H (q8z fb fh ρ) D:=h
 refine wpAny_Try_except ?_
 let E':Value->Shared->Prop:=λe s₁=>wpAny (model X.prog X.w) X.A (noteFrame e X.env) (λ_ s₂=>wpAny (model X.prog X.w) X.A (setFlight e none) (λ_ s₃=>wpAny (model X.prog X.w) X.A (handleBy e X.env (h₀::hs)) (SP (X.wish E) pins D) E s₃) E s₂) E s₁
 have hp':PassesOwn (model X.prog X.w) X.A X.env E':=PassesOwn.looking
 have acc:AccS T ib (L3.pinX X (X.pn++pins)) G E' H (fb ρ) D:=by
  cases eo:fb ρ with
  | exc c ρ'=>
   simp only [q8z,eo] at h
   intro σ' H' fr' pr pins' s' u H'' I' sm fl
   have I2:Inv X pins σ' H'' s':=Inv.unpinX (E:=(L3.pinX X (X.pn++pins)).xe) ok I'
   have fl2:Flying T X pins c u H'' s':=by
    obtain ⟨ea,e1,q1,q2,nc,oe,vs,a0,e2,e3,e4,e5,e6⟩:=fl
    have fre:∀b,Free (L3.pinX X (X.pn++pins)) pins' b->Free X pins b:=λb ⟨z1,z2,z3,z4⟩=>⟨z1,z2,z3,λp hp=>z4 p (List.mem_append_left _ hp)⟩
    refine ⟨ea,e1,q1,fre ea q2,nc,oe,vs,a0,e2,e3,e4,e5,?_⟩
    rcases e6 with e6 | ⟨tb,ot,ts,t1,t2,t3,t4,t5,t6,t7⟩
    ·exact .inl e6
    ·exact .inr ⟨tb,ot,ts,t1,t2,t3,t4,t5,t6,fre tb t7⟩
   refine q9K I2 hst hf fl2 λea h2 eu I3 ld=>?_
   subst eu
   refine wpAny_mono (hh G E pins _ σ' H'' D c ea I3 ld ⟨ρ',fr'.mono sm,AccS.heap (pr.trans (Pers.of sm)) h⟩) (λf s4 q=>?_) λ_ _ z=>z
   cases f with
   | next=>obtain ⟨σ4,H4,I4,q⟩:=q;exact ⟨σ4,H4,I4.wish E,q⟩
   | brk=>obtain ⟨σ4,H4,I4,q⟩:=q;exact ⟨σ4,H4,I4.wish E,q⟩
   | cont=>obtain ⟨σ4,H4,I4,q⟩:=q;exact ⟨σ4,H4,I4.wish E,q⟩
   | ret v=>obtain ⟨x4,σ4,H4,I4,r,q⟩:=q;exact ⟨x4,σ4,H4,I4.wish E,r,q⟩
  | nx ρ'=>simp only [q8z,eo] at h;exact h
  | bk ρ'=>simp only [q8z,eo] at h;exact h
  | ct ρ'=>simp only [q8z,eo] at h;exact h
  | rt r=>simp only [q8z,eo] at h;exact h
  | bad=>simp only [q8z,eo] at h;exact h
 refine wpAny_mono ((hb (X.pn++pins)).run G E' hp' [] s σ H D ((Inv.pinX IX).wish E') ⟨ρ,fr,acc⟩) (λf s4 q=>?_) λe s4 z=>z
 cases f with
 | next=>obtain ⟨σ4,H4,I4,q⟩:=q;exact wpAny_execs_nil ⟨σ4,H4,(Inv.unpinX ok I4).wish E,q⟩
 | brk=>obtain ⟨σ4,H4,I4,q⟩:=q;exact ⟨σ4,H4,(Inv.unpinX ok I4).wish E,q⟩
 | cont=>obtain ⟨σ4,H4,I4,q⟩:=q;exact ⟨σ4,H4,(Inv.unpinX ok I4).wish E,q⟩
 | ret v=>obtain ⟨x4,σ4,H4,I4,r,q⟩:=q;exact ⟨x4,σ4,H4,(Inv.unpinX ok I4).wish E,r,q⟩
end
section
variable {T:Tb} {z:Option Addr} {K:PySem.W.Frag}
theorem q27 {H:Hp}:∀(ss:List Sl) (vs:List V),ArgsOk { T with me:=z } K H vs ss↔ArgsOk T K H vs ss
 | [],_=>Iff.rfl
 | s::ss,vs=>by
  have one:∀v,ArgOk { T with me:=z } K H v s↔ArgOk T K H v s:=λv=>by
   cases s with
   | sh d=>exact q1L d v
   | bo ds=>exact ⟨λ⟨a,us,e1,e2,r⟩=>⟨a,us,e1,e2,(repL_me ds us).mp r⟩,λ⟨a,us,e1,e2,r⟩=>⟨a,us,e1,e2,(repL_me ds us).mpr r⟩⟩
   | _=>exact Iff.rfl
  exact ⟨λ⟨v,r,e,h1,h2⟩=>⟨v,r,e,(one v).mp h1,(q27 ss r).mp h2⟩,λ⟨v,r,e,h1,h2⟩=>⟨v,r,e,(one v).mpr h1,(q27 ss r).mpr h2⟩⟩
theorem j2i {G H:Hp} {v:V} (r:Rv):RvOk { T with me:=z } K G H v r↔RvOk T K G H v r:=by
 cases r with
 | sh d=>exact q1L d v
 | fr ds=>exact ⟨λ⟨a,us,e1,e2,e3,r⟩=>⟨a,us,e1,e2,e3,(repL_me ds us).mp r⟩,λ⟨a,us,e1,e2,e3,r⟩=>⟨a,us,e1,e2,e3,(repL_me ds us).mpr r⟩⟩
 | tf t pre ds post=>exact ⟨λ⟨a,vp,b,vq,ws,e1,e2,r1,r2,e3,e4,r3⟩=>⟨a,vp,b,vq,ws,e1,e2,(repL_me _ _).mp r1,(repL_me _ _).mp r2,e3,e4,(repL_me _ _).mp r3⟩,λ⟨a,vp,b,vq,ws,e1,e2,r1,r2,e3,e4,r3⟩=>⟨a,vp,b,vq,ws,e1,e2,(repL_me _ _).mpr r1,(repL_me _ _).mpr r2,e3,e4,(repL_me _ _).mpr r3⟩⟩
theorem j0B {n:Nat} {F:Fn} {vs:List V} {H:Hp} {Q:VK} {E:XK} (h:spD { T with me:=z } K n F vs H Q E):spD T K n F vs H Q E:=by
 obtain ⟨ss,h1,h2,h3⟩:=h
 refine ⟨ss,(q27 ss vs).mp h1,h2,?_⟩
 cases e:F ss with
 | ok r=>rw [e] at h3;exact λv H' sm ro=>h3 v H' sm ((j2i r).mpr ro)
 | exc c=>rw [e] at h3;exact h3
 | bad=>rw [e] at h3;exact h3
theorem q12 {P:Program} {w:World} {mg:Str->Option Value} {base:Heap} {k:Nat} {f:Addr} {fd:FuncData} {ps:List Str} {n:Nat} {F:Fn} (h:FnOk P w K mg base (CXE T P w) k f fd ps (spD T K n F)):FnOk P w K mg base (CXE { T with me:=z } P w) k f fd ps (spD { T with me:=z } K n F):=
 ⟨λvs H Q E q=>h.len vs H Q E (j0B q),λA outer s H args us vs Q E hr he hb hv hs=>h.run A outer s H args us vs Q E hr he hb hv (j0B hs)⟩
end
def spI (T:Tb) (K:PySem.W.Frag) (c n:Nat) (F:Fn):Sp:=λvs H Q E=>∃(x dx:Addr) (rest:List V) (ss:List Sl) (G:Hp),vs=.ref x::rest/\H=upd (upd G dx (.own x)) x (.ins (T.ca c) dx [])/\G x=none/\G dx=none/\dx≠x/\ArgsOk T K G rest ss/\vs.length=n /\
 (match F ss with
 | .ok (.sh d)=>∀H',Same G H'->Rep T K H' d (.ref x)->Q .non H'
 | .exc c=>∀H',Same G H'->E (.ref (T.ca c)) none H'
 | _=>False)
@[simp] def q2s (n c ar:Nat) (f:Ro->Fl) (ss:List Sl):Out Rv:=match f (.me c []::ss++List.replicate (n-(ss.length+1)) .no) with
 | .nx ρ=>(match (ρ[0]?:Option Sl) with
  | some (.me c' ds)=>if c'=c/\ds.length=ar then .ok (.sh (.ins c ds)) else .bad
  | _=>.bad)
 | .exc c _=>.exc c
 | _=>.bad
section
variable {P:Program} {w:World} {K:PySem.W.Frag} {mg:Str->Option Value} {base:Heap} {T:Tb}
theorem j10 {H G:Hp} {N:List Str} {x dx:Addr} {rest:List V} {ss:List Sl} {c:Nat} (hH:H=upd (upd G dx (.own x)) x (.ins (T.ca c) dx [])) (hx:G x=none) (hdx:G dx=none) (hne:dx≠x) (h:ArgsOk T K G rest ss) (hN:rest.length+1<=N.length) :
 FR { T with me:=some x } K G H (L2.start N (.ref x::rest)) (.me c []::ss++List.replicate (N.length-(ss.length+1)) .no):=by
 have hl:=ArgsOk.length ss rest h
 have sm:Same G H:=λb o e=>by
  rw [hH,q0h (λz=>by rw [z,hx] at e;cases e),q0h (λz=>by rw [z,hdx] at e;cases e)];exact e
 have st:∀(i:Nat) (v:V),(V.ref x::rest)[i]?=some v->(L2.start N (.ref x::rest))[i]?=some (some v):=λi v e=>by
  unfold L2.start
  have hi:i < (V.ref x::rest).length:=(List.getElem?_eq_some_iff.mp e).1
  rw [List.getElem?_append_left (by simpa using hi),List.getElem?_map,e];rfl
 have cases_:∀(i:Nat) (s:Sl),(Sl.me c []::ss++List.replicate (N.length-(ss.length+1)) Sl.no)[i]?=some s->(i=0/\s=.me c [])∨(∃j,i=j+1/\ss[j]?=some s)∨s=.no:=λi s e=>by
  cases i with
  | zero=>exact .inl ⟨rfl,by simpa using e.symm⟩
  | succ j=>
   rw [List.cons_append,List.getElem?_cons_succ] at e
   by_cases hj:j < ss.length
   ·rw [List.getElem?_append_left hj] at e;exact .inr (.inl ⟨j,rfl,e⟩)
   ·rw [List.getElem?_append_right (by omega),List.getElem?_replicate] at e
    split at e
    ·cases e;exact .inr (.inr rfl)
    ·cases e
 have noow:∀(i:Nat) (s:Sl) (x:Option (Option V)) (b:Addr),(Sl.me c []::ss++List.replicate (N.length-(ss.length+1)) Sl.no)[i]?=some s->¬q4L H x b s:=λi s x b z o=>by
  rcases cases_ i _ z with ⟨_,y⟩ | ⟨j,_,y⟩ | y
  ·subst y;exact o
  ·obtain ⟨v,_,r⟩:=ArgsOk.get ss rest j _ h y
   cases s with
   | sh d=>exact o
   | bo ds=>exact o
   | _=>exact r
  ·subst y;exact o
 refine ⟨sm,?_,λi s e=>?_,λi j s t b _ z _ o _=>noow i s _ b z o,λy e=>?_,λi c' es z=>?_⟩
 ·unfold L2.start;simp;omega
 ·rcases cases_ i s e with ⟨rfl,rfl⟩ | ⟨j,rfl,y⟩ | rfl
  ·exact ⟨x,dx,[],rfl,st 0 _ rfl,by rw [hH];exact q0p,hx,rfl,rfl⟩
  ·obtain ⟨v,e1,r⟩:=ArgsOk.get ss rest j s h y
   rw [st (j+1) v (by simpa using e1)]
   cases s with
   | sh d=>exact ⟨v,rfl,(q1L d v).mpr (Rep.mono sm _ _ r)⟩
   | bo ds=>
    obtain ⟨a,us,rfl,r2,r3⟩:=r
    exact ⟨a,us,rfl,r2,(repL_me ds us).mpr (RepL.mono sm _ _ r3)⟩
   | _=>exact r.elim
  ·trivial
 ·cases e;exact st 0 _ rfl
 ·rcases cases_ i _ z with ⟨y,_⟩ | ⟨j,_,y⟩ | y
  ·exact y
  ·obtain ⟨v,_,r⟩:=ArgsOk.get ss rest j _ h y;exact r.elim
  ·cases y
theorem q9a {c ar:Nat} {x qual:Str} {st:Stmt} {fa:Addr} {fd:FuncData} {N ps:List Str} {k:Nat} {f:Ro->Fl} (hT:T.me=none) (har:(T.fl c).length=ar) (F:∃(oc:Value) (od:Option Addr) (dV kV doc pm:Value) (an:Option Addr) (cdv ct:Value) (osl:Array (Option Value)),
 fd=PySem.W.fnOf x qual (q1w st) (q1d st) (q0f st) dV kV doc pm an cdv ct/\K.lookup fa=some ⟨oc,od,.func fd,osl⟩/\PySem.W.codeIn K cdv qual=true) (S:q0m N ps (q0f st))
 (hb:∀(y:Addr) (cdv:Value) (A:Around) (outer:List Env) (s:Shared) (H:Hp) (E:XK),Room k (A.deeper (envOfC qual (q0f st) s.heap.objs.size fa cdv))->DSs { T with me:=some y } true (CxD T P w K mg base N qual (q0f st) fa cdv A outer s H E) (q1d st) f) :
 FnOk P w K mg base (CXE T P w) (k+1) fa fd ps (spI T K c ps.length (q2s N.length c ar f)):=by
 obtain ⟨oc,od,dV,kV,doc,pm,an,cdv,ct,osl,rfl,lk,hcd⟩:=F
 refine j0S lk hcd S (λvs H Q E ⟨_,_,_,_,_,_,_,_,_,_,_,e,_⟩=>e) λA outer s H vs Q E hr ⟨y,dx,rest,ss,G,ev,hH,hx,hdx,hne,ha,hl,ho⟩=>?_
 subst ev
 have hpl:ps.length<=N.length:=by have:=congrArg List.length S.pre;rw [List.length_take] at this;omega
 have fr:=j10 (T:=T) (K:=K) (N:=N) hH hx hdx hne ha (by simp at hl;omega)
 refine ⟨_,(hb y cdv A outer s H E hr).run G (CxD T P w K mg base N qual (q0f st) fa cdv A outer s H E).xe PassesOwn.leaving,_,fr,?_⟩
 unfold q2s at ho
 cases e:f (.me c []::ss++List.replicate (N.length-(ss.length+1)) .no) with
 | nx ρ=>
  rw [e] at ho
  intro σ H' fr' _
  cases e0:ρ[0]? with
  | none=>simp only [e0] at ho
  | some sl=>
   cases sl with
   | me c' ds=>
    simp only [e0] at ho
    by_cases hc:c'=c/\ds.length=ar
    ·rw [if_pos hc] at ho
     obtain ⟨rfl,hd⟩:=hc
     obtain ⟨a,dx',fs,m0,e1,e2,e3,e4,r⟩:=fr'.sl 0 _ e0
     cases m0
     exact ho H' fr'.same ⟨y,dx',fs,rfl,e2,by rw [e4];exact List.take_of_length_le (by show (T.fl c').length<=_;omega),(repL_me ds _).mp r⟩
    ·rw [if_neg hc] at ho;exact ho.elim
   | _=>simp only [e0] at ho
 | exc c' ρ=>
  rw [e] at ho
  intro σ' H' fr' _ pins s' u H'' I hs fl
  exact q29 I rfl rfl rfl fl (ho H'' (fr'.same.trans hs))
 | rt r=>rw [e] at ho;exact ho.elim
 | bk ρ=>rw [e] at ho;exact ho.elim
 | ct ρ=>rw [e] at ho;exact ho.elim
 | bad=>rw [e] at ho;exact ho.elim
end
section
variable {T:Tb} {ib:Bool} {X:Cx} {e o:Expr} {es:List Expr} {pos pos' p apos:Pos} {fe fo:Ev} {fs:Ro->Out (List Sl)} {k n c:Nat} {f:Addr} {fd:FuncData} {ps:List Str} {F:Fn} {ds:List Value} {dvs:List V} {dss:List Sl} {x:Str}
theorem q30 {a:Str} {v:V}:∀{fs:List (Str×V)},a∉fs.map (·.1)->q3E a v fs=fs++[(a,v)]
 | [],_=>rfl
 | (b,u)::r,h=>by
  have hb:¬b=a:=λz=>h (by simp [z])
  have hr:a∉r.map (·.1):=λz=>h (by simp at z ⊢; exact .inr z)
  show (if b=a then _ else _)=_
  rw [if_neg hb,q30 hr];rfl
mutual
theorem Rep.wr {K:PySem.W.Frag} {H:Hp} {y dx:Addr} {c:Nat} {fs:List (Str×V)} {o:HO} (h:H y=some (.ins (T.ca c) dx fs)) (hn:fs.map (·.1)≠T.fl c):∀(d:D) (v:V),Rep T K H d v->Rep T K (upd H y o) d v
 | .non,_,q=>q
 | .bl _,_,q=>q
 | .int _,_,q=>q
 | .str _,_,q=>q
 | .tup ds,_,q=>by
  obtain ⟨b,ws,r1,r2,r3⟩:=q
  refine ⟨b,ws,r1,?_,RepL.wr h hn ds ws r3⟩
  rcases r2 with (r2 | ⟨o',r2⟩) | r2
  ·exact .inl (.inl (by rw [q0h (λz=>by rw [z,h] at r2;cases r2)];exact r2))
  ·exact .inl (.inr ⟨o',by rw [q0h (λz=>by rw [z,h] at r2;cases r2)];exact r2⟩)
  ·exact .inr r2
 | .lst ds,_,q=>by
  obtain ⟨b,ws,r1,r2,r3⟩:=q
  refine ⟨b,ws,r1,?_,RepL.wr h hn ds ws r3⟩
  rcases r2 with ⟨o',r2⟩ | r2
  ·exact .inl ⟨o',by rw [q0h (λz=>by rw [z,h] at r2;cases r2)];exact r2⟩
  ·exact .inr r2
 | .ins c2 ds,_,q=>by
  obtain ⟨b,dx2,fs2,r1,r2,r3,r4⟩:=q
  refine ⟨b,dx2,fs2,r1,?_,r3,RepL.wr h hn ds _ r4⟩
  rw [q0h (λz=>?_)]
  ·exact r2
  ·rw [z,h] at r2
   injection r2 with r2
   injection r2 with q1 q2 q3
   subst q3
   exact hn (by rw [r3];unfold Tb.fl;rw [q1])
 | .exc c,_,q=>by
  obtain ⟨b,o',r1,r2,r3⟩:=q
  exact ⟨b,o',r1,by rw [q0h (λz=>by rw [z,h] at r2;cases r2)];exact r2,r3⟩
theorem RepL.wr {K:PySem.W.Frag} {H:Hp} {y dx:Addr} {c:Nat} {fs:List (Str×V)} {o:HO} (h:H y=some (.ins (T.ca c) dx fs)) (hn:fs.map (·.1)≠T.fl c):∀(ds:List D) (us:List V),RepL T K H ds us->RepL T K (upd H y o) ds us
 | [],_,q=>q
 | d::ds,_,q=>by
  obtain ⟨v,r,r1,r2,r3⟩:=q
  exact ⟨v,r,r1,Rep.wr h hn d v r2,RepL.wr h hn ds r r3⟩
end
@[simp] def q0J (c j:Nat) (fe:Ev) (ρ:Ro):Fl:=match (ρ[0]?:Option Sl) with
 | some (.me c' ds)=>if c'=c/\ds.length=j then (fe ρ).fl ρ λd=>.nx (ρ.set 0 (.me c (ds++[d]))) else .bad
 | _=>.bad
theorem q0M {a:Str} (j:Nat) (cl:Cls X.K (T.ca c)) (na:NoAttr X.K (T.ca c) a) (hj:(T.fl c)[j]?=some a) (hnd:(T.fl c).Nodup) (h1000:j < 1000) (he:DE T X e fe) (hN:X.N[0]?=some x:=by rfl) (hv:Vis X.env.scope x:=by walk_at "v0")
 (hs:swapsWith e (some (.Attribute (.Name x p) a pos')) pos.line X.env=pure false:=by exact q2d rfl) (hd:(x==("__debug__" : Str))=false:=by decide) (hcd:(x==("__classdict__" : Str))=false:=by decide) :
 DS T true X (.Assign [.Attribute (.Name x p) a pos'] e pos) (q0J c j fe):=.mk λG E hp=>by
 refine PS.imp (j64 (X:=X.wish E) (q3b (X:=X.wish E) hN hv hd hcd) (he.run G E hp) hs) λD σ H ⟨ρ,fr,h⟩=>?_
 have h:AccS T true X G E H (q0J c j fe ρ) D:=h
 unfold q0J at h
 cases e0:ρ[0]? with
 | none=>simp only [e0] at h;exact h.elim
 | some sl=>
  cases sl with
  | me c' ds=>
   simp only [e0] at h
   by_cases hc:c'=c/\ds.length=j
   ·rw [if_pos hc] at h
    obtain ⟨rfl,hl⟩:=hc
    refine ⟨ρ,fr,Acc.mono (AccS.fl fr h) λd _ hd2 v H1 s1 rd=>?_⟩
    obtain ⟨y,dx,fs,m0,e1,e2,e3,e4,r⟩:=(fr.mono s1).sl 0 _ e0
    have hjl:j < (T.fl c').length:=(List.getElem?_eq_some_iff.mp hj).1
    have hnm:a∉fs.map (·.1):=λz=>by
     rw [e4,hl] at z
     obtain ⟨i,hi⟩:=List.getElem?_of_mem z
     obtain ⟨hi1,_⟩:=List.getElem?_eq_some_iff.mp hi
     rw [List.length_take] at hi1
     rw [List.getElem?_take_of_lt (by omega)] at hi
     have:=q2K hnd hi hj
     omega
    have hfl:fs.length=ds.length:=by
     have:=RepL.length _ _ r;simpa using this
    have hnf:fs.map (·.1)≠T.fl c':=λz=>by
     have:=congrArg List.length z
     simp at this;omega
    refine ⟨_,e1,y,T.ca c',dx,fs,rfl,e2,cl,na,by omega,?_⟩
    have fr1:=fr.mono s1
    have h0:0 < ρ.length:=(List.getElem?_eq_some_iff.mp e0).1
    refine hd2 σ _ ⟨λb u q=>?_,by simp [fr1.len],λi s q=>?_,λi k s1 s2 b hik q1 q2 o1 o2=>?_,fr1.me,λi c2 es q=>?_⟩ (λb u q st=>?_)
    ·rw [q0h (λz=>by rw [z,e3] at q;cases q)];exact fr1.same b u q
    ·by_cases hi:i=0
     ·subst hi
      rw [List.getElem?_set_self h0] at q
      cases q
      refine ⟨y,dx,q3E a v fs,m0,e1,q0p,e3,?_,?_⟩
      ·rw [q30 hnm,List.map_append,e4,List.length_append,List.length_cons,List.length_nil,hl]
       rw [List.take_succ,hj];rfl
      ·rw [q30 hnm,List.map_append]
       exact RepL.append _ _ _ _ (RepL.wr e2 hnf _ _ r) ⟨v,[],rfl,Rep.wr e2 hnf _ _ rd,rfl⟩
     ·rw [List.getElem?_set_ne (Ne.symm hi)] at q
      have hs:=fr1.sl i s q
      cases s with
      | no=>trivial
      | sh d'=>obtain ⟨w,z1,z2⟩:=hs;exact ⟨w,z1,Rep.wr e2 hnf _ _ z2⟩
      | ow es=>
       obtain ⟨b,ws,z1,z2,z3,z4⟩:=hs
       exact ⟨b,ws,z1,by rw [q0h (λz=>by rw [z,e2] at z2;cases z2)];exact z2,z3,RepL.wr e2 hnf _ _ z4⟩
      | bo es=>obtain ⟨b,ws,z1,z2,z4⟩:=hs;exact ⟨b,ws,z1,z2,RepL.wr e2 hnf _ _ z4⟩
      | me c2 es=>
       exact absurd (fr1.me0 i c2 es q) hi
      | ox t pre es post=>
       obtain ⟨c2,vp,b,vq,ws,z1,z2,z3,z4,z5,z6,z7⟩:=hs
       exact ⟨c2,vp,b,vq,ws,z1,z2.keep (λu w _ n=>by rw [q0h (λz=>by subst z;rw [e2] at w;cases w;exact n _ _ _ rfl)];exact w),RepL.wr e2 hnf _ _ z3,RepL.wr e2 hnf _ _ z4,by rw [q0h (λz=>by rw [z,e2] at z5;cases z5)];exact z5,z6,RepL.wr e2 hnf _ _ z7⟩
    ·have ni:i≠0:=by rintro rfl;rw [List.getElem?_set_self h0] at q1;cases q1;exact o1
     have nk:k≠0:=by rintro rfl;rw [List.getElem?_set_self h0] at q2;cases q2;exact o2
     rw [List.getElem?_set_ne (Ne.symm ni)] at q1
     rw [List.getElem?_set_ne (Ne.symm nk)] at q2
     have bk:∀(x:Addr) (u:HO),H1 x=some u->(∀xs,u≠.lst xs)->(∀x dx fs,u≠.ins x dx fs)->upd H1 y (.ins (T.ca c') dx (q3E a v fs)) x=some u:=λx u w _ n=>by
      rw [q0h (λz=>by subst z;rw [e2] at w;cases w;exact n _ _ _ rfl)];exact w
     exact fr1.ne i k s1 s2 b hik q1 q2 ((fr1.sl i s1 q1).back bk o1) ((fr1.sl k s2 q2).back bk o2)
    ·by_cases hi:i=0
     ·exact hi
     ·rw [List.getElem?_set_ne (Ne.symm hi)] at q;exact fr1.me0 i c2 es q
    ·have hb:b≠y:=λz=>by rw [z] at q;rw [s1 _ _ q] at e2;cases e2;cases st
     rw [q0h hb];exact s1 _ _ q
   ·rw [if_neg hc] at h;exact h.elim
  | _=>simp only [e0] at h;exact h.elim
end
section
variable {T:Tb} {ib:Bool} {X:Cx} {e o a b:Expr} {es:List Expr} {pos pos' p apos:Pos} {fe fo fa fb:Ev} {fs:Ro->Out (List Sl)} {k n c:Nat} {f:Addr} {fd:FuncData} {ps:List Str} {F:Fn} {ds:List Value} {dvs:List V} {dss:List Sl} {x:Str}
theorem j9I {pins:List (Addr×Obj)} {σ:L2.St} {H:Hp} {s:Shared} {E:Value->Shared->Prop} {Q:VK} {us:List Value} {vs:List V} {ss:List Sl} (M:Mk X.K (T.ca c) f) (FO:FnOk X.prog X.w X.K X.mg X.base (CXE T X.prog X.w) k f fd ps (spI T X.K c ps.length F)) (hr:Room (k+1) X.A) (hb:Binds X.K fd ps ds) (hd:Vals dvs ds)
 (I:Inv (X.wish E) pins σ H s) (r:Vals vs us) (ha:ArgsOk T X.K H (vs++dvs) ss) (hl:(us++ds).length+1=ps.length)
 (h:Acc T X E σ H (F ss) (λr=>∀v H',Same H H'->RvOk T X.K H H' v r->Q v H')) (hsh:∀r,F ss=.ok r->∃d,r=.sh d) :
 wpAny (model X.prog X.w) X.A (call (.ref (T.ca c)) us) (EP (X.wish E) pins σ Q) E s:=by
 have IX:Inv X pins σ H s:=I.unwish
 have I2:=Inv.made (C:=T.ca c) IX
 have hx:=IX.hok.fresh (a:=s.heap.objs.size+1) (Nat.le_succ _)
 have hdx:=IX.hok.fresh (a:=s.heap.objs.size) (Nat.le_refl _)
 have r2:Vals (V.ref (s.heap.objs.size+1)::(vs++dvs)) (Value.ref (s.heap.objs.size+1)::(us++ds)):=.cons rfl (r.append hd)
 let EX:XK:=λcls _ H'=>∃c',cls=.ref (T.ca c')/\F ss=.exc c'/\Same H H'
 have hsp:spI T X.K c ps.length F (V.ref (s.heap.objs.size+1)::(vs++dvs)) (upd (upd H s.heap.objs.size (.own (s.heap.objs.size+1))) (s.heap.objs.size+1) (.ins (T.ca c) s.heap.objs.size [])) (λv H2=>v=.non/\Q (.ref (s.heap.objs.size+1)) H2) EX:=by
  refine ⟨_,s.heap.objs.size,vs++dvs,ss,H,rfl,rfl,hx,hdx,Nat.ne_of_lt (Nat.lt_succ_self _),ha,?_,?_⟩
  ·have:=r2.length;rw [this];simpa using hl
  ·cases ef:F ss with
   | ok rr=>
    obtain ⟨d,rfl⟩:=hsh rr ef
    rw [ef] at h;exact λH' sm rd=>⟨rfl,h _ H' sm rd⟩
   | exc c'=>exact λH' sm=>⟨c',rfl,ef,sm⟩
   | bad=>rw [ef] at h;exact h.elim
 have hl2:(Value.ref (s.heap.objs.size+1)::us++ds).length=ps.length:=by simpa using hl
 refine wpAny_call (q8I (f:=f) IX.kIn M.makes M.init (beq_iff_eq.mp M.fn) (codeAny_mono (FO.run _ X.stack _ _ ⟨Value.ref (s.heap.objs.size+1)::us,[]⟩ (Value.ref (s.heap.objs.size+1)::(us++ds)) _ _ EX (hr.make (T.ca c) us [])
  (I2.env0.make (T.ca c) us []) (hb _ (Value.ref (s.heap.objs.size+1)::us) I2.kIn hl2) r2 hsp) λres s' hq=>?_))
 cases res with
 | error ev=>
  obtain ⟨c1,H',I',fl,c',ec,eF,sm⟩:=Inv.flown I2 hq
  rw [eF] at h
  refine h pins s' ev H' I' sm ?_
  obtain ⟨ea,rfl,h1,h2,nc,oe,vs',a0,he,hc,rest⟩:=fl
  exact ⟨ea,rfl,h1,h2,nc,oe,vs',a0,he,hc.trans ec,rest⟩
 | ok fl=>
  cases fl with
  | ret u=>
   obtain ⟨v,H',I3,rv,ev,q3⟩:=I2.after hq
   subst ev
   exact ⟨rv,⟨V.ref (s.heap.objs.size+1),H',I3.wish E,rfl,q3⟩⟩
  | next=>exact False.elim hq
  | brk=>exact False.elim hq
  | cont=>exact False.elim hq
theorem q0O (M:Mk X.K (T.ca c) f) (FO:FnOk X.prog X.w X.K X.mg X.base (CXE T X.prog X.w) k f fd ps (spI T X.K c ps.length F)) (hsh:∀ss r,F ss=.ok r->∃d,r=.sh d) (hr:Room (k+1) X.A) (hg:Gl X x) (hm:X.mg x=some (.ref (T.ca c))) (hb:Binds X.K fd ps ds) (hd:Vals dvs ds)
 (hds:∀H,ArgsOk T X.K H dvs dss) (hn:n+1=ps.length) (ha:DG T X (e::es) fs) (hdb:(x==("__debug__" : Str))=false:=by decide) (he:starEach (e::es) X.env=(false,eval e X.env)::starEach es X.env:=by exact q0w rfl) (hpl:(backTo pos (starEach es X.env)).any (·.1)=false:=by exact q0z rfl) :
 DR T X (.Call (.Name x p) (e::es) [] pos) (q6y (n:=n) F dss fs):=.mk λG E hp=>by
 rintro pins s σ H Q I ⟨ρ,fr,h⟩
 refine wpAny_Call_Name_kw (q15 (X:=X.wish E) I hg hm ?_ hdb)
 refine PySem.W.callWith_K (h₀:=X.base) I.ok.mod.kin M.kp (thn (ha.run G E hp pos pins s σ H (λvs H1=>∃ss,ArgsOk T X.K H1 vs ss/\ss.length+dss.length=n/\Same H H1/\Acc T X E σ H1 (F (ss++dss)) (λr=>∀v H',Same H1 H'->RvOk T X.K H1 H' v r->Q v H')) I ⟨ρ,fr,?_⟩) λus s1 ⟨vs,H1,I1,r,ss,ha1,hl1,s1',q⟩=>⟨I1.kIn,?_⟩) he hpl
 ·have h:Acc T X E σ H ((fs ρ).bind λss=>if ss.length+dss.length=n then F (ss++dss) else .bad) _:=h
  refine Acc.mono (Acc.bind h) λss _ hss vs H1 s1 r1=>?_
  by_cases hl:ss.length+dss.length=n
  ·rw [if_pos hl] at hss
   exact ⟨ss,r1,hl,s1,Acc.mono (Acc.heap s1 hss) λr _ hr' v H' s2 r2=>hr' v H' (s1.trans s2) (q21 s1 r2)⟩
  ·rw [if_neg hl] at hss;exact hss.elim
 ·have la:=ArgsOk.length ss vs ha1
  have lr:=r.length
  have ld:=ArgsOk.length dss dvs (hds H1)
  have lv:=hd.length
  exact j9I (X:=X) M FO hr hb hd I1 r (ArgsOk.append _ _ _ _ ha1 (hds H1)) (by simp only [List.length_append,List.nil_append];omega) q (hsh _)
theorem q0E {n c ar:Nat} {f:Ro->Fl} (ss:List Sl) (r:Rv) (h:q2s n c ar f ss=.ok r):∃d,r=.sh d:=by
 unfold q2s at h
 split at h
 ·split at h
  ·split at h
   ·cases h;exact ⟨_,rfl⟩
   ·cases h
  ·cases h
 ·cases h
 ·cases h
@[simp] def w2W (cps:List (Nat×Nat)):D->Out D
 | .ins c ds=>(match cps.lookup c with
  | some j=>(match ds[j]? with | some d=>.ok d | none=>.bad)
  | none=>.bad)
 | _=>.bad
@[simp] def q0X (cps:List (Nat×Nat)) (fo:Ev) (ρ:Ro):Out D:=(fo ρ).bind (w2W cps)
theorem q4e {a:Str} {j:Nat} {v:V}:∀{fs:List (Str×V)},(fs.map (·.1)).Nodup->(fs.map (·.1))[j]?=some a->(fs.map (·.2))[j]?=some v->fs.lookup a=some v
 | [],_,h,_=>by simp at h
 | (b,u)::r,nd,h1,h2=>by
  cases j with
  | zero=>
   simp at h1 h2
   subst h1 h2
   simp [List.lookup]
  | succ j=>
   rw [List.map_cons,List.getElem?_cons_succ] at h1 h2
   rw [List.map_cons,List.nodup_cons] at nd
   have hne:(a==b)=false:=by
    rw [beq_eq_false_iff_ne]
    rintro rfl
    exact nd.1 (List.mem_of_getElem? h1)
   rw [List.lookup_cons,hne]
   exact q4e nd.2 h1 h2
theorem q3e {cps:List (Nat×Nat)} {c j:Nat} (h:cps.lookup c=some j):(c,j)∈cps:=by
 induction cps with
 | nil=>cases h
 | cons q r ih=>
  obtain ⟨a,b⟩:=q
  rw [List.lookup_cons] at h
  by_cases z:c=a
  ·subst z
   simp at h;subst h;exact List.mem_cons_self
  ·have:(c==a)=false:=beq_eq_false_iff_ne.mpr z
   rw [this] at h
   exact List.mem_cons_of_mem _ (ih h)
theorem q0q {at_:Str} {cps:List (Nat×Nat)} (he:DE T X o fo) (hc:∀q∈cps,Cls X.K (T.ca q.1)/\NoAttr X.K (T.ca q.1) at_/\(T.fl q.1).Nodup/\(T.fl q.1)[q.2]?=some at_) (hb:attributeBase o at_ X.env (eval o X.env)=eval o X.env:=by rfl):DE T X (.Attribute o at_ pos) (q0X cps fo):=.mk λG E hp=>
 PE.imp (j3v (X:=X.wish E) (he.run G E hp) hb) fun σ H Q ⟨ρ,fr,q⟩=>⟨ρ,fr,Acc.mono (Acc.bind q) λd _ hd v H1 s1 r=>by
  cases d with
  | ins c ds=>
   obtain ⟨y,dx,fs,rfl,e2,e3,r4⟩:=r
   have hd:Acc T X E σ H (match cps.lookup c with | some j=>(match ds[j]? with | some d=>.ok d | none=>.bad) | none=>.bad) _:=hd
   cases el:cps.lookup c with
   | none=>simp only [el] at hd;exact hd.elim
   | some j=>
    simp only [el] at hd
    cases ed:ds[j]? with
    | none=>simp only [ed] at hd;exact hd.elim
    | some d=>
     simp only [ed] at hd
     obtain ⟨h1,h2,h3,h4⟩:=hc (c,j) (q3e el)
     obtain ⟨w,ew,rw'⟩:=RepL.get _ _ _ _ r4 ed
     exact ⟨y,T.ca c,dx,fs,w,rfl,e2,h1,h2,q4e (by rw [e3];exact h3) (by rw [e3];exact h4) ew,hd w H1 s1 rw'⟩
  | _=>exact hd.elim⟩
theorem q00 {cn:Str} {cid:Nat} {p2:Pos} {g:D->Out Bool} (hg:Gl X "isinstance") (hm:X.mg "isinstance" = none) (ha:DE T X e fe) (hgc:Gl X cn) (hmc:X.mg cn=some (.ref (T.ca cid))) (hi:q4k T X.K (.ref (T.ca cid)) g) (hng:∀d cc,g d≠.exc cc)
 (hs1:starEach [e,.Name cn p2] X.env=(false,eval e X.env)::starEach [.Name cn p2] X.env:=by rfl) (hd:(cn==("__debug__" : Str))=false:=by decide):DE T X (.Call (.Name "isinstance" p) [e,.Name cn p2] [] pos) (q2H g fe):=
 j0m (cv:=.ref (T.ca cid)) (clsv:=.ref (T.ca cid)) hg hm ha (λE=>q41 (X:=X.wish E) hgc hmc rfl hd) (λu r=>r) hi hng hs1
@[simp] def q1B (n j:Nat):D->Out Bool
 | .exc c=>if c < n then .ok (c==j || j==0) else .bad
 | _=>.bad
@[simp] def q5n (n:Nat):D->Out Bool
 | .exc c=>if c < n then .ok true else .bad
 | _=>.bad
theorem q0Z {K:PySem.W.Frag} {n j:Nat} (hx:∀c,c < n->q9m K (T.ca c)) (h:∀c,c < n->PySem.W.kitOne K (.ref (T.ca c)) (.ref (T.ca j))=some (c==j || j==0)):q4k T K (.ref (T.ca j)) (q1B n j):=λd b hb=>by
 cases d with
 | exc c=>
  have hb:(if c < n then Out.ok (c==j || j==0) else .bad)=.ok b:=hb
  by_cases z:c < n
  ·rw [if_pos z] at hb
   cases hb
   exact ⟨h c z,(λc' ds' e=>by cases e),(λ_ e=>by cases e;exact hx _ z)⟩
  ·rw [if_neg z] at hb;cases hb
 | _=>cases hb
theorem q9I {K:PySem.W.Frag} {n:Nat} {cls:Value} (hx:∀c,c < n->q9m K (T.ca c)) (h:∀c,c < n->PySem.W.kitOne K (.ref (T.ca c)) cls=some true):q4k T K cls (q5n n):=λd b hb=>by
 cases d with
 | exc c=>
  have hb:(if c < n then Out.ok true else .bad)=.ok b:=hb
  by_cases z:c < n
  ·rw [if_pos z] at hb
   cases hb
   exact ⟨h c z,(λc' ds' e=>by cases e),(λ_ e=>by cases e;exact hx _ z)⟩
  ·rw [if_neg z] at hb;cases hb
 | _=>cases hb
theorem q0D (n j:Nat) (d:D) (c:Nat):q1B n j d≠.exc c:=by
 cases d<;>(intro h;first | cases h | (simp only [q1B] at h;split at h<;>cases h))
theorem q4O (n:Nat) (d:D) (c:Nat):q5n n d≠.exc c:=by
 cases d<;>(intro h;first | cases h | (simp only [q5n] at h;split at h<;>cases h))
@[simp] def D.isNon:D->Bool
 | .non=>true
 | _=>false
theorem q6Y {H:Hp} {d:D} {v:V} (r:Rep T X.K H d v):decide (v=.non)=d.isNon:=by
 cases d with
 | non=>cases r;rfl
 | bl b=>cases r;rfl
 | int i=>cases r;rfl
 | str z=>cases r;rfl
 | tup ds=>obtain ⟨a,vs,rfl,_⟩:=r;rfl
 | lst ds=>obtain ⟨a,vs,rfl,_⟩:=r;rfl
 | ins c ds=>obtain ⟨a,dx,fs,rfl,_⟩:=r;rfl
 | exc c=>obtain ⟨a,o,rfl,_⟩:=r;rfl
@[simp] def q7m (g g':D->D->Out D) (fa fb fc:Ev) (ρ:Ro):Out D:=(fa ρ).bind λx=>(fb ρ).bind λy=>(g x y).bind λz=>z.toB.bind λk=>if k=true then (fc ρ).bind λw=>g' y w else .ok (.bl false)
theorem q8c {G H:Hp} {E:Value->Shared->Prop} {σ:L2.St} {Q:VK} {g g':D->D->Out D} {r r':R2} {fc:Ev}
 (hg:∀(dx dy:D) (x y:V) (σ:L2.St) (H:Hp) (Q:VK),Rep T X.K H dx x->Rep T X.K H dy y->Acc T X E σ H (g dx dy) (kE T X.K H Q)->r x y H Q)
 (hg':∀(dx dy:D) (x y:V) (σ:L2.St) (H:Hp) (Q:VK),Rep T X.K H dx x->Rep T X.K H dy y->Acc T X E σ H (g' dx dy) (kE T X.K H Q)->r' x y H Q) {ρ:Ro} (fr:FR T X.K G H σ ρ) (h:Acc T X E σ H (q7m g g' fa fb fc ρ) (kE T X.K H Q)) :
 j0D r r' (tE T X G E fa) (tE T X G E fb) (tE T X G E fc) σ H Q:=by
 have h:Acc T X E σ H ((fa ρ).bind λx=>(fb ρ).bind λy=>(g x y).bind λz=>z.toB.bind λk=>if k=true then (fc ρ).bind λw=>g' y w else .ok (.bl false)) (kE T X.K H Q):=h
 refine ⟨ρ,fr,Acc.mono (Acc.bind h) λdx _ hx v H1 s1 r1=>⟨ρ,fr.mono s1,Acc.mono (Acc.bind (Acc.heap s1 hx)) λdy _ hy u H2 s2 r2=>?_⟩⟩
 refine hg dx dy v u σ H2 _ (Rep.mono s2 _ _ r1) r2 (Acc.mono (Acc.bind (Acc.heap s2 hy)) λdz _ hz w H3 s3 r3=>?_)
 obtain ⟨kk,rfl,hk⟩:=q5g hz
 refine ⟨kk,r3,?_⟩
 cases kk with
 | true=>
  refine ⟨ρ,((fr.mono s1).mono s2).mono s3,Acc.mono (Acc.bind (Acc.heap s3 hk)) λdw _ hw t H4 s4 r4=>?_⟩
  exact hg' dy dw u t σ H4 Q (Rep.mono s4 _ _ (Rep.mono s3 _ _ r2)) r4 (Acc.mono (Acc.heap s4 hw) λd _ hd z H5 s5 r5=>hd z H5 ((((s1.trans s2).trans s3).trans s4).trans s5) r5)
 | false=>exact hk _ H3 ((s1.trans s2).trans s3) rfl
theorem q1p {op op':CmpOp} {g g':D->D->Out D} {cc:Expr} {fc:Ev} (ho:OpD T X (compareOp op) g) (ho':OpD T X (compareOp op') g') (ha:DE T X a fa) (hb:DE T X b fb) (hc:DE T X cc fc) (hm:lastMarks [op,op'] [b,cc]=false:=by with_unfolding_all rfl) :
 DT T X (.Compare a [op,op'] [b,cc] pos) (fun ρ=>(q7m g g' fa fb fc ρ).bind D.toB):=.mk λG E hp=>by
 obtain ⟨r,hr,hg⟩:=ho E
 obtain ⟨r',hr',hg'⟩:=ho' E
 refine PT.imp (q9z (X:=X.wish E) hr hr' (ha.run G E hp) (hb.run G E hp) (hc.run G E hp) hm) fun σ H Q ⟨ρ,fr,h⟩=>q8c hg hg' fr (Acc.mono (Acc.bind h) λd _ hd v H1 s1 r1=>?_)
 cases d with
 | bl kk=>exact ⟨kk,r1,hd H1 s1⟩
 | _=>exact hd.elim
end
section
variable {T:Tb} {ib:Bool} {X:Cx} {e o a b:Expr} {es:List Expr} {pos pos' p apos:Pos} {fe fo fa fb:Ev} {x:Str}
@[simp] def isD (neg:Bool):D->D->Out D
 | .bl i,.bl j=>.ok (.bl (if neg then !decide (i=j) else decide (i=j)))
 | d,.non=>.ok (.bl (if neg then !d.isNon else d.isNon))
 | _,_=>.bad
theorem j3V:OpR X (compareOp .Is) (λx y H Q=>∃i j,x=.bl i/\y=.bl j/\Q (.bl (decide (i=j))) H):=by
 intro pins s σ H x y v u Q I rx ry h
 obtain ⟨i,j,rfl,rfl,q⟩:=h
 cases rx
 cases ry
 exact is_bool (q0H I q (by cases i<;>cases j<;>rfl))
theorem q6I:OpR X (compareOp .IsNot) (λx y H Q=>∃i j,x=.bl i/\y=.bl j/\Q (.bl (!decide (i=j))) H):=by
 intro pins s σ H x y v u Q I rx ry h
 obtain ⟨i,j,rfl,rfl,q⟩:=h
 cases rx
 cases ry
 exact isnot_bool (q0H I q (by cases i<;>cases j<;>rfl))
theorem j9A:OpD T X (compareOp .Is) (isD false):=λE=>⟨_,OpR.or j5p j3V,λdx dy x y σ H Q rx ry q=>by
 cases dy with
 | non=>
  have q2:Acc T X E σ H (.ok (.bl dx.isNon)) (kE T X.K H Q):=by cases dx<;>exact q
  exact .inl ⟨ry,q2 _ H (Same.refl H) (congrArg V.bl (q6Y rx))⟩
 | bl j=>
  cases dx with
  | bl i=>exact .inr ⟨i,j,rx,ry,q _ H (Same.refl H) rfl⟩
  | _=>exact q.elim
 | _=>first | exact q.elim | (cases dx<;>exact q.elim)⟩
theorem q52:OpD T X (compareOp .IsNot) (isD true):=λE=>⟨_,OpR.or j03 q6I,λdx dy x y σ H Q rx ry q=>by
 cases dy with
 | non=>
  have q2:Acc T X E σ H (.ok (.bl (!dx.isNon))) (kE T X.K H Q):=by cases dx<;>exact q
  exact .inl ⟨ry,q2 _ H (Same.refl H) (congrArg (λb=>V.bl (!b)) (q6Y rx))⟩
 | bl j=>
  cases dx with
  | bl i=>exact .inr ⟨i,j,rx,ry,q _ H (Same.refl H) rfl⟩
  | _=>exact q.elim
 | _=>first | exact q.elim | (cases dx<;>exact q.elim)⟩
@[simp] def q8G:List Nat->Ro->List D->Out Ro
 | [],ρ,[]=>.ok ρ
 | i::is,ρ,d::ds=>q8G is (ρ.set i (.sh d)) ds
 | _,_,_=>.bad
def j7E (T:Tb) (X:Cx) (ts:List Expr) (is:List Nat):Prop:=∀E:Value->Shared->Prop,∃tg:TGs,PGs (X.wish E) ts tg/\∀(G H:Hp) (σ:L2.St) (ρ ρ':Ro) (ds:List D) (vs:List V) (Q:L2.St->Hp->Prop),FR T X.K G H σ ρ->RepL T X.K H ds vs->q8G is ρ ds=.ok ρ'->(∀σ',FR T X.K G H σ' ρ'->Q σ' H)->tg vs σ H Q
theorem q1U:j7E T X [] []:=λE=>⟨_,q7W,λG H σ ρ ρ' ds vs Q fr r e k=>by
 cases ds with
 | nil=>cases e;cases r;exact ⟨rfl,k σ fr⟩
 | cons d ds=>cases e⟩
theorem q0U (i:Nat) {is:List Nat} {ts:List Expr} (hN:X.N.Nodup) (hr:j7E T X ts is) (hi:X.N[i]?=some x:=by rfl) (hx:Loc X.env.scope x:=by walk_at "v3") (hf:X.fn x=true∨X.env.scope.names.lookup x=some .local:=by walk_at "v2") (hz:T.me=none∨i≠0:=by walk_at "v1")
 (hs:(assignEach (.Name x p::ts) X.env).map (·.2)=assign (.Name x p) X.env::(assignEach ts X.env).map (·.2):=by rfl):j7E T X (.Name x p::ts) (i::is):=λE=>by
 obtain ⟨tg,h1,h2⟩:=hr E
 refine ⟨_,q3G (X:=X.wish E) (q18 (X:=X.wish E) (i:=i) hN hi hx hf) h1 (by first | exact hs | rfl),λG H σ ρ ρ' ds vs Q fr r e k=>?_⟩
 cases ds with
 | nil=>cases e
 | cons d ds=>
  obtain ⟨v,us,rfl,r1,r2⟩:=r
  exact ⟨v,us,rfl,h2 G H _ _ ρ' ds us Q (fr.set_sh r1 hz) r2 e k⟩
@[simp] def q9G (is:List Nat) (ρ:Ro) (d:D):Out Ro:=match d with
 | .tup ds=>q8G is ρ ds
 | _=>.bad
theorem q4x:∀(is:List Nat) (ρ ρ':Ro) (ds:List D),q8G is ρ ds=.ok ρ'->ds.length=is.length
 | [],_,_,[],_=>rfl
 | [],_,_,_::_,e=>by cases e
 | _::_,_,_,[],e=>by cases e
 | i::is,ρ,ρ',d::ds,e=>by
  have:=q4x is _ ρ' ds e
  simp [this]
theorem q2x {ts:List Expr} {is:List Nat} {kk:Nat} (hc:X.calm=true) (h:j7E T X ts is) (hn:(assignEach ts X.env).length=is.length:=by rfl) (hst:(assignEach ts X.env).findIdx? (·.1)=none:=by rfl):TgD T X (.Tuple ts kk pos) (q9G is):=λE=>by
 obtain ⟨tg,h1,h2⟩:=h E
 refine ⟨_,j0u (X:=X.wish E) (n:=is.length) hc h1 hn hst,λG H σ ρ ρ' d v Q fr r e k=>?_⟩
 cases d with
 | tup ds=>
  obtain ⟨a,vs,rfl,sq,rl⟩:=r
  exact ⟨a,vs,rfl,sq,(RepL.length _ _ rl).trans (q4x is ρ ρ' ds e),h2 G H σ ρ ρ' ds vs Q fr rl e k⟩
 | _=>cases e
end
section
variable {T:Tb} {X:Cx} {pos:Pos} {x:Str}
theorem q0v {i:Int} (hg:Gl X x) (h:∃t,X.mg x=some (.int i t)) (hd:(x==("__debug__" : Str))=false:=by decide):DE T X (.Name x pos) (eC (.int i)):=by
 obtain ⟨t,h⟩:=h
 exact q46 (v:=.int i) hg h ⟨t,rfl⟩ (λ_=>rfl) hd
theorem q8W {z:Str} (hg:Gl X x) (h:∃t,X.mg x=some (.str z t)) (hd:(x==("__debug__" : Str))=false:=by decide):DE T X (.Name x pos) (eC (.str z)):=by
 obtain ⟨t,h⟩:=h
 exact q46 (v:=.str z) hg h ⟨t,rfl⟩ (λ_=>rfl) hd
theorem hsh1 {fe:Ev} (ρ:Ro) (ds:List D) (h:q0o fe q0G ρ=.ok ds):ds.length<=1000:=by
 simp only [q0o,q0G] at h
 cases e:fe ρ with
 | ok d=>rw [e] at h;cases h;show 1<=1000;decide
 | exc c=>rw [e] at h;cases h
 | bad=>rw [e] at h;cases h
theorem j1f {K:PySem.W.Frag} {k:Nat} {tab:List (Nat×Bool)} (h:∀q∈tab,PySem.W.exmOne K (.ref (T.ca q.1)) (.ref (T.ca k))=some q.2) (c:Nat) (b:Bool) (e:tab.lookup c=some b):PySem.W.exmOne K (.ref (T.ca c)) (.ref (T.ca k))=some b:=by
 have hm:(c,b)∈tab:=by
  induction tab with
  | nil=>cases e
  | cons q r ih=>
   obtain ⟨a,d⟩:=q
   rw [List.lookup_cons] at e
   by_cases z:c=a
   ·subst z
    simp at e;subst e;exact List.mem_cons_self
   ·have:(c==a)=false:=beq_eq_false_iff_ne.mpr z
    rw [this] at e
    exact List.mem_cons_of_mem _ (ih (λq hq=>h q (List.mem_cons_of_mem _ hq)) e)
 exact h _ hm
end
theorem q2S {K:PySem.W.Frag} {x qual:Str} {st:Stmt} {f:Addr} {fd:FuncData} (F:L2.Fun K x qual st f fd):∃(oc:Value) (od:Option Addr) (dV kV doc pm:Value) (an:Option Addr) (cdv ct:Value) (osl:Array (Option Value)),
 fd=PySem.W.fnOf x qual (q1w st) (q1d st) (q0f st) dV kV doc pm an cdv ct/\K.lookup f=some ⟨oc,od,.func fd,osl⟩/\PySem.W.codeIn K cdv qual=true:=by
 obtain ⟨oc,od,kV,doc,pm,an,cdv,ct,osl,e1,e2,e3⟩:=F.ex
 exact ⟨oc,od,.none,kV,doc,pm,an,cdv,ct,osl,e1,e2,e3⟩
section
variable {T:Tb} {ib:Bool} {X:Cx} {e o a:Expr} {es:List Expr} {pos p apos cpos:Pos} {fe fo:Ev} {fs:Ro->Out (List D)}
end
def w0x:Expr->Option D
 | .Constant (.int i) _ _=>some (.int i)
 | .Constant (.str x) _ _=>some (.str x)
 | .Constant (.bool b) _ _=>some (.bl b)
 | .Constant .none _ _=>some .non
 | _=>none
def litsOf:List Expr->Option (List D)
 | []=>some []
 | e::es=>match w0x e,litsOf es with
  | some d,some ds=>some (d::ds)
  | _,_=>none
section
variable {T:Tb} {X:Cx}
end
def Walk (T:Tb) (K:PySem.W.Frag) (G:Hp) (J:It) (ds:List D) (H0:Hp):Prop:=∀(i:Nat) (H:Hp),Pers false H0 H->Same G H ->
 (∀d,ds[i]?=some d->J.go i H/\∀x H1,J.yld i H x H1->Same H H1/\Rep T K H1 d x)/\(ds.length<=i->J.stop i H)
def tI (T:Tb) (X:Cx) (G:Hp) (E:Value->Shared->Prop) (f:Ro->Out (List D)):TI:=fun σ H R=>∃ρ,FR T X.K G H σ ρ/\Acc T X E σ H (f ρ) (λds=>∀J H',Same H H'->Walk T X.K G J ds H'->R J H')
structure DI (T:Tb) (X:Cx) (tg e:Expr) (f:Ro->Out (List D)):Prop where
 mk ::
 run:∀(G:Hp) (E:Value->Shared->Prop),PassesOwn (model X.prog X.w) X.A X.env E->PI (X.wish E) tg e (tI T X G E f)
section
variable {T:Tb} {X:Cx} {tg iter e a b:Expr} {body:List Stmt} {pos p:Pos} {fb:Ro->Fl} {fl fm:Ro->Out (List D)} {fe fa fc:Ev}
theorem q0P {g:Ro->D->Out Ro} (hc:X.calm=true) (hi:DI T X tg iter fl) (hg:TgD T X tg g) (hb:DSs T false X body fb)
 (hs:∀x,foldedSetIterable iter X.env x=pure x:=by intro _;rfl):DS T false X (.For tg iter body [] pos) (q2G fl g fb):=.mk λG E hp=>by
 obtain ⟨tgr,hpg,hgr⟩:=hg E
 refine PS.imp (j3C (X:=X.wish E) hp hc (hi.run G E hp) hpg (hb.run G E hp) hs) λDD σ H ⟨ρ,fr,h⟩=>⟨ρ,fr,Acc.mono (AccS.fl fr h) λds _ hd J H1 s1 wk=>?_⟩
 refine ⟨λi m σ' H'=>m=ds.length-i/\i<=ds.length/\∃ρ',FR T X.K G H' σ' ρ'/\Pers false H1 H'/\AccS T false X G E H' (q8y (q2R g fb) (ds.drop i) ρ') DD,⟨ds.length,rfl,Nat.zero_le _,ρ,fr.mono s1,Pers.refl _,AccS.heap (Pers.of s1) hd⟩,?_⟩
 rintro i m σ' H' ⟨rfl,hi,ρ',fr',p',ha⟩
 obtain ⟨w1,w2⟩:=wk i H' p' fr'.same
 by_cases hlt:i < ds.length
 ·obtain ⟨d,e1⟩:∃d,ds[i]?=some d:=⟨ds[i],by simp [hlt]⟩
  obtain ⟨go,yl⟩:=w1 d e1
  refine .inr ⟨go,fun σ2 H2=>∃ρ2,FR T X.K G H2 σ2 ρ2/\Pers false H1 H2/\AccS T false X G E H2 (q8y (q2R g fb) (ds.drop (i+1)) ρ2) DD,fun σ2 H2 q=>⟨ds.length-(i+1),by omega,rfl,hlt,q⟩,λx H2 y=>?_⟩
  obtain ⟨s2,rd⟩:=yl x H2 y
  have e2:ds.drop i=d::ds.drop (i+1):=by
   obtain ⟨hi',e3⟩:=List.getElem?_eq_some_iff.mp e1
   rw [List.drop_eq_getElem_cons hi',e3]
  rw [e2] at ha
  exact q9v (ib:=false) hgr (λ_ _ _ q=>q) (fr'.mono s2) rd (AccS.heap (Pers.of s2) ha) fun ρ2 σ2 H3 fr2 p2 h2=>⟨ρ2,fr2,(p'.trans (Pers.of s2)).trans p2,h2⟩
 ·have e:i=ds.length:=by omega
  subst e
  rw [List.drop_length] at ha
  exact .inl ⟨w2 (Nat.le_refl _),ha σ' H' fr' (Pers.refl _)⟩
theorem q7C {G H1:Hp} {E:Value->Shared->Prop} {l:Addr} {vs:List V} {ds:List D} (st:Stb X.K G H1 l vs) (r:RepL T X.K H1 ds vs):Walk T X.K G (Itl X.K l) ds H1:=λi H p sm=>by
 have st':Stb X.K G H l vs:=st.pers p
 have sq:=st'.sq sm
 have r':=RepL.pers p _ _ r
 refine ⟨λd e=>?_,λh=>⟨vs,sq,by rw [RepL.length _ _ r'];exact h⟩⟩
 obtain ⟨v,e1,rd⟩:=RepL.get _ _ _ _ r' e
 refine ⟨⟨vs,v,sq,e1⟩,λx H2 ⟨e2,y⟩=>?_⟩
 subst e2
 have:=y vs sq
 rw [e1] at this;cases this
 exact ⟨Same.refl _,rd⟩
theorem q0Q (hl:DP T X iter fl):DI T X tg iter fl:=.mk λG E hp=>
 PI.imp (j0Y (hl.run G E hp)) fun σ H R ⟨ρ,fr,h⟩=>⟨ρ,fr,Acc.mono h λds _ hd l vs H1 s1 st r=>
  ⟨l,rfl,⟨vs,st.sq (fr.same.trans s1)⟩,hd _ H1 s1 (q7C (E:=E) st r)⟩⟩
@[simp] def D.toT:D->Out (List D)
 | .tup ds=>.ok ds
 | _=>.bad
@[simp] def q2z (f:Ev) (ρ:Ro):Out (List D):=(f ρ).bind D.toT
theorem q3A {K:PySem.W.Frag} {H H':Hp} {l:Addr} {vs:List V} (p:Pers false H H') (h:SqT K H l vs):SqT K H' l vs:=by
 rcases h with (r2 | ⟨o,r2⟩) | r2
 ·exact .inl (.inl (p _ _ r2 rfl))
 ·exact .inl (.inr ⟨o,p _ _ r2 rfl⟩)
 ·exact .inr r2
theorem q4r (hl:DE T X iter fe):DI T X tg iter (q2z fe):=.mk λG E hp=>
 PI.imp (j5i (hl.run G E hp)) fun σ H R ⟨ρ,fr,h⟩=>⟨ρ,fr,Acc.mono (Acc.bind h) λd _ hd v H1 s1 r=>by
  cases d with
  | tup ds=>
   obtain ⟨l,vs,rfl,sq,rl⟩:=r
   refine ⟨l,rfl,⟨vs,sq⟩,hd _ H1 s1 λi H2 p sm=>?_⟩
   have sq':=q3A p sq
   have r':=RepL.pers p _ _ rl
   refine ⟨λd e=>?_,λh=>⟨vs,sq',by rw [RepL.length _ _ r'];exact h⟩⟩
   obtain ⟨v,e1,rd⟩:=RepL.get _ _ _ _ r' e
   refine ⟨⟨vs,v,sq',e1⟩,λx H3 ⟨e2,y⟩=>?_⟩
   subst e2
   have:=y vs sq'
   rw [e1] at this;cases this
   exact ⟨Same.refl _,rd⟩
  | _=>exact hd.elim⟩
def rgS (lo step:Int) (n:Nat):List D:=(List.range n).map λ(k:Nat)=>D.int (lo+(k:Int)*step)
def Its (lo step:Int) (n:Nat):It:=⟨λi _=>i < n,λi H x H'=>H'=H/\x=.int (lo+i*step),λi _=>n<=i⟩
theorem q4W {P:Program} {w:World} {K:PySem.W.Frag} {tg:Expr} (it:Addr) (lo step:Int) (n:Nat):Turn P w K tg (Its lo step n) [it] it (λi h=>IsRangeIter h it (lo+(i:Nat)*step) ((n:Int)-(i:Nat)) step) where
 mem:=by simp
 obj:=λi h st b hb=>by
  have e:b=it:=by simpa using hb
  subst e
  exact ⟨_,st,λv z=>by
   have z':Data.fields _=Data.cell v:=z
   cases z'⟩
 keep:=λi h h' st k=>k it (by simp) _ st
 item:=by
  intro X hP hw hK hc i pins s σ H E I hf st hg
  subst hP hw hK
  obtain ⟨f0,f1,f2,f3,f4,f5⟩:=hf it (by simp)
  have W:=Walks.range (prog:=X.prog) (w:=X.w) (I.ok.hd hc) it lo step n
  refine W.item i s _ _ hg st λv h' tk hv st' kk=>?_
  obtain ⟨t,rfl⟩:=hv
  have I1:Inv X pins σ H { s with heap:=h',toks:=tk }:=I.turned (λb o hb e=>kk b o (by simpa using hb) e) f0 f1 f3 f4 f5
  exact ⟨_,rfl,q4Y (s:={ s with heap:=h',toks:=tk }) (n:="range_iterator") st' rfl rfl (by decide) ⟨.int (lo+i*step),H,I1,⟨t,rfl⟩,⟨rfl,rfl⟩,st',λb hb=>(hf b hb).1⟩⟩
 done:=by
  intro X hP hw hK hc i pins s σ H E I hf st hg
  subst hP hw hK
  obtain ⟨f0,f1,f2,f3,f4,f5⟩:=hf it (by simp)
  exact wpAny_pyNext_range_end (I.ok.hd hc) st (by have:n<=i:=hg;omega) λh' eb=>⟨rfl,I.turned (t':=s.toks) (λb o hb e=>eb b o hb e) f0 f1 f3 f4 f5⟩
 self:=λ_ _ _ _ _ st h=>wpAny_pyIter_rangeiter st h
theorem q2p {lo hi step:Int} (h1:-(2 ^ 40)<=lo) (h2:lo < 2 ^ 40) (h3:-(2 ^ 40)<=hi) (h4:hi < 2 ^ 40) (hs:step≠0):0<=Builtin.Range.rangeSize lo hi step/\Builtin.Range.rangeSize lo hi step < 2 ^ 42:=by
 have key:∀(u c:Int),0<=u->0 < c->0<=u / c/\u / c<=u:=λu c hu hc=>⟨Int.ediv_nonneg hu (by omega),Int.ediv_le_self _ hu⟩
 unfold Builtin.Range.rangeSize
 split
 ·split
  ·obtain ⟨k1,k2⟩:=key (hi-lo-1) step (by omega) (by omega)
   omega
  ·omega
 ·split
  ·obtain ⟨k1,k2⟩:=key (lo-hi-1) (-step) (by omega) (by omega)
   omega
  ·omega
theorem q5t {lo hi step:Int} (h1:-(2 ^ 40)<=lo) (h2:lo < 2 ^ 40) (h3:-(2 ^ 40)<=hi) (h4:hi < 2 ^ 40) (h5:-(2 ^ 40)<=step) (h6:step < 2 ^ 40) (hs:step≠0):Builtin.Range.small lo hi step=true:=by
 obtain ⟨k1,k2⟩:=q2p h1 h2 h3 h4 hs
 unfold Builtin.Range.small
 simp only [Builtin.Range.rangeFitsLong,Bool.and_eq_true,Bool.or_eq_true,decide_eq_true_eq,beq_iff_eq]
 refine ⟨⟨⟨⟨by omega,by omega⟩,by omega⟩,by omega⟩,.inr ?_⟩
 split<;>simp only [Builtin.Range.rangeFitsLong,Bool.and_eq_true,decide_eq_true_eq]<;>omega
theorem q7N {pins:List (Addr×Obj)} {σ:L2.St} {H:Hp} {s:Shared} {R:It->Hp->Prop} {E:Value->Shared->Prop} {lo hi step:Int} {t u v:Tok} {tk:Nat} (I:Inv X pins σ H s) (h1:-(2 ^ 40)<=lo) (h2:lo < 2 ^ 40) (h3:-(2 ^ 40)<=hi) (h4:hi < 2 ^ 40) (h5:-(2 ^ 40)<=step) (h6:step < 2 ^ 40) (hs:step≠0)
 (q:R (Its lo step (Builtin.Range.rangeSize lo hi step).toNat) H):wpAny (model X.prog X.w) X.A (pyIter (.ref s.heap.objs.size)) (PIE X pins σ tg R) E { s with heap:=s.heap.push { cls:=.type "range",data:=.fields #[.int lo t,.int hi u,.int step v] },toks:=tk }:=by
 refine wpAny_pyIter_range (IsRange.new ..) (q5t h1 h2 h3 h4 h5 h6 hs) ?_
 obtain ⟨k1,k2⟩:=q2p h1 h2 h3 h4 hs
 have I1:Inv X pins σ H { s with heap:=s.heap.push { cls:=.type "range",data:=.fields #[.int lo t,.int hi u,.int step v] },toks:=tk }:=I.kept λb o e=>Heap.get?_push_of_some _ e
 refine ⟨(s.heap.push { cls:=.type "range",data:=.fields #[.int lo t,.int hi u,.int step v] }).objs.size,[(s.heap.push { cls:=.type "range",data:=.fields #[.int lo t,.int hi u,.int step v] }).objs.size],_,_,H,rfl,
  I1.kept (t':=tk) λb o e=>Heap.get?_push_of_some _ e,q4W _ lo step (Builtin.Range.rangeSize lo hi step).toNat,?_,λb hb=>?_,q⟩
 ·have e1:lo+((0:Nat):Int)*step=lo:=by simp
  have e2:(((Builtin.Range.rangeSize lo hi step).toNat:Nat):Int)-((0:Nat):Int)=Builtin.Range.rangeSize lo hi step:=by omega
  show IsRangeIter _ _ (lo+((0:Nat):Int)*step) ((((Builtin.Range.rangeSize lo hi step).toNat:Nat):Int)-((0:Nat):Int)) step
  rw [e1,e2]
  exact Heap.get?_push_size _ rfl
 ·have e:b=(s.heap.push { cls:=.type "range",data:=.fields #[.int lo t,.int hi u,.int step v] }).objs.size:=by simpa using hb
  subst e
  exact I1.fpOk (Nat.le_refl _) (I1.hok.fresh (Nat.le_refl _))
theorem q57 {G H1:Hp} {lo step:Int} {n:Nat}:Walk T X.K G (Its lo step n) (rgS lo step n) H1:=λi H p sm=>by
 refine ⟨λd e=>?_,λh=>by show n<=i;simpa [rgS] using h⟩
 have hi:i < n:=by
  have:=(List.getElem?_eq_some_iff.mp e).1
  simpa [rgS] using this
 have ed:d=.int (lo+(i:Int)*step):=by
  rw [rgS,List.getElem?_map,List.getElem?_range hi] at e
  exact (Option.some.inj e).symm
 subst ed
 refine ⟨hi,λx H2 ⟨e2,y⟩=>?_⟩
 subst e2 y
 exact ⟨Same.refl _,rfl⟩
theorem q47 {G H1:Hp} {lo:Int} {n:Nat}:Walk T X.K G (Itr lo n) (rgD lo n) H1:=λi H p sm=>by
 refine ⟨λd e=>?_,λh=>by show n<=i;simpa [rgD] using h⟩
 have hi:i < n:=by
  have:=(List.getElem?_eq_some_iff.mp e).1
  simpa [rgD] using this
 have ed:d=.int (lo+(i:Int)):=by
  rw [rgD,List.getElem?_map,List.getElem?_range hi] at e
  exact (Option.some.inj e).symm
 subst ed
 refine ⟨hi,λx H2 ⟨e2,y⟩=>?_⟩
 subst e2 y
 exact ⟨Same.refl _,rfl⟩
@[simp] def w1T (fn:Ro->Out (Int×Nat)) (ρ:Ro):Out (List D):=(fn ρ).bind λp=>.ok (rgD p.1 p.2)
def q5a (i j k:Int):Bool:=decide (-(2 ^ 40)<=i) && decide (i < 2 ^ 40) && decide (-(2 ^ 40)<=j) && decide (j < 2 ^ 40) && decide (-(2 ^ 20)<=k) && decide (k < 2 ^ 20) && decide (k≠0)
@[simp] def j4Y (fa fb fc:Ev) (ρ:Ro):Out (List D):=(fa ρ).bind λd=>(fb ρ).bind λd'=>(fc ρ).bind λd''=>match d,d',d'' with
 | .int i,.int j,.int k=>if q5a i j k=true then .ok (rgS i k (Builtin.Range.rangeSize i j k).toNat) else .bad
 | _,_,_=>.bad
theorem j0P {c:Expr} (hg:Gl X "range") (hm:X.mg "range" = none) (ha:DE T X a fa) (hb:DE T X b fe) (hc:DE T X c fc) (hs:starEach [a,b,c] X.env=(false,eval a X.env)::starEach [b,c] X.env:=by exact q0w rfl) (hs2:starEach [b,c] X.env=(false,eval b X.env)::starEach [c] X.env:=by exact q0w rfl) (hs3:starEach [c] X.env=(false,eval c X.env)::starEach [] X.env:=by exact q0w rfl)
 (hpl:(backTo pos (starEach [b,c] X.env)).any (·.1)=false:=by exact q0z rfl):DI T X tg (.Call (.Name "range" p) [a,b,c] [] pos) (j4Y fa fe fc):=.mk λG E hp=>by
 rintro pins s σ H R I ⟨ρ,fr,h⟩
 refine Call_ (q1l (X:=X.wish E) I hg hm boot_range (PyProof.Rows.callWith_type1 (thn ((q0C (X:=X.wish E) (ha.run G E hp) (q0C (X:=X.wish E) (hb.run G E hp) (q0C (X:=X.wish E) (hc.run G E hp) q0Y hs3) hs2) hs) pos pins s σ H (λvs H1=>∃i j k,vs=[.int i,.int j,.int k]/\q5a i j k=true/\R (Its i k (Builtin.Range.rangeSize i j k).toNat) H1) I ⟨ρ,fr,?_⟩) λus s1 ⟨vs,H1,I1,r1,i,j,k,e,ok,q⟩=>?_) hs hpl))
 ·refine Acc.mono (Acc.bind h) λd _ hd v H1 s1 r=>⟨ρ,fr.mono s1,Acc.mono (Acc.bind (Acc.heap s1 hd)) λd' _ hd' v' H2 s2 r'=>⟨ρ,(fr.mono s1).mono s2,Acc.mono (Acc.bind (Acc.heap s2 hd')) λd'' _ hd'' v'' H3 s3 r''=>?_⟩⟩
  cases d with
  | int i=>
   cases d' with
   | int j=>
    cases d'' with
    | int k=>
     have hd2:Acc T X E σ H2 (if q5a i j k=true then Out.ok (rgS i k (Builtin.Range.rangeSize i j k).toNat) else .bad) (λds=>∀J H',Same H H'->Walk T X.K G J ds H'->R J H'):=hd''
     by_cases z:q5a i j k=true
     ·rw [if_pos z] at hd2
      exact ⟨i,j,k,by rw [show v=V.int i from r,show v'=V.int j from r',show v''=V.int k from r''],z,hd2 _ H3 ((s1.trans s2).trans s3) q57⟩
     ·rw [if_neg z] at hd2;exact hd2.elim
    | _=>exact hd''.elim
   | _=>first | exact hd''.elim | (cases d''<;>exact hd''.elim)
  | _=>first | exact hd''.elim | (cases d'<;>first | exact hd''.elim | (cases d''<;>exact hd''.elim))
 ·subst e
  cases r1 with
  | cons r rr=>
   cases rr with
   | cons r' rr=>
    cases rr with
    | cons r'' rr=>
     cases rr
     obtain ⟨t,rfl⟩:=r
     obtain ⟨t',rfl⟩:=r'
     obtain ⟨t'',rfl⟩:=r''
     simp only [q5a,Bool.and_eq_true,decide_eq_true_eq] at ok
     obtain ⟨⟨⟨⟨⟨⟨o1,o2⟩,o3⟩,o4⟩,o5⟩,o6⟩,o7⟩:=ok
     exact call_range_3 o7 (q7N (X:=X.wish E) I1 o1 o2 o3 o4 (by omega) (by omega) o7 q) (.inl (PyProof.noPylong_small (by omega)))
end
section
variable {T:Tb} {K:PySem.W.Frag} {G H:Hp} {σ:L2.St} {ρ:Ro}
theorem q1Y {b:Bool} {a:Addr} {vs ws:List V} (h:H a=some (.lst vs)):Pers b H (upd H a (.lst ws)):=λc o e st=>by
 rw [q0h (λz=>by rw [z,h] at e;cases e;cases st)];exact e
theorem FR.own_upd {i:Nat} {ds es:List D} {a:Addr} {vs ws:List V} (fr:FR T K G H σ ρ) (e:ρ[i]?=some (.ow ds)) (e1:σ[i]?=some (some (.ref a))) (e2:H a=some (.lst vs)) (e3:G a=none) (r:RepL T K H es ws) :
 FR T K G (upd H a (.lst ws)) σ (ρ.set i (.ow es)):=by
 have p:Pers false H (upd H a (.lst ws)):=q1Y e2
 have hl:i < ρ.length:=(List.getElem?_eq_some_iff.mp e).1
 have lt:∀{m:Nat} {z:Sl},(ρ.set i (.ow es))[m]?=some z->(m=i/\z=.ow es)∨(m≠i/\ρ[m]?=some z):=λ{m z} q=>by
  by_cases hm:m=i
  ·subst hm
   rw [List.getElem?_set_self hl] at q
   exact .inl ⟨rfl,(Option.some.inj q).symm⟩
  ·rw [List.getElem?_set_ne (Ne.symm hm)] at q;exact .inr ⟨hm,q⟩
 refine ⟨λb u q=>?_,by simp [fr.len],λj s q=>?_,λj k s1 s2 b hjk q1 q2 o1 o2=>?_,fr.me,q2P (λ_ _ z=>by cases z) fr.me0⟩
 ·rw [q0h (λz=>by rw [z,e3] at q;cases q)];exact fr.same b u q
 ·rcases lt q with ⟨rfl,rfl⟩ | ⟨hj,q⟩
  ·exact ⟨a,ws,e1,q0p,e3,RepL.pers p _ _ r⟩
  ·have h:=fr.sl j s q
   cases s with
   | no=>trivial
   | sh d=>obtain ⟨v,z1,z2⟩:=h;exact ⟨v,z1,Rep.pers p _ _ z2⟩
   | ow es'=>
    obtain ⟨b,ws',z1,z2,z3,z4⟩:=h
    have hab:b≠a:=λz=>fr.ne j i _ _ b hj q e z1 (by rw [z];exact e1)
    exact ⟨b,ws',z1,by rw [q0h hab];exact z2,z3,RepL.pers p _ _ z4⟩
   | bo es'=>obtain ⟨b,ws',z1,z2,z4⟩:=h;exact ⟨b,ws',z1,z2,RepL.pers p _ _ z4⟩
   | me c es'=>
    obtain ⟨b,dx,fs,z0,z1,z2,z3,z4,z5⟩:=h
    exact ⟨b,dx,fs,z0,z1,by rw [q0h (λz=>by rw [z,e2] at z2;cases z2)];exact z2,z3,z4,RepL.pers p _ _ z5⟩
   | ox t pre es' post=>
    obtain ⟨c,vp,b,vq,ws',z1,z2,z3,z4,z5,z6,z7⟩:=h
    have hab:b≠a:=λz=>fr.ne j i _ _ b hj q e (j5e z1 z2 z3) (by rw [z];exact e1)
    exact ⟨c,vp,b,vq,ws',z1,z2.keep λu w n _=>by rw [q0h (λy=>by subst y;exact z2.nlst e2)];exact w,RepL.pers p _ _ z3,RepL.pers p _ _ z4,by rw [q0h hab];exact z5,z6,RepL.pers p _ _ z7⟩
 ·have bk:∀(c:Addr) (u:HO),H c=some u->(∀xs,u≠.lst xs)->(∀x dx fs,u≠.ins x dx fs)->upd H a (.lst ws) c=some u:=λc u w n _=>by
   rw [q0h (λy=>by subst y;rw [e2] at w;cases w;exact n _ rfl)];exact w
  have own:∀(m:Nat) (z:Sl),(ρ.set i (.ow es))[m]?=some z->q4L (upd H a (.lst ws)) σ[m]? b z->∃z',ρ[m]?=some z'/\q4L H σ[m]? b z':=λm z q o=>by
   rcases lt q with ⟨rfl,rfl⟩ | ⟨_,q⟩
   ·exact ⟨_,e,o⟩
   ·exact ⟨_,q,(fr.sl m z q).back bk o⟩
  obtain ⟨_,p1,w1⟩:=own j _ q1 o1
  obtain ⟨_,p2,w2⟩:=own k _ q2 o2
  exact fr.ne j k _ _ b hjk p1 p2 w1 w2
end
section
variable {T:Tb} {ib:Bool} {X:Cx} {e e' o a b:Expr} {pos p p2 p3:Pos} {fe fa fb:Ev} {fl fm:Ro->Out (List D)} {x:Str}
@[simp] def q91 (i:Nat) (fe:Ev) (ρ:Ro):Fl:=match ρ[i]? with
 | some (.ow ds)=>(fe ρ).fl ρ λd=>if ds.length < 1000000 then .nx (ρ.set i (.ow (ds++[d]))) else .bad
 | _=>.bad
theorem q3j (i:Nat) (he:DE T X e fe) (hN:X.N[i]?=some x:=by rfl) (hv:Vis X.env.scope x:=by walk_at "v0") (hd:(x==("__debug__" : Str))=false:=by decide)
 (hcd:(x==("__classdict__" : Str))=false:=by decide) (hs:starEach [e] X.env=(false,eval e X.env)::starEach [] X.env:=by exact q0w rfl) (hpl:(backTo p3 (starEach ([]:List Expr) X.env)).any (·.1)=false:=by exact q0z rfl) (hst:([e]:List Expr).all q2X=true:=by rfl)
 (hline:(p2.endLine==p3.line)=true:=by rfl) :
 DS T ib X (.Expr (.Call (.Attribute (.Name x p) "append" p2) [e] [] p3) pos) (q91 i fe):=.mk λG E hp=>
 PS.imp (q7B (X:=X.wish E) (j1j (X:=X.wish E) PySem.F.plainAttrs_list PySem.F.slot_list_append PySem.F.type_list_append q2k (q3b (X:=X.wish E) hN hv hd hcd) (q0C (X:=X.wish E) (he.run G E hp) q0Y hs) rfl (q7s hst rfl) hline hs hpl) (q2d rfl)) λD σ H ⟨ρ,fr,h⟩=>by
  unfold q91 at h
  split at h
  ·rename_i ds e0
   obtain ⟨l,vs,e1,e2,e3,r⟩:=fr.sl i _ e0
   refine ⟨_,e1,.inl ⟨rfl,vs,SqL.of e2⟩,ρ,fr,Acc.mono (AccS.fl fr h) λd _ hd v H1 s1 r1=>?_⟩
   by_cases z:ds.length < 1000000
   ·rw [if_pos z] at hd
    have r':=RepL.mono s1 _ _ r
    refine ⟨l,vs,v,rfl,rfl,s1 _ _ e2,?_,hd σ _ ((fr.mono s1).own_upd e0 e1 (s1 _ _ e2) e3 (RepL.append _ _ _ _ r' ⟨v,[],rfl,r1,rfl⟩)) ((Pers.of s1).trans (q1Y (s1 _ _ e2)))⟩
    rw [RepL.length _ _ r]
    have:=line6 (n:=1000000) (by omega)
    omega
   ·rw [if_neg z] at hd;exact hd.elim
  ·exact h.elim
def tOI (T:Tb) (X:Cx) (G:Hp) (E:Value->Shared->Prop) (f:Ro->Out (Option Int)):TO:=fun σ H Q=>∃ρ,FR T X.K G H σ ρ/\Acc T X E σ H (f ρ) (λo=>∀H',Same H H'->Q o H')
structure DO (T:Tb) (X:Cx) (e:Option Expr) (f:Ro->Out (Option Int)):Prop where
 mk ::
 run:∀(G:Hp) (E:Value->Shared->Prop),PassesOwn (model X.prog X.w) X.A X.env E->PO (X.wish E) e (tOI T X G E f)
theorem PO.imp {X:Cx} {e:Option Expr} {t t':TO} (h:PO X e t) (k:∀σ H Q,t' σ H Q->t σ H Q):PO X e t':=λpins s σ H Q I q=>h pins s σ H Q I (k σ H Q q)
def w09 {α:Type} (ds:List α) (lo hi:Option Int):List α:=(ds.drop (HT.sIx ds.length 0 lo)).take (HT.sIx ds.length ds.length hi-HT.sIx ds.length 0 lo)
theorem RepL.cut {K:PySem.W.Frag} {H:Hp} {ds:List D} {vs:List V} (r:RepL T K H ds vs) (lo hi:Option Int):RepL T K H (w09 ds lo hi) (w1F vs lo hi):=by
 unfold w09 w1F
 rw [RepL.length _ _ r]
 exact RepL.take _ _ _ (RepL.drop _ _ _ r)
theorem j1A:OpR X (binaryOp .Add) (λx y H Q=>∃l m xs zs,x=.ref l/\y=.ref m/\SqL X.K H l xs/\SqL X.K H m zs/\xs.length+zs.length<=sizeLine/\∀p,H p=none->Q (.ref p) (upd H p (.lst (xs++zs)))):=by
 intro pins s σ H x y v u Q I rx ry h
 obtain ⟨l,m,xs,zs,rfl,rfl,hH,hB,hz,q⟩:=h
 cases rx
 cases ry
 obtain ⟨its,r,pl,z1⟩:=I.list hH
 obtain ⟨its2,r2,pl2,z2⟩:=I.list hB
 have l1:=r.length
 have l2:=r2.length
 obtain ⟨⟨cls,dd,data,sl⟩,ho,hc,n,hd⟩:=pl.isList
 obtain ⟨⟨cls2,dd2,data2,sl2⟩,ho2,hc2,n2,hd2⟩:=pl2.isList
 simp only at hc hd hc2 hd2
 subst hc hd hc2 hd2
 have ea:its.toArray++its2.toArray=(its++its2).toArray:=by simp
 refine concat_meets ⟨_,ho,rfl⟩ ⟨_,ho2,rfl⟩ noFill_list_add seq_list_add PySem.F.slot_list_add PySem.F.entry_list_add (PySem.F.args_list_add_2 _ _) (list_addW l m its.toArray its2.toArray n n2 dd dd2 sl sl2 (by rw [List.size_toArray,List.size_toArray];omega)) ⟨ho,ho2,?_⟩
 rw [ea]
 exact ⟨.ref _,_,I.lnew (t':=s.toks) (r.append r2) (by rw [List.length_append];omega),rfl,q _ I.fresh⟩
@[simp] def q8i (fl fm:Ro->Out (List D)) (ρ:Ro):Out (List D):=(fl ρ).bind λds=>(fm ρ).bind λes=>if ds.length+es.length<=1000000 then .ok (ds++es) else .bad
theorem q13 (ha:DL T X a fl) (hb:DL T X b fm):DF T X (.BinOp a .Add b pos) (q8i fl fm):=.mk λG E hp=>
 PE.imp (j2q (X:=X.wish E) j1A (ha.run G E hp) (hb.run G E hp)) fun σ H Q ⟨ρ,fr,h⟩=>⟨ρ,fr,Acc.mono (Acc.bind h) λds _ hd l vs H1 s1 sq r=>⟨ρ,fr.mono s1,Acc.mono (Acc.bind (Acc.heap s1 hd)) λes _ hes m ws H2 s2 sq2 r2=>by
  by_cases z:ds.length+es.length<=1000000
  ·rw [if_pos z] at hes
   refine ⟨l,m,vs,ws,rfl,rfl,s2.seq sq,sq2,?_,λq hq=>hes q _ _ ((s1.trans s2).trans (q0A hq)) ((s1.trans s2).free hq) q0p (RepL.mono (q0A hq) _ _ (RepL.append _ _ _ _ (RepL.mono s2 _ _ r) r2))⟩
   rw [RepL.length _ _ r,RepL.length _ _ r2];exact line6 z
  ·rw [if_neg z] at hes;exact hes.elim⟩⟩
theorem RepL.rep {K:PySem.W.Frag} {H:Hp} {ds:List D} {vs:List V} (r:RepL T K H ds vs):∀k:Nat,RepL T K H (List.replicate k ds).flatten (List.replicate k vs).flatten
 | 0=>rfl
 | k+1=>by
  rw [List.replicate_succ,List.replicate_succ,List.flatten_cons,List.flatten_cons]
  exact RepL.append _ _ _ _ r (RepL.rep r k)
@[simp] def w1z (fl:Ro->Out (List D)) (fb:Ev) (ρ:Ro):Out (List D):=(fl ρ).bind λds=>(fb ρ).bind λd=>match d with
 | .int k=>if -(2 ^ 40)<=k/\k<=1000000/\ds.length*k.toNat<=1000000 then .ok (List.replicate k.toNat ds).flatten else .bad
 | _=>.bad
theorem j5S (ha:DF T X a fl) (hb:DE T X b fb):DF T X (.BinOp a .Mult b pos) (w1z fl fb):=.mk λG E hp=>
 PE.imp (j2q (X:=X.wish E) j6i (ha.run G E hp) (hb.run G E hp)) fun σ H Q ⟨ρ,fr,h⟩=>⟨ρ,fr,Acc.mono (Acc.bind h) λds _ hd l vs H1 s1 hl hl' r=>⟨ρ,fr.mono s1,Acc.mono (Acc.bind (Acc.heap s1 hd)) λd _ hes v H2 s2 r2=>by
  cases d with
  | int k=>
   have hes':Acc T X E σ H1 (if -(2 ^ 40)<=k/\k<=1000000/\ds.length*k.toNat<=1000000 then .ok (List.replicate k.toNat ds).flatten else .bad) _:=hes
   by_cases z:-(2 ^ 40)<=k/\k<=1000000/\ds.length*k.toNat<=1000000
   ·rw [if_pos z] at hes'
    refine ⟨l,k,vs,rfl,r2,s2 _ _ hl',by omega,by omega,?_,λq hq=>hes' q _ _ ((s1.trans s2).trans (q0A hq)) ((s1.trans s2).free hq) q0p (RepL.mono (q0A hq) _ _ (RepL.rep (RepL.mono s2 _ _ r) _))⟩
    rw [RepL.length _ _ r];exact line6 z.2.2
   ·rw [if_neg z] at hes';exact hes'.elim
  | _=>exact hes.elim⟩⟩
@[simp] def q94 (fl:Ro->Out (List D)) (ρ:Ro):Out (List D):=fl ρ
theorem q9S (hg:Gl X "list") (hm:X.mg "list" = none) (hl:DL T X e fl) (hs:starEach [e] X.env=(false,eval e X.env)::starEach [] X.env:=by exact q0w rfl) (hpl:(backTo pos (starEach ([]:List Expr) X.env)).any (·.1)=false:=by exact q0z rfl):DF T X (.Call (.Name "list" p) [e] [] pos) (q94 fl):=.mk λG E hp=>
 PE.imp (q1K (X:=X.wish E) q4t hg hm rfl (q0C (X:=X.wish E) (hl.run G E hp) q0Y hs) (by decide) (by decide) hs hpl) fun σ H Q ⟨ρ,fr,h⟩=>⟨ρ,fr,Acc.mono h λds _ hd l vs H1 s1 sq r=>
  ⟨l,vs,rfl,.inl sq,λq hq=>hd q _ _ (s1.trans (q0A hq)) (s1.free hq) q0p (RepL.mono (q0A hq) _ _ r)⟩⟩
@[simp] def q4v (fl:Ro->Out (List D)) (ρ:Ro):Out D:=(fl ρ).bind λds=>.ok (.tup ds)
theorem q3M (hg:Gl X "tuple") (hm:X.mg "tuple" = none) (hl:DL T X e fl) (hs:starEach [e] X.env=(false,eval e X.env)::starEach [] X.env:=by exact q0w rfl) (hpl:(backTo pos (starEach ([]:List Expr) X.env)).any (·.1)=false:=by exact q0z rfl):DE T X (.Call (.Name "tuple" p) [e] [] pos) (q4v fl):=.mk λG E hp=>
 PE.imp (q1K (X:=X.wish E) q3I hg hm rfl (q0C (X:=X.wish E) (hl.run G E hp) q0Y hs) (by decide) (by decide) hs hpl) fun σ H Q ⟨ρ,fr,h⟩=>⟨ρ,fr,Acc.mono (Acc.bind h) λds _ hd l vs H1 s1 sq r=>
  ⟨l,vs,rfl,.inl ⟨sq,λq hq=>hd _ _ (s1.trans (q0A hq)) ⟨q,vs,rfl,SqT.of q0p,RepL.mono (q0A hq) _ _ r⟩⟩⟩⟩
@[simp] def w2x (fl:Ro->Out (List D)) (ρ:Ro):Out (List D):=(fl ρ).bind λds=>.ok ds.reverse
end
def Itv (K:PySem.W.Frag) (a:Addr) (n:Nat):It:=⟨λi H=>i < n/\∃xs,SqL K H a xs/\xs.length=n,λi H x H'=>H'=H/\∀xs,SqL K H a xs->xs[n-1-i]?=some x,λi _=>n<=i⟩
theorem q84 {P:Program} {w:World} {K:PySem.W.Frag} {tg:Expr} (a it:Addr) (n:Nat):Turn P w K tg (Itv K a n) [it] it (λi h=>i<=n/\h.IsRevIter it a ((n:Int)-1-(i:Int))) where
 mem:=by simp
 obj:=λi h st b hb=>by
  have e:b=it:=by simpa using hb
  subst e
  obtain ⟨_,o,e,c,d⟩:=st
  exact ⟨o,e,λv z=>by rw [d] at z;cases z⟩
 keep:=λi h h' st k=>⟨st.1,st.2.at λo e=>k it (by simp) o e⟩
 item:=by
  intro X hP hw hK hc i pins s σ H E I hf st hg
  subst hP hw hK
  obtain ⟨hin,xs,hq,hn⟩:=hg
  obtain ⟨its,rv,p,hz⟩:=I.list hq
  obtain ⟨f0,f1,f2,f3,f4,f5⟩:=hf it (by simp)
  have hlt:n-1-i < xs.length:=by omega
  obtain ⟨u,hu,ru⟩:=rv.get (show xs[n-1-i]?=some xs[n-1-i] by simp [hlt])
  have e1:(n:Int)-1-(i:Int)=((n-1-i:Nat):Int):=by omega
  have hit:=st.2
  rw [e1] at hit
  refine wpAny_pyNext_rev_item hit p.isList (x:=u) (by simpa using hu) λh' st' sb=>?_
  have I1:Inv X pins σ H { s with heap:=h' }:=I.turned (t':=s.toks) (λb o hb e=>(sb.2 b hb).trans e) f0 f1 f3 f4 f5
  have e2:((n-1-i:Nat):Int)-1=(n:Int)-1-((i+1:Nat):Int):=by omega
  rw [e2] at st'
  obtain ⟨o,e,c,d⟩:=id st'
  exact ⟨u,rfl,q4Y (s:={ s with heap:=h' }) e c d (by decide) ⟨_,H,I1,ru,⟨rfl,λys hy=>by rw [I.list_inj hy hq];simp [hlt]⟩,⟨hin,st'⟩,λb hb=>(hf b hb).1⟩⟩
 done:=by
  intro X hP hw hK hc i pins s σ H E I hf st hg
  subst hP hw hK
  obtain ⟨f0,f1,f2,f3,f4,f5⟩:=hf it (by simp)
  have hg':n<=i:=hg
  have e1:(n:Int)-1-(i:Int) = -1:=by have:=st.1;omega
  have hit:=st.2
  rw [e1] at hit
  exact wpAny_pyNext_rev_end (I.ok.hd hc) hit λh' eb=>⟨rfl,I.turned (t':=s.toks) (λb o hb e=>eb b o hb e) f0 f1 f3 f4 f5⟩
 self:=λ_ _ _ _ _ st h=>wpAny_pyIter_revIter st.2 h
section
variable {T:Tb} {X:Cx} {tg e a b:Expr} {pos p:Pos} {fl fm:Ro->Out (List D)}
@[simp] def w1B (fl:Ro->Out (List D)) (ρ:Ro):Out (List D):=(fl ρ).bind λds=>.ok ds.reverse
theorem q9e {G H1:Hp} {l:Addr} {vs:List V} {ds:List D} (st:Stb X.K G H1 l vs) (r:RepL T X.K H1 ds vs):Walk T X.K G (Itv X.K l vs.length) ds.reverse H1:=λi H p sm=>by
 have st':Stb X.K G H l vs:=st.pers p
 have sq:=st'.sq sm
 have r':=RepL.pers p _ _ r
 have hl:=RepL.length _ _ r'
 refine ⟨λd e=>?_,λh=>by show vs.length<=i;rw [hl];simpa using h⟩
 have hi:i < ds.length:=by
  have:=(List.getElem?_eq_some_iff.mp e).1
  simpa using this
 rw [List.getElem?_reverse hi] at e
 obtain ⟨v,e1,rd⟩:=RepL.get _ _ _ _ r' e
 refine ⟨⟨by omega,vs,sq,rfl⟩,λx H2 ⟨e2,y⟩=>?_⟩
 subst e2
 have:=y vs sq
 rw [hl,e1] at this;cases this
 exact ⟨Same.refl _,rd⟩
theorem j3A (hg:Gl X "reversed") (hm:X.mg "reversed" = none) (hl:DP T X e fl) (hs:starEach [e] X.env=(false,eval e X.env)::starEach [] X.env:=by exact q0w rfl) (hpl:(backTo pos (starEach ([]:List Expr) X.env)).any (·.1)=false:=by exact q0z rfl) :
 DI T X tg (.Call (.Name "reversed" p) [e] [] pos) (w1B fl):=.mk λG E hp=>by
 rintro pins s σ H R I ⟨ρ,fr,h⟩
 refine Call_ (q1l (X:=X.wish E) I hg hm boot_reversed (PyProof.Rows.callWith_type1 (thn ((q0C (X:=X.wish E) (hl.run G E hp) q0Y hs) pos pins s σ H (λus H1=>∃l vs,us=[.ref l]/\SqL X.K H1 l vs/\R (Itv X.K l vs.length) H1) I ⟨ρ,fr,Acc.mono (Acc.bind h) λds _ hd l vs H1 s1 st r=>⟨l,vs,rfl,st.sq (fr.same.trans s1),hd _ H1 s1 (q9e st r)⟩⟩) λus s1 ⟨xs,H1,I1,r1,l,vs,e1,sq,q⟩=>?_) hs hpl))
 subst e1
 obtain ⟨u,rfl,ru⟩:=Vals.one r1
 cases ru
 obtain ⟨its,rv,pl,hz⟩:=I1.list sq
 refine call_reversed_list pl.isList ?_
 have hlen:=rv.length
 have I2:Inv (X.wish E) pins σ H1 { s1 with heap:=s1.heap.push (revObj l ((its.toArray.size:Int)-1)) }:=I1.kept (t':=s1.toks) λb o e=>Heap.get?_push_of_some _ e
 have hit:(s1.heap.push (revObj l ((its.toArray.size:Int)-1))).IsRevIter s1.heap.objs.size l ((vs.length:Int)-1-((0:Nat):Int)):=⟨_,Heap.get?_push_size _ rfl,rfl,by simp [revObj,hlen]⟩
 refine wpAny_pyIter_revIter hit ⟨_,[s1.heap.objs.size],_,_,H1,rfl,I2,q84 l _ vs.length,⟨Nat.zero_le _,hit⟩,λb hb=>?_,q⟩
 have e:b=s1.heap.objs.size:=by simpa using hb
 subst e
 have:=I1.fpOk (Nat.le_refl _) (I1.hok.fresh (Nat.le_refl _))
 exact this
end
def Itz (K:PySem.W.Frag) (a b:Addr):It:=⟨λi H=>∃xs ys x y,SqL K H a xs/\SqL K H b ys/\xs[i]?=some x/\ys[i]?=some y,
 λi H v H'=>∃x y p,(∀xs,SqL K H a xs->xs[i]?=some x)/\(∀ys,SqL K H b ys->ys[i]?=some y)/\v=.ref p/\H p=none/\H'=upd H p (.tup [x,y]),
 λi H=>∃xs ys,SqL K H a xs/\SqL K H b ys/\(xs[i]?=none∨ys[i]?=none)⟩
theorem q87 {P:Program} {w:World} {K:PySem.W.Frag} {elts:List Expr} {x1:Nat} {tp:Pos} (a b z TI TO i1 i2:Addr) (D:ZipApart z TI TO i1 i2 a b) :
 Turn P w K (.Tuple elts x1 tp) (Itz K a b) [z,TI,TO,i1,i2] z (λi h=>IsZip h z TI TO .none/\IsPair h TI (.ref i1) (.ref i2)/\(∃u v,IsPair h TO u v)/\h.IsListIter i1 a i/\h.IsListIter i2 b i) where
 mem:=by simp
 obj:=λi h st c hc=>by
  obtain ⟨s1,s2,⟨u,v,s3⟩,s4,s5⟩:=st
  simp only [List.mem_cons,List.not_mem_nil,or_false] at hc
  rcases hc with rfl | rfl | rfl | rfl | rfl
  ·exact ⟨_,s1,λv z=>by have z':Data.fields _=Data.cell v:=z;cases z'⟩
  ·exact ⟨_,s2,λv z=>by have z':Data.seq _ _=Data.cell v:=z;cases z'⟩
  ·exact ⟨_,s3,λv z=>by have z':Data.seq _ _=Data.cell v:=z;cases z'⟩
  ·obtain ⟨o,e,c,d⟩:=s4
   exact ⟨o,e,λv z=>by rw [d] at z;cases z⟩
  ·obtain ⟨o,e,c,d⟩:=s5
   exact ⟨o,e,λv z=>by rw [d] at z;cases z⟩
 keep:=λi h h' st k=>by
  obtain ⟨s1,s2,⟨u,v,s3⟩,s4,s5⟩:=st
  exact ⟨k z (by simp) _ s1,k TI (by simp) _ s2,⟨u,v,k TO (by simp) _ s3⟩,s4.at λo e=>k i1 (by simp) o e,s5.at λo e=>k i2 (by simp) o e⟩
 item:=by
  intro X hP hw hK hc i pins s σ H E I hf st hg
  subst hP hw hK
  obtain ⟨xs,ys,x,y,hqa,hqb,hx,hy⟩:=hg
  obtain ⟨t1,t2,⟨u0,v0,t3⟩,t4,t5⟩:=st
  obtain ⟨its,rv,pa,hza⟩:=I.list hqa
  obtain ⟨its2,rv2,pb,hzb⟩:=I.list hqb
  obtain ⟨u,hu,ru⟩:=rv.get hx
  obtain ⟨v,hv,rv'⟩:=rv2.get hy
  refine wpAny_pyNext_zip_item D t1 t2 t3 t4 t5 pa.isList pb.isList (x:=u) (y:=v) (by simpa using hu) (by simpa using hv) λh' a1 a2 a3 a4 a5 a6 a7=>⟨_,rfl,?_⟩
  refine wpAny_letOwnedTupleGo_zip (s:={ s with heap:=h' }) a1 λh'' b1 sb=>?_
  have inz:=hf z (by simp)
  have szz:s.heap.objs.size≠z:=λe=>absurd (Heap.lt_size t1) (by rw [<-e];exact Nat.lt_irrefl _)
  have kk:∀c o,c∉[z,TI,TO,i1,i2]->s.heap.get? c=some o->h''.get? c=some o:=λc o hcm e=>by
   simp only [List.mem_cons,List.not_mem_nil,or_false,not_or] at hcm
   exact (sb.2 c hcm.1).trans (a7 c o hcm.1 hcm.2.2.1 hcm.2.2.2.1 hcm.2.2.2.2 e)
  have hfresh:H s.heap.objs.size=none:=I.hok.fresh (Nat.le_refl _)
  have nfp:∀c u,H c=some u->c∉[z,TI,TO,i1,i2]:=λc u e hm=>by rw [(hf c hm).1] at e;cases e
  have nsz:∀c u,H c=some u->c≠s.heap.objs.size:=λc u e z=>by rw [z,hfresh] at e;cases e
  have tk:TI∈[z,TI,TO,i1,i2]:=by simp
  have p5:IsPair h'' s.heap.objs.size u v:=(sb.2 _ szz).trans a5
  have I1:Inv X pins σ (upd H s.heap.objs.size (.tup [x,y])) { s with heap:=h'' }:=by
   refine I.step (g':=s.gens) (d':=s.drawn) (t':=s.toks) (ch:=[z,TI,TO,i1,i2]) (λc hcm=>?_) (λc o _ _ hcm e _=>kk c o hcm e) (λc o _ _ hcm e _=>⟨o.slots,kk c o hcm e⟩) (λc o _ e n=>?_)
    (λc o hcm e=>⟨o,kk c o hcm e⟩) (λc xs e=>?_) (λc o w e=>?_) (λc ps e=>⟨#[],?_⟩) (λm hm=>?_) (λc w e=>?_) I.bare
   ·obtain ⟨f0,f1,f2,f3,f4,f5⟩:=hf c hcm
    exact ⟨f3,f1,f4,f5⟩
   ·rw [q0h (Nat.ne_of_lt (Heap.lt_size e))];exact n
   ·rw [q0h (nsz c _ e)];exact e
   ·rw [q0h (nsz c _ e)];exact e
   ·rw [q0h (nsz c _ e),e];simp
   ·obtain ⟨o,es,ep,ho,r⟩:=hm
    refine ⟨o,es,ep,kk _ o (λhm=>?_) ho,r⟩
    exact (hf _ hm).2.1 rfl
   ·by_cases hcz:c=s.heap.objs.size
    ·subst hcz
     rw [q0p] at e;cases e
     exact ⟨by show 2<=sizeLine;decide,[u,v],.cons ru (.cons rv' .nil),⟨_,p5,rfl,_,rfl⟩⟩
    ·rw [q0h hcz] at e
     refine (I.hok c w e).stay (λc' w' hc' q=>kk c' w' ?_ q) (λc' q=>?_) λc' xs q=>?_
     ·rcases hc' with hc' | hc'
      ·rw [hc'];exact nfp _ _ e
      ·exact nfp _ _ hc'
     ·rw [q0h (nsz c' _ q)];exact q
     ·rw [q0h (nsz c' _ q)];exact q
  refine ⟨.ref s.heap.objs.size,_,I1,rfl,⟨x,y,_,λws hw=>by rw [I.list_inj hw hqa];exact hx,λws hw=>by rw [I.list_inj hw hqb];exact hy,rfl,hfresh,rfl⟩,⟨b1,?_,⟨u,v,(sb.2 _ D.TOz).trans a2⟩,a3.at λo e=>(sb.2 _ D.i1z).trans e,a4.at λo e=>(sb.2 _ D.i2z).trans e⟩,λc hcm=>?_⟩
  ·exact (sb.2 _ D.TIz).trans (a7 TI _ D.TIz D.TITO D.TIi1 D.TIi2 t2)
  ·rw [q0h]
   ·exact (hf c hcm).1
   ·rintro rfl
    simp only [List.mem_cons,List.not_mem_nil,or_false] at hcm
    rcases hcm with e | e | e | e | e
    ·exact szz e
    ·exact absurd (Heap.lt_size t2) (by rw [<-e];exact Nat.lt_irrefl _)
    ·exact absurd (Heap.lt_size t3) (by rw [<-e];exact Nat.lt_irrefl _)
    ·obtain ⟨o,eo,_⟩:=t4
     exact absurd (Heap.lt_size eo) (by rw [<-e];exact Nat.lt_irrefl _)
    ·obtain ⟨o,eo,_⟩:=t5
     exact absurd (Heap.lt_size eo) (by rw [<-e];exact Nat.lt_irrefl _)
 done:=by
  intro X hP hw hK hc i pins s σ H E I hf st hg
  subst hP hw hK
  obtain ⟨xs,ys,hqa,hqb,hend⟩:=hg
  obtain ⟨t1,t2,⟨u0,v0,t3⟩,t4,t5⟩:=st
  obtain ⟨its,rv,pa,hza⟩:=I.list hqa
  obtain ⟨its2,rv2,pb,hzb⟩:=I.list hqb
  have l1:=rv.length
  have l2:=rv2.length
  refine wpAny_pyNext_zip_end (I.ok.hd hc) D t1 t2 t3 t4 t5 pa.isList pb.isList ?_ λh' a7=>⟨rfl,?_⟩
  ·rcases hend with hend | hend
   ·left
    rw [List.getElem?_eq_none_iff] at hend
    simp;omega
   ·right
    rw [List.getElem?_eq_none_iff] at hend
    simp;omega
  ·have kk:∀c o,c∉[z,TI,TO,i1,i2]->s.heap.get? c=some o->h'.get? c=some o:=λc o hcm e=>by
    simp only [List.mem_cons,List.not_mem_nil,or_false,not_or] at hcm
    exact a7 c o hcm.1 hcm.2.2.1 hcm.2.2.2.1 hcm.2.2.2.2 e
   have nfp:∀c u,H c=some u->c∉[z,TI,TO,i1,i2]:=λc u e hm=>by rw [(hf c hm).1] at e;cases e
   refine I.step (g':=s.gens) (d':=s.drawn) (t':=s.toks) (ch:=[z,TI,TO,i1,i2]) (λc hcm=>?_) (λc o _ _ hcm e _=>kk c o hcm e) (λc o _ _ hcm e _=>⟨o.slots,kk c o hcm e⟩) (λc o _ e n=>n)
    (λc o hcm e=>⟨o,kk c o hcm e⟩) (λc xs e=>e) (λc o w e=>e) (λc ps e=>⟨#[],by rw [e];simp⟩) (λm hm=>?_) (λc w e=>?_) I.bare
   ·obtain ⟨f0,f1,f2,f3,f4,f5⟩:=hf c hcm
    exact ⟨f3,f1,f4,f5⟩
   ·obtain ⟨o,es,ep,ho,r⟩:=hm
    exact ⟨o,es,ep,kk _ o (λhm=>(hf _ hm).2.1 rfl) ho,r⟩
   ·refine (I.hok c w e).stay (λc' w' hc' q=>kk c' w' ?_ q) (λc' q=>q) λc' xs q=>q
    rcases hc' with hc' | hc'
    ·rw [hc'];exact nfp _ _ e
    ·exact nfp _ _ hc'
 self:=λ_ _ _ _ _ st h=>wpAny_pyIter_zip st.1 h
section
variable {T:Tb} {X:Cx} {a b:Expr} {pos p tp:Pos} {fl fm:Ro->Out (List D)} {elts:List Expr} {x1:Nat}
@[simp] def j2u (fl fm:Ro->Out (List D)) (ρ:Ro):Out (List D):=(fl ρ).bind λds=>(fm ρ).bind λes=>.ok (List.zipWith (λx y=>D.tup [x,y]) ds es)
theorem q9E {G H1:Hp} {l m:Addr} {vs ws:List V} {ds es:List D} (st:Stb X.K G H1 l vs) (r:RepL T X.K H1 ds vs) (st2:Stb X.K G H1 m ws) (r2:RepL T X.K H1 es ws):Walk T X.K G (Itz X.K l m) (List.zipWith (λx y=>D.tup [x,y]) ds es) H1:=λi H p sm=>by
 have sq:=(st.pers p).sq sm
 have sq2:=(st2.pers p).sq sm
 have r':=RepL.pers p _ _ r
 have r2':=RepL.pers p _ _ r2
 have hl:=RepL.length _ _ r'
 have hl2:=RepL.length _ _ r2'
 refine ⟨λd e=>?_,λh=>⟨vs,ws,sq,sq2,?_⟩⟩
 ·rw [List.getElem?_zipWith] at e
  cases ed:ds[i]? with
  | none=>rw [ed] at e;simp at e
  | some d1=>
   cases ee:es[i]? with
   | none=>rw [ed,ee] at e;simp at e
   | some d2=>
    rw [ed,ee] at e
    have e':D.tup [d1,d2]=d:=by simpa using e
    subst e'
    obtain ⟨v,e1,rd⟩:=RepL.get _ _ _ _ r' ed
    obtain ⟨w,e2,rd2⟩:=RepL.get _ _ _ _ r2' ee
    refine ⟨⟨vs,ws,v,w,sq,sq2,e1,e2⟩,λx H2 ⟨x',y',q,h1,h2,hx,hq,hH⟩=>?_⟩
    have z1:=h1 vs sq
    have z2:=h2 ws sq2
    rw [e1] at z1;cases z1
    rw [e2] at z2;cases z2
    subst hx hH
    exact ⟨q0A hq,q,[v,w],rfl,SqT.of q0p,v,[w],rfl,Rep.mono (q0A hq) _ _ rd,w,[],rfl,Rep.mono (q0A hq) _ _ rd2,rfl⟩
 ·rw [List.length_zipWith] at h
  rw [List.getElem?_eq_none_iff,List.getElem?_eq_none_iff]
  omega
theorem q6N (hg:Gl X "zip") (hm:X.mg "zip" = none) (ha:DP T X a fl) (hb:DP T X b fm) (hs:starEach [a,b] X.env=(false,eval a X.env)::starEach [b] X.env:=by exact q0w rfl) (hs2:starEach [b] X.env=(false,eval b X.env)::starEach [] X.env:=by exact q0w rfl) (hpl:(backTo pos (starEach [b] X.env)).any (·.1)=false:=by exact q0z rfl) :
 DI T X (.Tuple elts x1 tp) (.Call (.Name "zip" p) [a,b] [] pos) (j2u fl fm):=.mk λG E hp=>by
 rintro pins s σ H R I ⟨ρ,fr,h⟩
 refine Call_ (q1l (X:=X.wish E) I hg hm boot_zip (PyProof.Rows.callWith_type1 (thn ((q0C (X:=X.wish E) (ha.run G E hp) (q0C (X:=X.wish E) (hb.run G E hp) q0Y hs2) hs) pos pins s σ H (λus H1=>∃l m vs ws,us=[.ref l,.ref m]/\SqL X.K H1 l vs/\SqL X.K H1 m ws/\R (Itz X.K l m) H1) I ⟨ρ,fr,Acc.mono (Acc.bind h) λds _ hd l vs H1 s1 st r=>⟨ρ,fr.mono s1,Acc.mono (Acc.bind (Acc.heap s1 hd)) λes _ hes m ws H2 s2 st2 r2=>?_⟩⟩) λus s1 ⟨xs,H1,I1,r1,l,m,vs,ws,e1,sq,sq2,q⟩=>?_) hs hpl))
 ·have st':Stb X.K G H2 l vs:=st.pers (ib:=false) (Pers.of s2)
  exact ⟨l,m,vs,ws,rfl,st'.sq ((fr.same.trans s1).trans s2),st2.sq ((fr.same.trans s1).trans s2),hes _ H2 (s1.trans s2) (q9E st' (RepL.mono s2 _ _ r) st2 r2)⟩
 ·subst e1
  obtain ⟨u,v,rfl,ru,rv0⟩:=Vals.two r1
  cases ru
  cases rv0
  obtain ⟨its,rv,pl,hz⟩:=I1.list sq
  obtain ⟨its2,rv2,pl2,hz2⟩:=I1.list sq2
  have a1:l < s1.heap.objs.size:=by obtain ⟨_,e,_⟩:=pl.isList;exact Heap.lt_size e
  have a2:m < s1.heap.objs.size:=by obtain ⟨_,e,_⟩:=pl2.isList;exact Heap.lt_size e
  refine call_zip_2 pl.isList pl2.isList λh' z1 z2 z3 z4 z5 z6 kp=>?_
  have I2:Inv (X.wish E) pins σ H1 { s1 with heap:=h' }:=I1.kept (t':=s1.toks) kp
  refine wpAny_pyIter_zip z1 ⟨_,_,_,_,H1,rfl,I2,q87 l m _ _ _ _ _ (zipApart_new a1 a2),⟨z1,z2,⟨_,_,z3⟩,z4,z5⟩,λc hcm=>?_,q⟩
  have ge:s1.heap.objs.size<=c:=by
   simp only [List.mem_cons,List.not_mem_nil,or_false] at hcm
   rcases hcm with rfl | rfl | rfl | rfl | rfl<;>omega
  exact I1.fpOk ge (I1.hok.fresh ge)
end
theorem q8t:typeLookup (.type "list_reverseiterator") "__len__" = pure none:=by rw [typeLookup_type,builtinLookup_eq_fast];kernel_rfl
theorem q9j:typeLookup (.type "list_reverseiterator") "__length_hint__" = pure (some (.builtin "list_reverseiterator.__length_hint__")):=by rw [typeLookup_type,builtinLookup_eq_fast];kernel_rfl
section
variable {prog:Program} {w:World} {A:Around} {E:Value->Shared->Prop} {s:Shared}
theorem q8Y {r l:Addr} {i:Int} {Q:Bool->Shared->Prop} (hr:s.heap.IsRevIter r l i) (h:Q false s):wpAny (model prog w) A (Builtin.List.listLengthHint (.ref r)) Q E s:=by
 unfold Builtin.List.listLengthHint
 refine wpAny_bind (wpAny_specialOf hr.typeIs q8t ?_)
 show wpAny _ _ (specialOf (.ref r) "__length_hint__" >>= _) _ _ _
 refine wpAny_bind (wpAny_specialOf hr.typeIs q9j ?_)
 generalize hid:("list_reverseiterator.__length_hint__" : String)=id0
 wp_delta
 rw [show splitId id0=some ("list_reverseiterator","__length_hint__") from by subst hid;decide +kernel]
 subst hid
 refine wpAny_bind (wpAny_isInstance (T:="list_reverseiterator") (b:=true) hr.typeIs (by rw [isSubtype_type];kernel_rfl) ?_)
 refine wpAny_ite_split (λhab=>absurd hab (by decide)) (λ_=>?_)
 refine wpAny_ite_split (λ_=>?_) (λhab=>absurd (by decide +kernel) hab)
 refine wpAny_ite_split (λhab=>absurd hab (by decide +kernel)) (λ_=>?_)
 exact wpAny_pure h
theorem q6m {R:Result->Shared->Prop} {r l:Addr} {items:Array Value} (hh:A.handled=none) (hr:s.heap.IsRevIter r l ((items.size:Int)-1)) (hl:s.heap.IsList l items) (hne:l≠r) (S:Addr) (res:Value) (c₀:Nat) (hS:s.heap.get? S=some { cls:=.type "list",data:=.seq #[] c₀ }) (hSr:S≠r) (hSl:S≠l)
 (hR:∀h' tk acc' c',(∀b o,b≠S->b≠r->s.heap.get? b=some o->h'.get? b=some o)->h'.get? S=some { cls:=.type "list",dict:=none,data:=.seq acc' c',slots:=#[] } ->
  ItemsOf (λi v=>items[items.size-1-i]?=some v) acc' items.size->R (.ok (.ret res)) { s with heap:=h',toks:=tk }) (hn:items.size<=sizeLine) :
 wpAny (model prog w) A.in1 (Builtin.List.listExtendWith (.ref S) (.ref r) res)
  (λfin s'=>match fin with | .done f=>R (.ok f) s' | .again c'=>c'.quiet=true/\codeAny (model prog w) A c' R s') (λe s'=>R (.error e) s') s:=by
 have hSf:S∉[r,l]:=λhm=>by
  simp only [List.mem_cons,List.not_mem_nil,or_false] at hm
  exact hm.elim hSr hSl
 unfold Builtin.List.listExtendWith
 refine wpAny_bind (wpAny_typeOf hr.typeIs ?_)
 have h1:Builtin.List.listSameRef (.ref S) (.ref r)=false:=by simp [Builtin.List.listSameRef,hSr]
 have h2:(Value.type "list_reverseiterator"==Value.type "list")=false:=by decide
 have h3:(Value.type "list_reverseiterator"==Value.type "tuple")=false:=by decide
 simp only [h1,h2,h3,Bool.or_false,Bool.false_eq_true,if_false]
 refine wpAny_bind (wpAny_pyIter_revIter hr ?_)
 refine wpAny_bind (wpAny_holding (q8Y hr ?_))
 have W:=(Walks.listRev (prog:=prog) (w:=w) (A:=A.in1) hh r l hne items).toS
 rw [if_neg (by decide)]
 refine wpAny_pure ⟨plainId_quiet F.plain_extend_loop _,codeAny_extend_loopS W hn _ hSf _ items.size 0 _ _ _ rfl (Nat.zero_le _) ⟨Nat.zero_le _,by simpa using hr,hl⟩ hS (ItemsOf.nil _) λs' acc' c' hm hS' hacc=>?_⟩
 rw [Moved.eq_with hm]
 refine hR s'.heap s'.toks acc' c' (λb ob hb hb2 e=>hm.heap b ob (λhmem=>?_) e) hS' hacc
 rcases List.mem_cons.mp hmem with e' | hmem
 ·exact hb e'
 ·exact hb2 (List.mem_singleton.mp hmem)
theorem q8K {R:Result->Shared->Prop} {r l:Addr} {items:Array Value} (hh:A.handled=none) (hr:s.heap.IsRevIter r l ((items.size:Int)-1)) (hl:s.heap.IsList l items) (hne:l≠r) (S:Addr) (hS:s.heap.get? S=some { cls:=.type "list",data:=.seq #[] }) (hSr:S≠r) (hSl:S≠l)
 (hR:∀h' tk acc' c',(∀b o,b≠S->b≠r->s.heap.get? b=some o->h'.get? b=some o)->h'.get? S=some { cls:=.type "list",dict:=none,data:=.seq acc' c',slots:=#[] } ->
  ItemsOf (λi v=>items[items.size-1-i]?=some v) acc' items.size->R (.ok (.ret .none)) { s with heap:=h',toks:=tk }) (hn:items.size<=sizeLine) :
 wpAny (model prog w) A.in1 (Builtin.«list.__init__» ⟨[.ref S,.ref r],[]⟩)
  (λfin s'=>match fin with | .done f=>R (.ok f) s' | .again c'=>c'.quiet=true/\codeAny (model prog w) A c' R s') (λe s'=>R (.error e) s') s:=by
 show wpAny _ _ (do let old <-Builtin.List.listItems (.ref S);Builtin.List.listUpdate (.ref S) (λ_=>#[]);letGo old.toList.reverse;Builtin.List.listExtendWith (.ref S) (.ref r) .none) _ _ s
 refine wpAny_bind ?_
 unfold Builtin.List.listItems
 refine wpAny_bind (wpAny_seqItems hS rfl (wpAny_pure ?_))
 show wpAny _ _ (updateSeq S (λ_=>#[]) >>= λ_=>letGo (#[]:Array Value).toList.reverse >>= λ_=>Builtin.List.listExtendWith (.ref S) (.ref r) .none) _ _ s
 refine wpAny_bind (wpAny_updateSeq hS rfl ?_)
 have hS₂:=Heap.get?_update_self (Obj.mapSeq (λ_=>(#[]:Array Value))) hS rfl
 have oth:∀b o,b≠S->s.heap.get? b=some o->(s.heap.update S (Obj.mapSeq (λ_=>(#[]:Array Value)))).get? b=some o:=
  λb o hb e=>(Heap.get?_update_other _ _ (Ne.symm hb)).trans e
 refine wpAny_bind (wpAny_letGo ?_)
 refine q6m (hn:=hn) (s:={ s with heap:=s.heap.update S (Obj.mapSeq (λ_=>(#[]:Array Value))) }) hh (hr.at λo e=>oth r o (Ne.symm hSr) e) (hl.at λo e=>oth l o (Ne.symm hSl) e) hne S .none _ hS₂ hSr hSl λh' tk acc' c' hk hS' hacc=>?_
 exact hR h' tk acc' c' (λb o hb hb2 e=>hk b o hb hb2 (oth b o hb e)) hS' hacc
theorem q3C {Q:Value->Shared->Prop} {r l:Addr} {items:Array Value} (hh:A.handled=none) (hr:s.heap.IsRevIter r l ((items.size:Int)-1)) (hl:s.heap.IsList l items) (hne:l≠r) (hn:items.size<=sizeLine)
 (hQ:∀h' tk acc' c',(∀b o,b≠r->s.heap.get? b=some o->h'.get? b=some o) ->
  h'.get? s.heap.objs.size=some { cls:=.type "list",dict:=none,data:=.seq acc' c',slots:=#[] }->ItemsOf (λi v=>items[items.size-1-i]?=some v) acc' items.size->Q (.ref s.heap.objs.size) { s with heap:=h',toks:=tk }) :
 wpAny (model prog w) A (call (.type "list") [.ref r]) Q E s:=by
 refine callType_codes (Q₁:=λobj s₁=>obj=.ref s.heap.objs.size/\s₁={ s with heap:=s.heap.push { cls:=.type "list",data:=.seq #[] } }) F.called_list (F.typeCall_list_1 _) F.entry_list_init
  (code_list_new _ ⟨rfl,rfl⟩) λobj s₁ h₁=>?_
 obtain ⟨rfl,rfl⟩:=h₁
 have hS:(s.heap.push { cls:=.type "list",data:=.seq #[] }).get? s.heap.objs.size=some { cls:=.type "list",data:=.seq #[] }:=Heap.get?_push_size _ rfl
 have rlt:r < s.heap.objs.size:=by obtain ⟨o,e,_⟩:=hr;exact Heap.lt_size e
 have llt:l < s.heap.objs.size:=by obtain ⟨o,e,_⟩:=hl;exact Heap.lt_size e
 refine ⟨⟨_,hS,rfl⟩,F.args_list_init_2 _ _,q8K (A:=A.in1) hh (hr.at λo e=>Heap.get?_push_of_some _ e) (hl.at λo e=>Heap.get?_push_of_some _ e) hne _ hS (Nat.ne_of_gt rlt) (Nat.ne_of_gt llt) (λh' tk acc' c' hk hS' hacc=>?_) hn⟩
 exact ⟨rfl,hQ h' tk acc' c' (λb o hb e=>hk b o (Nat.ne_of_lt (Heap.lt_size e)) hb (Heap.get?_push_of_some _ e)) hS' hacc⟩
end
theorem Inv.turnedNew {X:Cx} {pins:List (Addr×Obj)} {σ:L2.St} {H:Hp} {s:Shared} {h':Heap} {it l:Addr} {ys:List V} {its:List Value} {n t':Nat} (I:Inv X pins σ H s) (k:∀b o,b≠it->s.heap.get? b=some o->h'.get? b=some o) (fp:q1X X pins H it) (hit:it < s.heap.objs.size) (hl:s.heap.objs.size<=l)
 (hz:ys.length<=sizeLine) (r:Vals ys its) (e:h'.get? l=some { cls:=.type "list",data:=.seq its.toArray n }):Inv X pins σ (upd H l (.lst ys)) { s with heap:=h',toks:=t' }:=by
 have hfresh:H l=none:=I.hok.fresh hl
 have nsz:∀c u,H c=some u->c≠l:=λc u e z=>by rw [z,hfresh] at e;cases e
 have nit:∀c u,H c=some u->c≠it:=λc u e z=>by rw [z,fp.1] at e;cases e
 refine I.step (g':=s.gens) (d':=s.drawn) (t':=t') (ch:=[it]) (λc hcm=>?_) (λc o _ _ hcm e _=>k c o (λz=>hcm (by simp [z])) e) (λc o _ _ hcm e _=>⟨o.slots,k c o (λz=>hcm (by simp [z])) e⟩) (λc o _ e n=>?_)
  (λc o hcm e=>⟨o,k c o (λz=>hcm (by simp [z])) e⟩) (λc xs e=>?_) (λc o w e=>?_) (λc ps e=>⟨#[],?_⟩) (λm hm=>?_) (λc w e0=>?_) I.bare
 ·have ec:c=it:=by simpa using hcm
  subst ec
  obtain ⟨f0,f1,f2,f3,f4,f5⟩:=fp
  exact ⟨f3,f1,f4,f5⟩
 ·rw [q0h (Nat.ne_of_lt (Nat.lt_of_lt_of_le (Heap.lt_size e) hl))];exact n
 ·rw [q0h (nsz c _ e)];exact e
 ·rw [q0h (nsz c _ e)];exact e
 ·rw [q0h (nsz c _ e),e];simp
 ·obtain ⟨o,es,ep,ho,r⟩:=hm
  exact ⟨o,es,ep,k _ o (Ne.symm fp.2.1) ho,r⟩
 ·by_cases hcz:c=l
  ·subst hcz
   rw [q0p] at e0;cases e0
   exact ⟨hz,its,n,r,e⟩
  ·rw [q0h hcz] at e0
   refine (I.hok c w e0).stay (λc' w' hc' q=>k c' w' ?_ q) (λc' q=>?_) λc' xs q=>?_
   ·rcases hc' with hc' | hc'
    ·rw [hc'];exact nit _ _ e0
    ·exact nit _ _ hc'
   ·rw [q0h (nsz c' _ q)];exact q
   ·rw [q0h (nsz c' _ q)];exact q
section
variable {T:Tb} {X:Cx} {e:Expr} {pos p p2 pos2:Pos} {fl:Ro->Out (List D)}
theorem q6o (hc:X.calm=true) (hg:Gl X "list") (hm:X.mg "list" = none) (hg2:Gl X "reversed") (hm2:X.mg "reversed" = none) (hl:DL T X e fl) (hs:starEach [e] X.env=(false,eval e X.env)::starEach [] X.env:=by exact q0w rfl) (hpl:(backTo pos2 (starEach ([]:List Expr) X.env)).any (·.1)=false:=by exact q0z rfl)
 (hpl2:(backTo pos (starEach ([]:List Expr) X.env)).any (·.1)=false:=by exact q0z rfl):DF T X (.Call (.Name "list" p) [.Call (.Name "reversed" p2) [e] [] pos2] [] pos) (w2x fl):=.mk λG E hp=>by
 rintro pins s σ H Q I ⟨ρ,fr,h⟩
 have hsO:starEach [.Call (.Name "reversed" p2) [e] [] pos2] X.env=(false,eval (.Call (.Name "reversed" p2) [e] [] pos2) X.env)::starEach [] X.env:=q0w rfl
 refine Call_ (q1l (X:=X.wish E) I hg hm (u:=.type "list") rfl (PyProof.Rows.callWith_type1 ?_ hsO hpl2))
 rw [show starEach [.Call (.Name "reversed" p2) [e] [] pos2] (X.wish E).env=(false,eval (.Call (.Name "reversed" p2) [e] [] pos2) X.env)::starEach [] X.env from hsO]
 show wpAny _ _ (spliced ((false,eval (.Call (.Name "reversed" p2) [e] [] pos2) X.env)::backTo pos (starEach [] X.env))) _ _ s
 refine Calls.spliced_cons (Call_ (q1l (X:=X.wish E) I hg2 hm2 boot_reversed (PyProof.Rows.callWith_type1 (thn ((q0C (X:=X.wish E) (hl.run G E hp) q0Y hs) pos2 pins s σ H (λus H1=>∃l vs ds,us=[.ref l]/\Same H H1/\SqL X.K H1 l vs/\RepL T X.K H1 ds vs/\Acc T X E σ H (.ok ds.reverse) (λds=>∀a vs H',Same H H'->H a=none->H' a=some (.lst vs)->RepL T X.K H' ds vs->Q (.ref a) H')) I ⟨ρ,fr,Acc.mono (Acc.bind h) λds _ hd l vs H1 s1 sq r=>⟨l,vs,ds,rfl,s1,sq,r,hd⟩⟩) λus s1 ⟨xs,H1,I1,r1,l,vs,ds,e1,sm,sq,r,hd⟩=>?_) hs hpl)))
 subst e1
 obtain ⟨u,rfl,ru⟩:=Vals.one r1
 cases ru
 obtain ⟨its,rv,pl,hz⟩:=I1.list sq
 have hlen:=rv.length
 refine call_reversed_list pl.isList ?_
 have I2:Inv (X.wish E) pins σ H1 { s1 with heap:=s1.heap.push (revObj l ((its.toArray.size:Int)-1)) }:=I1.kept (t':=s1.toks) λb o e=>Heap.get?_push_of_some _ e
 have hit:(s1.heap.push (revObj l ((its.toArray.size:Int)-1))).IsRevIter s1.heap.objs.size l ((its.toArray.size:Int)-1):=⟨_,Heap.get?_push_size _ rfl,rfl,rfl⟩
 have llt:l < s1.heap.objs.size:=by obtain ⟨o,e,_⟩:=pl.isList;exact Heap.lt_size e
 refine Calls.spliced_nil ?_
 refine q3C (s:={ s1 with heap:=s1.heap.push (revObj l ((its.toArray.size:Int)-1)) }) (I1.ok.hd hc) hit (pl.isList.at λo e=>Heap.get?_push_of_some _ e) (Nat.ne_of_lt llt) (by rw [List.size_toArray];omega) λh' tk acc' c' hk hS' hacc=>?_
 have fp:q1X (X.wish E) pins H1 s1.heap.objs.size:=I1.fpOk (Nat.le_refl _) (I1.hok.fresh (Nat.le_refl _))
 have ea:acc'=its.reverse.toArray:=by
  obtain ⟨z1,z2⟩:=hacc
  have z1':acc'.size=its.length:=by rw [z1];simp
  apply Array.ext_getElem?
  intro i
  by_cases hi:i < acc'.size
  ·have:=z2 i acc'[i] (by simp [hi])
   rw [Array.getElem?_eq_getElem hi]
   simp only [List.getElem?_toArray,List.size_toArray] at this ⊢
   rw [List.getElem?_reverse (by omega)]
   exact this.symm
  ·rw [Array.getElem?_eq_none (by omega),Array.getElem?_eq_none (by simp;omega)]
 subst ea
 have hfr:H1 (s1.heap.push (revObj l ((its.toArray.size:Int)-1))).objs.size=none:=I2.hok.fresh (Nat.le_refl _)
 refine ⟨.ref _,_,Inv.turnedNew (t':=tk) I2 hk fp (by rw [Heap.size_push];exact Nat.lt_succ_self _) (Nat.le_refl _) (ys:=vs.reverse) (by rw [List.length_reverse];exact hz) rv.reverse hS',rfl,?_⟩
 exact hd _ vs.reverse _ (sm.trans (q0A hfr)) (sm.free hfr) q0p (RepL.mono (q0A hfr) _ _ (RepL.reverse _ _ r))
end
section
variable {T:Tb} {X:Cx} {pos p p2 p3:Pos} {x:Str}
end
end L3
namespace L3
open PySem L2
theorem log2_lt {n k:Nat} (h:n < 2 ^ k) (hk:0 < k):n.log2 < k:=by
 by_cases h0:n=0
 ·subst h0;simpa [Nat.log2_zero] using hk
 ·exact (Nat.log2_lt h0).mpr h
section
variable {b:Ro->D->Fl} {d:D} {ds:List D} {ρ ρ':Ro}
end
end L3
namespace L3
open PySem PySem.Spec PyProof.Rows L2
def j0l (f:D->Out D):List D->Option (List D)
 | []=>some []
 | d::ds=>match f d with
  | .ok e=>(match j0l f ds with | some es=>some (e::es) | none=>none)
  | _=>none
theorem q5K {f:D->Out D}:∀{ds es:List D},j0l f ds=some es->es.length=ds.length/\∀(i:Nat) (d:D),ds[i]?=some d->∃e,f d=.ok e/\es[i]?=some e
 | [],es,h=>by cases h;exact ⟨rfl,λi d e=>by simp at e⟩
 | d::ds,es,h=>by
  rw [j0l] at h
  cases e1:f d with
  | ok e=>
   rw [e1] at h
   cases e2:j0l f ds with
   | none=>rw [e2] at h;cases h
   | some es'=>
    rw [e2] at h
    cases h
    obtain ⟨l,g⟩:=q5K e2
    refine ⟨by simp [l],λi d' q=>?_⟩
    cases i with
    | zero=>cases q;exact ⟨e,e1,rfl⟩
    | succ i=>exact g i d' q
  | exc c=>rw [e1] at h;cases h
  | bad=>rw [e1] at h;cases h
theorem q6B (env:Env):∀(names:List (Str×NameKind)) (cs:List (Str×Addr)),(∀y∈names,y.2=.free->∃c,env.cells.lookup y.1=some c)->(∀y c,cs.lookup y=some c->env.cells.lookup y=some c) ->
 ∃cl:List (Str×Addr),(forIn names cs λ(x:Str×NameKind) (r:List (Str×Addr))=>(do if x.2==NameKind.free then do let c <-cellOf env x.1;pure (ForInStep.yield ((x.1,c)::r)) else pure (ForInStep.yield r):Sem (ForInStep (List (Str×Addr)))))=pure cl /\
  (∀y c,cl.lookup y=some c->env.cells.lookup y=some c)/\(∀y∈names,y.2=.free->∃c,cl.lookup y.1=some c)/\∀y c,cs.lookup y=some c->cl.lookup y=some c:=by
 intro names
 induction names with
 | nil=>intro cs _ h;exact ⟨cs,rfl,h,λy hy=>by simp at hy,λ_ _ e=>e⟩
 | cons z names ih=>
  obtain ⟨n,k⟩:=z
  intro cs hf h
  by_cases hk:k=.free
  ·subst hk
   obtain ⟨c,hc⟩:=hf (n,.free) (by simp) rfl
   have hc:env.cells.lookup n=some c:=hc
   have h':∀y c',((n,c)::cs).lookup y=some c'->env.cells.lookup y=some c':=λy c' e=>by
    rw [List.lookup_cons] at e
    cases ey:y==n with
    | true=>rw [ey] at e;cases e;rw [eq_of_beq ey];exact hc
    | false=>rw [ey] at e;exact h y c' e
   obtain ⟨cl,e1,e2,e3,e4⟩:=ih ((n,c)::cs) (λy hy=>hf y (by simp [hy])) h'
   have nn:cl.lookup n=some c:=e4 n c (by simp [List.lookup_cons])
   refine ⟨cl,?_,e2,λy hy hy2=>?_,λy c' e=>?_⟩
   ·rw [List.forIn_cons]
    have:cellOf env n=pure c:=by unfold cellOf;rw [hc]
    simp only [beq_self_eq_true,if_true,this,pure_bind]
    exact e1
   ·rcases List.mem_cons.mp hy with z | z
    ·rw [z];exact ⟨c,nn⟩
    ·exact e3 y z hy2
   ·by_cases ey:y=n
    ·subst ey
     have:=h y c' e
     rw [hc] at this;cases this
     exact nn
    ·exact e4 y c' (by rw [List.lookup_cons,show (y==n)=false by simpa using ey];exact e)
  ·obtain ⟨cl,e1,e2,e3,e4⟩:=ih cs (λy hy=>hf y (by simp [hy])) h
   have hb:(k==NameKind.free)=false:=by simpa using hk
   refine ⟨cl,?_,e2,λy hy hy2=>?_,e4⟩
   ·rw [List.forIn_cons]
    simp only [hb,Bool.false_eq_true,if_false,pure_bind]
    exact e1
   ·rcases List.mem_cons.mp hy with z | z
    ·rw [z] at hy2;exact absurd hy2 hk
    ·exact e3 y z hy2
theorem q10 (env:Env) (scope:Scope) (hf:∀y∈scope.names,y.2=.free->∃c,env.cells.lookup y.1=some c) :
 ∃cl:List (Str×Addr),closureFor scope env=pure cl/\(∀y c,cl.lookup y=some c->env.cells.lookup y=some c)/\∀y∈scope.names,y.2=.free->∃c,cl.lookup y.1=some c:=by
 obtain ⟨cl,e1,e2,e3,_⟩:=q6B env scope.names [] hf (λy c e=>by simp at e)
 refine ⟨cl,?_,e2,e3⟩
 rw [closureFor]
 show (forIn scope.names [] _ >>= λcs=>pure cs)=pure cl
 rw [bind_pure]
 exact e1
abbrev CxC (X:Cx) (N':List Str) (scope:Scope) (cl:List (Str×Addr)) (C:Addr) (s₀:Shared) (H₀:Hp) (ex:List Addr):Cx:=
 { X with N:=N',env:=compEnvC scope cl C X.env,outer:=X.stack,s₀:=s₀,H₀:=H₀,ex:=ex,fn:=λ_=>false,pn:=[] }
structure Cap (X:Cx) (scope:Scope) (x:Str) (ys:List Str) (caps:List Nat):Prop where
 kind:scope.kind=.function
 own:scope.names.lookup x=some .local
 nocell:∀y∈scope.names,y.2≠.cell
 names:∀y∈scope.names,y.2=.local->scope.names.lookup y.1=some .local
 free:∀y∈scope.names,y.2=.free->X.env.kindOf y.1=some .cell∨X.env.kindOf y.1=some .free
 nodup:(x::ys).Nodup
 len:caps.length=ys.length
 cap:∀(j:Nat) (y:Str) (i:Nat),ys[j]?=some y->caps[j]?=some i->X.N[i]?=some y/\(X.env.kindOf y=some .cell∨X.env.kindOf y=some .free)/\scope.names.lookup y=some .free
theorem q1k {env:Env}:∀{names:List (Str×NameKind)} {x:Str} {k:NameKind},(names.map λ(n,k)=>if (k==NameKind.free && env.scope.kind==.function && env.kindOf n==some .cell) then (n,NameKind.cell) else (n,k)).lookup x=some k ->
 ∃k',names.lookup x=some k'/\(x,k')∈names/\(k=k'∨(k'=.free/\k=.cell))
 | [],_,_,h=>by simp at h
 | (n,k0)::r,x,k,h=>by
  have ih:=@q1k env r x k
  have h:List.lookup x ((if (k0==NameKind.free && env.scope.kind==.function && env.kindOf n==some .cell)=true then (n,NameKind.cell) else (n,k0))::_)=some k:=h
  cases hx:x==n with
  | true=>
   have e:=eq_of_beq hx
   subst e
   refine ⟨k0,by simp [List.lookup_cons],by simp,?_⟩
   by_cases hc:(k0==NameKind.free && env.scope.kind==.function && env.kindOf x==some .cell)=true
   ·rw [if_pos hc] at h
    simp only [List.lookup_cons,beq_self_eq_true] at h
    cases h
    right
    refine ⟨?_,rfl⟩
    simp only [Bool.and_eq_true] at hc
    exact eq_of_beq hc.1.1
   ·rw [if_neg hc] at h
    simp only [List.lookup_cons,beq_self_eq_true] at h
    cases h
    exact .inl rfl
  | false=>
   have h':List.lookup x (r.map λ(n,k)=>if (k==NameKind.free && env.scope.kind==.function && env.kindOf n==some .cell) then (n,NameKind.cell) else (n,k))=some k:=by
    by_cases hc:(k0==NameKind.free && env.scope.kind==.function && env.kindOf n==some .cell)=true
    ·rw [if_pos hc] at h;simpa [List.lookup_cons,hx] using h
    ·rw [if_neg hc] at h;simpa [List.lookup_cons,hx] using h
   obtain ⟨k',e1,e2,e3⟩:=ih h'
   exact ⟨k',by rw [List.lookup_cons,hx];exact e1,List.mem_cons_of_mem _ e2,e3⟩
section
variable {X:Cx} {pins:List (Addr×Obj)} {σ:L2.St} {H:Hp} {s:Shared} {scope:Scope} {x:Str} {ys:List Str} {caps:List Nat} {cl:List (Str×Addr)} {ex:List Addr}
theorem Cap.has (cp:Cap X scope x ys caps) (hcl:∀y∈scope.names,y.2=.free->∃c,cl.lookup y.1=some c):∀y,((relabel scope X.env).names.lookup y=some .cell∨(relabel scope X.env).names.lookup y=some .free)->∃c,cl.lookup y=some c:=by
 intro y h
 rcases h with h | h
 ·obtain ⟨k',_,e2,e3⟩:=q1k (env:=X.env) h
  rcases e3 with e3 | e3
  ·exact absurd e3.symm (cp.nocell _ e2)
  ·exact hcl _ e2 e3.1
 ·obtain ⟨k',_,e2,e3⟩:=q1k (env:=X.env) h
  rcases e3 with e3 | e3
  ·exact hcl _ e2 e3.symm
  ·cases e3.2
theorem j1U (I:Inv X pins σ H s) (cp:Cap X scope x ys caps) (h1:∀y c,cl.lookup y=some c->X.env.cells.lookup y=some c) (h2:∀y∈scope.names,y.2=.free->∃c,cl.lookup y.1=some c)
 (hx:∀b∈ex,q1X X pins H b/\b < s.heap.objs.size):(CxC X (x::ys) scope cl s.heap.objs.size s H ex).Ok where
 mod:=I.ok.mod
 kind:=cp.kind
 glob:=I.ok.glob
 blt:=I.ok.blt
 above:=Nat.le_refl _
 inj:=λa b c e1 e2=>I.ok.inj a b c (h1 _ _ e1) (h1 _ _ e2)
 has:=λy h=>cp.has h2 y h
 cab:=λy c e=>by cases e
 hd:=I.ok.hd
 frames:=I.ok.frames
 stk:=.inl rfl
 exf:=λb hb=>⟨Nat.ne_of_lt (hx b hb).2,λy c e=>(hx b hb).1.2.2.2.2.1 y c (h1 _ _ e)⟩
 bs:=I.bs
 bsz:=Nat.le_trans I.ok.bsz I.sz
 noex:=λb o e hb=>by
  rcases (hx b hb).1.2.2.2.1 with z | z
  ·exact I.ok.noex b o e z
  ·exact absurd (Nat.lt_of_lt_of_le (Heap.lt_size e) I.ok.bsz) (Nat.not_lt.mpr z)
 exfs:=λb hb hf=>by
  rcases List.mem_cons.mp (I.stkSub b hf) with z | z
  ·exact (hx b hb).1.2.1 z
  ·exact (hx b hb).1.2.2.1 z
 funs:=I.stack
 frf:=I.stkFree
theorem q3O {h':Heap} {tk:Nat} {m:Str->Option Value} (I:Inv X pins σ H s) (cp:Cap X scope x ys caps) (h1:∀y c,cl.lookup y=some c->X.env.cells.lookup y=some c) (h2:∀y∈scope.names,y.2=.free->∃c,cl.lookup y.1=some c)
 (hx:∀b∈ex,q1X X pins H b/\b < s.heap.objs.size) (hn:h'.Ns s.heap.objs.size m) (hk:∀b o,s.heap.get? b=some o->h'.get? b=some o) :
 Inv (CxC X (x::ys) scope cl s.heap.objs.size s H ex) [] (none::caps.map λi=>σ.getD i none) H { s with heap:=h',toks:=tk } where
 ok:=j1U I cp h1 h2 hx
 os:=rfl
 bare:=I.bare
 base:=Un.kept hk
 loc:=by
  refine ⟨m,hn,λj y v e1 e2 e3=>?_⟩
  cases j with
  | zero=>cases e2
  | succ j=>
   have e1:ys[j]?=some y:=e1
   have e2:(caps.map λi=>σ.getD i none)[j]?=some (some v):=e2
   rw [List.getElem?_map] at e2
   cases ei:caps[j]? with
   | none=>rw [ei] at e2;cases e2
   | some i=>
    rw [ei] at e2
    have e2:σ.getD i none=some v:=Option.some.inj e2
    obtain ⟨q1,q2,q3⟩:=cp.cap j y i e1 ei
    have e4:σ[i]?=some (some v):=by
     rw [List.getD_eq_getElem?_getD] at e2
     cases q:σ[i]? with
     | none=>rw [q] at e2;cases e2
     | some w=>rw [q] at e2;exact congrArg some e2
    obtain ⟨m0,hn0,hl⟩:=I.loc
    obtain ⟨u,r,lk⟩:=hl i y v q1 e4 (q2.elim (λz=>.inr (.inl z)) λz=>.inr (.inr z))
    refine ⟨u,r,.inr ?_⟩
    have lc:∃c,X.env.cells.lookup y=some c/\s.heap.IsCell c (some u):=by
     rcases lk with ⟨z,_⟩ | ⟨_,z⟩
     ·rcases q2 with q2 | q2<;>(rw [q2] at z;cases z)
     ·exact z
    obtain ⟨c,c1,c2⟩:=lc
    have mm:(y,NameKind.free)∈scope.names:=by
     have:∀(l:List (Str×NameKind)) (k:NameKind),l.lookup y=some k->(y,k)∈l:=by
      intro l
      induction l with
      | nil=>intro k e;simp at e
      | cons z l ih=>
       intro k e
       rw [List.lookup_cons] at e
       cases hz:y==z.1 with
       | true=>rw [hz] at e;cases e;rw [eq_of_beq hz];simp
       | false=>rw [hz] at e;exact List.mem_cons_of_mem _ (ih k e)
     exact this _ _ q3
    obtain ⟨c',c3⟩:=h2 _ mm rfl
    have:=h1 _ _ c3
    have this:X.env.cells.lookup y=some c':=this
    rw [c1] at this;cases this
    refine ⟨?_,c,c3,?_⟩
    ·rcases e3 with e3 | e3
     ·obtain ⟨k',z1,_,z3⟩:=q1k (env:=X.env) (show ((scope.names.map _).lookup y)=some NameKind.local from e3)
      rw [q3] at z1;cases z1
      rcases z3 with z3 | z3
      ·cases z3
      ·cases z3.2
     ·exact e3
    ·obtain ⟨o,ho,hd⟩:=c2
     exact ⟨o,hk _ _ ho,hd⟩
 cell:=λy c e=>by
  obtain ⟨v,o,ho,hd⟩:=I.cell y c (h1 _ _ e)
  exact ⟨v,o,hk _ _ ho,hd⟩
 free:=I.hok.fresh (Nat.le_refl _)
 freeC:=λy c e=>I.freeC y c (h1 _ _ e)
 pin:=λp hp=>by simp at hp
 hok:=I.hok.kept hk
 len:=by simp [cp.len]
theorem q2r {s3 s':Shared} {H':Hp} {σ':L2.St} {C:Addr} (I:Inv X pins σ H s3) (I':Inv (CxC X (x::ys) scope cl C s3 H ex) [] σ' H' s') (hx:∀b∈ex,q1X X pins H b):Inv X pins σ H' s':=
 I.call' (ch:=ex) I'.os I'.base I'.hok I'.bare λb hb=>⟨(hx b hb).2.2.2.1,(hx b hb).2.1,(hx b hb).2.2.2.2.1,(hx b hb).2.2.2.2.2⟩
end
def q8C:Sl->Sl
 | .sh d=>.sh d
 | _=>.no
def q1e (caps:List Nat) (ρ:Ro) (d:D):Ro:=.sh d::caps.map λi=>q8C (ρ.getD i .no)
theorem q0n {T:Tb} (h:T.me=none):T={ T with me:=none }:=by
 cases T;cases h;rfl
theorem q5e {T T0:Tb} {K:PySem.W.Frag} {G H H':Hp} {σ:L2.St} {ρ:Ro} {caps:List Nat} {d:D} {v:V} {w:Option V} (hT:T0={ T with me:=none }) (fr:FR T K G H σ ρ) (p:Pers false H H') (r:Rep T K H' d v) :
 FR T0 K (λ_=>none) H' ((w::caps.map λi=>σ.getD i none).set 0 (some v)) (q1e caps ρ d):=by
 refine ⟨λ_ _ e=>(by cases e),by simp [q1e],λi s e=>?_,λi j s t b _ e1 _ o1 _=>?_,λx e=>?_,λi c ds e=>?_⟩
 ·cases i with
  | zero=>
   have e:Sl.sh d=s:=Option.some.inj e
   subst e
   exact ⟨v,rfl,hT ▸ (q1L _ _).mpr r⟩
  | succ i=>
   have e:(caps.map λi=>q8C (ρ.getD i .no))[i]?=some s:=e
   show SlOk T0 K _ H' (caps.map λi=>σ.getD i none)[i]? s
   rw [List.getElem?_map] at e ⊢
   cases q:caps[i]? with
   | none=>rw [q] at e;cases e
   | some k=>
    rw [q] at e
    have e:q8C (ρ.getD k .no)=s:=Option.some.inj e
    subst e
    rw [List.getD_eq_getElem?_getD]
    cases qr:ρ[k]? with
    | none=>exact trivial
    | some z=>
     cases z with
     | sh d'=>
      obtain ⟨u,e1,r1⟩:=fr.sh_at qr
      refine ⟨u,?_,hT ▸ (q1L _ _).mpr (Rep.pers p _ _ r1)⟩
      show some (σ.getD k none)=_
      rw [List.getD_eq_getElem?_getD,e1]
      rfl
     | no=>exact trivial
     | ow _=>exact trivial
     | bo _=>exact trivial
     | me _ _=>exact trivial
     | ox _ _ _ _=>exact trivial
 ·exfalso
  cases i with
  | zero=>
   have e1:Sl.sh d=s:=Option.some.inj e1
   subst e1;exact o1
  | succ i=>
   have e:(caps.map λi=>q8C (ρ.getD i .no))[i]?=some s:=e1
   rw [List.getElem?_map] at e
   cases q:caps[i]? with
   | none=>rw [q] at e;cases e
   | some k=>
    rw [q] at e
    have e:q8C (ρ.getD k .no)=s:=Option.some.inj e
    cases z:ρ.getD k .no<;>(rw [z] at e;subst e;exact o1)
 ·subst hT;cases e
 ·exfalso
  cases i with
  | zero=>cases e
  | succ i=>
   have e:(caps.map λi=>q8C (ρ.getD i .no))[i]?=some (.me c ds):=e
   rw [List.getElem?_map] at e
   cases q:caps[i]? with
   | none=>rw [q] at e;cases e
   | some k=>
    rw [q] at e
    have e:q8C (ρ.getD k .no)=.me c ds:=Option.some.inj e
    cases z:ρ.getD k .no<;>(rw [z] at e;cases e)
section
variable {T:Tb} {X:Cx} {elt iter:Expr} {x:Str} {px pos:Pos} {scope:Scope} {ys:List Str} {caps:List Nat} {fe:Ev} {cl:List (Str×Addr)} {pins:List (Addr×Obj)} {σ:L2.St} {G H2:Hp} {s2:Shared} {J:It} {fp:List Addr} {it:Addr} {tn:Nat->Heap->Prop} {ρ:Ro} {ds es:List D}
theorem q8l {T0:Tb} {RR:Value->Addr->Result->Shared->Prop} {E:Value->Shared->Prop} (hT:T0={ T with me:=none }) (hc:X.calm=true) (cp:Cap X scope x ys caps) (h1:∀y c,cl.lookup y=some c->X.env.cells.lookup y=some c) (h2:∀y∈scope.names,y.2=.free->∃c,cl.lookup y.1=some c)
 (he:∀(cl:List (Str×Addr)) (C:Addr) (s₀:Shared) (H₀:Hp) (ex:List Addr),DE T0 (CxC X (x::ys) scope cl C s₀ H₀ ex) elt fe)
 (I2:Inv X pins σ H2 s2) (Tn:Turn X.prog X.w X.K (.Name x px) J fp it tn) (t0:tn 0 s2.heap) (f2:∀b∈fp,q1X X pins H2 b)
 (fr:FR T X.K G H2 σ ρ) (wk:Walk T X.K G J ds H2) (hm:j0l (λd=>fe (q1e caps ρ d)) ds=some es) (hl:ds.length<=1000000)
 (hRR:∀(a C:Addr) (s':Shared) (m':Str->Option Value) (Hn:Hp) (vs:List V),Inv X pins σ Hn s'->q1X X pins Hn C->s'.heap.Ns C m'->Same H2 Hn->H2 a=none->Hn a=some (.lst vs)->RepL T X.K Hn es vs->RR (.ref a) C (.ok .next) s') :
 wpAny (model X.prog X.w) X.A (newList []) (λacc s3=>wpAny (model X.prog X.w) X.A (newFunctionEnv scope X.env.globals cl [] X.env.qual none .none (some X.env)) (λcenv s4=>
  codeAny (model X.prog X.w) X.A (.compStart (.ListComp elt [⟨.Name x px,iter,[],0⟩] scope pos) 0 (.ref it) acc { cenv with scope:=relabel scope X.env }) (RR acc cenv.locals) s4) E s3) E s2:=by
 obtain ⟨ml,mg⟩:=q5K hm
 refine wpAny_newList (wpAny_newFunctionEnv cp.nocell (by intro y hy;simp at hy) (λh' hns hsb=>?_) cp.kind)
 have I3:Inv X pins σ (upd H2 s2.heap.objs.size (.lst [])) { s2 with heap:=s2.heap.push { cls:=.type "list",data:=.seq ([]:List Value).toArray } }:=I2.lnew (t':=s2.toks) .nil (Nat.zero_le _)
 have bl:∀b∈fp,b < s2.heap.objs.size:=λb hb=>by
  obtain ⟨o,e,_⟩:=Tn.obj 0 _ t0 b hb
  exact Heap.lt_size e
 have ha0:H2 s2.heap.objs.size=none:=I2.hok.fresh (Nat.le_refl _)
 generalize hA:s2.heap.objs.size=a at *
 have f3:∀b∈fp,q1X X pins (upd H2 a (.lst [])) b:=λb hb=>⟨by rw [q0h (Nat.ne_of_lt (bl b hb))];exact (f2 b hb).1,(f2 b hb).2⟩
 have hs3:(s2.heap.push { cls:=.type "list",data:=.seq ([]:List Value).toArray }).objs.size=a+1:=by rw [Heap.size_push,hA]
 generalize hH:s2.heap.push { cls:=.type "list",data:=.seq ([]:List Value).toArray }=hp3 at *
 have up3:∀b o,s2.heap.get? b=some o->hp3.get? b=some o:=λb o e=>hH ▸ Heap.get?_push_of_some _ e
 have k3:∀b o,hp3.get? b=some o->h'.get? b=some o:=λb o e=>
  hsb.extBut b o (Nat.ne_of_lt (Heap.lt_size e)) (Heap.get?_push_of_some _ e)
 have t1:tn 0 h':=Tn.keep 0 _ _ t0 λb hb o e=>k3 b o (up3 b o e)
 generalize hC:hp3.objs.size=C at *
 have I4:Inv (CxC X (x::ys) scope cl C { s2 with heap:=hp3 } (upd H2 a (.lst [])) fp) [] (none::caps.map λi=>σ.getD i none) (upd H2 a (.lst [])) { s2 with heap:=h',toks:=s2.toks+([]:List (Str×Value)).length }:=by
  have:=q3O (ex:=fp) (tk:=s2.toks+([]:List (Str×Value)).length) (h':=h') I3 cp h1 h2 (λb hb=>⟨f3 b hb,by show b < hp3.objs.size;rw [hC,hs3];exact Nat.lt_succ_of_lt (bl b hb)⟩) (by show h'.Ns hp3.objs.size _;rw [hC];exact hns) k3
  have e:({ s2 with heap:=hp3 }:Shared).heap.objs.size=C:=hC
  rw [e] at this
  exact this
 have sm0:Same H2 (upd H2 a (.lst [])):=λb o e=>by
  have:b≠a:=λz=>by rw [z,ha0] at e;cases e
  rw [q0h this];exact e
 have own:(CxC X (x::ys) scope cl C { s2 with heap:=hp3 } (upd H2 a (.lst [])) fp).env.scope.names.lookup x=some .local:=lookup_relabel_local cp.own
 have Icf:q1X X pins (upd H2 a (.lst [])) C:=I3.fpOk (by show hp3.objs.size<=C;rw [hC];exact Nat.le_refl _) I4.free
 have fpc:∀{pn:List (Addr×Obj)} {H:Hp},(∀b∈fp,H b=none)->(∀b∈fp,∀p∈pn,p.1≠b)->∀b∈fp,q1X (CxC X (x::ys) scope cl C { s2 with heap:=hp3 } (upd H2 a (.lst [])) fp) pn H b:=λhn hp b hb=>
  ⟨hn b hb,(I4.ok.exf b hb).1,I4.ok.exfs b hb,.inl hb,(I4.ok.exf b hb).2,hp b hb⟩
 have loop:∀s':Shared,s'={ s2 with heap:=h',toks:=s2.toks+([]:List (Str×Value)).length } ->
  codeAny (model X.prog X.w) X.A (.compLoop (.ListComp elt [⟨.Name x px,iter,[],0⟩] scope pos) 0 (.ref it) (.ref a) (compEnvC scope cl C X.env)) (RR (.ref a) C) s':=by
  rintro s' rfl
  refine codeAny_compLoop_tests (λn s'=>∃(i:Nat) (w:Option V) (H':Hp) (vs:List V),n=ds.length-i/\i<=ds.length/\Inv (CxC X (x::ys) scope cl C { s2 with heap:=hp3 } (upd H2 a (.lst [])) fp) [] (w::caps.map λi=>σ.getD i none) H' s'/\tn i s'.heap/\(∀b∈fp,H' b=none) /\
   Same H2 H'/\H' a=some (.lst vs)/\RepL T X.K H' (es.take i) vs) ?_ ds.length ⟨0,none,_,[],rfl,Nat.zero_le _,I4,t1,λb hb=>(f3 b hb).1,sm0,q0p,by rw [List.take_zero];exact rfl⟩
  rintro n s' ⟨i,w,H',vs,rfl,hi,I',ti,fn,sm,hv,rp⟩
  obtain ⟨w1,w2⟩:=wk i H' (Pers.of sm) (fr.same.trans sm)
  by_cases hlt:i < ds.length
  ·obtain ⟨d,e1⟩:∃d,ds[i]?=some d:=⟨ds[i],by simp [hlt]⟩
   obtain ⟨go,yl⟩:=w1 d e1
   obtain ⟨e,ef,ee⟩:=mg i d e1
   refine wpAny_mono (Tn.item ((CxC X (x::ys) scope cl C { s2 with heap:=hp3 } (upd H2 a (.lst [])) fp).wish λ_ _=>False) rfl rfl rfl hc i [] s' _ H' (λ_ _=>False) (I'.wish _) (fpc fn λ_ _ p hp=>by cases hp) ti go) (λr s1 h=>?_) λ_ _ z=>z.elim
   obtain ⟨u,rfl,h⟩:=h
   show wpAny _ _ (assign (.Name x px) (compEnvC scope cl C X.env) u) _ _ s1
   refine (show wpAny (model X.prog X.w) X.A (letOwnedTupleGo (.Name x px) (.ref it) u >>= λ_=>assign (.Name x px) (compEnvC scope cl C X.env) u) _ _ s1 from wpAny_bind (wpAny_mono h (λ_ s5 h5=>?_) λ_ _ z=>z.elim))
   obtain ⟨y,H5,I5,r5,y5,t5,f5⟩:=h5
   obtain ⟨s5',rd⟩:=yl y H5 y5
   have I5':=I5.pinned (fpc f5 λ_ _ p hp=>by cases hp) (Tn.obj _ _ t5)
   refine wpAny_mono (q18 (X:=(CxC X (x::ys) scope cl C { s2 with heap:=hp3 } (upd H2 a (.lst [])) fp).wish λ_ _=>False) (i:=0) cp.nodup rfl (.inl own) (.inr own) _ s5 _ H5 y u (fun σ' H''=>σ'=(w::caps.map λi=>σ.getD i none).set 0 (some y)/\H''=H5) I5' r5 ⟨rfl,rfl⟩) (λ_ s6 h6=>?_) λ_ _ z=>z.elim
   obtain ⟨σ6,H6,I6,rfl,rfl⟩:=h6
   refine wpAny_pure ?_
   show wpAny (model X.prog X.w) X.A (eval elt (compEnvC scope cl C X.env)) _ _ s6
   have fr6:FR T0 X.K (λ_=>none) H6 ((w::caps.map λi=>σ.getD i none).set 0 (some y)) (q1e caps ρ d):=q5e hT fr (Pers.of (sm.trans s5')) rd
   refine wpAny_mono ((he cl C { s2 with heap:=hp3 } (upd H2 a (.lst [])) fp).run (λ_=>none) (λ_ _=>False) PassesOwn.never _ s6 _ H6 (λv H7=>Same H6 H7/\Rep T0 X.K H7 e v) I6 ⟨q1e caps ρ d,fr6,by rw [ef];exact λv H7 s7 r7=>⟨s7,r7⟩⟩) (λu7 s7 h7=>?_) λ_ _ z=>z.elim
   obtain ⟨v7,H7,I7,r7,sm7,rp7⟩:=h7
   have rp7:Rep T X.K H7 e v7:=by subst hT;exact (q1L _ _).mp rp7
   have hv7:H7 a=some (.lst vs):=sm7 _ _ (s5' _ _ hv)
   have lv:vs.length=i:=by rw [RepL.length _ _ rp,List.length_take,ml,Nat.min_eq_left hi]
   refine wpAny_mono (q2k (X:=(CxC X (x::ys) scope cl C { s2 with heap:=hp3 } (upd H2 a (.lst [])) fp).wish λ_ _=>False) _ s7 _ H7 (.ref a) [v7] (.ref a) [u7] (λ_ H8=>H8=upd H7 a (.lst (vs++[v7]))) I7 rfl (.cons r7 .nil) ⟨a,vs,v7,rfl,rfl,hv7,by rw [lv];exact Nat.lt_of_lt_of_le hlt (Nat.le_trans hl (by unfold sizeLine;decide)),rfl⟩) (λ_ s8 h8=>?_) λ_ _ z=>z.elim
   obtain ⟨_,H8,I8,_,rfl⟩:=h8
   have st:es.take (i+1)=es.take i++[e]:=by
    obtain ⟨q1,q2⟩:=List.getElem?_eq_some_iff.mp ee
    rw [List.take_succ_eq_append_getElem q1,q2]
   have p8:Pers false H7 (upd H7 a (.lst (vs++[v7]))):=q1Y hv7
   refine ⟨ds.length-(i+1),by omega,i+1,some y,_,vs++[v7],rfl,hlt,I8.unwish.unpinned,?_,λb hb=>?_,λb o q=>?_,q0p,?_⟩
   ·exact Tn.keep _ _ _ t5 λb hb o q=>(I8.pin (b,o) (List.mem_append_right _ (List.mem_append_right _ (q0K hb q)))).1
   ·obtain ⟨o,q,d'⟩:=Tn.obj _ _ t5 b hb
    exact (I8.pin (b,o) (List.mem_append_right _ (List.mem_append_right _ (q0K hb q)))).2.1
   ·have:b≠a:=λz=>by rw [z,ha0] at q;cases q
    rw [q0h this]
    exact sm7 _ _ (s5' _ _ (sm _ _ q))
   ·rw [st]
    exact RepL.append _ _ _ _ (RepL.pers p8 _ _ (RepL.mono sm7 _ _ (RepL.mono s5' _ _ rp))) ⟨v7,[],rfl,Rep.pers p8 _ _ rp7,rfl⟩
  ·have e:i=ds.length:=by omega
   refine wpAny_mono (Tn.done ((CxC X (x::ys) scope cl C { s2 with heap:=hp3 } (upd H2 a (.lst [])) fp).wish λ_ _=>False) rfl rfl rfl hc i [] s' _ H' (λ_ _=>False) (I'.wish _) (fpc fn λ_ _ p hp=>by cases hp) ti (w2 (by omega))) (λr s1 h=>?_) λ_ _ z=>z.elim
   obtain ⟨rfl,I1⟩:=h
   have I1:=I1.unwish
   obtain ⟨m',hn,_⟩:=I1.loc
   refine hRR a C s1 m' H' vs (q2r I3 I1 f3) ⟨I1.free,Icf.2⟩ hn sm ha0 hv ?_
   have:es.take i=es:=by rw [List.take_of_length_le (by omega)]
   rwa [this] at rp
 exact codeAny_compStart_list (loop _ rfl) (Tn.self _ 0 _ _ _ t1 (loop _ rfl))
end
def CompOk (X:Cx) (e:Expr) (scope:Scope) (pos:Pos) (first:Sem Value) (t:TE):Prop:=
 ∀(pins:List (Addr×Obj)) (s:Shared) (σ:L2.St) (H:Hp) (Q:VK) (use:Option (Value->Sem Unit)) (QQ:Value->Shared->Prop),Inv X pins σ H s->t σ H Q ->
  (∀(a C:Addr) (s':Shared) (m:Str->Option Value) (Hn:Hp),Inv X pins σ Hn s'->q1X X pins Hn C->s'.heap.Ns C m->Q (.ref a) Hn->compPost (model X.prog X.w) X.A X.xe use QQ (.ref a) C (.ok .next) s') ->
  wpAny (model X.prog X.w) X.A (comprehension e scope X.env pos (newList []) false first use) QQ X.xe s
section
variable {X:Cx} {elt iter:Expr} {x y:Str} {px py pos spos p':Pos} {scope:Scope} {t:TE}
theorem CompOk.freeze {e:Expr} {first:Sem Value} (h:CompOk X e scope pos first t):CompOk X e scope pos first (fun σ H Q=>t σ H λv H1=>∃a vs,v=.ref a/\H1 a=some (.lst vs)/\∀o,Q v (upd H1 a (.frz o (.lst vs)))):=
 λpins s σ H Q use QQ I q k=>h pins s σ H _ use QQ I q λa C s' m Hn I' f hn ⟨a',vs,e,ha,kq⟩=>by
  cases e
  obtain ⟨o,I2⟩:=Inv.freeze I' ha
  exact k a C s' m _ I2 ⟨by rw [q0h (λz=>by rw [<-z,f.1] at ha;cases ha)];exact f.1,f.2⟩ hn (kq o)
theorem CompOk.pe {gs:List Comprehension} (h:CompOk X (.ListComp elt gs scope pos) scope (firstIterPos gs pos) (firstIter gs X.env) t) (ha:firstAsync gs=false:=by rfl):PE X (.ListComp elt gs scope pos) t:=λpins s σ H Q I q=>by
 rw [eval_ListComp,ha]
 refine h pins s σ H Q none _ I q λa C s' m Hn I' f hn hq=>⟨m,hn,λh' hs'=>?_⟩
 exact ⟨.ref a,Hn,I'.turned (t':=s'.toks) (λb o hb e=>hs'.extBut b o hb e) f.1 f.2.1 f.2.2.2.1 f.2.2.2.2.1 f.2.2.2.2.2,rfl,hq⟩
theorem CompOk.ps {gs:List Comprehension} {i:Nat} (h:CompOk X (.ListComp elt gs scope pos) scope (firstIterPos gs pos) (firstIter gs X.env) t) (hN:X.N.Nodup) (hi:X.N[i]?=some y) (hy:Loc X.env.scope y) (hf:X.fn y=true∨X.env.scope.names.lookup y=some .local)
 (hsw:swapsWith (.ListComp elt gs scope pos) (some (.Name y py)) spos.line X.env=pure true) (ha:firstAsync gs=false:=by rfl) :
 PS X (.Assign [.Name y py] (.ListComp elt gs scope pos) spos) (w1G t (j1W i)):=λpins s σ H D I q=>by
 rw [exec_Assign_Name_used _ _ _ _ hsw]
 refine wpAny_bind (wpAny_standAt (wpAny_bind ?_))
 show wpAny _ X.A (do let _ <-comprehension (.ListComp elt gs scope pos) scope X.env (firstIterPos gs pos) (newList []) (firstAsync gs) (firstIter gs X.env) (some (assign (.Name y py) X.env))) _ _ s
 rw [ha]
 refine wpAny_bind (wpAny_mono (h pins s σ H _ (some (assign (.Name y py) X.env)) (λ_ s'=>SP X pins D .next s') I q λa C s' m Hn I' f hn hq=>?_) (λ_ s' hq=>wpAny_pure (wpAny_pure hq)) λ_ _ z=>z)
 show wpAny (model X.prog X.w) X.A (assign (.Name y py) X.env (.ref a)) _ X.xe s'
 obtain ⟨o,es,ep,ho,hd⟩:=hn
 have hdc:∀v,o.data≠.cell v:=λv z=>by
  have:=hd.1
  rw [z] at this;cases this
 have I2:Inv X (pins++[(C,o)]) σ Hn s':=I'.pins_of λp hp=>(List.mem_append.mp hp).elim (λz=>I'.pin p (List.mem_append_right _ z)) λz=>by
  obtain rfl:p=(C,o):=by simpa using z
  exact ⟨ho,f.1,f.2.1,f.2.2.1,hdc⟩
 refine wpAny_mono (q18 (X:=X) (i:=i) hN hi hy hf _ s' σ Hn (.ref a) (.ref a) D.nx I2 rfl hq) (λ_ s'' h''=>?_) λ_ _ z=>z
 obtain ⟨σ',H',I3,q3⟩:=h''
 have hC:=I3.pin (C,o) (by simp)
 refine ⟨m,⟨o,es,ep,hC.1,hd⟩,λh' hs'=>?_⟩
 have I4:Inv X pins σ' H' s'':=I3.unpinned
 have I5:Inv X pins σ' H' { s'' with heap:=h' }:=I4.turned (t':=s''.toks) (λb o hb e=>hs'.extBut b o hb e) hC.2.1 f.2.1 f.2.2.2.1 f.2.2.2.2.1 f.2.2.2.2.2
 exact ⟨σ',H',I5,q3⟩
end
section
variable {T:Tb} {X:Cx} {elt iter:Expr} {x:Str} {px pos spos py:Pos} {scope:Scope} {ys:List Str} {caps:List Nat} {fe:Ev} {fl:Ro->Out (List D)}
@[simp] def q2C (fl:Ro->Out (List D)) (caps:List Nat) (fe:Ev) (ρ:Ro):Out (List D):=(fl ρ).bind λds=>if ds.length<=1000000 then (match j0l (λd=>fe (q1e caps ρ d)) ds with | some es=>.ok es | none=>.bad) else .bad
theorem j0C {T0:Tb} {G:Hp} {E:Value->Shared->Prop} (hp:PassesOwn (model X.prog X.w) X.A X.env E) (hT:T0={ T with me:=none }) (hc:X.calm=true) (hi:DI T X (.Name x px) iter fl) (cp:Cap X scope x ys caps)
 (he:∀(cl:List (Str×Addr)) (C:Addr) (s₀:Shared) (H₀:Hp) (ex:List Addr),DE T0 (CxC X (x::ys) scope cl C s₀ H₀ ex) elt fe)
 (hs:∀x,foldedSetIterable iter X.env x=pure x) :
 CompOk (X.wish E) (.ListComp elt [⟨.Name x px,iter,[],0⟩] scope pos) scope (firstIterPos [⟨.Name x px,iter,[],0⟩] pos) (firstIter [⟨.Name x px,iter,[],0⟩] X.env) (tF T X G E (q2C fl caps fe)):=by
 rintro pins s σ H Q use QQ I ⟨ρ,fr,h⟩ k
 obtain ⟨cl,hclos,h1,h2⟩:=q10 X.env scope λy hy hf=>I.ok.has y.1 (cp.free y hy hf)
 refine wpAny_comprehension_free rfl hs hclos cp.kind cp.names ?_
 refine wpAny_mono (hi.run G E hp pins s σ H (λJ H'=>∃ds es,Same H H'/\Walk T X.K G J ds H'/\j0l (λd=>fe (q1e caps ρ d)) ds=some es/\ds.length<=1000000/\∀a vs H'',Same H H''->H a=none->H'' a=some (.lst vs)->RepL T X.K H'' es vs->Q (.ref a) H'') I
  ⟨ρ,fr,Acc.mono (Acc.bind h) λds _ hd J H1 s1 wk=>?_⟩) (λv s1 h1'=>wpAny_mono h1' (λitv s2 h2'=>?_) λ_ _ z=>z) λ_ _ z=>z
 ·by_cases hl:ds.length<=1000000
  ·rw [if_pos hl] at hd
   cases hm:j0l (λd=>fe (q1e caps ρ d)) ds with
   | none=>rw [hm] at hd;exact hd.elim
   | some es=>
    rw [hm] at hd
    exact ⟨ds,es,s1,wk,hm,hl,hd⟩
  ·rw [if_neg hl] at hd;exact hd.elim
 ·obtain ⟨it,fp,tn,J,H2,rfl,I2,Tn,t0,f2,ds,es,sm,wk,hm,hl,kq⟩:=h2'
  refine q8l (X:=X) (E:=E) (G:=G) (RR:=λacc C=>compPost (model X.prog X.w) X.A E use QQ acc C) hT hc cp h1 h2 he I2.unwish Tn t0 f2 (fr.mono sm) wk hm hl ?_
  intro a C s' m' Hn vs I' f hn smn ha hv rp
  exact k a C s' m' Hn (I'.wish E) f hn (kq a vs Hn (sm.trans smn) (sm.free ha) hv rp)
theorem q2b {T0:Tb} (hT:T0={ T with me:=none }) (hc:X.calm=true) (hi:DI T X (.Name x px) iter fl) (cp:Cap X scope x ys caps)
 (he:∀(cl:List (Str×Addr)) (C:Addr) (s₀:Shared) (H₀:Hp) (ex:List Addr),DE T0 (CxC X (x::ys) scope cl C s₀ H₀ ex) elt fe)
 (hs:∀x,foldedSetIterable iter X.env x=pure x:=by intro _;rfl):DF T X (.ListComp elt [⟨.Name x px,iter,[],0⟩] scope pos) (q2C fl caps fe):=.mk λG E hp=>
 CompOk.pe (X:=X.wish E) (j0C hp hT hc hi cp he hs)
variable {ib:Bool} {y:Str}
theorem q5l {T0:Tb} (i:Nat) (hT:T0={ T with me:=none }) (hc:X.calm=true) (hN:X.N.Nodup) (hi:DI T X (.Name x px) iter fl) (cp:Cap X scope x ys caps)
 (he:∀(cl:List (Str×Addr)) (C:Addr) (s₀:Shared) (H₀:Hp) (ex:List Addr),DE T0 (CxC X (x::ys) scope cl C s₀ H₀ ex) elt fe) (hiN:X.N[i]?=some y:=by rfl) (hy:Loc X.env.scope y:=by walk_at "v3")
 (hf:X.fn y=true∨X.env.scope.names.lookup y=some .local:=by walk_at "v2")
 (hz:T.me=none∨i≠0:=by walk_at "v1")
 (hsw:swapsWith (.ListComp elt [⟨.Name x px,iter,[],0⟩] scope pos) (some (.Name y py)) spos.line X.env=pure true:=by rfl) (hs:∀x,foldedSetIterable iter X.env x=pure x:=by intro _;rfl) :
 DS T ib X (.Assign [.Name y py] (.ListComp elt [⟨.Name x px,iter,[],0⟩] scope pos) spos) (q1i i (q1r (q2C fl caps fe))):=.mk λG E hp=>
 PS.imp (CompOk.ps (X:=X.wish E) (i:=i) (CompOk.freeze (j0C (G:=G) hp hT hc hi cp he hs)) hN hiN hy hf hsw) λD σ H ⟨ρ,fr,h⟩=>⟨ρ,fr,Acc.mono (Acc.bind (AccS.fl fr h)) λds _ hd a vs H1 s1 ha ha' r=>⟨a,vs,rfl,ha',λo=>by
  have s2:Same H (upd H1 a (.frz o (.lst vs))):=λb u e=>by
   rw [q0h (λz=>by rw [z,ha] at e;cases e)];exact s1 b u e
  exact hd _ _ ((fr.mono s2).set_sh ⟨a,vs,rfl,.inl ⟨o,q0p⟩,RepL.froz ha' _ _ r⟩ hz) (Pers.of s2)⟩⟩
end
section
variable {X:Cx}
end
section
variable {T:Tb} {X:Cx} {a b e:Expr} {pos p p2:Pos} {fa fb fe:Ev} {lo hi:Option Expr} {fo fu:Ro->Out (Option Int)}
def Itx (z:Str):It:=⟨λi _=>i < z.length,λi H x H'=>H'=H/\∃c,z.cps[i]?=some c/\x=.str ⟨#[c]⟩,λi _=>z.length<=i⟩
theorem q5L {P:Program} {w:World} {K:PySem.W.Frag} {tg:Expr} {ty:String} (it:Addr) (z:Str) (t:Tok) (hn:["enumerate","zip","dict_itemiterator","dict_reverseitemiterator","odict_iterator","itertools.zip_longest","itertools.pairwise"].contains ty=false)
 (W:∀A:Around,A.handled=none->Walks P w A it [it] [it] z.cps.size (SignAt z) (λi h=>h.IsStrIter it ty z t i))
 (hself:∀(A:Around) (i:Nat) (s:Shared) (Q:Value->Shared->Prop) (E:Value->Shared->Prop),s.heap.IsStrIter it ty z t i->Q (.ref it) s->wpAny (model P w) A (pyIter (.ref it)) Q E s):Turn P w K tg (Itx z) [it] it (λi h=>i<=z.cps.size/\h.IsStrIter it ty z t i) where
 mem:=by simp
 obj:=λi h st b hb=>by
  have e:b=it:=by simpa using hb
  subst e
  obtain ⟨_,o,ho,_,hd⟩:=st
  exact ⟨o,ho,λv q=>by rw [hd] at q;cases q⟩
 keep:=λi h h' st k=>by
  obtain ⟨l,o,ho,r⟩:=st
  exact ⟨l,o,k it (by simp) o ho,r⟩
 item:=by
  intro X hP hw hK hc i pins s σ H E I hf st hg
  subst hP hw hK
  obtain ⟨f0,f1,f2,f3,f4,f5⟩:=hf it (by simp)
  refine (W X.A (I.ok.hd hc)).item i s _ _ hg st.2 λv h' tk hv st' kk=>?_
  obtain ⟨c,u,hcx,rfl⟩:=hv
  have I1:Inv X pins σ H { s with heap:=h',toks:=tk }:=I.turned (λb o hb e=>kk b o (by simpa using hb) e) f0 f1 f3 f4 f5
  obtain ⟨o,ho,hcl,hd⟩:=id st'
  exact ⟨_,rfl,q4Y (s:={ s with heap:=h',toks:=tk }) (n:=ty) ho hcl hd hn ⟨.str ⟨#[c]⟩,H,I1,⟨u,rfl⟩,⟨rfl,c,hcx,rfl⟩,⟨hg,st'⟩,λb hb=>(hf b hb).1⟩⟩
 done:=by
  intro X hP hw hK hc i pins s σ H E I hf st hg
  subst hP hw hK
  obtain ⟨f0,f1,f2,f3,f4,f5⟩:=hf it (by simp)
  have hi:i=z.cps.size:=Nat.le_antisymm st.1 hg
  subst hi
  exact (W X.A (I.ok.hd hc)).done s _ _ st.2 λh' tk kk=>⟨rfl,I.turned (t':=tk) (λb o hb e=>kk b o (by simpa using hb) e) f0 f1 f3 f4 f5⟩
 self:=λA i s Q E st h=>hself A i s Q E st.2 h
end
section
variable {X:Cx} {tg:Expr}
theorem j6C {l:Expr} {tl:TE} (hl:PE X l tl):PI X tg l (fun σ H R=>tl σ H λx H1=>∃z,x=.str z/\R (Itx z) H1):=by
 intro pins s σ H R I h
 refine thn (hl pins s σ H _ I h) λv s1 ⟨x,H1,I1,r1,q1⟩=>?_
 obtain ⟨z,rfl,q⟩:=q1
 obtain ⟨t,rfl⟩:=r1
 have fin:∀(ob:Obj),∀b∈[s1.heap.objs.size],q1X X pins H1 b:=λob b hb=>by
  have e:b=s1.heap.objs.size:=by simpa using hb
  subst e
  exact I1.fpOk (Nat.le_refl _) (I1.hok.fresh (Nat.le_refl _))
 cases ha:z.cps.all (· < 128) with
 | true=>
  refine wpAny_pyIter_ascii ha ?_
  exact ⟨s1.heap.objs.size,[s1.heap.objs.size],_,_,H1,rfl,I1.kept (t':=s1.toks) λb o e=>Heap.get?_push_of_some _ e,q5L _ z t (by decide) (λA' hA=>Walks.strAscii hA _ z t) (λ_ _ _ _ _ st hQ=>wpAny_pyIter_striter_ascii st hQ),⟨Nat.zero_le _,_,Heap.get?_push_size _ rfl,rfl,rfl⟩,fin default,q⟩
 | false=>
  refine wpAny_pyIter_wide ha ?_
  exact ⟨s1.heap.objs.size,[s1.heap.objs.size],_,_,H1,rfl,I1.kept (t':=s1.toks) λb o e=>Heap.get?_push_of_some _ e,q5L _ z t (by decide) (λA' hA=>Walks.strWide hA _ z t) (λ_ _ _ _ _ st hQ=>wpAny_pyIter_striter_wide st hQ),⟨Nat.zero_le _,_,Heap.get?_push_size _ rfl,rfl,rfl⟩,fin default,q⟩
end
section
variable {T:Tb} {X:Cx} {tg e:Expr} {fe:Ev}
def signs (z:Str):List D:=z.cps.toList.map λc=>D.str ⟨#[c]⟩
@[simp] def D.toS:D->Out (List D)
 | .str z=>.ok (signs z)
 | _=>.bad
@[simp] def w1o (f:Ev) (ρ:Ro):Out (List D):=(f ρ).bind D.toS
theorem j5m (he:DE T X e fe):DI T X tg e (w1o fe):=.mk λG E hp=>
 PI.imp (j6C (X:=X.wish E) (he.run G E hp)) fun σ H R ⟨ρ,fr,h⟩=>⟨ρ,fr,Acc.mono (Acc.bind h) λd _ hd v H1 s1 r1=>by
  cases d with
  | str z=>
   refine ⟨z,r1,hd _ H1 s1 λi H' p sm=>⟨λd' e'=>?_,λhl=>?_⟩⟩
   ·have hd':z.cps.toList[i]?.map (λc=>D.str ⟨#[c]⟩)=some d':=by rw [<-e',signs,List.getElem?_map]
    cases q:z.cps.toList[i]? with
    | none=>rw [q] at hd';cases hd'
    | some c=>
     rw [q] at hd'
     obtain rfl:D.str ⟨#[c]⟩=d':=Option.some.inj hd'
     have q2:z.cps[i]?=some c:=by rw [<-Array.getElem?_toList];exact q
     refine ⟨?_,λx H2 ⟨e2,c',e3,e4⟩=>?_⟩
     ·obtain ⟨hl,_⟩:=Array.getElem?_eq_some_iff.mp q2
      exact hl
     ·subst e2
      rw [q2] at e3;cases e3
      exact ⟨Same.refl _,e4⟩
   ·have:(signs z).length=z.length:=by simp [signs,Str.length]
    rw [this] at hl
    exact hl
  | _=>exact hd.elim⟩
end
section
variable {X:Cx}
theorem Inv.walked {pins:List (Addr×Obj)} {σ:L2.St} {H:Hp} {s:Shared} {ob:Obj} {h':Heap} {tk:Nat} (I:Inv X pins σ H s) (k:∀b o,b∉[s.heap.objs.size]->(s.heap.push ob).get? b=some o->h'.get? b=some o):Inv X pins σ H { s with heap:=h',toks:=tk }:=
 I.kept λb u e=>k b u (by simpa using Nat.ne_of_lt (Heap.lt_size e)) (Heap.get?_push_of_some _ e)
theorem q4N:∀{bs:List Bool} {us:List Value},Vals (bs.map V.bl) us->us=bs.map Value.bool
 | [],_,.nil=>rfl
 | b::bs,_,.cons r t=>by rw [q4N t,show _=Value.bool b from r];rfl
theorem q8f (bs:List Bool):(List.range bs.length).all (λi=>bs.getD i false)=bs.all id:=by
 rw [Bool.eq_iff_iff]
 simp only [List.all_eq_true,List.mem_range,id]
 constructor
 ·intro h b hb
  obtain ⟨i,hi,rfl⟩:=List.mem_iff_getElem.mp hb
  have:=h i hi
  rwa [List.getD_eq_getElem?_getD,List.getElem?_eq_getElem hi] at this
 ·intro h i hi
  rw [List.getD_eq_getElem?_getD,List.getElem?_eq_getElem hi]
  exact h _ (List.getElem_mem hi)
theorem q7O (bs:List Bool):(List.range bs.length).any (λi=>bs.getD i false)=bs.any id:=by
 rw [Bool.eq_iff_iff]
 simp only [List.any_eq_true,List.mem_range,id]
 constructor
 ·rintro ⟨i,hi,h⟩
  rw [List.getD_eq_getElem?_getD,List.getElem?_eq_getElem hi] at h
  exact ⟨_,List.getElem_mem hi,h⟩
 ·rintro ⟨b,hb,h⟩
  obtain ⟨i,hi,rfl⟩:=List.mem_iff_getElem.mp hb
  exact ⟨i,hi,by rw [List.getD_eq_getElem?_getD,List.getElem?_eq_getElem hi];exact h⟩
theorem q5S {P:Program} {w:World} {A:Around} (bs:List Bool):TruthOf P w A (λi v=>(bs.map Value.bool).toArray[i]?=some v) (λi=>bs.getD i false):=λi v s Q E hP hQ=>by
 have hP:((bs.map Value.bool)[i]?)=some v:=by rw [<-hP];simp
 rw [List.getElem?_map] at hP
 cases q:bs[i]? with
 | none=>rw [q] at hP;cases hP
 | some b=>
  rw [q] at hP
  obtain rfl:Value.bool b=v:=Option.some.inj hP
  have hQ:Q (bs.getD i false) s:=hQ
  rw [List.getD_eq_getElem?_getD,q] at hQ
  exact wpAny_truthy_bool hQ
theorem q9B (hc:X.calm=true):CallR X (.builtin "all") (λxs H Q=>∃(a:Addr) (bs:List Bool),xs=[.ref a]/\SqL X.K H a (bs.map V.bl)/\Q (.bl (bs.all id)) H):=by
 intro pins s σ H xs us Q I rv h
 obtain ⟨a,bs,rfl,hq,q⟩:=h
 obtain ⟨u,rfl,ru⟩:=rv.one
 cases ru
 obtain ⟨its,r,pl,hz⟩:=I.list hq
 obtain rfl:=q4N r
 have ha:a≠s.heap.objs.size:=by
  obtain ⟨o,ho,_⟩:=pl.isList
  exact Nat.ne_of_lt (Heap.lt_size ho)
 have W:=Walks.list (prog:=X.prog) (w:=X.w) (A:=X.A.in1) (show X.A.in1.handled=none from I.ok.hd hc) s.heap.objs.size a ha (bs.map Value.bool).toArray
 refine call_all_walk (wpAny_pyIter_list pl.isList ⟨_,_,_,_,_,_,λi=>bs.getD i false,rfl,W,⟨⟨_,Heap.get?_push_size _ rfl,rfl,rfl⟩,?_⟩,q5S bs,λh' tk hk=>?_⟩)
 ·obtain ⟨o,ho,r'⟩:=pl.isList
  exact ⟨o,Heap.get?_push_of_some _ ho,r'⟩
 ·have I2:=Inv.walked (s:=s) (tk:=tk) I hk
  refine ⟨.bl (bs.all id),H,I2,?_,q⟩
  rw [List.size_toArray,List.length_map,q8f]
  rfl
theorem q8N (hc:X.calm=true):CallR X (.builtin "any") (λxs H Q=>∃(a:Addr) (bs:List Bool),xs=[.ref a]/\SqL X.K H a (bs.map V.bl)/\Q (.bl (bs.any id)) H):=by
 intro pins s σ H xs us Q I rv h
 obtain ⟨a,bs,rfl,hq,q⟩:=h
 obtain ⟨u,rfl,ru⟩:=rv.one
 cases ru
 obtain ⟨its,r,pl,hz⟩:=I.list hq
 obtain rfl:=q4N r
 have ha:a≠s.heap.objs.size:=by
  obtain ⟨o,ho,_⟩:=pl.isList
  exact Nat.ne_of_lt (Heap.lt_size ho)
 have W:=Walks.list (prog:=X.prog) (w:=X.w) (A:=X.A.in1) (show X.A.in1.handled=none from I.ok.hd hc) s.heap.objs.size a ha (bs.map Value.bool).toArray
 refine call_any_walk (wpAny_pyIter_list pl.isList ⟨_,_,_,_,_,_,λi=>bs.getD i false,rfl,W,⟨⟨_,Heap.get?_push_size _ rfl,rfl,rfl⟩,?_⟩,q5S bs,λh' tk hk=>?_⟩)
 ·obtain ⟨o,ho,r'⟩:=pl.isList
  exact ⟨o,Heap.get?_push_of_some _ ho,r'⟩
 ·have I2:=Inv.walked (s:=s) (tk:=tk) I hk
  refine ⟨.bl (bs.any id),H,I2,?_,q⟩
  rw [List.size_toArray,List.length_map,q7O]
  rfl
def isum:List Int->Int
 | []=>0
 | i::is=>i+isum is
theorem q1F (is:List Int):∀j,j<=is.length->preSum (λi=>is.getD i 0) j=isum (is.take j):=by
 intro j
 induction j with
 | zero=>intro _;simp [preSum,isum]
 | succ j ih=>
  intro h
  rw [preSum,ih (by omega)]
  have e:is.take (j+1)=is.take j++[is.getD j 0]:=by
   rw [List.take_succ_eq_append_getElem (by omega),List.getD_eq_getElem?_getD,List.getElem?_eq_getElem (by omega)]
   rfl
  rw [e]
  have:∀(xs:List Int) (y:Int),isum (xs++[y])=isum xs+y:=by
   intro xs y
   induction xs with
   | nil=>simp [isum]
   | cons x xs ih=>simp [isum,ih];omega
  rw [this]
theorem q3N:∀{is:List Int} {us:List Value},Vals (is.map V.int) us->us.length=is.length/\∀(i:Nat) (v:Value),us[i]?=some v->∃t,v=.int (is.getD i 0) t
 | [],_,.nil=>⟨rfl,λi v e=>by simp at e⟩
 | j::is,_,.cons r t=>by
  obtain ⟨l,g⟩:=q3N t
  refine ⟨by simp [l],λi v e=>?_⟩
  cases i with
  | zero=>
   obtain ⟨tk,rfl⟩:=r
   cases e
   exact ⟨tk,rfl⟩
  | succ i=>exact g i v e
theorem q9l (hc:X.calm=true):CallR X (.builtin "sum") (λxs H Q=>∃(a:Addr) (is:List Int),xs=[.ref a]/\SqL X.K H a (is.map V.int)/\(∀j,j < is.length->InLong (is.getD j 0)/\InLong (isum (is.take (j+1))))/\Q (.int (isum is)) H):=by
 intro pins s σ H xs us Q I rv h
 obtain ⟨a,is,rfl,hq,hf,q⟩:=h
 obtain ⟨u,rfl,ru⟩:=rv.one
 cases ru
 obtain ⟨its,r,pl,hz⟩:=I.list hq
 obtain ⟨hl,hg⟩:=q3N r
 have ha:a≠s.heap.objs.size:=by
  obtain ⟨o,ho,_⟩:=pl.isList
  exact Nat.ne_of_lt (Heap.lt_size ho)
 have hlt:a < s.heap.objs.size:=by
  obtain ⟨o,ho,_⟩:=pl.isList
  exact Heap.lt_size ho
 have W:=Walks.list (prog:=X.prog) (w:=X.w) (A:=X.A.in1) (show X.A.in1.handled=none from I.ok.hd hc) s.heap.objs.size a ha its.toArray
 refine call_sum_walk (wpAny_pyIter_list pl.isList ⟨_,_,_,_,_,_,λi=>is.getD i 0,rfl,W,⟨⟨_,Heap.get?_push_size _ rfl,rfl,rfl⟩,?_⟩,?_,?_,?_,λh' tk t' hk=>?_⟩)
 ·obtain ⟨o,ho,r'⟩:=pl.isList
  exact ⟨o,Heap.get?_push_of_some _ ho,r'⟩
 ·intro b hb
  show b < (s.heap.push _).objs.size
  rw [Heap.size_push]
  simp only [List.mem_cons,List.not_mem_nil,or_false] at hb
  rcases hb with rfl | rfl
  ·exact Nat.lt_succ_self _
  ·exact Nat.lt_succ_of_lt hlt
 ·intro i v e
  exact hg i v (by rw [<-e];simp)
 ·intro j hj
  rw [List.size_toArray,hl] at hj
  rw [q1F is (j+1) hj]
  exact hf j hj
 ·have I2:=Inv.walked (s:=s) (tk:=tk) I hk
  refine ⟨.int (isum is),H,I2,⟨t',?_⟩,q⟩
  rw [List.size_toArray,hl,q1F is is.length (Nat.le_refl _),List.take_length]
end
section
variable {T:Tb} {X:Cx}
def j0z:List D->Option (List Bool)
 | []=>some []
 | .bl b::ds=>(match j0z ds with | some bs=>some (b::bs) | none=>none)
 | _=>none
theorem q3P {K:PySem.W.Frag} {H:Hp}:∀{ds:List D} {bs:List Bool} {vs:List V},j0z ds=some bs->RepL T K H ds vs->vs=bs.map V.bl
 | [],bs,vs,h,r=>by cases h;exact r
 | d::ds,bs,vs,h,r=>by
  cases d with
  | bl b=>
   have h:(match j0z ds with | some bs=>some (b::bs) | none=>none)=some bs:=h
   cases q:j0z ds with
   | none=>rw [q] at h;cases h
   | some bs'=>
    rw [q] at h;cases h
    obtain ⟨v,r',rfl,r1,r2⟩:=r
    rw [q3P q r2,show v=V.bl b from r1];rfl
  | _=>cases h
def q2j:List D->Option (List Int)
 | []=>some []
 | .int b::ds=>(match q2j ds with | some bs=>some (b::bs) | none=>none)
 | _=>none
theorem q1V {K:PySem.W.Frag} {H:Hp}:∀{ds:List D} {bs:List Int} {vs:List V},q2j ds=some bs->RepL T K H ds vs->vs=bs.map V.int
 | [],bs,vs,h,r=>by cases h;exact r
 | d::ds,bs,vs,h,r=>by
  cases d with
  | int b=>
   have h:(match q2j ds with | some bs=>some (b::bs) | none=>none)=some bs:=h
   cases q:q2j ds with
   | none=>rw [q] at h;cases h
   | some bs'=>
    rw [q] at h;cases h
    obtain ⟨v,r',rfl,r1,r2⟩:=r
    rw [q1V q r2,show v=V.int b from r1];rfl
  | _=>cases h
def w0Q:List D->Out D
 | [.lst ds]=>(match j0z ds with | some bs=>.ok (.bl (bs.all id)) | none=>.bad)
 | _=>.bad
def j9y:List D->Out D
 | [.lst ds]=>(match j0z ds with | some bs=>.ok (.bl (bs.any id)) | none=>.bad)
 | _=>.bad
theorem j6N (hc:X.calm=true):CaD T X (.builtin "all") w0Q:=λE=>⟨_,q9B hc,λds vs σ H Q r h=>by
 unfold w0Q at h
 split at h
 ·rename_i ds'
  obtain ⟨v,rfl,a,ws,rfl,fz,rl⟩:=r.one
  cases q:j0z ds' with
  | none=>rw [q] at h;exact h.elim
  | some bs=>
   rw [q] at h
   obtain rfl:=q3P q rl
   exact ⟨a,bs,rfl,fz.sq,h _ H (Same.refl H) rfl⟩
 ·exact h.elim⟩
theorem j7A (hc:X.calm=true):CaD T X (.builtin "any") j9y:=λE=>⟨_,q8N hc,λds vs σ H Q r h=>by
 unfold j9y at h
 split at h
 ·rename_i ds'
  obtain ⟨v,rfl,a,ws,rfl,fz,rl⟩:=r.one
  cases q:j0z ds' with
  | none=>rw [q] at h;exact h.elim
  | some bs=>
   rw [q] at h
   obtain rfl:=q3P q rl
   exact ⟨a,bs,rfl,fz.sq,h _ H (Same.refl H) rfl⟩
 ·exact h.elim⟩
def q4b (is:List Int):Bool:=decide (is.length<=1000) && is.all λi=>decide (-1000000000<=i) && decide (i<=1000000000)
theorem q6M:∀(is:List Int),(∀i∈is,-1000000000<=i/\i<=1000000000)->-(1000000000*(is.length:Int))<=isum is/\isum is<=1000000000*(is.length:Int)
 | [],_=>by simp [isum]
 | i::is,h=>by
  have h1:=q6M is λj hj=>h j (by simp [hj])
  have h2:=h i (by simp)
  simp only [isum,List.length_cons,Int.natCast_add,Int.natCast_one]
  omega
theorem q3i {is:List Int} (h:q4b is=true):∀j,j < is.length->InLong (is.getD j 0)/\InLong (isum (is.take (j+1))):=by
 unfold q4b at h
 simp only [Bool.and_eq_true,decide_eq_true_eq,List.all_eq_true] at h
 intro j hj
 constructor
 ·rw [List.getD_eq_getElem?_getD,List.getElem?_eq_getElem hj]
  have:=h.2 _ (List.getElem_mem hj)
  unfold InLong
  show _<=is[j]/\is[j] < _
  omega
 ·have:=q6M (is.take (j+1)) λi hi=>h.2 i (List.mem_of_mem_take hi)
  have l:(is.take (j+1)).length<=1000:=by rw [List.length_take];omega
  unfold InLong
  omega
def j7X:List D->Out D
 | [.lst ds]=>(match q2j ds with | some is=>if q4b is=true then .ok (.int (isum is)) else .bad | none=>.bad)
 | _=>.bad
theorem j0w (hc:X.calm=true):CaD T X (.builtin "sum") j7X:=λE=>⟨_,q9l hc,λds vs σ H Q r h=>by
 unfold j7X at h
 split at h
 ·rename_i ds'
  obtain ⟨v,rfl,a,ws,rfl,fz,rl⟩:=r.one
  cases q:q2j ds' with
  | none=>rw [q] at h;exact h.elim
  | some is=>
   rw [q] at h
   have h:Acc T X E σ H (if q4b is=true then .ok (.int (isum is)) else .bad) (kE T X.K H Q):=h
   by_cases c:q4b is=true
   ·rw [if_pos c] at h
    obtain rfl:=q1V q rl
    exact ⟨a,is,rfl,fz.sq,q3i c,h _ H (Same.refl H) rfl⟩
   ·rw [if_neg c] at h;exact h.elim
 ·exact h.elim⟩
def q2A:D->Option V
 | .non=>some .non
 | .bl b=>some (.bl b)
 | .int i=>some (.int i)
 | .str x=>some (.str x)
 | _=>none
theorem q2e {K:PySem.W.Frag} {H:Hp} {d:D} {v w:V} (h:q2A d=some w) (r:Rep T K H d v):v=w/\q17 w=true:=by
 cases d<;>first | (cases h;done) | (cases h;exact ⟨r,rfl⟩)
def q1g:List D->Option (List V)
 | []=>some []
 | d::ds=>(match q2A d,q1g ds with | some v,some vs=>some (v::vs) | _,_=>none)
theorem q1W {K:PySem.W.Frag} {H:Hp}:∀{ds:List D} {vs ws:List V},q1g ds=some ws->RepL T K H ds vs->vs=ws/\ws.all q17=true
 | [],vs,ws,h,r=>by cases h;exact ⟨r,rfl⟩
 | d::ds,vs,ws,h,r=>by
  rw [q1g] at h
  cases q1:q2A d with
  | none=>rw [q1] at h;cases h
  | some v=>
   cases q2:q1g ds with
   | none=>rw [q1,q2] at h;cases h
   | some vs'=>
    rw [q1,q2] at h;cases h
    obtain ⟨v',r',rfl,r1,r2⟩:=r
    obtain ⟨e1,e2⟩:=q1W q2 r2
    obtain ⟨e3,e4⟩:=q2e q1 r1
    rw [e1,e3]
    exact ⟨rfl,by rw [List.all_cons,e4,e2];rfl⟩
def inD (neg:Bool):D->D->Out D
 | .str i,.str j=>.ok (.bl (if neg then !(!(Builtin.Str.occurrences j i 0 j.length 1).isEmpty) else (!(Builtin.Str.occurrences j i 0 j.length 1).isEmpty)))
 | d,.lst ds=>(match q2A d,q1g ds with | some x,some xs=>.ok (.bl (if neg then !inV x xs else inV x xs)) | _,_=>.bad)
 | d,.tup ds=>(match q2A d,q1g ds with | some x,some xs=>.ok (.bl (if neg then !inV x xs else inV x xs)) | _,_=>.bad)
 | _,_=>.bad
theorem q99 (neg:Bool) (op:CmpOp) (h1:∀E,OpR (X.wish E) (compareOp op) (λx y H Q=>∃i j,x=.str i/\y=.str j/\Q (.bl (if neg then !(!(Builtin.Str.occurrences j i 0 j.length 1).isEmpty) else (!(Builtin.Str.occurrences j i 0 j.length 1).isEmpty))) H))
 (h2:∀E,OpR (X.wish E) (compareOp op) (rIn X.K neg)):OpD T X (compareOp op) (inD neg):=λE=>⟨_,OpR.or (h1 E) (h2 E),λdx dy x y σ H Q rx ry q=>by
 cases dy with
 | str j=>
  cases dx with
  | str i=>exact .inl ⟨i,j,rx,ry,q _ H (Same.refl H) rfl⟩
  | _=>exact q.elim
 | lst ds=>
  right
  have q:Acc T X E σ H (match q2A dx,q1g ds with | some x,some xs=>.ok (.bl (if neg then !inV x xs else inV x xs)) | _,_=>.bad) (kE T X.K H Q):=by cases dx<;>exact q
  cases q1:q2A dx with
  | none=>rw [q1] at q;exact q.elim
  | some v=>
   cases q2:q1g ds with
   | none=>rw [q1,q2] at q;exact q.elim
   | some vs=>
    rw [q1,q2] at q
    obtain ⟨a,ws,rfl,fz,rl⟩:=ry
    obtain ⟨rfl,f2⟩:=q1W q2 rl
    obtain ⟨rfl,f1⟩:=q2e q1 rx
    exact ⟨a,_,rfl,.inl fz.sq,f1,f2,q _ H (Same.refl H) rfl⟩
 | tup ds=>
  right
  have q:Acc T X E σ H (match q2A dx,q1g ds with | some x,some xs=>.ok (.bl (if neg then !inV x xs else inV x xs)) | _,_=>.bad) (kE T X.K H Q):=by cases dx<;>exact q
  cases q1:q2A dx with
  | none=>rw [q1] at q;exact q.elim
  | some v=>
   cases q2:q1g ds with
   | none=>rw [q1,q2] at q;exact q.elim
   | some vs=>
    rw [q1,q2] at q
    obtain ⟨a,ws,rfl,fz,rl⟩:=ry
    obtain ⟨rfl,f2⟩:=q1W q2 rl
    obtain ⟨rfl,f1⟩:=q2e q1 rx
    exact ⟨a,_,rfl,.inr fz,f1,f2,q _ H (Same.refl H) rfl⟩
 | _=>cases dx<;>exact q.elim⟩
theorem w0t:OpD T X (compareOp .In) (inD false):=q99 false .In (λE=>q64) λE=>q7w
theorem q9M:OpD T X (compareOp .NotIn) (inD true):=q99 true .NotIn (λE=>q4m) λE=>q39
end
section
variable {X:Cx}
theorem q7L:∀{xs:List V} {us:List Value},Vals xs us->∀(j:Nat) (h:j < us.length),RelV (xs.getD j .non) us[j]
 | _,_,.nil,j,h=>by simp at h
 | _,_,.cons r t,0,_=>r
 | _,_,.cons r t,j+1,h=>by
  have:=q7L t j (by simpa using h)
  simpa using this
theorem q6T:∀{xs:List V},xs.all q17=true->∀j,q17 (xs.getD j .non)=true
 | [],_,j=>by simp [q17]
 | x::xs,h,0=>by rw [List.all_cons,Bool.and_eq_true] at h;exact h.1
 | x::xs,h,j+1=>by
  rw [List.all_cons,Bool.and_eq_true] at h
  simpa using q6T h.2 j
end
section
variable {T:Tb} {X:Cx} {x:Str} {pos:Pos}
def q9d (K:PySem.W.Frag) (mg:Str->Option Value) (x:Str) (ds:List D):Prop:=∃(a:Addr) (vs:List V),mg x=some (.ref a)/\(∀H,SqT K H a vs)/\q1g ds=some vs
theorem q2T {K:PySem.W.Frag} {H:Hp}:∀{ds:List D} {vs:List V},q1g ds=some vs->RepL T K H ds vs
 | [],vs,h=>by cases h;exact rfl
 | d::ds,vs,h=>by
  rw [q1g] at h
  cases q1:q2A d with
  | none=>rw [q1] at h;cases h
  | some v=>
   cases q2:q1g ds with
   | none=>rw [q1,q2] at h;cases h
   | some ws=>
    rw [q1,q2] at h
    cases h
    refine ⟨v,ws,rfl,?_,q2T q2⟩
    cases d<;>first | (cases q1;done) | (cases q1;exact rfl)
theorem q9n {ds:List D} (hg:Gl X x) (h:q9d X.K X.mg x ds) (hd:(x==("__debug__" : Str))=false:=by decide):DE T X (.Name x pos) (eC (.tup ds)):=by
 obtain ⟨a,vs,hm,sq,hf⟩:=h
 exact q46 (v:=.ref a) hg hm rfl (λH=>⟨a,vs,rfl,sq H,q2T hf⟩) hd
theorem q8X {K:PySem.W.Frag} {mg:Str->Option Value} {a:Addr} {od:Option Addr} {its:Array Value} {n:Nat} {sl:Array (Option Value)} {ds:List D} {vs:List V} (hm:mg x=some (.ref a)) (hk:K.lookup a=some ⟨.type "tuple",od,.seq its n,sl⟩)
 (hz:its.size<=1000000) (hv:Vals vs its.toList) (hf:q1g ds=some vs):q9d K mg x ds:=
 ⟨a,vs,hm,λH=>.inr ⟨_,its,n,hk,rfl,rfl,line6 hz,hv⟩,hf⟩
structure j99 (K:PySem.W.Frag) (x qual:Str) (st:Stmt) (f:Addr) (fd:FuncData):Prop where
 ex:∃(oc:Value) (od:Option Addr) (dV kV doc pm:Value) (an:Option Addr) (cdv ct:Value) (osl:Array (Option Value)),
  fd=PySem.W.fnOf x qual (q1w st) (q1d st) (q0f st) dV kV doc pm an cdv ct/\K.lookup f=some ⟨oc,od,.func fd,osl⟩/\PySem.W.codeIn K cdv qual=true
 kp:PySem.W.keepIn K (.ref f)=true
theorem q67 {K:PySem.W.Frag} {x qual:Str} {st:Stmt} {f:Addr} {oc:Value} {od an:Option Addr} {osl:Array (Option Value)} {dV kV doc pm cdv ct:Value} (l:K.lookup f=some ⟨oc,od,.func (PySem.W.fnOf x qual (q1w st) (q1d st) (q0f st) dV kV doc pm an cdv ct),osl⟩)
 (c:PySem.W.codeIn K cdv qual=true) (k:PySem.W.keepIn K (.ref f)=true):j99 K x qual st f (PySem.W.fnOf x qual (q1w st) (q1d st) (q0f st) dV kV doc pm an cdv ct):=⟨⟨oc,od,dV,kV,doc,pm,an,cdv,ct,osl,rfl,l,c⟩,k⟩
theorem q2t {K:PySem.W.Frag} {fd:FuncData} {ps:List Str} {ds:List Value} {dt:Addr} {oc:Value} {od:Option Addr} {items:Array Value} {n:Nat} {sl:Array (Option Value)} (hd:fd.defaults=.ref dt) (lk:K.lookup dt=some ⟨oc,od,.seq items n,sl⟩)
 (m:Nat) (hm:m+ds.length=ps.length) (h:∀us:List Value,us.length=m->∃k,bindArgs fd ⟨us,[]⟩=seqItems? fd.defaults >>= k/\k (some items)=pure (ps.zip (us++ds))):Binds K fd ps ds:=λs us kin hl=>by
 obtain ⟨k,h1,h2⟩:=h us (by rw [List.length_append] at hl;omega)
 exact BindsTo.of_defaults hd (kin dt _ lk) rfl h1 h2
end
end L3
namespace L3
open PySem L2
theorem q7f {X:Cx} {scope:Scope} {x:Str} (ys:List Str) (caps:List Nat) (hk:scope.kind=.function:=by rfl) (own:scope.names.lookup x=some .local:=by rfl)
 (h:(scope.names.all λy=>!(y.2==.cell) && (!(y.2==.local) || scope.names.lookup y.1==some .local))=true:=by decide +kernel) (hf:(scope.names.all λy=>!(y.2==.free) || X.env.kindOf y.1==some .cell)=true:=by rfl)
 (hn:(x::ys).Nodup:=by decide) (hl:caps.length=ys.length:=by rfl)
 (hc:∀(j:Nat) (y:Str) (i:Nat),ys[j]?=some y->caps[j]?=some i->X.N[i]?=some y/\X.env.kindOf y=some .cell/\scope.names.lookup y=some .free):Cap X scope x ys caps where
 kind:=hk
 own:=own
 nocell:=λy hy e=>by
  have:=List.all_eq_true.mp h y hy
  rw [e] at this;simp at this
 names:=λy hy e=>by
  have:=List.all_eq_true.mp h y hy
  rw [e] at this;simpa using this
 free:=λy hy e=>by
  have:=List.all_eq_true.mp hf y hy
  rw [e] at this;exact .inl (by simpa using this)
 nodup:=hn
 len:=hl
 cap:=λj y i e1 e2=>let ⟨a,b,c⟩:=hc j y i e1 e2;⟨a,.inl b,c⟩
theorem cap0 {X:Cx} {scope:Scope} {x:Str} (hk:scope.kind=.function:=by rfl) (own:scope.names.lookup x=some .local:=by rfl)
 (h:(scope.names.all λy=>!(y.2==.cell) && !(y.2==.free) && (!(y.2==.local) || scope.names.lookup y.1==some .local))=true:=by decide +kernel):Cap X scope x [] [] where
 kind:=hk
 own:=own
 nocell:=λy hy e=>by
  have:=List.all_eq_true.mp h y hy
  rw [e] at this;simp at this
 names:=λy hy e=>by
  have:=List.all_eq_true.mp h y hy
  rw [e] at this;simpa using this
 free:=λy hy e=>by
  have:=List.all_eq_true.mp h y hy
  rw [e] at this;simp at this
 nodup:=by simp
 len:=rfl
 cap:=λj y i e1 _=>by simp at e1
theorem q1J {X:Cx} {scope:Scope}:∀(j:Nat) (y:Str) (i:Nat),([]:List Str)[j]?=some y->([]:List Nat)[j]?=some i->X.N[i]?=some y/\X.env.kindOf y=some .cell/\scope.names.lookup y=some .free:=λj y i e _=>by simp at e
theorem q1o {X:Cx} {scope:Scope} {y0:Str} {ys:List Str} {i0:Nat} {caps:List Nat} (h1:X.N[i0]?=some y0) (h2:X.env.kindOf y0=some .cell) (h3:scope.names.lookup y0=some .free)
 (h:∀(j:Nat) (y:Str) (i:Nat),ys[j]?=some y->caps[j]?=some i->X.N[i]?=some y/\X.env.kindOf y=some .cell/\scope.names.lookup y=some .free) :
 ∀(j:Nat) (y:Str) (i:Nat),(y0::ys)[j]?=some y->(i0::caps)[j]?=some i->X.N[i]?=some y/\X.env.kindOf y=some .cell/\scope.names.lookup y=some .free:=λj y i e1 e2=>by
 cases j with
 | zero=>cases e1;cases e2;exact ⟨h1,h2,h3⟩
 | succ j=>exact h j y i e1 e2
theorem vcI {i:Int} {k:Tok} {xs:List V} {us:List Value} (h:Vals xs us):Vals (.int i::xs) (.int i k::us):=.cons ⟨k,rfl⟩ h
theorem vcS {z:Str} {k:Tok} {xs:List V} {us:List Value} (h:Vals xs us):Vals (.str z::xs) (.str z k::us):=.cons ⟨k,rfl⟩ h
end L3
namespace L3
open PySem PySem.Spec PyProof.Rows L2
theorem q1R {m:Str}:∀{fs:List (Str×V)},m∉fs.map (·.1)->fs.lookup m=none
 | [],_=>rfl
 | (n,v)::fs,h=>by
  simp only [List.map_cons,List.mem_cons,not_or] at h
  rw [List.lookup_cons,show (m==n)=false by simpa using h.1]
  exact q1R h.2
section
variable {T:Tb} {X:Cx} {e o:Expr} {es:List Expr} {m:Str} {pos apos:Pos} {fo:Ev} {fs:Ro->Out (List Sl)} {F:Fn} {k n c:Nat} {f:Addr} {fd:FuncData} {ps:List Str}
@[simp] def q3q (c:Nat) (F:Fn) (fo:Ev) (ρ:Ro):Out Rv:=(fo ρ).bind λd=>match d with
 | .ins c' xs=>if c'=c then F [.sh (.ins c' xs)] else .bad
 | _=>.bad
theorem q2f {pl:Sem Bool} (he:DE T X o fo) (cls:Cls X.K (T.ca c)) (hm:Meth X.K (T.ca c) m f) (hmf:m∉T.fl c) (FO:FnOk X.prog X.w X.K X.mg X.base (CXE T X.prog X.w) k f fd ps (spD T X.K ps.length F)) (hr:Room k X.A) (hb:Binds X.K fd ps []) (hn:ps.length=1)
 (ht:eval (.Call (.Attribute o m apos) [] [] pos) X.env=(do
  let ov <-eval o X.env
  standAt apos.atName
  let (f,first) <-holding [ov] (getMethod ov m pl)
  callWith pos f first (backTo pos (starEach [] X.env)) (backToKw pos (keywordEach [] X.env))):=by rfl) :
 DR T X (.Call (.Attribute o m apos) [] [] pos) (q3q c F fo):=.mk λG E hp=>by
 rintro pins s σ H Q I ⟨ρ,fr,h⟩
 refine PySem.W.methodCall_KW (pl:=pl) (thn (he.run G E hp pins s σ H (λx H1=>∃ds,Same H H1/\Rep T X.K H1 (.ins c ds) x/\Acc T X E σ H1 (F [.sh (.ins c ds)]) (λr=>∀v H',Same H1 H'->RvOk T X.K H1 H' v r->Q v H')) I ⟨ρ,fr,?_⟩) λu s1 ⟨x,H1,I1,rx,ds,sm,rp,q⟩=>?_) ht
 ·refine Acc.mono (Acc.bind h) λd _ hd v H1 s1 r1=>?_
  cases d with
  | ins c' xs=>
   have hd:Acc T X E σ H (if c'=c then F [.sh (.ins c' xs)] else .bad) _:=hd
   by_cases hc:c'=c
   ·subst hc
    rw [if_pos rfl] at hd
    exact ⟨xs,s1,r1,Acc.mono (Acc.heap s1 hd) λr _ hr' v H' s2 r2=>hr' v H' (s1.trans s2) (q21 s1 r2)⟩
   ·rw [if_neg hc] at hd;exact hd.elim
  | _=>exact hd.elim
 ·obtain ⟨a,dx,fl,rfl,ha,hf,rl⟩:=id rp
  obtain rfl:u=Value.ref a:=rx
  refine q3h (X:=X.wish E) I1 ha cls hm (q1R (by rw [hf];exact hmf)) ?_
  exact PySem.W.callWith_K0 (first:=[.ref a]) I1.kIn hm.kp (q8V (X:=X) (us:=[.ref a]) (vs:=[.ref a]) (dvs:=[]) (ds:=[]) (ss:=[.sh (.ins c ds)]) FO hr hb .nil I1 (.cons rfl .nil) (show ArgsOk T X.K H1 [.ref a] [.sh (.ins c ds)] from ⟨_,[],rfl,rp,rfl⟩) (by simp [hn]) q)
@[simp] def q6D (c:Nat) (F:Fn) (fo:Ev) (fs:Ro->Out (List Sl)) (ρ:Ro):Out Rv:=(fo ρ).bind λd=>match d with
 | .ins c' xs=>if c'=c then (fs ρ).bind λss=>if ss.length+1=n then F (.sh (.ins c' xs)::ss) else .bad else .bad
 | _=>.bad
theorem q20 {pl:Sem Bool} (he:DE T X o fo) (cls:Cls X.K (T.ca c)) (hm:Meth X.K (T.ca c) m f) (hmf:m∉T.fl c) (FO:FnOk X.prog X.w X.K X.mg X.base (CXE T X.prog X.w) k f fd ps (spD T X.K ps.length F)) (hr:Room k X.A) (hb:Binds X.K fd ps []) (hn:n=ps.length) (ha:DG T X (e::es) fs)
 (hst:starEach (e::es) X.env=(false,eval e X.env)::starEach es X.env:=by exact q0w rfl) (hpl:(backTo pos (starEach es X.env)).any (·.1)=false:=by exact q0z rfl)
 (ht:eval (.Call (.Attribute o m apos) (e::es) [] pos) X.env=(do
  let ov <-eval o X.env
  standAt apos.atName
  let (f,first) <-holding [ov] (getMethod ov m pl)
  callWith pos f first (backTo pos (starEach (e::es) X.env)) (backToKw pos (keywordEach [] X.env))):=by rfl) :
 DR T X (.Call (.Attribute o m apos) (e::es) [] pos) (q6D (n:=n) c F fo fs):=.mk λG E hp=>by
 rintro pins s σ H Q I ⟨ρ,fr,h⟩
 refine PySem.W.methodCall_KW (pl:=pl) (thn (he.run G E hp pins s σ H (λx H1=>∃ds,Same H H1/\Rep T X.K H1 (.ins c ds) x/\Acc T X E σ H1 ((fs ρ).bind λss=>if ss.length+1=n then F (.sh (.ins c ds)::ss) else .bad) (λr=>∀v H',Same H1 H'->RvOk T X.K H1 H' v r->Q v H')) I ⟨ρ,fr,?_⟩) λu s1 ⟨x,H1,I1,rx,ds,sm,rp,q⟩=>?_) ht
 ·refine Acc.mono (Acc.bind h) λd _ hd v H1 s1 r1=>?_
  cases d with
  | ins c' xs=>
   have hd:Acc T X E σ H (if c'=c then (fs ρ).bind λss=>if ss.length+1=n then F (.sh (.ins c' xs)::ss) else .bad else .bad) _:=hd
   by_cases hc:c'=c
   ·subst hc
    rw [if_pos rfl] at hd
    exact ⟨xs,s1,r1,Acc.mono (Acc.heap s1 hd) λr _ hr' v H' s2 r2=>hr' v H' (s1.trans s2) (q21 s1 r2)⟩
   ·rw [if_neg hc] at hd;exact hd.elim
  | _=>exact hd.elim
 ·obtain ⟨a,dx,fl,rfl,ha',hf,rl⟩:=id rp
  obtain rfl:u=Value.ref a:=rx
  refine q3h (X:=X.wish E) I1 ha' cls hm (q1R (by rw [hf];exact hmf)) ?_
  refine PySem.W.callWith_K (first:=[.ref a]) (h₀:=X.base) I.ok.mod.kin hm.kp (thn (ha.run G E hp pos pins s1 σ H1 (λvs H2=>∃ss,ArgsOk T X.K H2 vs ss/\ss.length+1=n/\Same H1 H2/\Acc T X E σ H2 (F (.sh (.ins c ds)::ss)) (λr=>∀v H',Same H2 H'->RvOk T X.K H2 H' v r->Q v H')) I1 ⟨ρ,fr.mono sm,?_⟩) λus s2 ⟨vs,H2,I2,r,ss,ha2,hl2,s2',q2⟩=>⟨I2.kIn,?_⟩) hst hpl
  ·refine Acc.mono (Acc.bind q) λss _ hss vs H2 s2 r2=>?_
   by_cases hl:ss.length+1=n
   ·rw [if_pos hl] at hss
    exact ⟨ss,r2,hl,s2,Acc.mono (Acc.heap s2 hss) λr _ hr' v H' s3 r3=>hr' v H' (s2.trans s3) (q21 s2 r3)⟩
   ·rw [if_neg hl] at hss;exact hss.elim
  ·have la:=ArgsOk.length ss vs ha2
   have lr:=r.length
   exact q8V (X:=X) (us:=.ref a::us) (vs:=.ref a::vs) (dvs:=[]) (ds:=[]) FO hr hb .nil I2 (.cons rfl r) (by rw [List.append_nil];exact ⟨_,vs,rfl,Rep.mono s2' _ _ rp,ha2⟩) (by simp only [List.length_append,List.length_cons,List.length_nil];omega) q2
end
open Sem (wp)
theorem q55:typeLookup (.type "str") "__int__" = pure none:=by rw [typeLookup_type,builtinLookup_eq_fast];kernel_rfl
theorem q4l:typeLookup (.type "str") "__index__" = pure none:=by rw [typeLookup_type,builtinLookup_eq_fast];kernel_rfl
theorem q4D:typeLookup (.type "str") "__trunc__" = pure none:=by rw [typeLookup_type,builtinLookup_eq_fast];kernel_rfl
def dgV (c:Nat):Option Nat:=
 if 48<=c && c<=57 then some (c-48)
 else if 97<=c && c<=122 then some (c-87)
 else if 65<=c && c<=90 then some (c-55)
 else none
def blk (c:Nat):Bool:=c==32 || (9<=c && c<=13)
def dgS (base:Nat) (cs:List Nat):Option (Array Nat):=do
 let (ds,afterDigit) <-cs.foldlM (init:=((#[]:Array Nat),false)) λ(ds,afterDigit) c=>
  if c==95 then (if afterDigit then some (ds,false) else none)
  else match dgV c with
   | some d=>if d < base then some (ds.push d,true) else none
   | none=>none
 if afterDigit then some ds else none
def pfx:List Nat->Option Nat
 | 48::c::_=>
  if c==120 || c==88 then some 16 else if c==111 || c==79 then some 8 else if c==98 || c==66 then some 2 else none
 | _=>none
def sgn (t:List Nat):Bool×List Nat:=match t with
 | 45::r=>(true,r)
 | 43::r=>(false,r)
 | _=>(false,t)
def pr2 (t:List Nat):List Nat:=match t.drop 2 with
 | 95::r=>r
 | r=>r
def rdN {N:Type} (inv:N) (tl:Nat->N) (lib:N) (val:Int->N) (limit base:Nat) (text:List Nat):N:=
 let t:=text.dropWhile blk
 let (negative,t):=sgn t
 let afterPrefix:=pr2 t
 let (b,zeroOnly,t):=match pfx t with
  | some p=>if base==0 || base==p then (p,false,afterPrefix) else (base,false,t)
  | none=>if base==0 then (10,t.head?==some 48,t) else (base,false,t)
 match dgS b (t.reverse.dropWhile blk).reverse with
 | none=>inv
 | some ds=>
  if ![2,4,8,16,32].contains b && limit != 0 && ds.size > limit then tl ds.size else
  if b==10 && ds.size > 6000 then lib else
  let n:=ds.foldl (λacc d=>acc*b+d) 0
  if zeroOnly && n != 0 then inv else val (if negative then -(n:Int) else n)
def rd0 {N:Type} (inv:N) (tl:Nat->N) (lib:N) (val:Int->N) (limit base:Nat) (text:List Nat):N:=
 let t:=text.dropWhile blk
 let (negative,t):=match t with
  | 45::r=>(true,r)
  | 43::r=>(false,r)
  | _=>(false,t)
 let afterPrefix:=match t.drop 2 with
  | 95::r=>r
  | r=>r
 let (b,zeroOnly,t):=match pfx t with
  | some p=>if base==0 || base==p then (p,false,afterPrefix) else (base,false,t)
  | none=>if base==0 then (10,t.head?==some 48,t) else (base,false,t)
 match dgS b (t.reverse.dropWhile blk).reverse with
 | none=>inv
 | some ds=>
  if ![2,4,8,16,32].contains b && limit != 0 && ds.size > limit then tl ds.size else
  if b==10 && ds.size > 6000 then lib else
  let n:=ds.foldl (λacc d=>acc*b+d) 0
  if zeroOnly && n != 0 then inv else val (if negative then -(n:Int) else n)
theorem q5D {N:Type} (inv:N) (tl:Nat->N) (lib:N) (val:Int->N) (limit base:Nat) (text:List Nat):rd0 inv tl lib val limit base text=rdN inv tl lib val limit base text:=by
 unfold rd0 rdN sgn pr2
 rfl
def figs (cs:List Nat):Bool:=cs.all λc=>decide (48<=c) && decide (c<=57)
def j0A (cs:List Nat):Nat:=cs.foldl (λacc c=>acc*10+(c-48)) 0
theorem q3m {cs:List Nat} (h:figs cs=true) {c:Nat} (hc:c∈cs):48<=c/\c<=57:=by
 have:=List.all_eq_true.mp h c hc
 simpa using this
theorem q9V:∀(cs:List Nat),figs cs=true->∀(ds:Array Nat) (a:Bool),(cs.foldlM (init:=(ds,a)) λ(x:Array Nat×Bool) c=>
 (if c==95 then (if x.2 then some (x.1,false) else none) else match dgV c with | some d=>if d < 10 then some (x.1.push d,true) else none | none=>none:Option (Array Nat×Bool)))=some ((ds.toList++cs.map (· - 48)).toArray,a || !cs.isEmpty)
 | [],_,ds,a=>by simp
 | c::cs,h,ds,a=>by
  have hc:=q3m h (c:=c) (by simp)
  have hr:figs cs=true:=by
   unfold figs at h ⊢
   rw [List.all_cons,Bool.and_eq_true] at h
   exact h.2
  have e1:(c==95)=false:=by simp;omega
  have e2:dgV c=some (c-48):=by unfold dgV;rw [if_pos (by simp;omega)]
  have e3:c-48 < 10:=by omega
  rw [List.foldlM_cons]
  simp only [e1,e2,e3,Bool.false_eq_true,if_false,if_true]
  show ((some (ds.push (c-48),true):Option _) >>= _)=_
  rw [Option.bind_eq_bind,Option.bind_some,q9V cs hr]
  simp
theorem q88 {cs:List Nat} (h:figs cs=true) (hn:cs≠[]):dgS 10 cs=some (cs.map (· - 48)).toArray:=by
 unfold dgS
 have:=q9V cs h #[] false
 have e:(!cs.isEmpty)=true:=by cases cs<;>simp at hn ⊢
 show (cs.foldlM (init:=((#[]:Array Nat),false)) _ >>= _)=_
 rw [show (cs.foldlM (init:=((#[]:Array Nat),false)) λ(x:Array Nat×Bool) c=>(match x with | (ds,afterDigit)=>if c==95 then (if afterDigit then some (ds,false) else none) else match dgV c with | some d=>if d < 10 then some (ds.push d,true) else none | none=>none:Option (Array Nat×Bool)))=_ from this]
 simp [e]
theorem q5m {cs:List Nat} (h:figs cs=true):cs.dropWhile blk=cs:=by
 cases cs with
 | nil=>rfl
 | cons c cs=>
  have hc:=q3m h (c:=c) (by simp)
  have:blk c=false:=by unfold blk;simp;omega
  rw [List.dropWhile_cons,this]
  rfl
theorem q82 {cs:List Nat} (h:figs cs=true):figs cs.reverse=true:=by
 unfold figs at *
 rw [List.all_reverse];exact h
theorem q9g {N:Type} (inv:N) (tl:Nat->N) (lib:N) (val:Int->N) {cs:List Nat} (h:figs cs=true) (hn:cs≠[]) (hl:cs.length<=600):rdN inv tl lib val 0 10 cs=val (j0A cs):=by
 have e0:=q5m h
 have e1:(cs.reverse.dropWhile blk).reverse=cs:=by rw [q5m (q82 h),List.reverse_reverse]
 have e2:=q88 h hn
 have e3:pfx cs=none:=by
  unfold pfx
  split
  ·rename_i c r
   have hc:=q3m h (c:=c) (by simp)
   rw [if_neg (by simp;omega),if_neg (by simp;omega),if_neg (by simp;omega)]
  ·rfl
 have sg:sgn cs=(false,cs):=by
  cases cs with
  | nil=>rfl
  | cons c r=>
   have hc:=q3m h (c:=c) (by simp)
   unfold sgn
   split
   ·rename_i e;cases e;omega
   ·rename_i e;cases e;omega
   ·rfl
 unfold rdN
 simp only [e0,sg,e3]
 rw [show ((10:Nat)==0)=false from rfl]
 simp only [Bool.false_eq_true,if_false,e1,e2]
 have s1:(cs.map (· - 48)).toArray.size=cs.length:=by simp
 rw [s1]
 rw [if_neg (by simp),if_neg (by simp;omega),if_neg (by simp)]
 congr 2
 rw [j0A]
 simp [List.foldl_map]
theorem q66:∀{cs:List Nat},figs cs=true->cs.takeWhile (λc=>c != 0)=cs
 | [],_=>rfl
 | c::cs,h=>by
  have hc:=q3m h (c:=c) (by simp)
  have hr:figs cs=true:=by
   unfold figs at h ⊢
   rw [List.all_cons,Bool.and_eq_true] at h
   exact h.2
  have e:(c != 0)=true:=by simp;omega
  rw [List.takeWhile_cons,e]
  simp [q66 hr]
set_option maxHeartbeats 2000000 in
theorem q3T (x:Str) (u:Tok) (h:figs x.cps.toList=true) (hn:x.cps.toList≠[]) (hl:x.length<=600):Meets (Builtin.«int.__new__» ⟨[.type "int",.str x u],[]⟩) (Made.int (j0A x.cps.toList)).spec:=
 Meets.of_wp λprog w A R s hs=>by
  obtain ⟨hp,g,d,tk,os⟩:=s
  have f1:=F.conv_sub_int
  have f2:=F.madeHere_int
  have hT:(⟨hp,g,d,tk,os⟩:Shared).TypeIs (.str x u) "str":=rfl
  have g1:=q55
  have g2:=q4l
  have g3:=q4D
  have a1:(x.cps.all λc=>decide (c < 128))=true:=by
   rw [<-Array.all_toList,List.all_eq_true]
   intro c hc
   have:=q3m h hc
   simp;omega
  have a2:List.takeWhile (λc=>c != 0) x.cps.toList=x.cps.toList:=q66 h
  have a4:x.cps.toList.length=x.length:=by simp [Str.length]
  have a3:x.cps.toList.length<=640:=by omega
  have rd:∀{N:Type} (inv:N) (tl:Nat->N) (lib:N) (val:Int->N),rdN inv tl lib val 0 10 x.cps.toList=val (j0A x.cps.toList):=λinv tl lib val=>q9g inv tl lib val h hn (by omega)
  repeat (any_goals (first | assumption | wp_step))
  all_goals (rw [a1];simp only [if_true,a2,if_pos a3,pure_bind])
  split
  ·rename_i m heq
   have h2:=(show rd0 _ _ _ _ 0 10 x.cps.toList=_ from heq)
   rw [q5D,rd] at h2
   cases h2
  ·rename_i heq
   have h2:=(show rd0 _ _ _ _ 0 10 x.cps.toList=_ from heq)
   rw [q5D,rd] at h2
   cases h2
  ·rename_i i heq
   have h2:=(show rd0 _ _ _ _ 0 10 x.cps.toList=_ from heq)
   rw [q5D,rd] at h2
   cases h2
   rw [if_pos (by simp)]
   repeat (any_goals (first | assumption | wp_step))
   all_goals first | exact ⟨_,rfl,hs⟩ | skip
  ·rename_i heq
   have h2:=(show rd0 _ _ _ _ 0 10 x.cps.toList=_ from heq)
   rw [q5D,rd] at h2
   cases h2
section
variable {X:Cx}
theorem q60:CallR X (.type "int") (λxs H Q=>∃x,xs=[.str x]/\figs x.cps.toList=true/\x.cps.toList≠[]/\x.length<=600/\Q (.int (j0A x.cps.toList)) H):=by
 intro pins s σ H xs us Q I rv h
 obtain ⟨x,rfl,h1,h2,h3,q⟩:=h
 obtain ⟨u,rfl,ru⟩:=rv.one
 obtain ⟨t,rfl⟩:=ru
 refine call_int_1 (q3T x t h1 h2 h3) (show (Made.int (j0A x.cps.toList)).post _ s from ⟨rfl,?_⟩)
 exact ⟨.int _,H,I.tok _,⟨_,rfl⟩,q⟩
end
end L3
namespace L3
open PySem PySem.Spec PyProof.Rows L2
section
variable {T:Tb} {X:Cx} {e o:Expr} {es:List Expr} {pos cpos apos p:Pos} {fe fo:Ev} {fs:Ro->Out (List D)}
@[simp] def j0O:List D->Out D
 | [.int i]=>.ok (.int i)
 | [.bl b]=>.ok (.int (if b then 1 else 0))
 | [.str x]=>if figs x.cps.toList=true/\x.cps.toList≠[]/\x.length<=600 then .ok (.int (j0A x.cps.toList)) else .bad
 | _=>.bad
theorem j1r:CaD T X (.type "int") j0O:=λE=>⟨λvs H Q=>((∃i,vs=[.int i]/\Q (.int i) H)∨∃k,vs=[.bl k]/\Q (.int (if k then 1 else 0)) H)∨∃x,vs=[.str x]/\figs x.cps.toList=true/\x.cps.toList≠[]/\x.length<=600/\Q (.int (j0A x.cps.toList)) H,
 λpins s σ H xs us Q I rv h=>h.elim (λh=>q7x (X:=X.wish E) pins s σ H xs us Q I rv h) (λh=>q60 (X:=X.wish E) pins s σ H xs us Q I rv h),λds vs σ H Q r h=>by
 unfold j0O at h
 split at h
 ·rename_i i
  obtain ⟨v,rfl,rv⟩:=r.one
  exact .inl (.inl ⟨i,by rw [show v=V.int i from rv],h _ H (Same.refl H) rfl⟩)
 ·rename_i b
  obtain ⟨v,rfl,rv⟩:=r.one
  exact .inl (.inr ⟨b,by rw [show v=V.bl b from rv],h _ H (Same.refl H) rfl⟩)
 ·rename_i x
  obtain ⟨v,rfl,rv⟩:=r.one
  by_cases c:figs x.cps.toList=true/\x.cps.toList≠[]/\x.length<=600
  ·rw [if_pos c] at h
   exact .inr ⟨x,by rw [show v=V.str x from rv],c.1,c.2.1,c.2.2,h _ H (Same.refl H) rfl⟩
  ·rw [if_neg c] at h;exact h.elim
 ·exact h.elim⟩
def q3L:List D->Option (List Str)
 | []=>some []
 | .str x::ds=>(match q3L ds with | some xs=>some (x::xs) | none=>none)
 | _=>none
theorem q2U {K:PySem.W.Frag} {H:Hp}:∀{ds:List D} {xs:List Str} {vs:List V},q3L ds=some xs->RepL T K H ds vs->vs=xs.map V.str
 | [],xs,vs,h,r=>by cases h;exact r
 | d::ds,xs,vs,h,r=>by
  cases d with
  | str b=>
   have h:(match q3L ds with | some bs=>some (b::bs) | none=>none)=some xs:=h
   cases q:q3L ds with
   | none=>rw [q] at h;cases h
   | some bs'=>
    rw [q] at h;cases h
    obtain ⟨v,r',rfl,r1,r2⟩:=r
    rw [q2U q r2,show v=V.str b from r1];rfl
  | _=>cases h
theorem q8p (l:List (Str×Tok)):Vals ((l.map (·.1)).map V.str) (strValues l):=by
 induction l with
 | nil=>exact .nil
 | cons p l ih=>exact .cons ⟨p.2,rfl⟩ ih
theorem q9N:MtR X "str.split" (λv vs H Q=>∃x y,v=.str x/\vs=[.str y]/\y.length≠0/\x.length<=1000000/\(Txt.split x y).length<=1000000/\∀a,H a=none->Q (.ref a) (upd H a (.lst ((Txt.split x y).map V.str)))):=by
 intro pins s σ H x xs v us Q I rx rv h
 obtain ⟨z,y,rfl,rfl,hy,hl,hp,q⟩:=h
 obtain ⟨t,rfl⟩:=rx
 obtain ⟨u,rfl,t',rfl⟩:=rv.one
 have hy':(y.length==0)=false:=by simpa using hy
 have fin:∀(l:List (Str×Tok)) (k:Nat),l.map (·.1)=Txt.split z y->EP X pins σ Q (.ref s.heap.objs.size) { s with heap:=s.heap.push { cls:=.type "list",data:=.seq (strValues l).toArray },toks:=k }:=λl k e=>by
  have I2:=I.lnew (t':=k) (its:=strValues l) (ys:=(l.map (·.1)).map V.str) (q8p l) (by rw [e,List.length_map];exact line6 hp)
  rw [e] at I2
  exact ⟨.ref s.heap.objs.size,_,I2,rfl,q _ I.fresh⟩
 have spl:Txt.split z y=if (decide (z.length < y.length) || decide (Builtin.Str.strKind z < Builtin.Str.strKind y))=true then [z] else if (Builtin.Str.occurrences z y 0 z.length (z.length+1)).isEmpty=true then [z] else Builtin.Str.partsBetween z (Builtin.Str.occurrences z y 0 z.length (z.length+1)) y.length:=rfl
 cases h1:(decide (z.length < y.length) || decide (Builtin.Str.strKind z < Builtin.Str.strKind y)) with
 | true=>
  refine call_meets F.slot_str_split (typeIs_str _ _ _) F.entry_str_split (F.args_str_split_2 _ _) (meets_str_split_cannot_occur z y t t' h1) ?_
  exact fin [(z,t)] s.toks (by rw [spl,if_pos h1];rfl)
 | false=>
  cases hf:(Builtin.Str.occurrences z y 0 z.length (z.length+1)).isEmpty with
  | true=>
   refine call_meets F.slot_str_split (typeIs_str _ _ _) F.entry_str_split (F.args_str_split_2 _ _) (meets_str_split_not_found z y t t' h1 hy' hf) ?_
   exact fin [(z,t)] s.toks (by rw [spl,if_neg (by rw [h1];decide),if_pos hf];rfl)
  | false=>
   have e0:Txt.split z y=Builtin.Str.partsBetween z (Builtin.Str.occurrences z y 0 z.length (z.length+1)) y.length:=by rw [spl,if_neg (by rw [h1];decide),if_neg (by rw [hf];decide)]
   refine call_meets F.slot_str_split (typeIs_str _ _ _) F.entry_str_split (F.args_str_split_2 _ _) (meets_str_split_sep z y t t' h1 hy' hf (line6 hl) (by rw [<-e0];exact line6 hp)) ?_
   show wants (EP X pins σ Q) X.xe _ { s with toks:=_,heap:=s.heap.push { cls:=.type "list",data:=.seq (strsFrom s.toks (Builtin.Str.partsBetween z (Builtin.Str.occurrences z y 0 z.length (z.length+1)) y.length)).toArray } }
   rw [strsFrom_eq]
   exact fin (numbered s.toks _) _ ((numbered_texts _ _).trans e0.symm)
def spl2 (x:Str):D->Out (List D)
 | .str y=>if y.length≠0/\x.length<=1000000/\(Txt.split x y).length<=1000000 then .ok ((Txt.split x y).map D.str) else .bad
 | _=>.bad
def q9T (fo fe:Ev) (ρ:Ro):Out (List D):=(fo ρ).bind λd=>match d with
 | .str x=>(fe ρ).bind (spl2 x)
 | _=>.bad
theorem q37 {K:PySem.W.Frag} {H:Hp}:∀xs:List Str,RepL T K H (xs.map D.str) (xs.map V.str)
 | []=>rfl
 | x::xs=>⟨_,_,rfl,rfl,q37 xs⟩
theorem q9u (ho:DE T X o fo) (he:DE T X e fe) (hbase:attributeBase o "split" X.env (eval o X.env)=eval o X.env:=by rfl)
 (hfew:((backTo cpos (starEach [e] X.env)).all (λx=>!x.1) && (backToKw cpos (keywordEach [] X.env)).all (λx=>x.1.isSome)
  && decide (([e]:List Expr).length+([]:List Keyword).length+(if ([]:List Keyword).isEmpty then 0 else 1) < 30))=true:=by exact q7s rfl rfl)
 (hline:(apos.endLine==cpos.line)=true:=by rfl) (hs:starEach [e] X.env=(false,eval e X.env)::starEach [] X.env:=by exact q0w rfl) (hplain:(backTo cpos (starEach ([]:List Expr) X.env)).any (·.1)=false:=by exact q0z rfl) :
 DF T X (.Call (.Attribute o "split" apos) [e] [] cpos) (q9T fo fe):=.mk λG E hp=>by
 refine PE.imp (j1j (X:=X.wish E) PySem.F.plainAttrs_str PySem.F.slot_str_split PySem.F.type_str_split q9N (ho.run G E hp) (q0C (X:=X.wish E) (he.run G E hp) q0Y hs) hbase hfew hline hs hplain) fun σ H Q ⟨ρ,fr,q⟩=>?_
 refine ⟨ρ,fr,Acc.mono (Acc.bind q) λd _ hd v H1 s1 rd=>?_⟩
 cases d with
 | str x=>
  refine ⟨by rw [show v=V.str x from rd];exact rfl,ρ,fr.mono s1,Acc.mono (Acc.bind (Acc.heap s1 hd)) λd' _ hd' v' H2 s2 rd'=>?_⟩
  cases d' with
  | str y=>
   have hd':Acc T X E σ H1 (if y.length≠0/\x.length<=1000000/\(Txt.split x y).length<=1000000 then .ok ((Txt.split x y).map D.str) else .bad) _:=hd'
   by_cases c:y.length≠0/\x.length<=1000000/\(Txt.split x y).length<=1000000
   ·rw [if_pos c] at hd'
    exact ⟨x,y,rd,by rw [show v'=V.str y from rd'],c.1,c.2.1,c.2.2,λa ha=>hd' a _ _ ((s1.trans s2).trans (q0A ha)) ((s1.trans s2).free ha) q0p (RepL.mono (q0A ha) _ _ (q37 _))⟩
   ·rw [if_neg c] at hd';exact hd'.elim
  | _=>exact hd'.elim
 | _=>exact hd.elim
end
theorem q1A:∀{is:List Int} {us:List Value},Vals (is.map V.int) us->∃l:List (Int×Tok),us=l.map (λp=>Value.int p.1 p.2)/\l.map (·.1)=is
 | [],_,.nil=>⟨[],rfl,rfl⟩
 | x::xs,_,.cons r t=>by
  obtain ⟨l,rfl,e⟩:=q1A t
  obtain ⟨k,rfl⟩:=r
  exact ⟨(x,k)::l,rfl,by rw [List.map_cons,e]⟩
def q1P (gt:Bool) (is:List Int):Int:=is.getD (argBest (λi j=>if gt then decide (is.getD i 0 > is.getD j 0) else decide (is.getD i 0 < is.getD j 0)) (is.length-1)) 0
section
variable {X:Cx}
theorem q2n (l:List (Int×Tok)) (i:Nat):numAt l.toArray i=(l.map (·.1)).getD i 0:=by
 unfold numAt
 rw [List.getD_eq_getElem?_getD,List.getElem?_map]
 simp
theorem q71 (hc:X.calm=true):CallR X (.builtin "max") (λxs H Q=>∃(a:Addr) (is:List Int),xs=[.ref a]/\SqL X.K H a (is.map V.int)/\is≠[]/\Q (.int (q1P true is)) H):=by
 intro pins s σ H xs us Q I rv h
 obtain ⟨a,is,rfl,hq,hne,q⟩:=h
 obtain ⟨u,rfl,ru⟩:=rv.one
 cases ru
 obtain ⟨its,r,pl,hz⟩:=I.list hq
 obtain ⟨l,rfl,e⟩:=q1A r
 have hi:(l.map λp=>Value.int p.1 p.2).toArray=intItems l.toArray:=by simp [intItems]
 have hl:s.heap.IsList a (intItems l.toArray):=hi ▸ pl.isList
 refine max_intList (I.ok.hd hc) hl (by subst e;cases l with | nil=>exact absurd rfl hne | cons _ _=>simp) λv h' tk hv hk=>?_
 obtain ⟨t,rfl⟩:=intItems_at hv
 refine ⟨.int (q1P true is),H,I.kept (t':=tk) hk,⟨t,?_⟩,q⟩
 subst e
 congr 1
 unfold q1P
 rw [q2n]
 simp only [if_true,List.length_map]
 congr 2
 ·funext i j;rw [q2n,q2n]
theorem q8n (hc:X.calm=true):CallR X (.builtin "min") (λxs H Q=>∃(a:Addr) (is:List Int),xs=[.ref a]/\SqL X.K H a (is.map V.int)/\is≠[]/\Q (.int (q1P false is)) H):=by
 intro pins s σ H xs us Q I rv h
 obtain ⟨a,is,rfl,hq,hne,q⟩:=h
 obtain ⟨u,rfl,ru⟩:=rv.one
 cases ru
 obtain ⟨its,r,pl,hz⟩:=I.list hq
 obtain ⟨l,rfl,e⟩:=q1A r
 have hi:(l.map λp=>Value.int p.1 p.2).toArray=intItems l.toArray:=by simp [intItems]
 have hl:s.heap.IsList a (intItems l.toArray):=hi ▸ pl.isList
 refine min_intList (I.ok.hd hc) hl (by subst e;cases l with | nil=>exact absurd rfl hne | cons _ _=>simp) λv h' tk hv hk=>?_
 obtain ⟨t,rfl⟩:=intItems_at hv
 refine ⟨.int (q1P false is),H,I.kept (t':=tk) hk,⟨t,?_⟩,q⟩
 subst e
 congr 1
 unfold q1P
 rw [q2n]
 simp only [Bool.false_eq_true,if_false,List.length_map]
 congr 2
 ·funext i j;rw [q2n,q2n]
end
section
variable {T:Tb} {X:Cx}
def q48:List D->Out D
 | [.lst ds]=>(match q2j ds with | some is=>if is≠[] then .ok (.int (q1P false is)) else .bad | none=>.bad)
 | _=>.bad
def q8E:List D->Out D
 | [.lst ds]=>(match q2j ds with | some is=>if is≠[] then .ok (.int (q1P true is)) else .bad | none=>.bad)
 | _=>.bad
theorem q6R (hc:X.calm=true):CaD T X (.builtin "max") q8E:=λE=>⟨_,q71 hc,λds vs σ H Q r h=>by
 unfold q8E at h
 split at h
 ·rename_i ds'
  obtain ⟨v,rfl,a,ws,rfl,fz,rl⟩:=r.one
  cases q:q2j ds' with
  | none=>rw [q] at h;exact h.elim
  | some is=>
   rw [q] at h
   have h:Acc T X E σ H (if is≠[] then .ok (.int (q1P true is)) else .bad) (kE T X.K H Q):=h
   by_cases c:is≠[]
   ·rw [if_pos c] at h
    obtain rfl:=q1V q rl
    exact ⟨a,is,rfl,fz.sq,c,h _ H (Same.refl H) rfl⟩
   ·rw [if_neg c] at h;exact h.elim
 ·exact h.elim⟩
theorem q75 (hc:X.calm=true):CaD T X (.builtin "min") q48:=λE=>⟨_,q8n hc,λds vs σ H Q r h=>by
 unfold q48 at h
 split at h
 ·rename_i ds'
  obtain ⟨v,rfl,a,ws,rfl,fz,rl⟩:=r.one
  cases q:q2j ds' with
  | none=>rw [q] at h;exact h.elim
  | some is=>
   rw [q] at h
   have h:Acc T X E σ H (if is≠[] then .ok (.int (q1P false is)) else .bad) (kE T X.K H Q):=h
   by_cases c:is≠[]
   ·rw [if_pos c] at h
    obtain rfl:=q1V q rl
    exact ⟨a,is,rfl,fz.sq,c,h _ H (Same.refl H) rfl⟩
   ·rw [if_neg c] at h;exact h.elim
 ·exact h.elim⟩
end
def q2c (t:D->Out Bool) (f:D->Out D):List D->Option (List D)
 | []=>some []
 | d::ds=>match t d with
  | .ok true=>(match f d with | .ok e=>(match q2c t f ds with | some es=>some (e::es) | none=>none) | _=>none)
  | .ok false=>q2c t f ds
  | _=>none
theorem q2L {t:D->Out Bool} {f:D->Out D}:∀{a b:List D} {es:List D},q2c t f (a++b)=some es->∃xs,q2c t f a=some xs
 | [],_,_,_=>⟨[],rfl⟩
 | d::a,b,es,h=>by
  rw [List.cons_append,q2c] at h
  rw [q2c]
  cases e1:t d with
  | ok k=>
   cases k with
   | true=>
    rw [e1] at h
    cases e2:f d with
    | ok e=>
     simp only [e2] at h
     cases e3:q2c t f (a++b) with
     | none=>rw [e3] at h;cases h
     | some ys=>
      obtain ⟨xs,e4⟩:=q2L e3
      exact ⟨e::xs,by simp only [e4]⟩
    | exc c=>simp only [e2] at h;cases h
    | bad=>simp only [e2] at h;cases h
   | false=>
    rw [e1] at h
    exact q2L h
  | exc c=>rw [e1] at h;cases h
  | bad=>rw [e1] at h;cases h
theorem q2h {t:D->Out Bool} {f:D->Out D} {d:D}:∀{a:List D} {xs es:List D},q2c t f a=some xs->q2c t f (a++[d])=some es ->
 (t d=.ok true/\∃e,f d=.ok e/\es=xs++[e])∨(t d=.ok false/\es=xs)
 | [],xs,es,h,h2=>by
  cases h
  rw [List.nil_append,q2c] at h2
  cases e1:t d with
  | ok k=>
   cases k with
   | true=>
    rw [e1] at h2
    cases e2:f d with
    | ok e=>simp only [e2] at h2;cases h2;exact .inl ⟨rfl,e,rfl,rfl⟩
    | exc c=>simp only [e2] at h2;cases h2
    | bad=>simp only [e2] at h2;cases h2
   | false=>rw [e1] at h2;cases h2;exact .inr ⟨rfl,rfl⟩
  | exc c=>rw [e1] at h2;cases h2
  | bad=>rw [e1] at h2;cases h2
 | x::a,xs,es,h,h2=>by
  rw [List.cons_append,q2c] at h2
  rw [q2c] at h
  cases e1:t x with
  | ok k=>
   cases k with
   | true=>
    rw [e1] at h h2
    cases e2:f x with
    | ok e=>
     simp only [e2] at h h2
     cases e3:q2c t f a with
     | none=>rw [e3] at h;cases h
     | some ys=>
      rw [e3] at h
      cases h
      cases e4:q2c t f (a++[d]) with
      | none=>rw [e4] at h2;cases h2
      | some zs=>
       rw [e4] at h2
       cases h2
       rcases q2h e3 e4 with ⟨q1,e',q2,rfl⟩ | ⟨q1,rfl⟩
       ·exact .inl ⟨q1,e',q2,rfl⟩
       ·exact .inr ⟨q1,rfl⟩
    | exc c=>simp only [e2] at h;cases h
    | bad=>simp only [e2] at h;cases h
   | false=>
    rw [e1] at h h2
    exact q2h h h2
  | exc c=>rw [e1] at h;cases h
  | bad=>rw [e1] at h;cases h
theorem q2D {t:D->Out Bool} {f:D->Out D}:∀{a xs:List D},q2c t f a=some xs->xs.length<=a.length
 | [],xs,h=>by cases h;simp
 | d::a,xs,h=>by
  rw [q2c] at h
  cases e1:t d with
  | ok k=>
   cases k with
   | true=>
    rw [e1] at h
    cases e2:f d with
    | ok e=>
     simp only [e2] at h
     cases e3:q2c t f a with
     | none=>rw [e3] at h;cases h
     | some ys=>rw [e3] at h;cases h;simp [q2D e3]
    | exc c=>simp only [e2] at h;cases h
    | bad=>simp only [e2] at h;cases h
   | false=>rw [e1] at h;exact Nat.le_succ_of_le (q2D h)
  | exc c=>rw [e1] at h;cases h
  | bad=>rw [e1] at h;cases h
section
variable {T:Tb} {X:Cx} {elt iter:Expr} {x:Str} {px pos:Pos} {scope:Scope} {ys:List Str} {caps:List Nat} {fe:Ev} {ft:Ro->Out Bool} {tst:Expr} {cl:List (Str×Addr)} {pins:List (Addr×Obj)} {σ:L2.St} {G H2:Hp} {s2:Shared} {J:It} {fp:List Addr} {it:Addr} {tn:Nat->Heap->Prop} {ρ:Ro} {ds es:List D}
theorem q3l {Cp:Cx->Prop} {T0:Tb} {RR:Value->Addr->Result->Shared->Prop} {E:Value->Shared->Prop} (hT:T0={ T with me:=none }) (hCp:∀(C':Addr) (s₀:Shared) (H₀:Hp),Same H2 H₀->Cp ((CxC X (x::ys) scope cl C' s₀ H₀ fp).wish λ_ _=>False)) (cp:Cap X scope x ys caps) (h1:∀y c,cl.lookup y=some c->X.env.cells.lookup y=some c) (h2:∀y∈scope.names,y.2=.free->∃c,cl.lookup y.1=some c)
 (he:∀(cl:List (Str×Addr)) (C:Addr) (s₀:Shared) (H₀:Hp) (ex:List Addr),DE T0 (CxC X (x::ys) scope cl C s₀ H₀ ex) elt fe)
 (ht:∀(cl:List (Str×Addr)) (C:Addr) (s₀:Shared) (H₀:Hp) (ex:List Addr),DT T0 (CxC X (x::ys) scope cl C s₀ H₀ ex) tst ft)
 (I2:Inv X pins σ H2 s2) (Tn:j2l Cp X.prog X.w X.K (.Name x px) J fp it tn) (t0:tn 0 s2.heap) (f2:∀b∈fp,q1X X pins H2 b)
 (fr:FR T X.K G H2 σ ρ) (wk:Walk T X.K G J ds H2) (hm:q2c (λd=>ft (q1e caps ρ d)) (λd=>fe (q1e caps ρ d)) ds=some es) (hl:ds.length<=1000000)
 (hRR:∀(a C:Addr) (s':Shared) (m':Str->Option Value) (Hn:Hp) (vs:List V),Inv X pins σ Hn s'->q1X X pins Hn C->s'.heap.Ns C m'->Same H2 Hn->H2 a=none->Hn a=some (.lst vs)->RepL T X.K Hn es vs->RR (.ref a) C (.ok .next) s') :
 wpAny (model X.prog X.w) X.A (newList []) (λacc s3=>wpAny (model X.prog X.w) X.A (newFunctionEnv scope X.env.globals cl [] X.env.qual none .none (some X.env)) (λcenv s4=>
  codeAny (model X.prog X.w) X.A (.compStart (.ListComp elt [⟨.Name x px,iter,[tst],0⟩] scope pos) 0 (.ref it) acc { cenv with scope:=relabel scope X.env }) (RR acc cenv.locals) s4) E s3) E s2:=by
 refine wpAny_newList (wpAny_newFunctionEnv cp.nocell (by intro y hy;simp at hy) (λh' hns hsb=>?_) cp.kind)
 have I3:Inv X pins σ (upd H2 s2.heap.objs.size (.lst [])) { s2 with heap:=s2.heap.push { cls:=.type "list",data:=.seq ([]:List Value).toArray } }:=I2.lnew (t':=s2.toks) .nil (Nat.zero_le _)
 have bl:∀b∈fp,b < s2.heap.objs.size:=λb hb=>by
  obtain ⟨o,e,_⟩:=Tn.obj 0 _ t0 b hb
  exact Heap.lt_size e
 have ha0:H2 s2.heap.objs.size=none:=I2.hok.fresh (Nat.le_refl _)
 generalize hA:s2.heap.objs.size=a at *
 have f3:∀b∈fp,q1X X pins (upd H2 a (.lst [])) b:=λb hb=>⟨by rw [q0h (Nat.ne_of_lt (bl b hb))];exact (f2 b hb).1,(f2 b hb).2⟩
 have hs3:(s2.heap.push { cls:=.type "list",data:=.seq ([]:List Value).toArray }).objs.size=a+1:=by rw [Heap.size_push,hA]
 generalize hH:s2.heap.push { cls:=.type "list",data:=.seq ([]:List Value).toArray }=hp3 at *
 have up3:∀b o,s2.heap.get? b=some o->hp3.get? b=some o:=λb o e=>hH ▸ Heap.get?_push_of_some _ e
 have k3:∀b o,hp3.get? b=some o->h'.get? b=some o:=λb o e=>
  hsb.extBut b o (Nat.ne_of_lt (Heap.lt_size e)) (Heap.get?_push_of_some _ e)
 have t1:tn 0 h':=Tn.keep 0 _ _ t0 λb hb o e=>k3 b o (up3 b o e)
 generalize hC:hp3.objs.size=C at *
 have I4:Inv (CxC X (x::ys) scope cl C { s2 with heap:=hp3 } (upd H2 a (.lst [])) fp) [] (none::caps.map λi=>σ.getD i none) (upd H2 a (.lst [])) { s2 with heap:=h',toks:=s2.toks+([]:List (Str×Value)).length }:=by
  have:=q3O (ex:=fp) (tk:=s2.toks+([]:List (Str×Value)).length) (h':=h') I3 cp h1 h2 (λb hb=>⟨f3 b hb,by show b < hp3.objs.size;rw [hC,hs3];exact Nat.lt_succ_of_lt (bl b hb)⟩) (by show h'.Ns hp3.objs.size _;rw [hC];exact hns) k3
  have e:({ s2 with heap:=hp3 }:Shared).heap.objs.size=C:=hC
  rw [e] at this
  exact this
 have sm0:Same H2 (upd H2 a (.lst [])):=λb o e=>by
  have:b≠a:=λz=>by rw [z,ha0] at e;cases e
  rw [q0h this];exact e
 have own:(CxC X (x::ys) scope cl C { s2 with heap:=hp3 } (upd H2 a (.lst [])) fp).env.scope.names.lookup x=some .local:=lookup_relabel_local cp.own
 have Icf:q1X X pins (upd H2 a (.lst [])) C:=I3.fpOk (by show hp3.objs.size<=C;rw [hC];exact Nat.le_refl _) I4.free
 have fpc:∀{pn:List (Addr×Obj)} {H:Hp},(∀b∈fp,H b=none)->(∀b∈fp,∀p∈pn,p.1≠b)->∀b∈fp,q1X (CxC X (x::ys) scope cl C { s2 with heap:=hp3 } (upd H2 a (.lst [])) fp) pn H b:=λhn hp b hb=>
  ⟨hn b hb,(I4.ok.exf b hb).1,I4.ok.exfs b hb,.inl hb,(I4.ok.exf b hb).2,hp b hb⟩
 have loop:∀s':Shared,s'={ s2 with heap:=h',toks:=s2.toks+([]:List (Str×Value)).length } ->
  codeAny (model X.prog X.w) X.A (.compLoop (.ListComp elt [⟨.Name x px,iter,[tst],0⟩] scope pos) 0 (.ref it) (.ref a) (compEnvC scope cl C X.env)) (RR (.ref a) C) s':=by
  rintro s' rfl
  refine codeAny_compLoop_tests (λn s'=>∃(i:Nat) (w:Option V) (H':Hp) (vs:List V),n=ds.length-i/\i<=ds.length/\Inv (CxC X (x::ys) scope cl C { s2 with heap:=hp3 } (upd H2 a (.lst [])) fp) [] (w::caps.map λi=>σ.getD i none) H' s'/\tn i s'.heap/\(∀b∈fp,H' b=none) /\
   Same H2 H'/\H' a=some (.lst vs)/\∃xs,q2c (λd=>ft (q1e caps ρ d)) (λd=>fe (q1e caps ρ d)) (ds.take i)=some xs/\RepL T X.K H' xs vs) ?_ ds.length ⟨0,none,_,[],rfl,Nat.zero_le _,I4,t1,λb hb=>(f3 b hb).1,sm0,q0p,[],by rw [List.take_zero];rfl,rfl⟩
  rintro n s' ⟨i,w,H',vs,rfl,hi,I',ti,fn,sm,hv,xs,ex,rp⟩
  obtain ⟨w1,w2⟩:=wk i H' (Pers.of sm) (fr.same.trans sm)
  by_cases hlt:i < ds.length
  ·obtain ⟨d,e1⟩:∃d,ds[i]?=some d:=⟨ds[i],by simp [hlt]⟩
   obtain ⟨go,yl⟩:=w1 d e1
   have tk1:ds.take (i+1)=ds.take i++[d]:=by
    obtain ⟨q1,q2⟩:=List.getElem?_eq_some_iff.mp e1
    rw [List.take_succ_eq_append_getElem q1,q2]
   obtain ⟨xs',ex'⟩:=q2L (a:=ds.take (i+1)) (b:=ds.drop (i+1)) (by rw [List.take_append_drop];exact hm)
   have stp:=q2h ex (by rw [<-tk1];exact ex')
   refine wpAny_mono (Tn.item ((CxC X (x::ys) scope cl C { s2 with heap:=hp3 } (upd H2 a (.lst [])) fp).wish λ_ _=>False) rfl rfl rfl (hCp _ _ _ sm0) i [] s' _ H' (λ_ _=>False) (I'.wish _) (fpc fn λ_ _ p hp=>by cases hp) ti go) (λr s1 h=>?_) λ_ _ z=>z.elim
   obtain ⟨u,rfl,h⟩:=h
   show wpAny _ _ (assign (.Name x px) (compEnvC scope cl C X.env) u) _ _ s1
   refine (show wpAny (model X.prog X.w) X.A (letOwnedTupleGo (.Name x px) (.ref it) u >>= λ_=>assign (.Name x px) (compEnvC scope cl C X.env) u) _ _ s1 from wpAny_bind (wpAny_mono h (λ_ s5 h5=>?_) λ_ _ z=>z.elim))
   obtain ⟨y,H5,I5,r5,y5,t5,f5⟩:=h5
   obtain ⟨s5',rd⟩:=yl y H5 y5
   have I5':=I5.pinned (fpc f5 λ_ _ p hp=>by cases hp) (Tn.obj _ _ t5)
   refine wpAny_mono (q18 (X:=(CxC X (x::ys) scope cl C { s2 with heap:=hp3 } (upd H2 a (.lst [])) fp).wish λ_ _=>False) (i:=0) cp.nodup rfl (.inl own) (.inr own) _ s5 _ H5 y u (fun σ' H''=>σ'=(w::caps.map λi=>σ.getD i none).set 0 (some y)/\H''=H5) I5' r5 ⟨rfl,rfl⟩) (λ_ s6 h6=>?_) λ_ _ z=>z.elim
   obtain ⟨σ6,H6,I6,rfl,rfl⟩:=h6
   have fr6:FR T0 X.K (λ_=>none) H6 ((w::caps.map λi=>σ.getD i none).set 0 (some y)) (q1e caps ρ d):=q5e hT fr (Pers.of (sm.trans s5')) rd
   have lv:vs.length<=i:=by rw [RepL.length _ _ rp];exact Nat.le_trans (q2D ex) (by rw [List.length_take];exact Nat.min_le_left _ _)
   have tst1:∀k,ft (q1e caps ρ d)=.ok k->wpAny (model X.prog X.w) X.A (isTrue tst (compEnvC scope cl C X.env) (eval tst (compEnvC scope cl C X.env))) (λb s7=>b=k/\∃H7,Inv (CxC X (x::ys) scope cl C { s2 with heap:=hp3 } (upd H2 a (.lst [])) fp |>.wish λ_ _=>False) ([]++q3n fp s5.heap) ((w::caps.map λi=>σ.getD i none).set 0 (some y)) H7 s7/\Same H6 H7) (λ_ _=>False) s6:=λk hk=>by
    refine wpAny_mono ((ht cl C { s2 with heap:=hp3 } (upd H2 a (.lst [])) fp).run (λ_=>none) (λ_ _=>False) PassesOwn.never _ s6 _ H6 (λb H7=>b=k/\Same H6 H7) I6 ⟨q1e caps ρ d,fr6,by rw [hk];exact λH7 s7=>⟨rfl,s7⟩⟩) (λb s7 h7=>?_) λ_ _ z=>z
    obtain ⟨H7,I7,q1,q2⟩:=h7
    exact ⟨q1,H7,I7,q2⟩
   rcases stp with ⟨tt,e,ef,rfl⟩ | ⟨tf,rfl⟩
   ·refine wpAny_bind (wpAny_bind (wpAny_mono (tst1 true tt) (λb s6' h6'=>?_) λ_ _ z=>z.elim))
    obtain ⟨rfl,H6',I6',sm6⟩:=h6'
    refine wpAny_pure (wpAny_pure ?_)
    show wpAny (model X.prog X.w) X.A (eval elt (compEnvC scope cl C X.env)) _ _ s6'
    refine wpAny_mono ((he cl C { s2 with heap:=hp3 } (upd H2 a (.lst [])) fp).run (λ_=>none) (λ_ _=>False) PassesOwn.never _ s6' _ H6' (λv H7=>Same H6' H7/\Rep T0 X.K H7 e v) I6' ⟨q1e caps ρ d,fr6.mono sm6,by rw [ef];exact λv H7 s7 r7=>⟨s7,r7⟩⟩) (λu7 s7 h7=>?_) λ_ _ z=>z.elim
    obtain ⟨v7,H7,I7,r7,sm7',rp7⟩:=h7
    have rp7:Rep T X.K H7 e v7:=by subst hT;exact (q1L _ _).mp rp7
    have sm7:Same H6 H7:=sm6.trans sm7'
    have hv7:H7 a=some (.lst vs):=sm7 _ _ (s5' _ _ hv)
    refine wpAny_mono (q2k (X:=(CxC X (x::ys) scope cl C { s2 with heap:=hp3 } (upd H2 a (.lst [])) fp).wish λ_ _=>False) _ s7 _ H7 (.ref a) [v7] (.ref a) [u7] (λ_ H8=>H8=upd H7 a (.lst (vs++[v7]))) I7 rfl (.cons r7 .nil) ⟨a,vs,v7,rfl,rfl,hv7,Nat.lt_of_le_of_lt lv (Nat.lt_of_lt_of_le hlt (Nat.le_trans hl (by unfold sizeLine;decide))),rfl⟩) (λ_ s8 h8=>?_) λ_ _ z=>z.elim
    obtain ⟨_,H8,I8,_,rfl⟩:=h8
    have p8:Pers false H7 (upd H7 a (.lst (vs++[v7]))):=q1Y hv7
    refine ⟨ds.length-(i+1),by omega,i+1,some y,_,vs++[v7],rfl,hlt,I8.unwish.unpinned,?_,λb hb=>?_,λb o q=>?_,q0p,xs++[e],ex',?_⟩
    ·exact Tn.keep _ _ _ t5 λb hb o q=>(I8.pin (b,o) (List.mem_append_right _ (List.mem_append_right _ (q0K hb q)))).1
    ·obtain ⟨o,q,d'⟩:=Tn.obj _ _ t5 b hb
     exact (I8.pin (b,o) (List.mem_append_right _ (List.mem_append_right _ (q0K hb q)))).2.1
    ·have:b≠a:=λz=>by rw [z,ha0] at q;cases q
     rw [q0h this]
     exact sm7 _ _ (s5' _ _ (sm _ _ q))
    ·exact RepL.append _ _ _ _ (RepL.pers p8 _ _ (RepL.mono sm7 _ _ (RepL.mono s5' _ _ rp))) ⟨v7,[],rfl,Rep.pers p8 _ _ rp7,rfl⟩
   ·refine wpAny_bind (wpAny_bind (wpAny_mono (tst1 false tf) (λb s6' h6'=>?_) λ_ _ z=>z.elim))
    obtain ⟨rfl,H6',I6',sm6⟩:=h6'
    refine wpAny_pure (wpAny_pure ?_)
    show ∃m,m < ds.length-i/\_
    refine ⟨ds.length-(i+1),by omega,i+1,some y,H6',vs,rfl,hlt,I6'.unwish.unpinned,?_,λb hb=>?_,λb o q=>sm6 _ _ (s5' _ _ (sm _ _ q)),sm6 _ _ (s5' _ _ hv),_,ex',RepL.mono sm6 _ _ (RepL.mono s5' _ _ rp)⟩
    ·exact Tn.keep _ _ _ t5 λb hb o q=>(I6'.pin (b,o) (List.mem_append_right _ (List.mem_append_right _ (q0K hb q)))).1
    ·obtain ⟨o,q,d'⟩:=Tn.obj _ _ t5 b hb
     exact (I6'.pin (b,o) (List.mem_append_right _ (List.mem_append_right _ (q0K hb q)))).2.1
  ·have e:i=ds.length:=by omega
   refine wpAny_mono (Tn.done ((CxC X (x::ys) scope cl C { s2 with heap:=hp3 } (upd H2 a (.lst [])) fp).wish λ_ _=>False) rfl rfl rfl (hCp _ _ _ sm0) i [] s' _ H' (λ_ _=>False) (I'.wish _) (fpc fn λ_ _ p hp=>by cases hp) ti (w2 (by omega))) (λr s1 h=>?_) λ_ _ z=>z.elim
   obtain ⟨rfl,I1⟩:=h
   have I1:=I1.unwish
   obtain ⟨m',hn,_⟩:=I1.loc
   refine hRR a C s1 m' H' vs (q2r I3 I1 f3) ⟨I1.free,Icf.2⟩ hn sm ha0 hv ?_
   have:ds.take i=ds:=by rw [List.take_of_length_le (by omega)]
   rw [this,hm] at ex
   cases ex
   exact rp
 exact codeAny_compStart_list (loop _ rfl) (Tn.self _ 0 _ _ _ t1 (loop _ rfl))
end
section
variable {T:Tb} {X:Cx} {elt iter tst:Expr} {x:Str} {px pos spos py:Pos} {scope:Scope} {ys:List Str} {caps:List Nat} {fe:Ev} {ft:Ro->Out Bool} {fl:Ro->Out (List D)}
@[simp] def q1T (fl:Ro->Out (List D)) (caps:List Nat) (ft:Ro->Out Bool) (fe:Ev) (ρ:Ro):Out (List D):=(fl ρ).bind λds=>if ds.length<=1000000 then (match q2c (λd=>ft (q1e caps ρ d)) (λd=>fe (q1e caps ρ d)) ds with | some es=>.ok es | none=>.bad) else .bad
theorem q7u {T0:Tb} {G:Hp} {E:Value->Shared->Prop} (hp:PassesOwn (model X.prog X.w) X.A X.env E) (hT:T0={ T with me:=none }) (hc:X.calm=true) (hi:DI T X (.Name x px) iter fl) (cp:Cap X scope x ys caps)
 (he:∀(cl:List (Str×Addr)) (C:Addr) (s₀:Shared) (H₀:Hp) (ex:List Addr),DE T0 (CxC X (x::ys) scope cl C s₀ H₀ ex) elt fe) (ht:∀(cl:List (Str×Addr)) (C:Addr) (s₀:Shared) (H₀:Hp) (ex:List Addr),DT T0 (CxC X (x::ys) scope cl C s₀ H₀ ex) tst ft)
 (hs:∀x,foldedSetIterable iter X.env x=pure x) :
 CompOk (X.wish E) (.ListComp elt [⟨.Name x px,iter,[tst],0⟩] scope pos) scope (firstIterPos [⟨.Name x px,iter,[tst],0⟩] pos) (firstIter [⟨.Name x px,iter,[tst],0⟩] X.env) (tF T X G E (q1T fl caps ft fe)):=by
 rintro pins s σ H Q use QQ I ⟨ρ,fr,h⟩ k
 obtain ⟨cl,hclos,h1,h2⟩:=q10 X.env scope λy hy hf=>I.ok.has y.1 (cp.free y hy hf)
 refine wpAny_comprehension_free rfl hs hclos cp.kind cp.names ?_
 refine wpAny_mono (hi.run G E hp pins s σ H (λJ H'=>∃ds es,Same H H'/\Walk T X.K G J ds H'/\q2c (λd=>ft (q1e caps ρ d)) (λd=>fe (q1e caps ρ d)) ds=some es/\ds.length<=1000000/\∀a vs H'',Same H H''->H a=none->H'' a=some (.lst vs)->RepL T X.K H'' es vs->Q (.ref a) H'') I
  ⟨ρ,fr,Acc.mono (Acc.bind h) λds _ hd J H1 s1 wk=>?_⟩) (λv s1 h1'=>wpAny_mono h1' (λitv s2 h2'=>?_) λ_ _ z=>z) λ_ _ z=>z
 ·by_cases hl:ds.length<=1000000
  ·rw [if_pos hl] at hd
   cases hm:q2c (λd=>ft (q1e caps ρ d)) (λd=>fe (q1e caps ρ d)) ds with
   | none=>rw [hm] at hd;exact hd.elim
   | some es=>
    rw [hm] at hd
    exact ⟨ds,es,s1,wk,hm,hl,hd⟩
  ·rw [if_neg hl] at hd;exact hd.elim
 ·obtain ⟨it,fp,tn,J,H2,rfl,I2,Tn,t0,f2,ds,es,sm,wk,hm,hl,kq⟩:=h2'
  refine q3l (X:=X) (E:=E) (G:=G) (RR:=λacc C=>compPost (model X.prog X.w) X.A E use QQ acc C) hT (λ_ _ _ _=>hc) cp h1 h2 he ht I2.unwish Tn t0 f2 (fr.mono sm) wk hm hl ?_
  intro a C s' m' Hn vs I' f hn smn ha hv rp
  exact k a C s' m' Hn (I'.wish E) f hn (kq a vs Hn (sm.trans smn) (sm.free ha) hv rp)
theorem q2I {T0:Tb} (hT:T0={ T with me:=none }) (hc:X.calm=true) (hi:DI T X (.Name x px) iter fl) (cp:Cap X scope x ys caps)
 (he:∀(cl:List (Str×Addr)) (C:Addr) (s₀:Shared) (H₀:Hp) (ex:List Addr),DE T0 (CxC X (x::ys) scope cl C s₀ H₀ ex) elt fe) (ht:∀(cl:List (Str×Addr)) (C:Addr) (s₀:Shared) (H₀:Hp) (ex:List Addr),DT T0 (CxC X (x::ys) scope cl C s₀ H₀ ex) tst ft)
 (hs:∀x,foldedSetIterable iter X.env x=pure x:=by intro _;rfl):DF T X (.ListComp elt [⟨.Name x px,iter,[tst],0⟩] scope pos) (q1T fl caps ft fe):=.mk λG E hp=>
 CompOk.pe (X:=X.wish E) (q7u hp hT hc hi cp he ht hs)
variable {ib:Bool} {y:Str}
theorem q4A {T0:Tb} (i:Nat) (hT:T0={ T with me:=none }) (hc:X.calm=true) (hN:X.N.Nodup) (hi:DI T X (.Name x px) iter fl) (cp:Cap X scope x ys caps)
 (he:∀(cl:List (Str×Addr)) (C:Addr) (s₀:Shared) (H₀:Hp) (ex:List Addr),DE T0 (CxC X (x::ys) scope cl C s₀ H₀ ex) elt fe) (ht:∀(cl:List (Str×Addr)) (C:Addr) (s₀:Shared) (H₀:Hp) (ex:List Addr),DT T0 (CxC X (x::ys) scope cl C s₀ H₀ ex) tst ft) (hiN:X.N[i]?=some y:=by rfl) (hy:Loc X.env.scope y:=by walk_at "v3")
 (hf:X.fn y=true∨X.env.scope.names.lookup y=some .local:=by walk_at "v2")
 (hz:T.me=none∨i≠0:=by walk_at "v1")
 (hsw:swapsWith (.ListComp elt [⟨.Name x px,iter,[tst],0⟩] scope pos) (some (.Name y py)) spos.line X.env=pure true:=by rfl) (hs:∀x,foldedSetIterable iter X.env x=pure x:=by intro _;rfl) :
 DS T ib X (.Assign [.Name y py] (.ListComp elt [⟨.Name x px,iter,[tst],0⟩] scope pos) spos) (q1i i (q1r (q1T fl caps ft fe))):=.mk λG E hp=>
 PS.imp (CompOk.ps (X:=X.wish E) (i:=i) (CompOk.freeze (q7u (G:=G) hp hT hc hi cp he ht hs)) hN hiN hy hf hsw) λD σ H ⟨ρ,fr,h⟩=>⟨ρ,fr,Acc.mono (Acc.bind (AccS.fl fr h)) λds _ hd a vs H1 s1 ha ha' r=>⟨a,vs,rfl,ha',λo=>by
  have s2:Same H (upd H1 a (.frz o (.lst vs))):=λb u e=>by
   rw [q0h (λz=>by rw [z,ha] at e;cases e)];exact s1 b u e
  exact hd _ _ ((fr.mono s2).set_sh ⟨a,vs,rfl,.inl ⟨o,q0p⟩,RepL.froz ha' _ _ r⟩ hz) (Pers.of s2)⟩⟩
end
section
variable {X:Cx}
def rLE (K:PySem.W.Frag) (neg:Bool):R2:=λx y H Q=>∃(a b:Addr) (xs:List V),x=.ref a/\y=.ref b/\SqL K H a xs/\SqL K H b []/\Q (.bl (if neg then !xs.isEmpty else xs.isEmpty)) H
theorem j1k (hu:X.A.units < cLine):OpR X (compareOp .Eq) (rLE X.K false):=by
 intro pins s σ H x y v u Q I rx ry h
 obtain ⟨a,b,xs,rfl,rfl,h1,h2,q⟩:=h
 cases rx
 cases ry
 obtain ⟨its,r,pl,hz⟩:=I.list h1
 obtain ⟨its2,r2,pl2,hz2⟩:=I.list h2
 cases r2
 cases xs with
 | nil=>
  cases r
  refine SeqAt.eq_listAt (e:=λ_=>true) pl.isList pl2.isList rfl hu (λj h1=>by simp at h1) ⟨.bl true,H,I,?_,q⟩
  rfl
 | cons x xs=>
  cases r
  exact SeqAt.eq_list_lengthsAt pl.isList pl2.isList (by simp) hu ⟨.bl false,H,I,rfl,q⟩
end
section
variable {T:Tb} {X:Cx} {e o:Expr} {es:List Expr} {cpos apos:Pos} {fe fo:Ev} {fs:Ro->Out (List D)}
def j9R (neg:Bool):D->D->Out D
 | .lst ds,.lst []=>.ok (.bl (if neg then !ds.isEmpty else ds.isEmpty))
 | _,_=>.bad
theorem j5V (neg:Bool) (op:CmpOp) (h:∀E,OpR (X.wish E) (compareOp op) (rLE X.K neg)):OpD T X (compareOp op) (j9R neg):=λE=>⟨_,h E,λdx dy x y σ H Q rx ry q=>by
 cases dx with
 | lst ds=>
  cases dy with
  | lst ds2=>
   cases ds2 with
   | nil=>
    obtain ⟨a,us,rfl,s1,r1⟩:=rx
    obtain ⟨b,us2,rfl,s2,r2⟩:=ry
    cases r2
    have hl:=RepL.length _ _ r1
    have he:us.isEmpty=ds.isEmpty:=by cases us<;>cases ds<;>first | rfl | (simp at hl)
    exact ⟨a,b,us,rfl,rfl,s1.sq,s2.sq,by rw [he];exact q _ H (Same.refl H) rfl⟩
   | cons _ _=>exact q.elim
  | _=>exact q.elim
 | _=>first | exact q.elim | (cases dy<;>exact q.elim)⟩
theorem j1G {k:Nat} (hr:Room k X.A):OpD T X (compareOp .Eq) (j9R false):=j5V false .Eq λE=>j1k (X:=X.wish E) hr.units0
def j2r (x:V):List V->Option Nat
 | []=>none
 | y::ys=>if eqV y x=true then some 0 else (j2r x ys).map (· + 1)
theorem q6X {x:V}:∀{ys:List V} {j:Nat},j2r x ys=some j->j < ys.length/\eqV (ys.getD j .non) x=true/\∀m,m < j->eqV (ys.getD m .non) x=false
 | [],j,h=>by cases h
 | y::ys,j,h=>by
  rw [j2r] at h
  by_cases c:eqV y x=true
  ·rw [if_pos c] at h
   cases h
   exact ⟨by simp,c,λm hm=>by omega⟩
  ·rw [if_neg c] at h
   cases e:j2r x ys with
   | none=>rw [e] at h;cases h
   | some k=>
    rw [e] at h
    cases h
    obtain ⟨h1,h2,h3⟩:=q6X e
    refine ⟨by show k+1 < _;simp;omega,by simpa using h2,λm hm=>?_⟩
    have hm:m < k+1:=hm
    cases m with
    | zero=>simpa using c
    | succ m=>simpa using h3 m (by omega)
end
section
variable {T:Tb} {X:Cx} {o:Expr} {cpos apos:Pos} {fo:Ev}
end
theorem Inv.unfrz {X:Cx} {pins:List (Addr×Obj)} {σ:L2.St} {H:Hp} {s:Shared} {b:Addr} {ws:List V} (I:Inv X pins σ H s) (h:H b=some (.lst ws)):∀o u,X.H₀ b≠some (.frz o u):=λo u z=>by
 have:=I.base.frzs b o u z
 rw [h] at this;cases this
theorem Inv.thaw {X:Cx} {pins:List (Addr×Obj)} {σ:L2.St} {H:Hp} {s:Shared} {b:Addr} {ws:List V} {o:Obj} (I:Inv X pins σ H s) (h:H b=some (.frz o (.lst ws))) (hx:∀o u,X.H₀ b≠some (.frz o u)):Inv X pins σ (upd H b (.lst ws)) s:=by
 have no:∀c,H c=none->upd H b (.lst ws) c=none:=λc q=>by
  rw [q0h (λz=>by rw [z,h] at q;cases q)];exact q
 have own:∀c y,H c=some (.own y)->upd H b (.lst ws) c=some (.own y):=λc y q=>by
  rw [q0h (λz=>by rw [z,h] at q;cases q)];exact q
 have tup:∀c xs,H c=some (.tup xs)->upd H b (.lst ws) c=some (.tup xs):=λc y q=>by
  rw [q0h (λz=>by rw [z,h] at q;cases q)];exact q
 refine ⟨I.ok,I.os,I.bare,⟨I.base.keep,I.base.slot,λc ob e n q=>no c (I.base.free c ob e n q),I.base.there,λc xs e=>tup c xs (I.base.tups c xs e),λc ob u e=>?_,λc ps e=>?_⟩,I.loc,I.cell,no _ I.free,λx c e=>no c (I.freeC x c e),λp hp=>?_,λc u e=>?_,I.len⟩
 ·have q:=I.base.frzs c ob u e
  rw [q0h (λz=>by subst z;exact hx ob u e)];exact q
 ·obtain ⟨more,q⟩:=I.base.tbls c ps e
  exact ⟨more,by rw [q0h (λz=>by rw [z,h] at q;cases q)];exact q⟩
 ·obtain ⟨p1,p2,p3⟩:=I.pin p hp
  exact ⟨p1,no _ p2,p3⟩
 ·by_cases hc:c=b
  ·subst hc
   rw [q0p] at e;cases e
   exact ((I.hok _ _ h).2).stay (λ_ _ _ q=>q) (λc=>own c _) tup
  ·rw [q0h hc] at e
   exact (I.hok c u e).stay (λ_ _ _ q=>q) (λc=>own c _) tup
theorem q7r {H H':Hp} {b:Addr} {ws:List V} {o:Obj} (h:H b=some (.lst ws)) (s1:Same (upd H b (.frz o (.lst ws))) H'):Same H (upd H' b (.lst ws)):=λc u e=>by
 by_cases hc:c=b
 ·subst hc;rw [q0p,<-h];exact e
 ·rw [q0h hc];exact s1 c u (by rw [q0h hc];exact e)
theorem XW.thaw {T:Tb} {X:Cx} {E:Value->Shared->Prop} {σ:L2.St} {H:Hp} {c:Nat} {b:Addr} {ws:List V} {o:Obj} (h:XW T X E σ H c) (hb:H b=some (.lst ws)) (hx:∀o u,X.H₀ b≠some (.frz o u)):XW T X E σ (upd H b (.frz o (.lst ws))) c:=λpins s u H' I sm fl=>by
 have hb':H' b=some (.frz o (.lst ws)):=sm b _ q0p
 have no:∀c,H' c=none->upd H' b (.lst ws) c=none:=λc q=>by
  rw [q0h (λz=>by rw [z,hb'] at q;cases q)];exact q
 refine h pins s u _ (Inv.thaw I hb' hx) (q7r hb sm) ?_
 obtain ⟨ea,rfl,h1,h2,nc,oe,vs,a0,he,hc,hd,h0,ht⟩:=fl
 refine ⟨ea,rfl,no _ h1,h2,nc,oe,vs,a0,he,hc,hd,h0,?_⟩
 rcases ht with ht | ⟨tb,ot,ts,t1,t2,t3,t4,t5,t6,t7⟩
 ·exact .inl ht
 ·exact .inr ⟨tb,ot,ts,t1,t2,t3,t4,t5,no _ t6,t7⟩
mutual
def nl:D->Bool
 | .lst _=>false
 | .tup ds=>nlL ds
 | .ins _ ds=>nlL ds
 | _=>true
def nlL:List D->Bool
 | []=>true
 | d::ds=>nl d && nlL ds
end
mutual
theorem Rep.thaw {T:Tb} {K:PySem.W.Frag} {H:Hp} {b:Addr} {ws:List V} {o:Obj} {u:HO} (h:H b=some (.frz o (.lst ws))):∀(d:D) (v:V),nl d=true->Rep T K H d v->Rep T K (upd H b u) d v
 | .non,_,_,q=>q
 | .bl _,_,_,q=>q
 | .int _,_,_,q=>q
 | .str _,_,_,q=>q
 | .tup ds,_,n,q=>by
  obtain ⟨a,vs,r1,r2,r3⟩:=q
  refine ⟨a,vs,r1,?_,RepL.thaw h ds vs n r3⟩
  rcases r2 with (r2 | ⟨o',r2⟩) | r2
  ·exact .inl (.inl (by rw [q0h (λz=>by rw [z,h] at r2;cases r2)];exact r2))
  ·exact .inl (.inr ⟨o',by rw [q0h (λz=>by rw [z,h] at r2;cases r2)];exact r2⟩)
  ·exact .inr r2
 | .lst ds,_,n,_=>by cases n
 | .ins c ds,_,n,q=>by
  obtain ⟨a,dx,fs,r1,r2,r3,r4⟩:=q
  exact ⟨a,dx,fs,r1,by rw [q0h (λz=>by rw [z,h] at r2;cases r2)];exact r2,r3,RepL.thaw h ds _ n r4⟩
 | .exc c,_,_,q=>by
  obtain ⟨a,o',r1,r2,r3⟩:=q
  exact ⟨a,o',r1,by rw [q0h (λz=>by rw [z,h] at r2;cases r2)];exact r2,r3⟩
theorem RepL.thaw {T:Tb} {K:PySem.W.Frag} {H:Hp} {b:Addr} {ws:List V} {o:Obj} {u:HO} (h:H b=some (.frz o (.lst ws))):∀(ds:List D) (vs:List V),nlL ds=true->RepL T K H ds vs->RepL T K (upd H b u) ds vs
 | [],_,_,q=>q
 | d::ds,_,n,q=>by
  obtain ⟨v,r,r1,r2,r3⟩:=q
  have n:(nl d && nlL ds)=true:=n
  rw [Bool.and_eq_true] at n
  exact ⟨v,r,r1,Rep.thaw h d v n.1 r2,RepL.thaw h ds r n.2 r3⟩
end
@[simp] def vwR (i:Nat) (ρ:Ro):Ro:=match ρ[i]? with
 | some (.ox t pre ds post)=>ρ.set i (.sh (mkO t (pre++.lst ds::post)))
 | _=>ρ
section
variable {T:Tb} {ib:Bool} {X:Cx} {e:Expr} {f:Ro->Out Bool} {fe:Ev} {ff:Ro->Out (List D)}
theorem look {α:Type} {G H:Hp} {E:Value->Shared->Prop} {σ:L2.St} {ρ:Ro} {pins:List (Addr×Obj)} {s:Shared} (i:Nat) {g:Ro->Out α} {k:α->Prop} (I:Inv (X.wish E) pins σ H s) (fr:FR T X.K G H σ ρ) (q:Acc T X E σ H (g (vwR i ρ)) k) :
 (FR T X.K G H σ ρ/\Acc T X E σ H (g ρ) k/\vwR i ρ=ρ)∨∃(b:Addr) (ws:List V) (o:Obj),H b=some (.lst ws)/\(∀o u,X.H₀ b≠some (.frz o u))/\Inv (X.wish E) pins σ (upd H b (.frz o (.lst ws))) s/\FR T X.K G (upd H b (.frz o (.lst ws))) σ (vwR i ρ)/\Acc T X E σ (upd H b (.frz o (.lst ws))) (g (vwR i ρ)) k:=by
 cases e0:ρ[i]? with
 | none=>left;have z:vwR i ρ=ρ:=by simp [e0]
         rw [z] at q;exact ⟨fr,q,z⟩
 | some w=>
  cases w with
  | ox t pre ds post=>
   right
   obtain ⟨a,vp,b,vq,ws,e1,e2,r1,r2,e3,e4,r3⟩:=fr.sl i _ e0
   obtain ⟨o,I2⟩:=Inv.freeze I e3
   have hx:=Inv.unfrz I.unwish e3
   have z:vwR i ρ=ρ.set i (.sh (mkO t (pre++.lst ds::post))):=by simp [e0]
   refine ⟨b,ws,o,e3,hx,I2,?_,?_⟩
   ·rw [z];exact q92 fr e0 e1 e2 r1 r2 e3 e4 r3
   ·cases eg:g (vwR i ρ) with
    | ok a=>rw [eg] at q;exact q
    | exc c=>rw [eg] at q;exact XW.thaw q e3 hx
    | bad=>rw [eg] at q;exact q
  | _=>left;have z:vwR i ρ=ρ:=by simp [e0]
       rw [z] at q;exact ⟨fr,q,z⟩
end
inductive Bk where
 | sh (ds:List D) | ow (pre ds post:List D)
def kB (T:Tb) (K:PySem.W.Frag) (G H:Hp) (Q:List V->Hp->Prop):Bk->Prop
 | .sh ds=>∀vs H',Same H H'->RepL T K H' ds vs->Q vs H'
 | .ow pre ds post=>∀vp b vq ws H',Same H H'->RepL T K H' pre vp->RepL T K H' post vq->H' b=some (.lst ws)->G b=none->RepL T K H' ds ws->Q (vp++.ref b::vq) H'
def tB (T:Tb) (X:Cx) (G:Hp) (E:Value->Shared->Prop) (f:Ro->Out Bk):TA:=fun σ H Q=>∃ρ,FR T X.K G H σ ρ/\Acc T X E σ H (f ρ) (kB T X.K G H Q)
structure DB (T:Tb) (X:Cx) (es:List Expr) (f:Ro->Out Bk):Prop where
 mk ::
 run:∀(G:Hp) (E:Value->Shared->Prop),PassesOwn (model X.prog X.w) X.A X.env E->PA (X.wish E) es (tB T X G E f)
section
variable {T:Tb} {ib:Bool} {X:Cx} {e:Expr} {es:List Expr} {pos p:Pos} {fe:Ev} {fs:Ro->Out (List D)} {fb:Ro->Out Bk} {fr':Ro->Out Rv} {x:Str}
end
section
variable {T:Tb} {ib:Bool} {X:Cx} {e:Expr} {pos p:Pos} {fr':Ro->Out Rv} {x:Str}
end
section
variable {T:Tb} {K:PySem.W.Frag} {G H:Hp} {σ:L2.St} {ρ:Ro}
theorem OutAt.ix {t:Bool} {a b:Addr} {vp vq:List V} {pre:List D} {c:Int} {Q:VK} (e2:OutAt H t a (vp++.ref b::vq)) (r1:RepL T K H pre vp) (hc:c=(pre.length:Int)) (q:Q (.ref b) H):(λx y H Q=>w1W K x y H Q∨w2q K x y H Q) (.ref a) (.int c) H Q:=by
 have at_:atI (vp++.ref b::vq) c=some (.ref b):=by
  subst hc
  rw [<-RepL.length _ _ r1]
  have hi:ixN (vp++V.ref b::vq).length (vp.length:Int)=some vp.length:=by
   unfold ixN
   rw [if_pos (by omega),if_pos (by simp;omega)];simp
  unfold atI
  rw [hi]
  show (vp++V.ref b::vq)[vp.length]?=_
  rw [List.getElem?_append_right (Nat.le_refl _),Nat.sub_self];rfl
 cases t with
 | true=>exact .inr ⟨a,_,c,_,rfl,rfl,SqT.of e2,at_,q⟩
 | false=>
  obtain ⟨o,e2⟩:=e2
  exact .inl ⟨a,_,c,_,rfl,rfl,.inl (.inr ⟨o,e2⟩),at_,q⟩
end
section
variable {T:Tb} {ib:Bool} {X:Cx} {e b:Expr} {pos p p2 p3 pc ps:Pos} {fe fb:Ev} {x:Str} {c:Int} {j:Nat}
end
section
variable {P:Program} {w:World} {A:Around}
abbrev KpH (h h':Heap):Prop:=∀b o,h.get? b=some o->h'.get? b=some o
abbrev two (x:Value) (c:Nat):Obj:=⟨.type "list",none,.seq #[x,x] c,#[]⟩
end
open AutoSeq1 (wpAny_loadPart')
open SeqAt
end L3
namespace L3
open PySem PySem.Spec PyProof.Rows L2
section
variable {X:Cx}
end
section
variable {T:Tb} {X:Cx}
end
section
variable {T:Tb} {ib:Bool} {X:Cx} {e b:Expr} {pos pos' p p2:Pos} {fe fb:Ev} {x:Str}
@[simp] def j8Y (i:Nat) (fe:Ev) (ρ:Ro):Fl:=match ρ[i]? with
 | some (.sh (.int a))=>(fe ρ).fl ρ λd=>(match d with
  | .int c=>.nx (ρ.set i (.sh (.int (a+c))))
  | _=>.bad)
 | _=>.bad
theorem j2M (i:Nat) (hN:X.N.Nodup) (he:DE T X e fe) (hi:X.N[i]?=some x:=by rfl) (hx:Loc X.env.scope x:=by walk_at "v3") (hf:X.fn x=true∨X.env.scope.names.lookup x=some .local:=by walk_at "v2")
 (hz:T.me=none∨i≠0:=by walk_at "v1") :
 DS T ib X (.AugAssign (.Name x pos') .Add e pos) (j8Y i fe):=.mk λG E hp=>
 PS.imp (q8j (X:=X.wish E) hN hi hx (he.run G E hp) j41 hf) λD σ H ⟨ρ,fr,h⟩=>by
  unfold j8Y at h
  split at h
  ·rename_i a e0
   obtain ⟨v,e1,r⟩:=fr.sl i _ e0
   refine ⟨v,e1,ρ,fr,Acc.mono (AccS.fl fr h) λd _ hd u H1 s1 r1=>?_⟩
   cases d with
   | int c=>exact ⟨a,c,r,r1,hd _ _ ((fr.mono s1).set_sh (d:=.int (a+c)) rfl hz) (Pers.of s1)⟩
   | _=>exact hd.elim
  ·exact h.elim
end
section
variable {X:Cx}
theorem q7y (hc:X.calm=true):CallR X (.builtin "sum") (λxs H Q=>∃(a:Addr) (is:List Int),xs=[.ref a]/\SqT X.K H a (is.map V.int)/\(∀j,j < is.length->InLong (is.getD j 0)/\InLong (isum (is.take (j+1))))/\Q (.int (isum is)) H):=by
 intro pins s σ H xs us Q I rv h
 obtain ⟨a,is,rfl,hq,hf,q⟩:=h
 obtain ⟨u,rfl,ru⟩:=rv.one
 cases ru
 obtain ⟨its,r,pl,hz⟩:=I.tuple hq
 have pl:s.heap.IsTuple a its.toArray:=pl
 obtain ⟨hl,hg⟩:=q3N r
 have hlt:a < s.heap.objs.size:=by
  obtain ⟨o,ho,_⟩:=pl
  exact Heap.lt_size ho
 have W:=Walks.tuple (prog:=X.prog) (w:=X.w) (A:=X.A.in1) (show X.A.in1.handled=none from I.ok.hd hc) s.heap.objs.size a (Nat.ne_of_lt hlt) its.toArray
 refine call_sum_walk (wpAny_pyIter_tuple pl ⟨_,_,_,_,_,_,λi=>is.getD i 0,rfl,W,⟨⟨_,Heap.get?_push_size _ rfl,rfl,rfl⟩,?_⟩,?_,?_,?_,λh' tk t' hk=>?_⟩)
 ·obtain ⟨o,ho,r'⟩:=pl
  exact ⟨o,Heap.get?_push_of_some _ ho,r'⟩
 ·intro b hb
  show b < (s.heap.push _).objs.size
  rw [Heap.size_push]
  simp only [List.mem_cons,List.not_mem_nil,or_false] at hb
  rcases hb with rfl | rfl
  ·exact Nat.lt_succ_self _
  ·exact Nat.lt_succ_of_lt hlt
 ·intro i v e
  exact hg i v (by rw [<-e];simp)
 ·intro j hj
  rw [List.size_toArray,hl] at hj
  rw [q1F is (j+1) hj]
  exact hf j hj
 ·have I2:=Inv.walked (s:=s) (tk:=tk) I hk
  refine ⟨.int (isum is),H,I2,⟨t',?_⟩,q⟩
  rw [List.size_toArray,hl,q1F is is.length (Nat.le_refl _),List.take_length]
end
section
variable {T:Tb} {X:Cx}
def j1B:List D->Out D
 | [.tup ds]=>(match q2j ds with | some is=>if q4b is=true then .ok (.int (isum is)) else .bad | none=>.bad)
 | _=>.bad
theorem j1H (hc:X.calm=true):CaD T X (.builtin "sum") j1B:=λE=>⟨_,q7y hc,λds vs σ H Q r h=>by
 unfold j1B at h
 split at h
 ·rename_i ds'
  obtain ⟨v,rfl,a,ws,rfl,fz,rl⟩:=r.one
  cases q:q2j ds' with
  | none=>rw [q] at h;exact h.elim
  | some is=>
   rw [q] at h
   have h:Acc T X E σ H (if q4b is=true then .ok (.int (isum is)) else .bad) (kE T X.K H Q):=h
   by_cases c:q4b is=true
   ·rw [if_pos c] at h
    obtain rfl:=q1V q rl
    exact ⟨a,is,rfl,fz,q3i c,h _ H (Same.refl H) rfl⟩
   ·rw [if_neg c] at h;exact h.elim
 ·exact h.elim⟩
end
section
variable {K:Type} [DecidableEq K]
def inK (σ:List K) (k:K):Bool:=σ.any λx=>decide (x=k)
def q31 (σ:List K) (k:K):List K:=if inK σ k=true then σ else σ++[k]
def dk (ks:List K):List K:=ks.foldl q31 []
theorem j06 (ks:List K) (k:K):dk (ks++[k])=q31 (dk ks) k:=by
 unfold dk;rw [List.foldl_append];rfl
theorem q4I {σ:List K} {k:K}:inK σ k=true↔k∈σ:=by
 unfold inK;simp
theorem q7i {σ:List K} {v k:K}:k∈q31 σ v↔k∈σ∨k=v:=by
 unfold q31
 split
 ·rename_i h
  rw [q4I] at h
  constructor
  ·exact .inl
  ·rintro (z | rfl)
   ·exact z
   ·exact h
 ·simp
theorem q9J (σ:List K) (v k:K):inK (q31 σ v) k=(inK σ k || decide (k=v)):=by
 rw [Bool.eq_iff_iff,q4I,q7i,Bool.or_eq_true,q4I,decide_eq_true_eq]
theorem q5A (σ:List K) (v:K):(q31 σ v).length=if inK σ v=true then σ.length else σ.length+1:=by
 unfold q31
 split<;>simp
theorem q5H:∀(ks σ:List K),(ks.foldl q31 σ).length<=σ.length+ks.length
 | [],σ=>Nat.le_refl _
 | k::ks,σ=>by
  have h1:=q5H ks (q31 σ k)
  have h2:=q5A σ k
  rw [List.foldl_cons,List.length_cons]
  split at h2<;>omega
theorem j2H (ks:List K):(dk ks).length<=ks.length:=by
 have:=q5H ks []
 simpa [dk] using this
end
section
variable {K:Type} [DecidableEq K] {P:Program} {w:World} {knd:PySem.KeyKind P w K}
theorem q5u {h:Heap} {a:Addr} {S S':K->Bool} {n n':Nat} (x:h.SetOf knd a S n) (e1:∀k,S k=S' k) (e2:n=n'):h.SetOf knd a S' n':=by
 cases funext e1;cases e2;exact x
def j0h (knd:PySem.KeyKind P w K) (items:Array Value) (ks:List K):Prop:=items.size=ks.length/\∀(i:Nat) (v:Value),items[i]?=some v->∃k,ks[i]?=some k/\knd.is k v=true/\v.scannable=true
theorem q6Q {ks:List K} {i:Nat} {k:K} (h:ks[i]?=some k):ks.take (i+1)=ks.take i++[k]:=by
 obtain ⟨hi,e⟩:=List.getElem?_eq_some_iff.mp h
 rw [List.take_succ_eq_append_getElem hi,e]
section
variable {A:Around} {R:Result->Shared->Prop} {J:Addr} {fp wr:List Addr} {G:Array GenState->Array GenState->Prop} {St:Nat->Shared->Prop}
theorem q2Q {S:Addr} {G:Array GenState->Array GenState->Prop} {wr:List Addr} {s s':Shared} {f:K->Bool} {n:Nat} (h:s.heap.SetOf knd S f n) (m:Moved wr G s s') (hS:S∉wr):s'.heap.SetOf knd S f n:=by
 obtain ⟨o,es,ep,t,ho,more⟩:=h
 exact ⟨o,es,ep,t,m.heap S _ hS ho,more⟩
theorem q80 {items:Array Value} {ks:List K} (W:WalksS P w A.in1 J fp wr G items.size (λi v=>items[i]?=some v) St) (S:Addr) (hSf:S∉fp) (hk:j0h knd items ks) (hb:ks.length+1 < scanBound) :
 ∀(m i:Nat) (s:Shared),i+m=items.size->St i s->s.heap.SetOf knd S (inK (dk (ks.take i))) (dk (ks.take i)).length ->
  (∀s',Moved (S::wr) G s s'->s'.heap.SetOf knd S (inK (dk ks)) (dk ks).length->R (.ok (.ret .none)) s')->codeAny (model P w) A (.builtin "set.update.loop" ⟨[.ref S,.ref J],[]⟩) R s:=by
 have nw:S∉wr:=λz=>hSf (W.sub _ z)
 have more:∀b∈wr,b∈S::wr:=λb z=>List.mem_cons_of_mem _ z
 intro m
 induction m with
 | zero=>
  intro i s hi hst hset fin
  obtain rfl:i=items.size:=by omega
  refine codeAny_builtin PyProof.Rows.F.entry_set_update_loop ?_
  rw [Around.under_plainId PyProof.Rows.F.plain_set_update_loop _]
  show wpAny _ A.in1 (pyNext (.ref J) >>= _) _ _ s
  refine wpAny_bind (W.done s _ _ hst λs' mv=>?_)
  show wpAny _ A.in1 (ret Value.none) _ _ s'
  refine wpAny_pure (fin s' (mv.mono more) ?_)
  have:=q2Q hset mv nw
  rwa [List.take_of_length_le (by rw [hk.1];exact Nat.le_refl _)] at this
 | succ m ih=>
  intro i s hi hst hset fin
  refine codeAny_builtin PyProof.Rows.F.entry_set_update_loop ?_
  rw [Around.under_plainId PyProof.Rows.F.plain_set_update_loop _]
  show wpAny _ A.in1 (pyNext (.ref J) >>= _) _ _ s
  refine wpAny_bind (W.item i s _ _ (by omega) hst λv s' hv hst' mv=>?_)
  obtain ⟨k,ek,isk,sck⟩:=hk.2 i v hv
  have hset':=q2Q hset mv nw
  show wpAny _ A.in1 (holding [v] (setAdd S v) >>= _) _ _ s'
  refine wpAny_bind (wpAny_holding ?_)
  unfold setAdd
  refine wpAny_holding (wpAny_bind (knd.pyHash (k:=k) isk ?_))
  have room:(dk (ks.take i)).length+1 < scanBound:=by
   have:=j2H (ks.take i)
   rw [List.length_take] at this;omega
  refine wpAny_setAddHashed_of (knd:=knd) (s:={ s' with toks:=s'.toks+1 }) isk sck hset' room λh' sb hset2=>?_
  have hset3:h'.SetOf knd S (inK (dk (ks.take (i+1)))) (dk (ks.take (i+1))).length:=by
   rw [q6Q ek,j06]
   exact q5u hset2 (λq=>(q9J _ _ _).symm) (q5A _ _).symm
  refine wpAny_pure ⟨plainId_quiet PyProof.Rows.F.plain_set_update_loop _,ih (i+1) _ (by omega) (W.frame _ s' _ _ hst' (Nat.le_succ _) λb hb' o e=>?_) hset3 λs2 mv2 hs2=>fin s2 ?_ hs2⟩
  ·rw [sb.2 b (λz:b=S=>hSf (z ▸ hb'))];exact e
  ·refine Moved.trans W.gtrans ((mv.mono more).then_heap (Nat.le_succ _) λb o hb' e=>?_) mv2
   rw [sb.2 b (λz:b=S=>hb' (z ▸ List.mem_cons_self))];exact e
end
section
variable {A:Around} {E:Value->Shared->Prop} {s:Shared}
set_option maxHeartbeats 3200000 in
theorem q9A {l:Addr} {items:Array Value} {ks:List K} {Q:Value->Shared->Prop} (hh:A.handled=none) (hl:s.heap.IsList l items) (hk:j0h knd items ks) (hb:ks.length+1 < scanBound)
 (fin:∀(h':Heap) (tk:Nat),h'.SetOf knd s.heap.objs.size (inK (dk ks)) (dk ks).length->(∀b o,s.heap.get? b=some o->h'.get? b=some o)->Q (.ref s.heap.objs.size) { s with heap:=h',toks:=tk }) :
 wpAny (model P w) A (call (.type "set") [.ref l]) Q E s:=by
 obtain ⟨c,tl,mro⟩:=PySem.F.called_set.mro
 have made:=PySem.F.called_set.made
 have subs:=PySem.F.called_set.sub
 refine wpAny_call (codeAny_of_tree ?_)
 show wpAny _ _ (callAny (.type "set") _) _ _ _
 refine wpAny_pure ⟨Code.quiet_builtin _ (by decide +kernel),codeAny_builtin PySem.F.entry_type_call ?_⟩
 rw [Around.under_plain (weight_type_call_type "set" [.ref l] []) rfl]
 have notT:=PySem.F.called_set.notType
 have canC:=PySem.F.called_set.canCreate
 have tcall:=PySem.F.typeCall_set_1 (.ref l)
 repeat (any_goals (first | assumption | wp_step))
 refine codeAny_mono (code_set_new_1 (.ref l) (E:=E) (Q₁:=λobj s₁=>∃led:Bool,obj=.ref s.heap.objs.size/\s₁={ s with heap:=s.heap.push { cls:=.type "set",dict:=none,data:=.set #[] 0 (.fresh 0 0 led) } }) λled=>⟨led,rfl,rfl⟩) λr s₁ hr=>?_
 rcases r with e | fl
 ·exact hr
 rcases fl with _ | _ | _ | obj
 any_goals exact hr.elim
 obtain ⟨led,rfl,rfl⟩:=hr
 generalize hO:({ cls:=.type "set",dict:=none,data:=.set #[] 0 (.fresh 0 0 led) }:Obj)=O
 have gO:(s.heap.push O).get? s.heap.objs.size=some O:=Heap.get?_push_size _ (by rw [<-hO];rfl)
 have tO:Shared.TypeIs { s with heap:=s.heap.push O } (.ref s.heap.objs.size) "set":=⟨_,gO,by rw [<-hO]⟩
 have look:=PySem.F.called_set.init.lookup
 have bnd:=PySem.F.called_set.init.bind (.ref s.heap.objs.size)
 repeat (any_goals (first | assumption | wp_step))
 refine codeAny_mono (codeAny_call_builtin (R:=wants (λr s₂=>r=.none/\∃h' tk,s₂={ s with heap:=h',toks:=tk }/\h'.SetOf knd s.heap.objs.size (inK (dk ks)) (dk ks).length/\∀b o,s.heap.get? b=some o->h'.get? b=some o) E) PySem.F.called_set.init.plain PySem.F.entry_set_init (check_set_init_1 tO ?_)) λr₂ s₂ hr₂=>?_
 ·obtain ⟨⟨oc,od,odt,osl⟩,ho,hc,n,hd⟩:=hl
  simp only at hc hd
  subst hc hd
  have lt:l < s.heap.objs.size:=Heap.lt_size ho
  have ho':(s.heap.push O).get? l=some { cls:=.type "list",dict:=od,data:=.seq items n,slots:=osl }:=Heap.get?_push_of_some _ ho
  have n1:=PySem.F.sub_list_set
  have n2:=PySem.F.sub_list_frozenset
  have n3:(Value.type "list"==Value.type "dict")=false:=by decide
  have isl:(s.heap.push O).IsList l items:=⟨_,ho',rfl,n,rfl⟩
  have sz:(s.heap.push O).objs.size=s.heap.objs.size+1:=Heap.size_push ..
  subst hO
  unfold Builtin.«set.__init__» noKeywords Builtin.Frozenset.updateFrom
  generalize hPI:pyIter=PI
  wp_walk
  subst hPI
  refine wpAny_pyIter_list isl ?_
  refine wpAny_bind (wpAny_runValue ?_)
  have h3:A.in1.in1.in1.handled=none:=by simp [hh]
  have ne1:l≠(s.heap.push { cls:=.type "set",dict:=none,data:=.set #[] 0 (.fresh 0 0 led) }).objs.size:=by rw [sz];exact Nat.ne_of_lt (Nat.lt_succ_of_lt lt)
  have nf:s.heap.objs.size∉[(s.heap.push { cls:=.type "set",dict:=none,data:=.set #[] 0 (.fresh 0 0 led) }).objs.size,l]:=by
   rw [sz];simp only [List.mem_cons,List.not_mem_nil,or_false,not_or]
   exact ⟨Nat.ne_of_lt (Nat.lt_succ_self _),Nat.ne_of_gt lt⟩
  refine q80 ((Walks.list h3 _ l ne1 items).toS) s.heap.objs.size nf hk hb items.size 0 _ (by simp) ⟨⟨_,Heap.get?_push_size _ rfl,rfl,rfl⟩,isl.push _⟩ ?_ λs' mv hs'=>?_
  ·exact q5u ((PyProof.Rows.setObjOf_fresh (knd:=knd) led).setOf (Heap.get?_push_of_some _ gO) (by unfold scanBound;omega)) (λ_=>rfl) rfl
  ·obtain ⟨h',g',d',tk',os'⟩:=s'
   obtain rfl:g'=s.gens:=mv.gens
   obtain rfl:d'=s.drawn:=mv.drawn
   obtain rfl:os'=s.os:=mv.os
   refine wpAny_pure (?_:wpAny _ _ (ret Value.none) _ _ _)
   refine wpAny_pure ⟨rfl,h',tk',rfl,hs',λb o e=>?_⟩
   have hb0:=Heap.lt_size e
   exact mv.heap b o (by rw [sz];simp only [List.mem_cons,List.not_mem_nil,or_false,not_or];exact ⟨Nat.ne_of_lt hb0,Nat.ne_of_lt (Nat.lt_succ_of_lt hb0)⟩) (Heap.get?_push_of_some _ (Heap.get?_push_of_some _ e))
 ·rcases r₂ with e | fl₂
  ·exact hr₂
  rcases fl₂ with _ | _ | _ | r
  any_goals exact hr₂.elim
  obtain ⟨rfl,h',tk,rfl,hs',kk⟩:=hr₂
  repeat (any_goals (first | assumption | wp_step))
  exact fin _ _ hs' kk
end
end
section
variable {X:Cx} {pins:List (Addr×Obj)} {σ:L2.St} {H:Hp} {s:Shared}
theorem Inv.enter {ea:Addr} {φ:Heap->Prop} {ob:Obj} (I:Inv X pins σ H s) (hn:H ea=none) (fe:Free X pins ea) (ho:s.heap.get? ea=some ob) (hφ:φ s.heap) (st:∀h1 h2:Heap,φ h1->(∀o,h1.get? ea=some o->h2.get? ea=some o)->φ h2) :
 Inv X pins σ (upd H ea (.ext φ)) s:=by
 obtain ⟨f1,f2,f3,f4⟩:=fe
 have ne:∀b o,H b=some o->b≠ea:=λb o e z=>by rw [z,hn] at e;cases e
 refine ⟨I.ok,I.os,I.bare,⟨I.base.keep,I.base.slot,λb o e n hx=>?_,I.base.there,λb xs e=>?_,λb o v e=>?_,λb ps e=>?_⟩,I.loc,I.cell,?_,λy cc e=>?_,λp hp=>?_,λb o e=>?_,I.len⟩
 ·rw [q0h (λz=>?_)]
  ·exact I.base.free b o e n hx
  ·rcases f1 with f1 | f1
   ·exact hx (z ▸ f1)
   ·rw [z] at e;rw [f1] at e;cases e
 ·have q:=I.base.tups b xs e;rw [q0h (ne b _ q)];exact q
 ·have q:=I.base.frzs b o v e;rw [q0h (ne b _ q)];exact q
 ·obtain ⟨more,q⟩:=I.base.tbls b ps e
  exact ⟨more,by rw [q0h (ne b _ q)];exact q⟩
 ·rw [q0h (Ne.symm f2)];exact I.free
 ·rw [q0h (f3 y cc e)];exact I.freeC y cc e
 ·obtain ⟨a1,a2,a3⟩:=I.pin p hp
  exact ⟨a1,by rw [q0h (f4 p hp)];exact a2,a3⟩
 ·have ow:∀b y,H b=some (.own y)->upd H ea (.ext φ) b=some (.own y):=λb y q=>by rw [q0h (ne b _ q)];exact q
  have tu:∀b y,H b=some (.tup y)->upd H ea (.ext φ) b=some (.tup y):=λb y q=>by rw [q0h (ne b _ q)];exact q
  by_cases hb:b=ea
  ·subst hb
   rw [q0p] at e;cases e
   exact ⟨hφ,⟨ob,ho⟩,st⟩
  ·rw [q0h hb] at e
   exact (I.hok b o e).stay (λ_ _ _ q=>q) (λcc=>ow cc _) tu
theorem q9O (I:Inv X pins σ H s) {b:Addr} (hb:s.heap.objs.size<=b):Free X pins b:=q4S I (Heap.get?_none_of_le hb)
end
section
variable {K:Type} [DecidableEq K] {X:Cx} {knd:PySem.KeyKind X.prog X.w K}
def q8s (knd:PySem.KeyKind X.prog X.w K) (p:Addr) (ks:List K) (h:Heap):Prop:=h.SetOf knd p (inK (dk ks)) (dk ks).length
theorem q9h {p:Addr} {ks:List K} {h1 h2:Heap} (x:q8s knd p ks h1) (k:∀o,h1.get? p=some o->h2.get? p=some o):q8s knd p ks h2:=by
 obtain ⟨o,es,ep,t,ho,more⟩:=x
 exact ⟨o,es,ep,t,k _ ho,more⟩
theorem Free.later {pins:List (Addr×Obj)} {σ:L2.St} {H:Hp} {s:Shared} (I:Inv X pins σ H s):Free X pins s.heap.objs.size:=q9O I (Nat.le_refl _)
theorem q6H {kv:K->V} (hc:X.calm=true) (hkv:∀(k:K) (v:Value),RelV (kv k) v->knd.is k v=true/\v.scannable=true):CallR X (.type "set") (λxs H Q=>∃(a:Addr) (ks:List K),xs=[.ref a]/\SqL X.K H a (ks.map kv)/\ks.length<=4000/\∀p,H p=none->Q (.ref p) (upd H p (.ext (q8s knd p ks)))):=by
 intro pins s σ H xs us Q I rv h
 obtain ⟨a,ks,rfl,hq,hl,q⟩:=h
 obtain ⟨u,rfl,ru⟩:=rv.one
 cases ru
 obtain ⟨its,r,pl,hz⟩:=I.list hq
 have len:=r.length
 rw [List.length_map] at len
 have fr:=I.fresh
 refine q9A (knd:=knd) (items:=its.toArray) (ks:=ks) (I.ok.hd hc) pl.isList ⟨by simp [len],λi v e=>?_⟩ (by unfold scanBound;omega) λh' tk hs kk=>?_
 ·have e':its[i]?=some v:=by simpa using e
  obtain ⟨hi,e2⟩:=List.getElem?_eq_some_iff.mp e'
  have hi':i < ks.length:=by omega
  obtain ⟨u,hu,ru⟩:=r.get (show (ks.map kv)[i]?=some (kv ks[i]) by simp [hi'])
  rw [e'] at hu;cases hu
  exact ⟨ks[i],by simp [hi'],hkv _ _ ru⟩
 ·have I2:Inv X pins σ H { s with heap:=h',toks:=tk }:=I.kept kk
  have f2:Free X pins s.heap.objs.size:=Free.later I
  obtain ⟨o,es,ep,t,ho,more⟩:=hs
  have hs':q8s knd s.heap.objs.size ks h':=⟨o,es,ep,t,ho,more⟩
  exact ⟨.ref s.heap.objs.size,_,Inv.enter I2 fr f2 ho hs' (λh1 h2 x k=>q9h x k),rfl,q _ fr⟩
theorem q4J:CallR X (.builtin "len") (λxs H Q=>∃(a:Addr) (ks:List K) (φ:Heap->Prop),xs=[.ref a]/\H a=some (.ext φ)/\(∀h,φ h->q8s knd a ks h)/\ks.length<=4000/\Q (.int (dk ks).length) H):=by
 intro pins s σ H xs us Q I rv h
 obtain ⟨a,ks,φ,rfl,ha,hφ,hl,q⟩:=h
 obtain ⟨u,rfl,ru⟩:=rv.one
 cases ru
 obtain ⟨p,_⟩:=(show ObjOk X.prog X.w H s.heap a (.ext φ) from I.hok a _ ha)
 obtain ⟨o,es,ep,t,ho,hex,hd,hel,hmem,hb,hf,hn⟩:=hφ _ p
 have:=j2H ks
 refine call_len_set ho hex hd hf (by rw [hn];omega) ?_
 rw [hn]
 exact ⟨.int _,H,I.tok _,⟨_,rfl⟩,q⟩
end
section
variable {T:Tb} {X:Cx} {e:Expr} {pos p pos2 p2:Pos} {fl:Ro->Out (List D)}
@[simp] def q8k (fl:Ro->Out (List D)) (ρ:Ro):Out D:=(fl ρ).bind λds=>match q3L ds with
 | some ts=>if ts.length<=4000 then .ok (.int (dk ts).length) else .bad
 | none=>.bad
theorem q7T (hc:X.calm=true) (hg:Gl X "len") (hm:X.mg "len" = none) (hg2:Gl X "set") (hm2:X.mg "set" = none) (hl:DL T X e fl)
 (hs:starEach [e] X.env=(false,eval e X.env)::starEach [] X.env:=by exact q0w rfl) (hpl:(backTo pos2 (starEach ([]:List Expr) X.env)).any (·.1)=false:=by exact q0z rfl)
 (hsO:starEach [.Call (.Name "set" p2) [e] [] pos2] X.env=(false,eval (.Call (.Name "set" p2) [e] [] pos2) X.env)::starEach [] X.env:=by exact q0w rfl) (hplO:(backTo pos (starEach ([]:List Expr) X.env)).any (·.1)=false:=by exact q0z rfl) :
 DE T X (.Call (.Name "len" p) [.Call (.Name "set" p2) [e] [] pos2] [] pos) (q8k fl):=.mk λG E hp=>
 PE.imp (q2M (X:=X.wish E) (q4J (X:=X.wish E) (knd:=strKind (X.wish E).prog (X.wish E).w)) hg hm rfl (q0C (X:=X.wish E) (q1K (X:=X.wish E) (q6H (X:=X.wish E) (knd:=strKind (X.wish E).prog (X.wish E).w) (kv:=V.str) hc (λk v r=>by
  obtain ⟨t,rfl⟩:=r
  exact ⟨strKind_is _ _ _ _,rfl⟩)) hg2 hm2 rfl (q0C (X:=X.wish E) (hl.run G E hp) q0Y hs) (by decide) (by decide) hs hpl) q0Y hsO) (by decide) (by decide) hsO hplO) fun σ H Q ⟨ρ,fr,h⟩=>⟨ρ,fr,Acc.mono (Acc.bind h) λds _ hd l vs H1 s1 sq r=>by
  cases q:q3L ds with
  | none=>rw [q] at hd;exact hd.elim
  | some ts=>
   rw [q] at hd
   have hd:Acc T X E σ H (if ts.length<=4000 then Out.ok (.int (dk ts).length) else .bad) (kE T X.K H Q):=hd
   by_cases z:ts.length<=4000
   ·rw [if_pos z] at hd
    obtain rfl:=q2U q r
    exact ⟨l,ts,rfl,sq,z,λp hp=>⟨p,ts,_,rfl,q0p,λh x=>x,z,hd _ _ (s1.trans (q0A hp)) rfl⟩⟩
   ·rw [if_neg z] at hd;exact hd.elim⟩
end
@[simp] def w2R (ρ:Ro):Out D:=.bad
theorem w2f {T:Tb} {X:Cx} {e:Expr}:DE T X e w2R:=.mk λG E hp pins s σ H Q I ⟨ρ,fr,h⟩=>h.elim
def q11 (tu:Bool) (l:Addr):Obj:={ cls:=.type (if tu then "tuple_iterator" else "list_iterator"),data:=.fields #[.ref l,.int 0 0] }
def q1H (it:Addr) (i:Int) (old:Value):Obj:={ cls:=.type "enumerate",data:=.fields #[.none,.bool false,.ref it,rawInt i,.none,old] }
def IsSq (tu:Bool) (h:Heap) (l:Addr) (its:Array Value):Prop:=if tu=true then h.IsTuple l its else h.IsList l its
theorem q3U {P:Program} {w:World} {A:Around} {E:Value->Shared->Prop} {s:Shared} {tu:Bool} {l:Addr} {its:Array Value} {Q:Value->Shared->Prop} (h:IsSq tu s.heap l its) (q:Q (.ref s.heap.objs.size) { s with heap:=s.heap.push (q11 tu l) }):wpAny (model P w) A (pyIter (.ref l)) Q E s:=by
 cases tu with
 | true=>exact wpAny_pyIter_tuple h q
 | false=>exact wpAny_pyIter_list h q
set_option maxHeartbeats 2000000 in
theorem q9s (tu:Bool) (l:Addr) (its:Array Value) (t:Tok) :
 Meets (Builtin.«enumerate.__new__» ⟨[.type "enumerate",.ref l],[(("start" : Str),.int 1 t)]⟩) (λ_ R s=>IsSq tu s.heap l its /\
  R (.ok (.ret (.ref (s.heap.objs.size+1)))) { s with heap:=(s.heap.push (q11 tu l)).push (q1H s.heap.objs.size 1 .none) }):=
 .of_wp λprog w A R s h=>by
  obtain ⟨hp,g,d,tk,os⟩:=s
  obtain ⟨hl,h⟩:=h
  have sub:=sub_enumerate
  have sz:(hp.push (q11 tu l)).objs.size=hp.objs.size+1:=Heap.size_push ..
  wp_walk
  refine wpAny_stack_any λst=>wpAny_pure ?_
  split
  ·rename_i c _ _ _ _ _
   cases (c==Value.type "enumerate")<;>(wp_walk using q3U hl;exact ⟨_,rfl,by simp only [sz];exact h⟩)
  ·wp_walk using q3U hl
   exact ⟨_,rfl,by simp only [sz];exact h⟩
def IsIt (tu:Bool) (h:Heap) (it l:Addr) (i:Nat):Prop:=if tu=true then h.IsTupleIter it l i else h.IsListIter it l i
section
variable {P:Program} {w:World} {A:Around} {E:Value->Shared->Prop} {s:Shared} {tu:Bool} {it l e:Addr} {i:Nat} {its:Array Value}
theorem IsIt.kept {h h':Heap} (x:IsIt tu h it l i) (k:∀o,h.get? it=some o->h'.get? it=some o):IsIt tu h' it l i:=by
 cases tu with
 | true=>
  obtain ⟨o,ho,r⟩:=(x:h.IsTupleIter it l i)
  exact (⟨o,k o ho,r⟩:h'.IsTupleIter it l i)
 | false=>
  obtain ⟨o,ho,r⟩:=(x:h.IsListIter it l i)
  exact (⟨o,k o ho,r⟩:h'.IsListIter it l i)
theorem IsIt.obj {h:Heap} (x:IsIt tu h it l i):∃o,h.get? it=some o/\∃vs,o.data=.fields vs:=by
 cases tu with
 | true=>
  obtain ⟨o,ho,_,d⟩:=(x:h.IsTupleIter it l i)
  exact ⟨o,ho,_,d⟩
 | false=>
  obtain ⟨o,ho,_,d⟩:=(x:h.IsListIter it l i)
  exact ⟨o,ho,_,d⟩
theorem IsSq.kept {h h':Heap} (x:IsSq tu h l its) (k:∀o,h.get? l=some o->h'.get? l=some o):IsSq tu h' l its:=by
 cases tu with
 | true=>
  obtain ⟨o,ho,r⟩:=(x:h.IsTuple l its)
  exact (⟨o,k o ho,r⟩:h'.IsTuple l its)
 | false=>
  obtain ⟨o,ho,r⟩:=(x:h.IsList l its)
  exact (⟨o,k o ho,r⟩:h'.IsList l its)
theorem q6h {x:Value} {Q:Value->Shared->Prop} (a:s.heap.IsTupleIter it l i) (b:s.heap.IsTuple l its) (c:its[i]?=some x) (q:∀h',h'.IsTupleIter it l (i+1)->Heap.SameBut it s.heap h'->Q x { s with heap:=h' }) :
 wpAny (model P w) A (Builtin.SmallTypes.nextOf (.ref it)) Q E s:=by
 obtain ⟨o,ho,hcl,hd⟩:=id a
 obtain ⟨ot,hot,_,n,hdt⟩:=b
 unfold Builtin.SmallTypes.nextOf
 refine wpAny_bind (wpAny_callSpecial?_slot (name:=Str.ofString "__next__") a.typeIs PySem.F.slot_tuple_iterator_next (wpAny_call_entry PySem.F.slot_tuple_iterator_next a.typeIs PySem.F.entry_tuple_iterator_next (show wpAny _ _ (field (.ref it) 0 >>= _) _ _ s from wpAny_bind (wpAny_field ho hd (x:=.ref l) rfl ?_)) (PySem.F.args_tuple_iterator_next_1 _)))
 show wpAny _ _ (if (Value.ref l==.none)=true then _ else field (.ref it) 1 >>= _) _ _ s
 rw [if_neg (λz=>by cases z)]
 refine wpAny_bind (wpAny_field ho hd (x:=.int i 0) rfl (show wpAny _ _ (seqItems? (.ref l) >>= _) _ _ s from wpAny_bind (wpAny_seqItems hot hdt ?_)))
 simp only [Int.toNat_natCast,c]
 refine wpAny_bind (wpAny_setField ho hd (by simp) (wpAny_pure ⟨x,rfl,wpAny_pure (q _ ⟨_,Heap.get?_update_self _ ho (Obj.isFreed_of_fields (Obj.data_mapFields hd _)),(Obj.cls_mapFields ..).trans hcl,?_⟩ (Heap.SameBut.update ..))⟩))
 rw [Obj.data_mapFields hd]
 simp [rawInt]
end
section
variable {P:Program} {w:World} {A:Around} {E:Value->Shared->Prop} {s:Shared} {tu:Bool} {it l e:Addr} {i:Nat} {its:Array Value}
theorem q6S {Q:Value->Shared->Prop} (hh:A.handled=none) (a:s.heap.IsTupleIter it l i) (b:s.heap.IsTuple l its) (c:its[i]?=none)
 (q:∀h' e,Heap.ExtBut it s.heap h'->(∃o,h'.get? e=some o/\o.cls=.type "StopIteration")->E (.ref e) { s with heap:=h' }):wpAny (model P w) A (Builtin.SmallTypes.nextOf (.ref it)) Q E s:=by
 obtain ⟨o,ho,hcl,hd⟩:=id a
 obtain ⟨ot,hot,_,n,hdt⟩:=b
 unfold Builtin.SmallTypes.nextOf
 refine wpAny_bind (wpAny_callSpecial?_slot (name:=Str.ofString "__next__") a.typeIs PySem.F.slot_tuple_iterator_next (wpAny_call_entry PySem.F.slot_tuple_iterator_next a.typeIs PySem.F.entry_tuple_iterator_next (show wpAny _ _ (field (.ref it) 0 >>= _) _ _ s from wpAny_bind (wpAny_field ho hd (x:=.ref l) rfl ?_)) (PySem.F.args_tuple_iterator_next_1 _)))
 show wpAny _ _ (if (Value.ref l==.none)=true then _ else field (.ref it) 1 >>= _) _ _ s
 rw [if_neg (λz=>by cases z)]
 refine wpAny_bind (wpAny_field ho hd (x:=.int i 0) rfl (show wpAny _ _ (seqItems? (.ref l) >>= _) _ _ s from wpAny_bind (wpAny_seqItems hot hdt ?_)))
 simp only [Int.toNat_natCast,c]
 refine wpAny_bind (wpAny_rule (wpAny_bind (wpAny_setField ho hd (by simp) (show wpAny _ _ (newExc (.type "StopIteration") [] >>= _) _ _ _ from wpAny_bind ?_))))
 simp only [newExc,newTuple]
 refine wpAny_bind (wpAny_newObj_type (wpAny_bind (m:=firstArgMember _ _) (wpAny_of_eq (a:=Value.none) (by first | rfl | (simp only [firstArgMember];rfl)) (wpAny_newObj_type ?_ (by size_fits)))) (by size_fits))
 simp only [raiseNew]
 refine wpAny_bind (wpAny_handled ?_)
 first | rw [show A.in1.handled=none from hh] | rw [hh]
 exact wpAny_bind (wpAny_pure (wpAny_throw (q _ _ (((Heap.SameBut.update ..).extBut.push _).push _) ⟨_,Heap.get?_push_size _ rfl,rfl⟩)))
theorem q3K {x:Value} {Q:Value->Shared->Prop} (a:IsIt tu s.heap it l i) (b:IsSq tu s.heap l its) (c:its[i]?=some x) (q:∀h',IsIt tu h' it l (i+1)->Heap.SameBut it s.heap h'->Q x { s with heap:=h' }) :
 wpAny (model P w) A (Builtin.SmallTypes.nextOf (.ref it)) Q E s:=by
 cases tu with
 | true=>exact q6h a b c q
 | false=>exact wpAny_nextOf_list_item a b c q
theorem q7h {Q:Value->Shared->Prop} (hh:A.handled=none) (a:IsIt tu s.heap it l i) (b:IsSq tu s.heap l its) (c:its[i]?=none)
 (q:∀h' e,Heap.ExtBut it s.heap h'->(∃o,h'.get? e=some o/\o.cls=.type "StopIteration")->E (.ref e) { s with heap:=h' }):wpAny (model P w) A (Builtin.SmallTypes.nextOf (.ref it)) Q E s:=by
 cases tu with
 | true=>exact q6S hh a b c q
 | false=>exact wpAny_nextOf_list_end hh a b c q
def q9i (it:Addr) (n:Int) (x:Value) (a:Addr):Obj:={ cls:=.type "enumerate",data:=.fields #[rawInt a,.bool false,.ref it,rawInt n,.none,x] }
theorem j1g {n:Int} {x old:Value} {Q:Option Value->Shared->Prop} (he:s.heap.get? e=some (q1H it n old)) (a:IsIt tu s.heap it l i) (b:IsSq tu s.heap l its) (c:its[i]?=some x) (ne:e≠it)
 (q:∀h',h'.get? e=some (q9i it (n+1) x s.heap.objs.size)->IsIt tu h' it l (i+1)->h'.get? s.heap.objs.size=some { cls:=.type "tuple",data:=.seq #[.int n s.toks,x] } ->
  (∀b o,b≠e->b≠it->s.heap.get? b=some o->h'.get? b=some o)->Q (some (.ref s.heap.objs.size)) { s with heap:=h',toks:=s.toks+1 }):wpAny (model P w) A (pyNext (.ref e)) Q E s:=by
 have ty:s.TypeIs (.ref e) "enumerate":=⟨_,he,rfl⟩
 unfold pyNext
 refine wpAny_bind (wpAny_attempt (wpAny_callSpecial?_slot (name:=Str.ofString "__next__") ty PySem.F.slot_enumerate_next (wpAny_call_entry PySem.F.slot_enumerate_next ty PySem.F.entry_enumerate_next ?_ (PySem.F.args_enumerate_next_1 _))))
 obtain ⟨hp,g,d,tk,os⟩:=s
 refine wpAny_bind (m:=field (.ref e) 2) (wpAny_field he rfl (x:=.ref it) rfl (wpAny_bind (q3K a b c λh1 a1 sb1=>?_)))
 have sb1:Heap.SameBut it hp h1:=sb1
 have e1:h1.get? e=some (q1H it n old):=(sb1.2 e ne).trans he
 refine wpAny_bind (m:=field (.ref e) 3) (wpAny_field (s:=⟨h1,g,d,tk,os⟩) e1 rfl (x:=rawInt n) rfl (wpAny_bind (m:=field (.ref e) 4) (wpAny_field (s:=⟨h1,g,d,tk,os⟩) e1 rfl (x:=.none) rfl ?_)))
 refine wpAny_bind (m:=mkInt n) (wpAny_mkInt (wpAny_bind (m:=setField (.ref e) 3 (rawInt (n+1))) (wpAny_setField_rec e1 (by simp) λh2 e2 sb2=>?_)))
 have sb2:Heap.SameBut e h1 h2:=sb2
 have e2:h2.get? e=some (q1H it (n+1) old):=e2
 refine wpAny_bind (m:=setField (.ref e) 4 .none) (wpAny_setField_rec (s:=⟨h2,g,d,tk+1,os⟩) e2 (by simp) λh3 e3 sb3=>?_)
 have sb3:Heap.SameBut e h2 h3:=sb3
 have e3:h3.get? e=some (q1H it (n+1) old):=e3
 refine wpAny_bind (m:=newTuple [.int n tk,x]) (wpAny_newTuple ?_)
 have sz:h3.objs.size=hp.objs.size:=by rw [sb3.1,sb2.1,sb1.1]
 have lt:e < hp.objs.size:=Heap.lt_size he
 obtain ⟨h4,hh4⟩:∃h4,h4=h3.push { cls:=.type "tuple",data:=.seq #[.int n tk,x] }:=⟨_,rfl⟩
 have e4:h4.get? e=some (q1H it (n+1) old):=by rw [hh4];exact Heap.get?_push_of_some _ e3
 have t4:h4.get? hp.objs.size=some { cls:=.type "tuple",data:=.seq #[.int n tk,x] }:=by rw [hh4,<-sz];exact Heap.get?_push_size _ rfl
 have a4:IsIt tu h4 it l (i+1):=a1.kept λo ho=>by
  rw [hh4];exact Heap.get?_push_of_some _ ((sb3.2 it (Ne.symm ne)).trans ((sb2.2 it (Ne.symm ne)).trans ho))
 have k4:∀b o,b≠e->b≠it->hp.get? b=some o->h4.get? b=some o:=λb o b1 b2 hb=>by
  rw [hh4];exact Heap.get?_push_of_some _ ((sb3.2 b b1).trans ((sb2.2 b b1).trans ((sb1.2 b b2).trans hb)))
 show wpAny _ _ (Builtin.SmallTypes.ownedTupleIsFree (.ref e) >>= _) _ _ ⟨h3.push { cls:=.type "tuple",data:=.seq #[.int n tk,x] },g,d,tk+1,os⟩
 rw [<-hh4,sz]
 clear hh4 sb1 sb2 sb3 e1 e2 e3 a1 sz
 refine wpAny_bind ?_
 unfold Builtin.SmallTypes.ownedTupleIsFree
 refine wpAny_bind (wpAny_field (s:=⟨h4,g,d,tk+1,os⟩) e4 rfl (x:=.none) rfl (wpAny_pure ?_))
 simp only [if_true]
 refine wpAny_bind (wpAny_rule (wpAny_bind (wpAny_field (s:=⟨h4,g,d,tk+1,os⟩) e4 rfl (x:=old) rfl (wpAny_bind (wpAny_setField_rec (s:=⟨h4,g,d,tk+1,os⟩) e4 (by simp) λh5 e5 sb5=>?_)))))
 have sb5:Heap.SameBut e h4 h5:=sb5
 have e5:h5.get? e=some (q1H it (n+1) x):=e5
 refine wpAny_bind (m:=Builtin.SmallTypes.ownedTupleHandOut (.ref e) (.ref hp.objs.size)) ?_
 unfold Builtin.SmallTypes.ownedTupleHandOut
 refine wpAny_bind (wpAny_setField_rec (s:=⟨h5,g,d,tk+1,os⟩) e5 (by simp) λh6 e6 sb6=>?_)
 have sb6:Heap.SameBut e h5 h6:=sb6
 have e6:h6.get? e=some (q9i it (n+1) x hp.objs.size):=e6
 refine wpAny_setField_rec (s:=⟨h6,g,d,tk+1,os⟩) e6 (by simp) λh7 e7 sb7=>?_
 have sb7:Heap.SameBut e h6 h7:=sb7
 have e7:h7.get? e=some (q9i it (n+1) x hp.objs.size):=e7
 have kk:∀b o,b≠e->h4.get? b=some o->h7.get? b=some o:=λb o b1 hb=>(sb7.2 b b1).trans ((sb6.2 b b1).trans ((sb5.2 b b1).trans hb))
 exact wpAny_bind (wpAny_letGo (wpAny_pure ⟨_,rfl,wpAny_pure (q h7 e7 (a4.kept λo ho=>kk it o (Ne.symm ne) ho) (kk _ _ (Nat.ne_of_gt lt) t4) λb o b1 b2 hb=>kk b o b1 (k4 b o b1 b2 hb))⟩))
theorem j4m {n:Int} {old:Value} {Q:Option Value->Shared->Prop} (hh:A.handled=none) (he:s.heap.get? e=some (q1H it n old)) (a:IsIt tu s.heap it l i) (b:IsSq tu s.heap l its) (c:its[i]?=none)
 (q:∀h',Heap.ExtBut it s.heap h'->Q none { s with heap:=h' }):wpAny (model P w) A (pyNext (.ref e)) Q E s:=by
 have ty:s.TypeIs (.ref e) "enumerate":=⟨_,he,rfl⟩
 unfold pyNext
 refine wpAny_bind (wpAny_attempt (wpAny_callSpecial?_slot (name:=Str.ofString "__next__") ty PySem.F.slot_enumerate_next (wpAny_call_entry PySem.F.slot_enumerate_next ty PySem.F.entry_enumerate_next ?_ (PySem.F.args_enumerate_next_1 _))))
 refine wpAny_bind (m:=field (.ref e) 2) (wpAny_field he rfl (x:=.ref it) rfl (wpAny_bind (q7h hh a b c λh' x ex ⟨o,ho,hc⟩=>?_)))
 exact wpAny_bind (wpAny_isInstance (T:="StopIteration") (b:=true) ⟨o,ho,hc⟩ isSubtype_stop (wpAny_pure (q _ ex)))
theorem w0w {elts:List Expr} {x1:Nat} {pos:Pos} {a:Addr} {n:Int} {x:Value} {Q:Unit->Shared->Prop} (he:s.heap.get? e=some (q9i it n x a)) (q:∀h',h'.get? e=some (q1H it n x)->Heap.SameBut e s.heap h'->Q () { s with heap:=h' }) :
 wpAny (model P w) A (letOwnedTupleGo (.Tuple elts x1 pos) (.ref e) (.ref a)) Q E s:=wpAny_letOwnedTupleGo_enum he q
theorem q61 {n:Int} {old:Value} {Q:Value->Shared->Prop} (he:s.heap.get? e=some (q1H it n old)) (h:Q (.ref e) s):wpAny (model P w) A (pyIter (.ref e)) Q E s:=wpAny_pyIter_enum he h
end
def SqE (K:PySem.W.Frag) (tu:Bool) (H:Hp) (a:Addr) (xs:List V):Prop:=if tu=true then SqT K H a xs else SqL K H a xs
theorem q1q {X:Cx} {pins:List (Addr×Obj)} {σ:L2.St} {H:Hp} {s:Shared} {tu:Bool} {a:Addr} {xs:List V} (I:Inv X pins σ H s) (h:SqE X.K tu H a xs):∃its:List Value,Vals xs its/\IsSq tu s.heap a its.toArray/\xs.length<=sizeLine:=by
 cases tu with
 | true=>
  obtain ⟨its,r,p,z⟩:=I.tuple (show SqT X.K H a xs from h)
  exact ⟨its,r,p,z⟩
 | false=>
  obtain ⟨its,r,p,z⟩:=I.list (show SqL X.K H a xs from h)
  exact ⟨its,r,p.isList,z⟩
theorem q45 {X:Cx} {pins:List (Addr×Obj)} {σ:L2.St} {H:Hp} {s:Shared} {tu:Bool} {a:Addr} {xs ys:List V} (I:Inv X pins σ H s) (h:SqE X.K tu H a xs) (h':SqE X.K tu H a ys):xs=ys:=by
 cases tu with
 | true=>exact I.tuple_inj (show SqT X.K H a xs from h) h'
 | false=>exact I.list_inj (show SqL X.K H a xs from h) h'
def Ite (K:PySem.W.Frag) (tu:Bool) (a:Addr):It:=⟨λi H=>∃xs x,SqE K tu H a xs/\xs[i]?=some x,
 λi H v H'=>∃x p,(∀xs,SqE K tu H a xs->xs[i]?=some x)/\v=.ref p/\H p=none/\H'=upd H p (.tup [.int ((i:Int)+1),x]),
 λi H=>∃xs,SqE K tu H a xs/\xs[i]?=none⟩
theorem q73 {P:Program} {w:World} {K:PySem.W.Frag} {elts:List Expr} {x1:Nat} {tp:Pos} (tu:Bool) (a e it:Addr) (ne:e≠it) :
 Turn P w K (.Tuple elts x1 tp) (Ite K tu a) [e,it] e (λi h=>(∃old,h.get? e=some (q1H it ((i:Int)+1) old))/\IsIt tu h it a i) where
 mem:=by simp
 obj:=λi h st c hc=>by
  obtain ⟨⟨old,s1⟩,s2⟩:=st
  simp only [List.mem_cons,List.not_mem_nil,or_false] at hc
  rcases hc with rfl | rfl
  ·exact ⟨_,s1,λv z=>by have z':Data.fields _=Data.cell v:=z;cases z'⟩
  ·obtain ⟨o,eo,vs,d⟩:=s2.obj
   exact ⟨o,eo,λv z=>by rw [d] at z;cases z⟩
 keep:=λi h h' st k=>by
  obtain ⟨⟨old,s1⟩,s2⟩:=st
  exact ⟨⟨old,k e (by simp) _ s1⟩,s2.kept λo eo=>k it (by simp) o eo⟩
 item:=by
  intro X hP hw hK hc i pins s σ H E I hf st hg
  subst hP hw hK
  obtain ⟨xs,x,hq,hx⟩:=hg
  obtain ⟨⟨old,t1⟩,t2⟩:=st
  obtain ⟨its,rv,pl,hz⟩:=q1q I hq
  obtain ⟨u,hu,ru⟩:=rv.get hx
  refine j1g t1 t2 pl (x:=u) (by simpa using hu) ne λh' a1 a2 a3 a4=>⟨_,rfl,?_⟩
  refine w0w (s:={ s with heap:=h',toks:=s.toks+1 }) a1 λh'' b1 sb=>?_
  have sb:Heap.SameBut e h' h'':=sb
  have hfresh:H s.heap.objs.size=none:=I.hok.fresh (Nat.le_refl _)
  have sze:s.heap.objs.size≠e:=λz=>absurd (Heap.lt_size t1) (by rw [<-z];exact Nat.lt_irrefl _)
  have kk:∀c o,c∉[e,it]->s.heap.get? c=some o->h''.get? c=some o:=λc o hcm q=>by
   simp only [List.mem_cons,List.not_mem_nil,or_false,not_or] at hcm
   exact (sb.2 c hcm.1).trans (a4 c o hcm.1 hcm.2 q)
  have nfp:∀c v,H c=some v->c∉[e,it]:=λc v q hm=>by rw [(hf c hm).1] at q;cases q
  have nsz:∀c v,H c=some v->c≠s.heap.objs.size:=λc v q z=>by rw [z,hfresh] at q;cases q
  have tup:h''.get? s.heap.objs.size=some { cls:=.type "tuple",data:=.seq #[.int ((i:Int)+1) s.toks,u] }:=(sb.2 _ sze).trans a3
  have I1:Inv X pins σ (upd H s.heap.objs.size (.tup [.int ((i:Int)+1),x])) { s with heap:=h'',toks:=s.toks+1 }:=by
   refine I.step (g':=s.gens) (d':=s.drawn) (t':=s.toks+1) (ch:=[e,it]) (λc hcm=>?_) (λc o _ _ hcm q _=>kk c o hcm q) (λc o _ _ hcm q _=>⟨o.slots,kk c o hcm q⟩) (λc o _ q n=>?_)
    (λc o hcm q=>⟨o,kk c o hcm q⟩) (λc xs q=>?_) (λc o v q=>?_) (λc ps q=>⟨#[],?_⟩) (λm hm=>?_) (λc v q=>?_) I.bare
   ·obtain ⟨f0,f1,f2,f3,f4,f5⟩:=hf c hcm
    exact ⟨f3,f1,f4,f5⟩
   ·rw [q0h (Nat.ne_of_lt (Heap.lt_size q))];exact n
   ·rw [q0h (nsz c _ q)];exact q
   ·rw [q0h (nsz c _ q)];exact q
   ·rw [q0h (nsz c _ q),q];simp
   ·obtain ⟨o,es,ep,ho,r⟩:=hm
    exact ⟨o,es,ep,kk _ o (λhm=>(hf _ hm).2.1 rfl) ho,r⟩
   ·by_cases hcz:c=s.heap.objs.size
    ·subst hcz
     rw [q0p] at q;cases q
     exact ⟨by show 2<=sizeLine;decide,[.int ((i:Int)+1) s.toks,u],.cons ⟨_,rfl⟩ (.cons ru .nil),⟨_,tup,rfl,_,rfl⟩⟩
    ·rw [q0h hcz] at q
     refine (I.hok c v q).stay (λc' w' hc' z=>kk c' w' ?_ z) (λc' z=>?_) λc' xs z=>?_
     ·rcases hc' with hc' | hc'
      ·rw [hc'];exact nfp _ _ q
      ·exact nfp _ _ hc'
     ·rw [q0h (nsz c' _ z)];exact z
     ·rw [q0h (nsz c' _ z)];exact z
  refine ⟨.ref s.heap.objs.size,_,I1,rfl,⟨x,_,λws hw=>by rw [q45 I hw hq];exact hx,rfl,hfresh,rfl⟩,⟨⟨u,?_⟩,?_⟩,λc hcm=>?_⟩
  ·rw [show (((i+1:Nat):Int)+1)=(i:Int)+1+1 by omega]
   exact b1
  ·exact a2.kept λo eo=>(sb.2 _ (Ne.symm ne)).trans eo
  ·rw [q0h]
   ·exact (hf c hcm).1
   ·rintro rfl
    simp only [List.mem_cons,List.not_mem_nil,or_false] at hcm
    rcases hcm with z | z
    ·exact sze z
    ·obtain ⟨o,eo,_⟩:=t2.obj
     exact absurd (Heap.lt_size eo) (by rw [<-z];exact Nat.lt_irrefl _)
 done:=by
  intro X hP hw hK hc i pins s σ H E I hf st hg
  subst hP hw hK
  obtain ⟨xs,hq,hend⟩:=hg
  obtain ⟨⟨old,t1⟩,t2⟩:=st
  obtain ⟨its,rv,pl,hz⟩:=q1q I hq
  have l1:=rv.length
  refine j4m (I.ok.hd hc) t1 t2 pl ?_ λh' ex=>⟨rfl,?_⟩
  ·rw [List.getElem?_eq_none_iff] at hend
   simp;omega
  ·have kk:∀c o,c∉[e,it]->s.heap.get? c=some o->h'.get? c=some o:=λc o hcm q=>by
    simp only [List.mem_cons,List.not_mem_nil,or_false,not_or] at hcm
    exact ex c o hcm.2 q
   have nfp:∀c v,H c=some v->c∉[e,it]:=λc v q hm=>by rw [(hf c hm).1] at q;cases q
   refine I.step (g':=s.gens) (d':=s.drawn) (t':=s.toks) (ch:=[e,it]) (λc hcm=>?_) (λc o _ _ hcm q _=>kk c o hcm q) (λc o _ _ hcm q _=>⟨o.slots,kk c o hcm q⟩) (λc o _ q n=>n)
    (λc o hcm q=>⟨o,kk c o hcm q⟩) (λc xs q=>q) (λc o v q=>q) (λc ps q=>⟨#[],by rw [q];simp⟩) (λm hm=>?_) (λc v q=>?_) I.bare
   ·obtain ⟨f0,f1,f2,f3,f4,f5⟩:=hf c hcm
    exact ⟨f3,f1,f4,f5⟩
   ·obtain ⟨o,es,ep,ho,r⟩:=hm
    exact ⟨o,es,ep,kk _ o (λhm=>(hf _ hm).2.1 rfl) ho,r⟩
   ·refine (I.hok c v q).stay (λc' w' hc' z=>kk c' w' ?_ z) (λc' z=>z) λc' xs z=>z
    rcases hc' with hc' | hc'
    ·rw [hc'];exact nfp _ _ q
    ·exact nfp _ _ hc'
 self:=λ_ _ _ _ _ st h=>by
  obtain ⟨⟨old,t1⟩,_⟩:=st
  exact q61 t1 h
section
variable {P:Program} {w:World} {A:Around} {E:Value->Shared->Prop} {s:Shared}
theorem q6r (v:Value) (t:Tok):checkTypeCall "enumerate" ⟨[v],[(("start" : Str),.int 1 t)]⟩=pure ():=by kernel_rfl
theorem q59 (v:Value) (t:Tok):checkBuiltinCall "enumerate.__new__" ⟨[.type "enumerate",v],[(("start" : Str),.int 1 t)]⟩=pure ():=by kernel_rfl
theorem j1O {self v:Value} {kw:List (Str×Value)} (hl:typeLookup (.type "enumerate") "__init__" = pure (some (.builtin "object.__init__"))) (hm:Bind.madeBy (.type "enumerate")=pure (some "enumerate.__new__")) :
 Meets (Builtin.«object.__init__» ⟨[self,v],kw⟩) (λ_ R s=>s.TypeIs self "enumerate"/\R (.ok (.ret .none)) s):=
 .of_wp λprog w A R s hs=>by
  obtain ⟨hT,hq⟩:=hs
  have hne:(some "enumerate.__new__" != some "object.__new__")=true:=by decide
  repeat (any_goals (first | assumption | wp_step))
  exact ⟨_,rfl,hq⟩
end
section
variable {P:Program} {w:World} {A:Around} {E:Value->Shared->Prop} {s:Shared}
theorem q79 (obj v:Value) (t:Tok):argsOk "object.__init__" ⟨[obj,v],[(("start" : Str),.int 1 t)]⟩:=by kernel_rfl
set_option maxHeartbeats 2000000 in
theorem q6k {tu:Bool} {l:Addr} {its:Array Value} {t:Tok} {Q:Value->Shared->Prop} (hl:IsSq tu s.heap l its)
 (q:∀h',h'.get? (s.heap.objs.size+1)=some (q1H s.heap.objs.size 1 .none)->IsIt tu h' s.heap.objs.size l 0->(∀b o,s.heap.get? b=some o->h'.get? b=some o)->Q (.ref (s.heap.objs.size+1)) { s with heap:=h' }) :
 wpAny (model P w) A (call (.type "enumerate") [.ref l] [(("start" : Str),.int 1 t)]) Q E s:=by
 obtain ⟨c,tl,mro⟩:=PySem.F.called_enumerate.mro
 have made:=PySem.F.called_enumerate.made
 have subs:=PySem.F.called_enumerate.sub
 refine wpAny_call (codeAny_of_tree ?_)
 show wpAny _ _ (callAny (.type "enumerate") _) _ _ _
 refine wpAny_pure ⟨Code.quiet_builtin _ (by decide +kernel),codeAny_builtin PySem.F.entry_type_call ?_⟩
 rw [Around.under_plain (weight_type_call_type "enumerate" [.ref l] _) (units_type_call_type "enumerate" [.ref l] _)]
 have notT:=PySem.F.called_enumerate.notType
 have canC:=PySem.F.called_enumerate.canCreate
 have tcall:=q6r (.ref l) t
 repeat (any_goals (first | assumption | wp_step))
 refine codeAny_mono (codeAny_call_builtin PySem.F.called_enumerate.plain PySem.F.entry_enumerate_new (wpAny_of_eq (q59 (.ref l) t) (q9s tu l its t P w A.in1 (wants (λobj s₁=>obj=.ref (s.heap.objs.size+1)/\s₁={ s with heap:=(s.heap.push (q11 tu l)).push (q1H s.heap.objs.size 1 .none) }) E) s ⟨hl,rfl,rfl⟩))) λr s₁ hr=>?_
 rcases r with e | fl
 ·exact hr
 rcases fl with _ | _ | _ | obj
 any_goals exact hr.elim
 obtain ⟨rfl,rfl⟩:=hr
 have sz:(s.heap.push (q11 tu l)).objs.size=s.heap.objs.size+1:=Heap.size_push ..
 have g1:((s.heap.push (q11 tu l)).push (q1H s.heap.objs.size 1 .none)).get? (s.heap.objs.size+1)=some (q1H s.heap.objs.size 1 .none):=by
  rw [<-sz];exact Heap.get?_push_size _ rfl
 have ty:Shared.TypeIs { s with heap:=(s.heap.push (q11 tu l)).push (q1H s.heap.objs.size 1 .none) } (.ref (s.heap.objs.size+1)) "enumerate":=⟨_,g1,rfl⟩
 have look:=PySem.F.called_enumerate.init.lookup
 have bnd:=PySem.F.called_enumerate.init.bind (.ref (s.heap.objs.size+1))
 repeat (any_goals (first | assumption | wp_step))
 refine codeAny_mono (codeAny_call_builtin PySem.F.called_enumerate.init.plain PySem.F.entry_object_init (PySem.F.called_enumerate.init.check _ _ _ _ _ _ _ _ ty (q79 _ _ t) (j1O look made P w A.in1 (wants (λr s₂=>r=.none/\s₂={ s with heap:=(s.heap.push (q11 tu l)).push (q1H s.heap.objs.size 1 .none) }) E) _ ⟨ty,rfl,rfl⟩))) λr₂ s₂ hr₂=>?_
 rcases r₂ with e | fl₂
 ·exact hr₂
 rcases fl₂ with _ | _ | _ | r
 any_goals exact hr₂.elim
 obtain ⟨rfl,rfl⟩:=hr₂
 repeat (any_goals (first | assumption | wp_step))
 refine q _ g1 ?_ λb o e=>Heap.get?_push_of_some _ (Heap.get?_push_of_some _ e)
 have gi:((s.heap.push (q11 tu l)).push (q1H s.heap.objs.size 1 .none)).get? s.heap.objs.size=some (q11 tu l):=Heap.get?_push_of_some _ (Heap.get?_push_size _ rfl)
 cases tu with
 | true=>exact (⟨_,gi,rfl,rfl⟩:Heap.IsTupleIter _ _ _ _)
 | false=>exact (⟨_,gi,rfl,rfl⟩:Heap.IsListIter _ _ _ _)
end
section
variable {M:Model} {A:Around} {E:Value->Shared->Prop} {s:Shared} {env:Env}
theorem q2O {pos:Pos} {T:String} {e:Expr} {rest:List Expr} {kws:List Keyword} {Q:Value->Shared->Prop}
 (h:wpAny M A (spliced (backTo pos (starEach (e::rest) env))) (λvs s₁=>wpAny M A (evalAll ((backToKw pos (keywordEach kws env)).map (·.2))) (λkvs s₂=>wpAny M A (call (.type T) vs (((backToKw pos (keywordEach kws env)).filterMap (·.1)).zip kvs)) Q E s₂) E s₁) E s)
 (he:backTo pos (starEach (e::rest) env)=(false,eval e env)::backTo pos (starEach rest env)) (hp:(backTo pos (starEach (e::rest) env)).any (·.1)=false)
 (ha:(backToKw pos (keywordEach kws env)).all (·.1.isSome)=true) (hk:(backToKw pos (keywordEach kws env)).any (·.1.isNone)=false) :
 wpAny M A (callWith pos (.type T) [] (backTo pos (starEach (e::rest) env)) (backToKw pos (keywordEach kws env))) Q E s:=by
 have h':wpAny M A (evalArgs (.type T) true (backTo pos (starEach (e::rest) env)) (backToKw pos (keywordEach kws env))) (λa s₁=>wpAny M A (call (.type T) ([]++a.pos) a.kw) Q E s₁) E s:=by
  rw [he] at h ⊢
  exact evalArgs_kwB ha h
 unfold callWith
 refine wpAny_bind (wpAny_holding (wpAny_mono h' (λa s₁ h₁=>wpAny_bind (wpAny_standAt ?_)) λ_ _ z=>z))
 rw [hp,hk]
 exact wpAny_bind (wpAny_pure (wpAny_bind (wpAny_mono h₁ (λr s₂ hr=>wpAny_bind (wpAny_holding (wpAny_point (wpAny_pure hr)))) λ_ _ z=>z)))
end
def q8Z:Int->List D->List D
 | _,[]=>[]
 | n,d::ds=>.tup [.int n,d]::q8Z (n+1) ds
theorem q5U:∀(n:Int) (ds:List D),(q8Z n ds).length=ds.length
 | _,[]=>rfl
 | n,d::ds=>by simp [q8Z,q5U (n+1) ds]
theorem q6J:∀(n:Int) (ds:List D) (i:Nat),(q8Z n ds)[i]?=ds[i]?.map λd=>D.tup [.int (n+(i:Int)),d]
 | _,[],i=>by simp [q8Z]
 | n,d::ds,0=>by simp [q8Z]
 | n,d::ds,i+1=>by
  simp only [q8Z,List.getElem?_cons_succ,q6J (n+1) ds i]
  rw [show n+1+(i:Int)=n+((i+1:Nat):Int) by omega]
section
variable {T:Tb} {X:Cx} {a:Expr} {pos p tp cp kp:Pos} {fl:Ro->Out (List D)} {fe:Ev} {elts:List Expr} {x1:Nat} {ck:Nat}
def StE (K:PySem.W.Frag) (tu:Bool) (G H:Hp) (l:Addr) (vs:List V):Prop:=if tu=true then SqT K H l vs else Stb K G H l vs
theorem StE.pers {K:PySem.W.Frag} {tu:Bool} {G H H':Hp} {l:Addr} {vs:List V} (p:Pers false H H') (h:StE K tu G H l vs):StE K tu G H' l vs:=by
 cases tu with
 | true=>exact q3A p (show SqT K H l vs from h)
 | false=>exact (show Stb K G H l vs from h).pers p
theorem StE.sq {K:PySem.W.Frag} {tu:Bool} {G H:Hp} {l:Addr} {vs:List V} (h:StE K tu G H l vs) (sm:Same G H):SqE K tu H l vs:=by
 cases tu with
 | true=>exact (show SqT K H l vs from h)
 | false=>exact (show Stb K G H l vs from h).sq sm
theorem q38 {tu:Bool} {G H1:Hp} {l:Addr} {vs:List V} {ds:List D} (st:StE X.K tu G H1 l vs) (r:RepL T X.K H1 ds vs):Walk T X.K G (Ite X.K tu l) (q8Z 1 ds) H1:=λi H p sm=>by
 have sq:=(st.pers p).sq sm
 have r':=RepL.pers p _ _ r
 have hl:=RepL.length _ _ r'
 refine ⟨λd e=>?_,λh=>⟨vs,sq,?_⟩⟩
 ·rw [q6J] at e
  cases ed:ds[i]? with
  | none=>rw [ed] at e;cases e
  | some d1=>
   rw [ed] at e
   have e':D.tup [.int (1+(i:Int)),d1]=d:=Option.some.inj e
   subst e'
   obtain ⟨v,e1,rd⟩:=RepL.get _ _ _ _ r' ed
   refine ⟨⟨vs,v,sq,e1⟩,λx H2 ⟨x',q,h1,hx,hq,hH⟩=>?_⟩
   have z1:=h1 vs sq
   rw [e1] at z1;cases z1
   subst hx hH
   refine ⟨q0A hq,q,[.int ((i:Int)+1),v],rfl,SqT.of q0p,.int ((i:Int)+1),[v],rfl,?_,v,[],rfl,Rep.mono (q0A hq) _ _ rd,rfl⟩
   show V.int ((i:Int)+1)=.int (1+(i:Int))
   rw [Int.add_comm]
 ·rw [q5U] at h
  rw [List.getElem?_eq_none_iff]
  omega
theorem q7M {tu:Bool} {E:Value->Shared->Prop} {pins:List (Addr×Obj)} {σ:L2.St} {H1:Hp} {s1:Shared} {l:Addr} {vs:List V} {R:It->Hp->Prop} {t:Tok} (I1:Inv (X.wish E) pins σ H1 s1) (sq:SqE X.K tu H1 l vs) (q:R (Ite X.K tu l) H1) :
 wpAny (model X.prog X.w) X.A (call (.type "enumerate") [.ref l] [(("start" : Str),.int 1 t)]) (λv s2=>wpAny (model X.prog X.w) X.A (pyIter v) (PIE (X.wish E) pins σ (.Tuple elts x1 tp) R) E s2) E s1:=by
 obtain ⟨its,rv,pl,hz⟩:=q1q I1 sq
 refine q6k pl λh' z1 z2 kp=>?_
 have I2:Inv (X.wish E) pins σ H1 { s1 with heap:=h' }:=I1.kept (t':=s1.toks) kp
 have ne:s1.heap.objs.size+1≠s1.heap.objs.size:=Nat.succ_ne_self _
 refine q61 z1 ⟨_,_,_,_,H1,rfl,I2,q73 tu l _ _ ne,⟨⟨.none,?_⟩,z2⟩,λc hcm=>?_,q⟩
 ·exact z1
 ·have ge:s1.heap.objs.size<=c:=by
   simp only [List.mem_cons,List.not_mem_nil,or_false] at hcm
   rcases hcm with rfl | rfl
   ·exact Nat.le_succ _
   ·exact Nat.le_refl _
  exact I1.fpOk ge (I1.hok.fresh ge)
@[simp] def j1N (fl:Ro->Out (List D)) (ρ:Ro):Out (List D):=(fl ρ).bind λds=>.ok (q8Z 1 ds)
theorem q5h (hg:Gl X "enumerate") (hm:X.mg "enumerate" = none) (hl:DP T X a fl) (hs:starEach [a] X.env=(false,eval a X.env)::starEach [] X.env:=by exact q0w rfl) (hpl:(backTo pos (starEach ([a]:List Expr) X.env)).any (·.1)=false:=by exact q0z rfl) :
 DI T X (.Tuple elts x1 tp) (.Call (.Name "enumerate" p) [a] [⟨some "start",.Constant (.int 1) ck cp,kp⟩] pos) (j1N fl):=.mk λG E hp=>by
 rintro pins s σ H R I ⟨ρ,fr,h⟩
 refine wpAny_Call_Name_kw (q1l (X:=X.wish E) I hg hm rfl (q2O (thn ((q0C (X:=X.wish E) (hl.run G E hp) q0Y hs) pos pins s σ H (λus H1=>∃l vs,us=[.ref l]/\SqE X.K false H1 l vs/\R (Ite X.K false l) H1) I ⟨ρ,fr,Acc.mono (Acc.bind h) λds _ hd l vs H1 s1 st r=>⟨l,vs,rfl,st.sq (fr.same.trans s1),hd _ H1 s1 (q38 (tu:=false) st r)⟩⟩) λus s1 ⟨xs,H1,I1,r1,l,vs,e1,sq,q⟩=>?_) (by rw [hs];rfl) hpl rfl rfl))
 subst e1
 obtain ⟨u,rfl,ru⟩:=Vals.one r1
 cases ru
 refine kws_cons (wpAny_Constant_int (kws_nil ?_))
 exact q7M (I1.tok _) sq q
theorem q3B (hg:Gl X "enumerate") (hm:X.mg "enumerate" = none) (hl:DE T X a fe) (hs:starEach [a] X.env=(false,eval a X.env)::starEach [] X.env:=by exact q0w rfl) (hpl:(backTo pos (starEach ([a]:List Expr) X.env)).any (·.1)=false:=by exact q0z rfl) :
 DI T X (.Tuple elts x1 tp) (.Call (.Name "enumerate" p) [a] [⟨some "start",.Constant (.int 1) ck cp,kp⟩] pos) (j1N (q2z fe)):=.mk λG E hp=>by
 rintro pins s σ H R I ⟨ρ,fr,h⟩
 refine wpAny_Call_Name_kw (q1l (X:=X.wish E) I hg hm rfl (q2O (thn ((q0C (X:=X.wish E) (hl.run G E hp) q0Y hs) pos pins s σ H (λus H1=>∃l vs,us=[.ref l]/\SqE X.K true H1 l vs/\R (Ite X.K true l) H1) I ⟨ρ,fr,Acc.mono (Acc.bind (Acc.bind h)) λd _ hd v H1 s1 r=>?_⟩) λus s1 ⟨xs,H1,I1,r1,l,vs,e1,sq,q⟩=>?_) (by rw [hs];rfl) hpl rfl rfl))
 ·cases d with
  | tup ds=>
   obtain ⟨l,vs,rfl,sq,rl⟩:=r
   exact ⟨l,vs,rfl,sq,hd _ H1 s1 (q38 (tu:=true) sq rl)⟩
  | _=>exact hd.elim
 ·subst e1
  obtain ⟨u,rfl,ru⟩:=Vals.one r1
  cases ru
  refine kws_cons (wpAny_Constant_int (kws_nil ?_))
  exact q7M (I1.tok _) sq q
end
section
variable {T:Tb} {ib:Bool} {X:Cx} {e b:Expr} {pos p p2:Pos} {fe fb:Ev} {x:Str}
end
end L3
namespace L3
open PySem L2
theorem q8a {is:List Int} (h:is≠[]):q1P false is∈is/\∀x∈is,q1P false is<=x:=by
 have l:0 < is.length:=List.length_pos_iff.mpr h
 have e:q1P false is=is.getD (argBest (λi j=>decide (is.getD i 0 < is.getD j 0)) (is.length-1)) 0:=by
  unfold q1P;simp
 obtain ⟨a1,a2⟩:=argBest_lt (λi=>is.getD i 0) (is.length-1)
 rw [e]
 generalize argBest (λi j=>decide (is.getD i 0 < is.getD j 0)) (is.length-1)=k at *
 have hk:k < is.length:=by omega
 refine ⟨?_,λx hx=>?_⟩
 ·rw [List.getD_eq_getElem?_getD,List.getElem?_eq_getElem hk];exact List.getElem_mem hk
 ·obtain ⟨j,hj,rfl⟩:=List.getElem_of_mem hx
  have:=a2 j (by omega)
  rw [List.getD_eq_getElem?_getD (l:=is) (i:=j),List.getElem?_eq_getElem hj] at this
  exact this
theorem q9R (is:List Int):q2j (is.map D.int)=some is:=by
 induction is with
 | nil=>rfl
 | cons i is ih=>rw [List.map_cons,q2j,ih]
theorem q9t {is:List Int} (h:is≠[]):q48 [.lst (is.map D.int)]=.ok (.int (q1P false is)):=by
 rw [q48,q9R]
 show (if is≠[] then _ else _)=_
 rw [if_pos h]
structure Tz (n:Nat) (z:Str):Prop where
 len:z.length<=n
 cps:∀c∈z.cps.toList,c < 128
theorem Tz.mono {n m:Nat} {z:Str} (h:Tz n z) (e:n<=m):Tz m z:=⟨Nat.le_trans h.len e,h.cps⟩
theorem Tz.slice {n:Nat} {z:Str} (h:Tz n z) (lo hi:Option Int):Tz n (Txt.slice z lo hi):=
 ⟨Nat.le_trans (Txt.slice_le z lo hi) h.len,λc hc=>by
  unfold Txt.slice at hc
  split at hc
  ·exact h.cps c hc
  ·simp only [List.mem_filterMap] at hc
   obtain ⟨i,_,e⟩:=hc
   exact h.cps c (by rw [Array.mem_toList_iff];exact Array.mem_of_getElem? e)⟩
theorem j02 {n:Nat} {f:Ro->Fl} {ss:List Sl} {r:Rv} (ρ:Ro) (e:ss++List.replicate (n-ss.length) .no=ρ) (h:f ρ=.rt r):fnF n f ss=.ok r:=by
 rw [fnF,e,h]
theorem q4i {n:Nat} {f:Ro->Fl} {ss:List Sl} {c:Nat} {ρ':Ro} (ρ:Ro) (e:ss++List.replicate (n-ss.length) .no=ρ) (h:f ρ=.exc c ρ'):fnF n f ss=.exc c:=by
 rw [fnF,e,h]
end L3
namespace L3
open PySem PySem.Spec PyProof.Rows L2
section
variable {P:Program} {w:World} {A:Around} {E:Value->Shared->Prop} {s:Shared} {tu tv:Bool} {z TI TO i1 i2 l1 l2:Addr} {k:Nat} {xs ys:Array Value}
theorem j1S {x y a b:Value} {Q:Option Value->Shared->Prop} (D:ZipApart z TI TO i1 i2 l1 l2) (hz:IsZip s.heap z TI TO .none) (hI:IsPair s.heap TI (.ref i1) (.ref i2)) (hO:IsPair s.heap TO a b)
 (h1:IsIt tu s.heap i1 l1 k) (h2:IsIt tv s.heap i2 l2 k) (q1:IsSq tu s.heap l1 xs) (q2:IsSq tv s.heap l2 ys) (hx:xs[k]?=some x) (hy:ys[k]?=some y)
 (hQ:∀h',IsZip h' z TI TO (rawInt s.heap.objs.size)->IsPair h' TO x y->IsIt tu h' i1 l1 (k+1)->IsIt tv h' i2 l2 (k+1)->IsPair h' s.heap.objs.size x y->(∀c o,c≠z->c≠TO->c≠i1->c≠i2->s.heap.get? c=some o->h'.get? c=some o)->Q (some (.ref s.heap.objs.size)) { s with heap:=h' }) :
 wpAny (model P w) A (pyNext (.ref z)) Q E s:=by
 have ty:s.TypeIs (.ref z) "zip":=⟨_,hz,rfl⟩
 unfold pyNext
 refine wpAny_bind (wpAny_attempt (wpAny_callSpecial?_slot (name:=Str.ofString "__next__") ty PySem.F.slot_zip_next (wpAny_call_entry PySem.F.slot_zip_next ty PySem.F.entry_zip_next ?_ (PySem.F.args_zip_next_1 _))))
 obtain ⟨hp,g,d,tk,os⟩:=s
 refine wpAny_bind (m:=field (.ref z) 2) (wpAny_field hz rfl (x:=.bool false) rfl ?_)
 refine wpAny_bind (m:=field (.ref z) 3) (wpAny_field hz rfl (x:=.ref TI) rfl (wpAny_bind (wpAny_seqItems hI rfl ?_)))
 refine wpAny_bind (m:=Builtin.SmallTypes.ownedTupleIsFree (.ref z)) ?_
 unfold Builtin.SmallTypes.ownedTupleIsFree
 refine wpAny_bind (wpAny_field hz rfl (x:=.none) rfl (wpAny_pure ?_))
 simp only [if_true]
 refine wpAny_bind (wpAny_rule (wpAny_bind (wpAny_field hz rfl (x:=.ref TO) rfl (wpAny_bind (wpAny_setField_rec hz (by simp) λg1 z1 s1=>?_)))))
 have z1:IsZip g1 z TI TO .ellipsis:=z1
 have s1:Heap.SameBut z hp g1:=s1
 refine wpAny_bind ?_
 simp only [List.zipIdx_cons,List.zipIdx_nil,List.forIn_cons,List.forIn_nil]
 refine wpAny_bind (wpAny_bind (wpAny_onRaise (wpAny_bind (m:=Builtin.SmallTypes.nextOf (.ref i1)) (q3K (s:=⟨g1,g,d,tk,os⟩) (h1.kept λo e=>(s1.2 _ D.i1z).trans e) (q1.kept λo e=>(s1.2 _ D.l1z).trans e) hx λg2 a2 s2=>wpAny_pure ?_))))
 have s2:Heap.SameBut i1 g1 g2:=s2
 have o2:IsPair g2 TO a b:=(s2.2 _ D.TOi1).trans ((s1.2 _ D.TOz).trans hO)
 refine wpAny_bind (wpAny_seqItems (s:=⟨g2,g,d,tk,os⟩) o2 rfl (wpAny_bind (wpAny_updateSeq_pair (s:=⟨g2,g,d,tk,os⟩) o2 λg3 o3 s3=>wpAny_bind (wpAny_letGo (wpAny_pure ?_)))))
 have o3:IsPair g3 TO x b:=o3
 have s3:Heap.SameBut TO g2 g3:=s3
 refine wpAny_bind (wpAny_bind (wpAny_onRaise (wpAny_bind (m:=Builtin.SmallTypes.nextOf (.ref i2)) (q3K (s:=⟨g3,g,d,tk,os⟩) (h2.kept λo e=>(s3.2 _ D.TOi2.symm).trans ((s2.2 _ D.i12.symm).trans ((s1.2 _ D.i2z).trans e))) (q2.kept λo e=>(s3.2 _ D.l2TO).trans ((s2.2 _ D.l2i1).trans ((s1.2 _ D.l2z).trans e))) hy λg4 a4 s4=>wpAny_pure ?_))))
 have s4:Heap.SameBut i2 g3 g4:=s4
 have o4:IsPair g4 TO x b:=(s4.2 _ D.TOi2).trans o3
 refine wpAny_bind (wpAny_seqItems (s:=⟨g4,g,d,tk,os⟩) o4 rfl (wpAny_bind (wpAny_updateSeq_pair (s:=⟨g4,g,d,tk,os⟩) o4 λg5 o5 s5=>wpAny_bind (wpAny_letGo (wpAny_pure (wpAny_pure ?_))))))
 have o5:IsPair g5 TO x y:=o5
 have s5:Heap.SameBut TO g4 g5:=s5
 have sz:g5.objs.size=hp.objs.size:=by rw [s5.1,s4.1,s3.1,s2.1,s1.1]
 have z5:IsZip g5 z TI TO .ellipsis:=(s5.2 _ D.TOz.symm).trans ((s4.2 _ D.i2z.symm).trans ((s3.2 _ D.TOz.symm).trans ((s2.2 _ D.i1z.symm).trans z1)))
 have k5:∀c o,c≠z->c≠TO->c≠i1->c≠i2->hp.get? c=some o->g5.get? c=some o:=λc o c1 c2 c3 c4 e=>(s5.2 _ c2).trans ((s4.2 _ c4).trans ((s3.2 _ c2).trans ((s2.2 _ c3).trans ((s1.2 _ c1).trans e))))
 have b1:IsIt tu g5 i1 l1 (k+1):=a2.kept λo e=>(s5.2 _ D.TOi1.symm).trans ((s4.2 _ D.i12).trans ((s3.2 _ D.TOi1.symm).trans e))
 have b2:IsIt tv g5 i2 l2 (k+1):=a4.kept λo e=>(s5.2 _ D.TOi2.symm).trans e
 have zlt:z < g5.objs.size:=Heap.lt_size z5
 refine wpAny_bind (wpAny_seqItems (s:=⟨g5,g,d,tk,os⟩) o5 rfl (wpAny_bind (wpAny_newTuple ?_)))
 refine wpAny_bind (m:=Builtin.SmallTypes.ownedTupleHandOut (.ref z) (.ref g5.objs.size)) ?_
 unfold Builtin.SmallTypes.ownedTupleHandOut
 have z6:IsZip (g5.push { cls:=.type "tuple",data:=.seq #[x,y] }) z TI TO .ellipsis:=Heap.get?_push_of_some _ z5
 refine wpAny_bind (wpAny_setField_rec (s:=⟨g5.push { cls:=.type "tuple",data:=.seq #[x,y] },g,d,tk,os⟩) z6 (by simp) λg7 z7 s7=>?_)
 have z7:IsZip g7 z TI TO (rawInt g5.objs.size):=z7
 have s7:Heap.SameBut z (g5.push { cls:=.type "tuple",data:=.seq #[x,y] }) g7:=s7
 refine wpAny_setField_rec (s:=⟨g7,g,d,tk,os⟩) z7 (by simp) λg8 z8 s8=>?_
 have z8:IsZip g8 z TI TO (rawInt g5.objs.size):=z8
 have s8:Heap.SameBut z g7 g8:=s8
 have up:∀c o,c≠z->g5.get? c=some o->g8.get? c=some o:=λc o c1 e=>(s8.2 _ c1).trans ((s7.2 _ c1).trans (Heap.get?_push_of_some _ e))
 have t8:IsPair g8 g5.objs.size x y:=(s8.2 _ (Nat.ne_of_gt zlt)).trans ((s7.2 _ (Nat.ne_of_gt zlt)).trans (Heap.get?_push_size _ rfl))
 rw [sz] at z8 t8
 refine wpAny_pure ⟨_,rfl,wpAny_pure ?_⟩
 show Q (some (.ref g5.objs.size)) _
 rw [sz]
 exact hQ g8 z8 (up _ _ D.TOz o5) (b1.kept λo e=>up _ o D.i1z e) (b2.kept λo e=>up _ o D.i2z e) t8 λc o c1 c2 c3 c4 e=>up c o c1 (k5 c o c1 c2 c3 c4 e)
theorem j4D {a b:Value} {Q:Option Value->Shared->Prop} (hh:A.handled=none) (D:ZipApart z TI TO i1 i2 l1 l2) (hz:IsZip s.heap z TI TO .none) (hI:IsPair s.heap TI (.ref i1) (.ref i2)) (hO:IsPair s.heap TO a b)
 (h1:IsIt tu s.heap i1 l1 k) (h2:IsIt tv s.heap i2 l2 k) (q1:IsSq tu s.heap l1 xs) (q2:IsSq tv s.heap l2 ys) (hend:xs[k]?=none∨ys[k]?=none)
 (hQ:∀h',(∀c o,c≠z->c≠TO->c≠i1->c≠i2->s.heap.get? c=some o->h'.get? c=some o)->Q none { s with heap:=h' }):wpAny (model P w) A (pyNext (.ref z)) Q E s:=by
 have ty:s.TypeIs (.ref z) "zip":=⟨_,hz,rfl⟩
 unfold pyNext
 refine wpAny_bind (wpAny_attempt (wpAny_callSpecial?_slot (name:=Str.ofString "__next__") ty PySem.F.slot_zip_next (wpAny_call_entry PySem.F.slot_zip_next ty PySem.F.entry_zip_next ?_ (PySem.F.args_zip_next_1 _))))
 obtain ⟨hp,g,d,tk,os⟩:=s
 refine wpAny_bind (m:=field (.ref z) 2) (wpAny_field hz rfl (x:=.bool false) rfl ?_)
 refine wpAny_bind (m:=field (.ref z) 3) (wpAny_field hz rfl (x:=.ref TI) rfl (wpAny_bind (wpAny_seqItems hI rfl ?_)))
 refine wpAny_bind (m:=Builtin.SmallTypes.ownedTupleIsFree (.ref z)) ?_
 unfold Builtin.SmallTypes.ownedTupleIsFree
 refine wpAny_bind (wpAny_field hz rfl (x:=.none) rfl (wpAny_pure ?_))
 simp only [if_true]
 refine wpAny_bind (wpAny_rule (wpAny_bind (wpAny_field hz rfl (x:=.ref TO) rfl (wpAny_bind (wpAny_setField_rec hz (by simp) λg1 z1 s1=>?_)))))
 have z1:IsZip g1 z TI TO .ellipsis:=z1
 have s1:Heap.SameBut z hp g1:=s1
 have fin:∀(g6:Heap) (e:Addr),(∀c o,c≠z->c≠TO->c≠i1->c≠i2->hp.get? c=some o->g6.get? c=some o)->(∃o,g6.get? e=some o/\o.cls=.type "StopIteration")->wpAny (model P w) A (do if (<-isInstance (.ref e) (.type "StopIteration")) then pure none else throw (.ref e)) Q E ⟨g6,g,d,tk,os⟩:=λg6 e kk ⟨o,ho,hc⟩=>
  wpAny_bind (wpAny_isInstance (T:="StopIteration") (b:=true) ⟨o,ho,hc⟩ isSubtype_stop (wpAny_pure (hQ _ kk)))
 refine wpAny_bind ?_
 simp only [List.zipIdx_cons,List.zipIdx_nil,List.forIn_cons,List.forIn_nil]
 have r1:=h1.kept (h':=g1) λo e=>(s1.2 _ D.i1z).trans e
 have t1:=q1.kept (h':=g1) λo e=>(s1.2 _ D.l1z).trans e
 cases hx:xs[k]? with
 | none=>
  refine wpAny_bind (wpAny_bind (wpAny_onRaise (wpAny_bind (m:=Builtin.SmallTypes.nextOf (.ref i1)) (q7h (s:=⟨g1,g,d,tk,os⟩) hh r1 t1 hx λg2 e s2 ⟨oe,he,ce⟩=>?_))))
  have s2:Heap.ExtBut i1 g1 g2:=s2
  have z2:IsZip g2 z TI TO .ellipsis:=s2 _ _ D.i1z.symm z1
  have ez:e≠z:=λq=>by subst q;rw [z2] at he;cases he;simp at ce
  exact wpAny_setField_rec (s:=⟨g2,g,d,tk,os⟩) z2 (by simp) λg3 _ s3=>fin g3 e (λc o c1 _ c3 _ q=>s3.extBut _ _ c1 (s2 _ _ c3 ((s1.2 _ c1).trans q))) ⟨oe,s3.extBut _ _ ez he,ce⟩
 | some x=>
  have hy:ys[k]?=none:=by
   rcases hend with h | h
   ·rw [hx] at h;cases h
   ·exact h
  refine wpAny_bind (wpAny_bind (wpAny_onRaise (wpAny_bind (m:=Builtin.SmallTypes.nextOf (.ref i1)) (q3K (s:=⟨g1,g,d,tk,os⟩) r1 t1 hx λg2 a2 s2=>wpAny_pure ?_))))
  have s2:Heap.SameBut i1 g1 g2:=s2
  have o2:IsPair g2 TO a b:=(s2.2 _ D.TOi1).trans ((s1.2 _ D.TOz).trans hO)
  refine wpAny_bind (wpAny_seqItems (s:=⟨g2,g,d,tk,os⟩) o2 rfl (wpAny_bind (wpAny_updateSeq_pair (s:=⟨g2,g,d,tk,os⟩) o2 λg3 o3 s3=>wpAny_bind (wpAny_letGo (wpAny_pure ?_)))))
  have s3:Heap.SameBut TO g2 g3:=s3
  refine wpAny_bind (wpAny_bind (wpAny_onRaise (wpAny_bind (m:=Builtin.SmallTypes.nextOf (.ref i2)) (q7h (s:=⟨g3,g,d,tk,os⟩) hh (h2.kept λo e=>(s3.2 _ D.TOi2.symm).trans ((s2.2 _ D.i12.symm).trans ((s1.2 _ D.i2z).trans e))) (q2.kept λo e=>(s3.2 _ D.l2TO).trans ((s2.2 _ D.l2i1).trans ((s1.2 _ D.l2z).trans e))) hy λg4 e s4 ⟨oe,he,ce⟩=>?_))))
  have s4:Heap.ExtBut i2 g3 g4:=s4
  have z4:IsZip g4 z TI TO .ellipsis:=s4 _ _ D.i2z.symm ((s3.2 _ D.TOz.symm).trans ((s2.2 _ D.i1z.symm).trans z1))
  have ez:e≠z:=λq=>by subst q;rw [z4] at he;cases he;simp at ce
  exact wpAny_setField_rec (s:=⟨g4,g,d,tk,os⟩) z4 (by simp) λg5 _ s5=>fin g5 e (λc o c1 c2 c3 c4 q=>s5.extBut _ _ c1 (s4 _ _ c4 ((s3.2 _ c2).trans ((s2.2 _ c3).trans ((s1.2 _ c1).trans q))))) ⟨oe,s5.extBut _ _ ez he,ce⟩
end
abbrev zzA (h:Heap) (tu:Bool) (l1:Addr):Heap:=h.push (q11 tu l1)
abbrev zzB (h:Heap) (tu tv:Bool) (l1 l2:Addr):Heap:=(zzA h tu l1).push (q11 tv l2)
abbrev zzC (h:Heap) (tu tv:Bool) (l1 l2:Addr):Heap:=(zzB h tu tv l1 l2).push { cls:=.type "tuple",data:=.seq #[.ref h.objs.size,.ref (zzA h tu l1).objs.size] }
abbrev zzD (h:Heap) (tu tv:Bool) (l1 l2:Addr):Heap:=(zzC h tu tv l1 l2).push { cls:=.type "tuple",data:=.seq #[.none,.none] }
abbrev zzE (h:Heap) (tu tv:Bool) (l1 l2:Addr):Heap:=(zzD h tu tv l1 l2).push { cls:=.type "zip",data:=.fields #[.none,.bool false,.bool false,.ref (zzB h tu tv l1 l2).objs.size,.ref (zzC h tu tv l1 l2).objs.size] }
set_option maxHeartbeats 2000000 in
theorem j7k (tu tv:Bool) (l1 l2:Addr) (xs ys:Array Value):Meets (Builtin.«zip.__new__» ⟨[.type "zip",.ref l1,.ref l2],[]⟩) (λ_ R s=>IsSq tu s.heap l1 xs/\IsSq tv s.heap l2 ys/\R (.ok (.ret (.ref (zzD s.heap tu tv l1 l2).objs.size))) { s with heap:=zzE s.heap tu tv l1 l2 }):=
 .of_wp λprog w A R s h=>by
  obtain ⟨hp,g,d,tk,os⟩:=s
  obtain ⟨q1,q2,h⟩:=h
  have sub:=sub_zip
  have e1:IsSq tu (Shared.heap ⟨hp,g,d,tk,os⟩) l1 xs:=q1
  have e2:IsSq tv (Shared.heap ⟨hp.push (q11 tu l1),g,d,tk,os⟩) l2 ys:=IsSq.kept q2 λo e=>Heap.get?_push_of_some _ e
  wp_walk using q3U e1,q3U e2
  exact ⟨_,rfl,h⟩
section
variable {P:Program} {w:World} {A:Around} {E:Value->Shared->Prop} {s:Shared} {tu tv:Bool} {l1 l2:Addr} {xs ys:Array Value}
theorem q95 {h:Heap} {a l:Addr} (e:h.get? a=some (q11 tu l)):IsIt tu h a l 0:=by
 cases tu with
 | true=>exact (⟨_,e,rfl,rfl⟩:h.IsTupleIter a l 0)
 | false=>exact (⟨_,e,rfl,rfl⟩:h.IsListIter a l 0)
theorem j0M {Q:Value->Shared->Prop} (q1:IsSq tu s.heap l1 xs) (q2:IsSq tv s.heap l2 ys)
 (h:∀h',IsZip h' (s.heap.objs.size+4) (s.heap.objs.size+2) (s.heap.objs.size+3) .none->IsPair h' (s.heap.objs.size+2) (.ref s.heap.objs.size) (.ref (s.heap.objs.size+1))->IsPair h' (s.heap.objs.size+3) .none .none ->
  IsIt tu h' s.heap.objs.size l1 0->IsIt tv h' (s.heap.objs.size+1) l2 0->(∀c o,s.heap.get? c=some o->h'.get? c=some o)->Q (.ref (s.heap.objs.size+4)) { s with heap:=h' }):wpAny (model P w) A (call (.type "zip") [.ref l1,.ref l2]) Q E s:=by
 refine callType_new PySem.F.called_zip (by decide) (PySem.F.typeCall_zip_2 _ _) (PySem.F.newCall_zip_2 _ _) (λobj=>PySem.F.args_object_init_3 obj _ _) PySem.F.entry_zip_new (j7k tu tv l1 l2 xs ys) ⟨q1,q2,?_⟩
 have a1:(zzA s.heap tu l1).objs.size=s.heap.objs.size+1:=Heap.size_push ..
 have a2:(zzB s.heap tu tv l1 l2).objs.size=s.heap.objs.size+2:=by rw [Heap.size_push,a1]
 have a3:(zzC s.heap tu tv l1 l2).objs.size=s.heap.objs.size+3:=by rw [Heap.size_push,a2]
 have a4:(zzD s.heap tu tv l1 l2).objs.size=s.heap.objs.size+4:=by rw [Heap.size_push,a3]
 have up:∀{h:Heap} {o o':Obj} {c:Addr},h.get? c=some o->(h.push o').get? c=some o:=λe=>Heap.get?_push_of_some _ e
 have g5:(zzE s.heap tu tv l1 l2).get? (zzD s.heap tu tv l1 l2).objs.size=some _:=Heap.get?_push_size _ rfl
 have g4:(zzE s.heap tu tv l1 l2).get? (zzC s.heap tu tv l1 l2).objs.size=some _:=up (Heap.get?_push_size _ rfl)
 have g3:(zzE s.heap tu tv l1 l2).get? (zzB s.heap tu tv l1 l2).objs.size=some _:=up (up (Heap.get?_push_size _ rfl))
 have g2:(zzE s.heap tu tv l1 l2).get? (zzA s.heap tu l1).objs.size=some (q11 tv l2):=up (up (up (Heap.get?_push_size _ rfl)))
 have g1:(zzE s.heap tu tv l1 l2).get? s.heap.objs.size=some (q11 tu l1):=up (up (up (up (Heap.get?_push_size _ rfl))))
 show _/\_
 rw [a2,a3,a4] at g5
 rw [a1,a2] at g3
 rw [a3] at g4
 rw [a1] at g2
 rw [a4]
 exact ⟨⟨_,g5,rfl⟩,h _ g5 g3 g4 (q95 g1) (q95 g2) λc o q=>up (up (up (up (up q))))⟩
end
def Izz (K:PySem.W.Frag) (tu tv:Bool) (a b:Addr):It:=⟨λi H=>∃xs ys x y,SqE K tu H a xs/\SqE K tv H b ys/\xs[i]?=some x/\ys[i]?=some y,
 λi H v H'=>∃x y p,(∀xs,SqE K tu H a xs->xs[i]?=some x)/\(∀ys,SqE K tv H b ys->ys[i]?=some y)/\v=.ref p/\H p=none/\H'=upd H p (.tup [x,y]),
 λi H=>∃xs ys,SqE K tu H a xs/\SqE K tv H b ys/\(xs[i]?=none∨ys[i]?=none)⟩
theorem j0J {P:Program} {w:World} {K:PySem.W.Frag} {elts:List Expr} {x1:Nat} {tp:Pos} (tu tv:Bool) (a b z TI TO i1 i2:Addr) (D:ZipApart z TI TO i1 i2 a b) :
 Turn P w K (.Tuple elts x1 tp) (Izz K tu tv a b) [z,TI,TO,i1,i2] z (λi h=>IsZip h z TI TO .none/\IsPair h TI (.ref i1) (.ref i2)/\(∃u v,IsPair h TO u v)/\IsIt tu h i1 a i/\IsIt tv h i2 b i) where
 mem:=by simp
 obj:=λi h st c hc=>by
  obtain ⟨s1,s2,⟨u,v,s3⟩,s4,s5⟩:=st
  simp only [List.mem_cons,List.not_mem_nil,or_false] at hc
  rcases hc with rfl | rfl | rfl | rfl | rfl
  ·exact ⟨_,s1,λv z=>by have z':Data.fields _=Data.cell v:=z;cases z'⟩
  ·exact ⟨_,s2,λv z=>by have z':Data.seq _ _=Data.cell v:=z;cases z'⟩
  ·exact ⟨_,s3,λv z=>by have z':Data.seq _ _=Data.cell v:=z;cases z'⟩
  ·obtain ⟨o,e,_,d⟩:=s4.obj
   exact ⟨o,e,λv z=>by rw [d] at z;cases z⟩
  ·obtain ⟨o,e,_,d⟩:=s5.obj
   exact ⟨o,e,λv z=>by rw [d] at z;cases z⟩
 keep:=λi h h' st k=>by
  obtain ⟨s1,s2,⟨u,v,s3⟩,s4,s5⟩:=st
  exact ⟨k z (by simp) _ s1,k TI (by simp) _ s2,⟨u,v,k TO (by simp) _ s3⟩,s4.kept λo e=>k i1 (by simp) o e,s5.kept λo e=>k i2 (by simp) o e⟩
 item:=by
  intro X hP hw hK hc i pins s σ H E I hf st hg
  subst hP hw hK
  obtain ⟨xs,ys,x,y,hqa,hqb,hx,hy⟩:=hg
  obtain ⟨t1,t2,⟨u0,v0,t3⟩,t4,t5⟩:=st
  obtain ⟨its,rv,pa,hza⟩:=q1q I hqa
  obtain ⟨its2,rv2,pb,hzb⟩:=q1q I hqb
  obtain ⟨u,hu,ru⟩:=rv.get hx
  obtain ⟨v,hv,rv'⟩:=rv2.get hy
  refine j1S D t1 t2 t3 t4 t5 pa pb (x:=u) (y:=v) (by simpa using hu) (by simpa using hv) λh' a1 a2 a3 a4 a5 a7=>⟨_,rfl,?_⟩
  refine wpAny_letOwnedTupleGo_zip (s:={ s with heap:=h' }) a1 λh'' b1 sb=>?_
  have szz:s.heap.objs.size≠z:=λe=>absurd (Heap.lt_size t1) (by rw [<-e];exact Nat.lt_irrefl _)
  have kk:∀c o,c∉[z,TI,TO,i1,i2]->s.heap.get? c=some o->h''.get? c=some o:=λc o hcm e=>by
   simp only [List.mem_cons,List.not_mem_nil,or_false,not_or] at hcm
   exact (sb.2 c hcm.1).trans (a7 c o hcm.1 hcm.2.2.1 hcm.2.2.2.1 hcm.2.2.2.2 e)
  have hfresh:H s.heap.objs.size=none:=I.hok.fresh (Nat.le_refl _)
  have nfp:∀c u,H c=some u->c∉[z,TI,TO,i1,i2]:=λc u e hm=>by rw [(hf c hm).1] at e;cases e
  have nsz:∀c u,H c=some u->c≠s.heap.objs.size:=λc u e z=>by rw [z,hfresh] at e;cases e
  have p5:IsPair h'' s.heap.objs.size u v:=(sb.2 _ szz).trans a5
  have I1:Inv X pins σ (upd H s.heap.objs.size (.tup [x,y])) { s with heap:=h'' }:=by
   refine I.step (g':=s.gens) (d':=s.drawn) (t':=s.toks) (ch:=[z,TI,TO,i1,i2]) (λc hcm=>?_) (λc o _ _ hcm e _=>kk c o hcm e) (λc o _ _ hcm e _=>⟨o.slots,kk c o hcm e⟩) (λc o _ e n=>?_)
    (λc o hcm e=>⟨o,kk c o hcm e⟩) (λc xs e=>?_) (λc o w e=>?_) (λc ps e=>⟨#[],?_⟩) (λm hm=>?_) (λc w e=>?_) I.bare
   ·obtain ⟨f0,f1,f2,f3,f4,f5⟩:=hf c hcm
    exact ⟨f3,f1,f4,f5⟩
   ·rw [q0h (Nat.ne_of_lt (Heap.lt_size e))];exact n
   ·rw [q0h (nsz c _ e)];exact e
   ·rw [q0h (nsz c _ e)];exact e
   ·rw [q0h (nsz c _ e),e];simp
   ·obtain ⟨o,es,ep,ho,r⟩:=hm
    refine ⟨o,es,ep,kk _ o (λhm=>?_) ho,r⟩
    exact (hf _ hm).2.1 rfl
   ·by_cases hcz:c=s.heap.objs.size
    ·subst hcz
     rw [q0p] at e;cases e
     exact ⟨by show 2<=sizeLine;decide,[u,v],.cons ru (.cons rv' .nil),⟨_,p5,rfl,_,rfl⟩⟩
    ·rw [q0h hcz] at e
     refine (I.hok c w e).stay (λc' w' hc' q=>kk c' w' ?_ q) (λc' q=>?_) λc' xs q=>?_
     ·rcases hc' with hc' | hc'
      ·rw [hc'];exact nfp _ _ e
      ·exact nfp _ _ hc'
     ·rw [q0h (nsz c' _ q)];exact q
     ·rw [q0h (nsz c' _ q)];exact q
  refine ⟨.ref s.heap.objs.size,_,I1,rfl,⟨x,y,_,λws hw=>by rw [q45 I hw hqa];exact hx,λws hw=>by rw [q45 I hw hqb];exact hy,rfl,hfresh,rfl⟩,⟨b1,?_,⟨u,v,(sb.2 _ D.TOz).trans a2⟩,a3.kept λo e=>(sb.2 _ D.i1z).trans e,a4.kept λo e=>(sb.2 _ D.i2z).trans e⟩,λc hcm=>?_⟩
  ·exact (sb.2 _ D.TIz).trans (a7 TI _ D.TIz D.TITO D.TIi1 D.TIi2 t2)
  ·rw [q0h]
   ·exact (hf c hcm).1
   ·rintro rfl
    simp only [List.mem_cons,List.not_mem_nil,or_false] at hcm
    rcases hcm with e | e | e | e | e
    ·exact szz e
    ·exact absurd (Heap.lt_size t2) (by rw [<-e];exact Nat.lt_irrefl _)
    ·exact absurd (Heap.lt_size t3) (by rw [<-e];exact Nat.lt_irrefl _)
    ·obtain ⟨o,eo,_⟩:=t4.obj
     exact absurd (Heap.lt_size eo) (by rw [<-e];exact Nat.lt_irrefl _)
    ·obtain ⟨o,eo,_⟩:=t5.obj
     exact absurd (Heap.lt_size eo) (by rw [<-e];exact Nat.lt_irrefl _)
 done:=by
  intro X hP hw hK hc i pins s σ H E I hf st hg
  subst hP hw hK
  obtain ⟨xs,ys,hqa,hqb,hend⟩:=hg
  obtain ⟨t1,t2,⟨u0,v0,t3⟩,t4,t5⟩:=st
  obtain ⟨its,rv,pa,hza⟩:=q1q I hqa
  obtain ⟨its2,rv2,pb,hzb⟩:=q1q I hqb
  have l1:=rv.length
  have l2:=rv2.length
  refine j4D (I.ok.hd hc) D t1 t2 t3 t4 t5 pa pb ?_ λh' a7=>⟨rfl,?_⟩
  ·rcases hend with hend | hend
   ·left
    rw [List.getElem?_eq_none_iff] at hend
    simp;omega
   ·right
    rw [List.getElem?_eq_none_iff] at hend
    simp;omega
  ·have kk:∀c o,c∉[z,TI,TO,i1,i2]->s.heap.get? c=some o->h'.get? c=some o:=λc o hcm e=>by
    simp only [List.mem_cons,List.not_mem_nil,or_false,not_or] at hcm
    exact a7 c o hcm.1 hcm.2.2.1 hcm.2.2.2.1 hcm.2.2.2.2 e
   have nfp:∀c u,H c=some u->c∉[z,TI,TO,i1,i2]:=λc u e hm=>by rw [(hf c hm).1] at e;cases e
   refine I.step (g':=s.gens) (d':=s.drawn) (t':=s.toks) (ch:=[z,TI,TO,i1,i2]) (λc hcm=>?_) (λc o _ _ hcm e _=>kk c o hcm e) (λc o _ _ hcm e _=>⟨o.slots,kk c o hcm e⟩) (λc o _ e n=>n)
    (λc o hcm e=>⟨o,kk c o hcm e⟩) (λc xs e=>e) (λc o w e=>e) (λc ps e=>⟨#[],by rw [e];simp⟩) (λm hm=>?_) (λc w e=>?_) I.bare
   ·obtain ⟨f0,f1,f2,f3,f4,f5⟩:=hf c hcm
    exact ⟨f3,f1,f4,f5⟩
   ·obtain ⟨o,es,ep,ho,r⟩:=hm
    exact ⟨o,es,ep,kk _ o (λhm=>(hf _ hm).2.1 rfl) ho,r⟩
   ·refine (I.hok c w e).stay (λc' w' hc' q=>kk c' w' ?_ q) (λc' q=>q) λc' xs q=>q
    rcases hc' with hc' | hc'
    ·rw [hc'];exact nfp _ _ e
    ·exact nfp _ _ hc'
 self:=λ_ _ _ _ _ st h=>wpAny_pyIter_zip st.1 h
section
variable {T:Tb} {X:Cx} {a b:Expr} {pos p tp:Pos} {fe:Ev} {fm:Ro->Out (List D)} {elts:List Expr} {x1:Nat}
theorem j15 {tu tv:Bool} {G H1:Hp} {l m:Addr} {vs ws:List V} {ds es:List D} (st:StE X.K tu G H1 l vs) (r:RepL T X.K H1 ds vs) (st2:StE X.K tv G H1 m ws) (r2:RepL T X.K H1 es ws):Walk T X.K G (Izz X.K tu tv l m) (List.zipWith (λx y=>D.tup [x,y]) ds es) H1:=λi H p sm=>by
 have sq:=(st.pers p).sq sm
 have sq2:=(st2.pers p).sq sm
 have r':=RepL.pers p _ _ r
 have r2':=RepL.pers p _ _ r2
 have hl:=RepL.length _ _ r'
 have hl2:=RepL.length _ _ r2'
 refine ⟨λd e=>?_,λh=>⟨vs,ws,sq,sq2,?_⟩⟩
 ·rw [List.getElem?_zipWith] at e
  cases ed:ds[i]? with
  | none=>rw [ed] at e;simp at e
  | some d1=>
   cases ee:es[i]? with
   | none=>rw [ed,ee] at e;simp at e
   | some d2=>
    rw [ed,ee] at e
    have e':D.tup [d1,d2]=d:=by simpa using e
    subst e'
    obtain ⟨v,e1,rd⟩:=RepL.get _ _ _ _ r' ed
    obtain ⟨w,e2,rd2⟩:=RepL.get _ _ _ _ r2' ee
    refine ⟨⟨vs,ws,v,w,sq,sq2,e1,e2⟩,λx H2 ⟨x',y',q,h1,h2,hx,hq,hH⟩=>?_⟩
    have z1:=h1 vs sq
    have z2:=h2 ws sq2
    rw [e1] at z1;cases z1
    rw [e2] at z2;cases z2
    subst hx hH
    exact ⟨q0A hq,q,[v,w],rfl,SqT.of q0p,v,[w],rfl,Rep.mono (q0A hq) _ _ rd,w,[],rfl,Rep.mono (q0A hq) _ _ rd2,rfl⟩
 ·rw [List.length_zipWith] at h
  rw [List.getElem?_eq_none_iff,List.getElem?_eq_none_iff]
  omega
theorem j2k (hg:Gl X "zip") (hm:X.mg "zip" = none) (ha:DE T X a fe) (hb:DP T X b fm) (hs:starEach [a,b] X.env=(false,eval a X.env)::starEach [b] X.env:=by exact q0w rfl) (hs2:starEach [b] X.env=(false,eval b X.env)::starEach [] X.env:=by exact q0w rfl) (hpl:(backTo pos (starEach [b] X.env)).any (·.1)=false:=by exact q0z rfl) :
 DI T X (.Tuple elts x1 tp) (.Call (.Name "zip" p) [a,b] [] pos) (j2u (q2z fe) fm):=.mk λG E hp=>by
 rintro pins s σ H R I ⟨ρ,fr,h⟩
 refine Call_ (q1l (X:=X.wish E) I hg hm boot_zip (PyProof.Rows.callWith_type1 (thn ((q0C (X:=X.wish E) (ha.run G E hp) (q0C (X:=X.wish E) (hb.run G E hp) q0Y hs2) hs) pos pins s σ H (λus H1=>∃l m vs ws,us=[.ref l,.ref m]/\SqE X.K true H1 l vs/\SqE X.K false H1 m ws/\R (Izz X.K true false l m) H1) I ⟨ρ,fr,Acc.mono (Acc.bind (Acc.bind h)) λd _ hd v H1 s1 rd=>?_⟩) λus s1 ⟨xs,H1,I1,r1,l,m,vs,ws,e1,sq,sq2,q⟩=>?_) hs hpl))
 ·cases d with
  | tup ds=>
   obtain ⟨l,vs,rfl,stl,r⟩:=rd
   have hd:Acc T X E σ H ((fm ρ).bind λes=>.ok (List.zipWith (λx y=>D.tup [x,y]) ds es)) _:=hd
   refine ⟨ρ,fr.mono s1,Acc.mono (Acc.bind (Acc.heap s1 hd)) λes _ hes m ws H2 s2 st2 r2=>?_⟩
   have stt:StE X.K true G H2 l vs:=q3A (Pers.of s2) stl
   exact ⟨l,m,vs,ws,rfl,stt.sq ((fr.same.trans s1).trans s2),st2.sq ((fr.same.trans s1).trans s2),hes _ H2 (s1.trans s2) (j15 stt (RepL.mono s2 _ _ r) (show StE X.K false G H2 m ws from st2) r2)⟩
  | _=>exact hd.elim
 ·subst e1
  obtain ⟨u,v,rfl,ru,rv0⟩:=Vals.two r1
  cases ru
  cases rv0
  obtain ⟨its,rv,pl,hz⟩:=q1q I1 sq
  obtain ⟨its2,rv2,pl2,hz2⟩:=q1q I1 sq2
  have a1:l < s1.heap.objs.size:=by obtain ⟨_,e,_⟩:=(pl:s1.heap.IsTuple l its.toArray);exact Heap.lt_size e
  have a2:m < s1.heap.objs.size:=by obtain ⟨_,e,_⟩:=(pl2:s1.heap.IsList m its2.toArray);exact Heap.lt_size e
  refine j0M pl pl2 λh' z1 z2 z3 z4 z5 kp=>?_
  have I2:Inv (X.wish E) pins σ H1 { s1 with heap:=h' }:=I1.kept (t':=s1.toks) kp
  refine wpAny_pyIter_zip z1 ⟨_,_,_,_,H1,rfl,I2,j0J true false l m _ _ _ _ _ (zipApart_new a1 a2),⟨z1,z2,⟨_,_,z3⟩,z4,z5⟩,λc hcm=>?_,q⟩
  have ge:s1.heap.objs.size<=c:=by
   simp only [List.mem_cons,List.not_mem_nil,or_false] at hcm
   rcases hcm with rfl | rfl | rfl | rfl | rfl<;>omega
  exact I1.fpOk ge (I1.hok.fresh ge)
end
def q2Z (ts:List Str):Str:=(PyData.list (ts.map PyData.str)).shown
theorem q3v {h:Heap}:∀{ts:List Str} {us:List Value},Vals (ts.map V.str) us->ReadsAll h us (ts.map PyData.str) []
 | [],_,.nil=>.nil
 | t::ts,_,.cons r q=>by
  obtain ⟨k,rfl⟩:=r
  exact .cons (.str t k) (q3v q)
theorem q4d:∀ts:List Str,PyData.showableAll (ts.map PyData.str)=true
 | []=>rfl
 | t::ts=>by simp [PyData.showableAll,PyData.showable,q4d ts]
theorem q34:∀ts:List Str,PyData.hasDictAll (ts.map PyData.str)=false
 | []=>rfl
 | t::ts=>by simp [PyData.hasDictAll,PyData.hasDict,q34 ts]
theorem q3r:∀ts:List Str,PyData.depthAll (ts.map PyData.str)=0
 | []=>rfl
 | t::ts=>by simp [PyData.depthAll,PyData.depth,q3r ts]
section
variable {T:Tb} {X:Cx} {v:Expr} {es:List Expr} {pos:Pos} {fl:Ro->Out (List D)} {fs:Ro->Option (List Str)} {k:Nat}
@[simp] def j8A (fl:Ro->Out (List D)) (fs:Ro->Option (List Str)) (ρ:Ro):Option (List Str):=match fl ρ with
 | .ok ds=>(match q3L ds with
  | some ts=>if (q2Z ts).length<=200000 then (match fs ρ with | some xs=>some (q2Z ts::xs) | none=>none) else none
  | none=>none)
 | _=>none
theorem q8H {ρ:Ro} {ys:List Str} (e:j8A fl fs ρ=some ys):∃ds ts xs,fl ρ=.ok ds/\q3L ds=some ts/\(q2Z ts).length<=200000/\fs ρ=some xs/\ys=q2Z ts::xs:=by
 unfold j8A at e
 cases ed:fl ρ with
 | ok ds=>
  rw [ed] at e
  cases et:q3L ds with
  | some ts=>
   simp only [et] at e
   by_cases h:(q2Z ts).length<=200000
   ·rw [if_pos h] at e
    cases ef:fs ρ with
    | some xs=>rw [ef] at e;cases e;exact ⟨ds,ts,xs,rfl,et,h,rfl,rfl⟩
    | none=>rw [ef] at e;cases e
   ·rw [if_neg h] at e;cases e
  | none=>simp only [et] at e;cases e
 | exc c=>rw [ed] at e;cases e
 | bad=>rw [ed] at e;cases e
theorem q9L (hr:Room k X.A) (he:DL T X v fl) (hj:DJ T X es fs):DJ T X (.FormattedValue v 114 none pos::es) (j8A fl fs):=.mk λG E hp pins s σ H acc Q I ⟨ρ,ys,fr,e,z,kk⟩=>by
 obtain ⟨ds,ts,xs,ed,et,hl,ef,rfl⟩:=q8H e
 refine wpAny_FormattedValue_repr (thn (he.run G E hp pins s σ H (λw H1=>∃l vs,w=.ref l/\Same H H1/\SqL X.K H1 l vs/\RepL T X.K H1 ds vs) I ⟨ρ,fr,?_⟩) λu s1 ⟨w,H1,I1,rv,l,vs,ew,sm,sq,rl⟩=>?_)
 ·rw [ed];exact λl vs H1 sm sq rl=>⟨l,vs,rfl,sm,sq,rl⟩
 ·subst ew
  cases rv
  obtain rfl:=q2U et rl
  obtain ⟨its,r,pl,hz⟩:=I1.list sq
  obtain ⟨o,ho,hc,n,hd⟩:=pl.isList
  have un:=hr.un
  refine pyReprObj_of_reads (d:=.list (ts.map PyData.str)) (.list ho hc hd (q3v r)) (by simp [PyData.showable,q4d]) (λq=>by simp [PyData.hasDict,q34] at q) hr.gd (by simp only [PyData.depth,q3r];omega) (λb o q=>q) (λh' u tk kp=>?_) (by rw [sizeLine_eq];show (q2Z ts).length<=_;omega)
  refine formatField_str (λt' tk'=>?_) (by rw [sizeLine_eq];show (q2Z ts).length<=_;omega)
  have I2:Inv (X.wish E) pins σ H1 { s1 with heap:=h',toks:=tk' }:=I1.kept kp
  exact q3X hp hj I2 (fr.mono sm) sm hl ef z kk
end
theorem q3F:seqSlot? (.type "list") (dunderI "add")=pure (some (.builtin "list.__iadd__")):=PySem.seqSlot_of F.slot_list_iadd.lookup (by decide +kernel)
theorem q26 {M:Model} {A:Around} {s:Shared} {E:Value->Shared->Prop} {a b:Value} {Q:Value->Shared->Prop} (ha:s.TypeIs a "list") (hb:s.TypeIs b "list")
 (hc:wpAny M A (call (.builtin "list.__iadd__") [a,b]) Q E s):wpAny M A (inplaceOp .Add a b) Q E s:=by
 unfold inplaceOp
 refine wpAny_holding ?_
 have hfi:fillsInplaceSlot (.type "list") "add" (Operator.Add==.Add)=pure false:=by
  unfold fillsInplaceSlot
  show (typeLookup (.type "list") (dunderI "add") >>= λfi=>pure (fi.isSome && !isSeqSlot fi))=pure false
  rw [F.slot_list_iadd.lookup,pure_bind]
  exact congrArg pure (by decide +kernel)
 refine wpAny_bind (wpAny_typeOf ha (wpAny_bind (wpAny_of_eq hfi ?_)))
 show wpAny M A (if false=true then _ else _) Q E s
 rw [if_neg Bool.false_ne_true]
 refine wpAny_bind (wpAny_binaryOp1_none (nm:="add") ha hb noFill_list_add ?_)
 refine wpAny_bind (wpAny_of_eq q3F ?_)
 exact wpAny_bind (wpAny_rule hc)
def j6x:TIp:=λx y H Q=>∃l b xs zs,x=.ref l/\y=.ref b/\H l=some (.lst xs)/\H b=some (.lst zs)/\xs.length+zs.length<=sizeLine/\Q (.ref l) (upd H l (.lst (xs++zs)))
theorem j1c {X:Cx}:PIp X .Add j6x:=by
 intro pins s σ H x y v u Q I r1 r2 h
 obtain ⟨l,b,xs,zs,rfl,rfl,hH,hB,hz,q⟩:=h
 cases r1
 cases r2
 obtain ⟨z,its,n,r,hl,e⟩:=I.lstM hH
 obtain ⟨z2,its2,n2,rr,l2,e2⟩:=I.lstM hB
 have hsz:its.toArray.size+its2.toArray.size<=sizeLine:=by rw [List.size_toArray,List.size_toArray];omega
 have hlong:¬(!its.toArray.isEmpty && Builtin.List.listTooLong (its.toArray.size+its2.toArray.size))=true:=by
  rw [q5E hsz,Bool.and_false]
  exact Bool.false_ne_true
 refine q26 ⟨_,e,rfl⟩ ⟨_,e2,rfl⟩ ?_
 refine call_meets F.slot_list_iadd ⟨_,e,rfl⟩ F.entry_list_iadd (F.args_list_iadd_2 _ _)
  (AutoSeq1.list___iadd___list_list_0 l its.toArray n b its2.toArray n2 hlong (by rw [List.size_toArray];omega) (by omega)) ⟨e,e2,?_⟩
 refine ⟨.ref l,_,I.lset (its':=its++its2) hH e (by simp) (r.append rr) ?_,rfl,q⟩
 rw [List.length_append]
 omega
section
variable {T:Tb} {ib:Bool} {X:Cx} {e:Expr} {pos pos':Pos} {x:Str}
@[simp] def q7F (i:Nat) (fl:Ro->Out (List D)) (ρ:Ro):Fl:=match ρ[i]? with
 | some (.ow ds)=>(fl ρ).fl ρ λes=>if ds.length+es.length<=1000000 then .nx (ρ.set i (.ow (ds++es))) else .bad
 | _=>.bad
theorem q4Z {fl:Ro->Out (List D)} (i:Nat) (hN:X.N.Nodup) (he:DF T X e fl) (hi:X.N[i]?=some x:=by rfl) (hx:Loc X.env.scope x:=by walk_at "v3") (hf:X.fn x=true∨X.env.scope.names.lookup x=some .local:=by walk_at "v2") :
 DS T ib X (.AugAssign (.Name x pos') .Add e pos) (q7F i fl):=.mk λG E hp=>
 PS.imp (q8j (X:=X.wish E) hN hi hx (he.run G E hp) j1c hf) λD σ H ⟨ρ,fr,h⟩=>by
  unfold q7F at h
  split at h
  ·rename_i ds e0
   obtain ⟨l,vs,e1,e2,e3,r⟩:=fr.sl i _ e0
   refine ⟨_,e1,ρ,fr,Acc.mono (AccS.fl fr h) λes _ hd a ws H1 s1 hn ha r1=>?_⟩
   by_cases z:ds.length+es.length<=1000000
   ·rw [if_pos z] at hd
    have r':=RepL.mono s1 _ _ r
    refine ⟨l,a,vs,ws,rfl,rfl,s1 _ _ e2,ha,?_,?_⟩
    ·rw [RepL.length _ _ r,RepL.length _ _ r1]
     have:=line6 (n:=1000000) (by omega)
     omega
    ·have q:=hd σ _ ((fr.mono s1).own_upd e0 e1 (s1 _ _ e2) e3 (RepL.append _ _ _ _ r' r1)) ((Pers.of s1).trans (q1Y (s1 _ _ e2)))
     have:σ.set i (some (.ref l))=σ:=by
      have hl:i < σ.length:=(List.getElem?_eq_some_iff.mp e1).1
      have:=(List.getElem?_eq_some_iff.mp e1).2
      rw [<-this,List.set_getElem_self]
     show D.nx (σ.set i (some (.ref l))) _
     rw [this]
     exact q
   ·rw [if_neg z] at hd;exact hd.elim
  ·exact h.elim
theorem j3f:PIp X .Mult (λx y H Q=>∃i j,x=.int i/\y=.int j/\q4z i j=true/\Q (.int (i*j)) H):=by
 intro pins s σ H x y v u Q I r1 r2 h
 obtain ⟨i,j,e1,e2,hm,q⟩:=h
 subst e1;subst e2
 obtain ⟨t,rfl⟩:=r1
 obtain ⟨t',rfl⟩:=r2
 have hm:CMul i j:=by
  simp only [q4z,Bool.or_eq_true,Bool.and_eq_true,decide_eq_true_eq] at hm;exact hm
 exact AutoIntOps.imul_0 (hm:=hm.ok) ⟨.int _,H,I.tok _,⟨_,rfl⟩,q⟩
@[simp] def j2n (i:Nat) (fe:Ev) (ρ:Ro):Fl:=match ρ[i]? with
 | some (.sh (.int a))=>(fe ρ).fl ρ λd=>(match d with
  | .int c=>if q4z a c=true then .nx (ρ.set i (.sh (.int (a*c)))) else .bad
  | _=>.bad)
 | _=>.bad
theorem j2e {fe:Ev} (i:Nat) (hN:X.N.Nodup) (he:DE T X e fe) (hi:X.N[i]?=some x:=by rfl) (hx:Loc X.env.scope x:=by walk_at "v3") (hf:X.fn x=true∨X.env.scope.names.lookup x=some .local:=by walk_at "v2")
 (hz:T.me=none∨i≠0:=by walk_at "v1") :
 DS T ib X (.AugAssign (.Name x pos') .Mult e pos) (j2n i fe):=.mk λG E hp=>
 PS.imp (q8j (X:=X.wish E) hN hi hx (he.run G E hp) j3f hf) λD σ H ⟨ρ,fr,h⟩=>by
  unfold j2n at h
  split at h
  ·rename_i a e0
   obtain ⟨v,e1,r⟩:=fr.sl i _ e0
   refine ⟨v,e1,ρ,fr,Acc.mono (AccS.fl fr h) λd _ hd u H1 s1 r1=>?_⟩
   cases d with
   | int c=>
    have hd:AccS T ib X G E H (if q4z a c=true then Fl.nx (ρ.set i (.sh (.int (a*c)))) else .bad) D:=hd
    by_cases z:q4z a c=true
    ·rw [if_pos z] at hd
     exact ⟨a,c,r,r1,z,hd _ _ ((fr.mono s1).set_sh (d:=.int (a*c)) rfl hz) (Pers.of s1)⟩
    ·rw [if_neg z] at hd;exact hd.elim
   | _=>exact hd.elim
  ·exact h.elim
end
def q4a (i j k:Int):Bool:=q5a i j k && decide (Builtin.Range.rangeSize i j k<=1000000)
@[simp] def j4a (fa fb fc:Ev) (ρ:Ro):Out (List D):=(fa ρ).bind λd=>(fb ρ).bind λd'=>(fc ρ).bind λd''=>match d,d',d'' with
 | .int i,.int j,.int k=>if q4a i j k=true then .ok (rgS i k (Builtin.Range.rangeSize i j k).toNat) else .bad
 | _,_,_=>.bad
theorem q5V:∀(l:List Value) (f:Nat->Int),(∀(j:Nat) (v:Value),l[j]?=some v->∃t,v=Value.int (f j) t)->Vals ((List.range l.length).map λj=>V.int (f j)) l
 | [],_,_=>.nil
 | v::l,f,h=>by
  rw [List.length_cons,List.range_succ_eq_map,List.map_cons,List.map_map]
  exact .cons (h 0 v rfl) (q5V l (λj=>f (j+1)) λj u e=>h (j+1) u e)
theorem q5k {T:Tb} {K:PySem.W.Frag} {H:Hp} (f:Nat->Int):∀(l:List Nat),RepL T K H (l.map λj=>D.int (f j)) (l.map λj=>V.int (f j))
 | []=>rfl
 | j::l=>⟨_,_,rfl,rfl,q5k f l⟩
section
variable {T:Tb} {X:Cx} {a b c:Expr} {pos p p2 pos2:Pos} {fa fe fc:Ev}
theorem q4R (hcm:X.calm=true) (hgl:Gl X "list") (hml:X.mg "list" = none) (hg:Gl X "range") (hm:X.mg "range" = none) (ha:DE T X a fa) (hb:DE T X b fe) (hc:DE T X c fc) (hs:starEach [a,b,c] X.env=(false,eval a X.env)::starEach [b,c] X.env:=by exact q0w rfl) (hs2:starEach [b,c] X.env=(false,eval b X.env)::starEach [c] X.env:=by exact q0w rfl) (hs3:starEach [c] X.env=(false,eval c X.env)::starEach [] X.env:=by exact q0w rfl)
 (hpl:(backTo pos2 (starEach [b,c] X.env)).any (·.1)=false:=by exact q0z rfl) (hpl2:(backTo pos (starEach ([]:List Expr) X.env)).any (·.1)=false:=by exact q0z rfl):DF T X (.Call (.Name "list" p) [.Call (.Name "range" p2) [a,b,c] [] pos2] [] pos) (j4a fa fe fc):=.mk λG E hp=>by
 rintro pins s σ H Q I ⟨ρ,fr,h⟩
 have hsO:starEach [.Call (.Name "range" p2) [a,b,c] [] pos2] X.env=(false,eval (.Call (.Name "range" p2) [a,b,c] [] pos2) X.env)::starEach [] X.env:=q0w rfl
 refine Call_ (q1l (X:=X.wish E) I hgl hml (u:=.type "list") rfl (PyProof.Rows.callWith_type1 ?_ hsO hpl2))
 rw [show starEach [.Call (.Name "range" p2) [a,b,c] [] pos2] (X.wish E).env=(false,eval (.Call (.Name "range" p2) [a,b,c] [] pos2) X.env)::starEach [] X.env from hsO]
 show wpAny _ _ (spliced ((false,eval (.Call (.Name "range" p2) [a,b,c] [] pos2) X.env)::backTo pos (starEach [] X.env))) _ _ s
 refine Calls.spliced_cons (Call_ (q1l (X:=X.wish E) I hg hm boot_range (PyProof.Rows.callWith_type1 (thn ((q0C (X:=X.wish E) (ha.run G E hp) (q0C (X:=X.wish E) (hb.run G E hp) (q0C (X:=X.wish E) (hc.run G E hp) q0Y hs3) hs2) hs) pos2 pins s σ H (λvs H1=>∃i j k,vs=[.int i,.int j,.int k]/\q4a i j k=true/\Same H H1/\Acc T X E σ H (.ok (rgS i k (Builtin.Range.rangeSize i j k).toNat)) (λds=>∀a vs H',Same H H'->H a=none->H' a=some (.lst vs)->RepL T X.K H' ds vs->Q (.ref a) H')) I ⟨ρ,fr,?_⟩) λus s1 ⟨vs,H1,I1,r1,i,j,k,e,ok,sm,hd⟩=>?_) hs hpl)))
 ·refine Acc.mono (Acc.bind h) λd _ hd v H1 s1 r=>⟨ρ,fr.mono s1,Acc.mono (Acc.bind (Acc.heap s1 hd)) λd' _ hd' v' H2 s2 r'=>⟨ρ,(fr.mono s1).mono s2,Acc.mono (Acc.bind (Acc.heap s2 hd')) λd'' _ hd'' v'' H3 s3 r''=>?_⟩⟩
  cases d with
  | int i=>
   cases d' with
   | int j=>
    cases d'' with
    | int k=>
     have hd2:Acc T X E σ H2 (if q4a i j k=true then Out.ok (rgS i k (Builtin.Range.rangeSize i j k).toNat) else .bad) (λds=>∀a vs H',Same H H'->H a=none->H' a=some (.lst vs)->RepL T X.K H' ds vs->Q (.ref a) H'):=hd''
     by_cases z:q4a i j k=true
     ·rw [if_pos z] at hd2
      exact ⟨i,j,k,by rw [show v=V.int i from r,show v'=V.int j from r',show v''=V.int k from r''],z,(s1.trans s2).trans s3,hd2⟩
     ·rw [if_neg z] at hd2;exact hd2.elim
    | _=>exact hd''.elim
   | _=>first | exact hd''.elim | (cases d''<;>exact hd''.elim)
  | _=>first | exact hd''.elim | (cases d'<;>first | exact hd''.elim | (cases d''<;>exact hd''.elim))
 ·subst e
  cases r1 with
  | cons r rr=>
   cases rr with
   | cons r' rr=>
    cases rr with
    | cons r'' rr=>
     cases rr
     obtain ⟨t,rfl⟩:=r
     obtain ⟨t',rfl⟩:=r'
     obtain ⟨t'',rfl⟩:=r''
     simp only [q4a,q5a,Bool.and_eq_true,decide_eq_true_eq] at ok
     obtain ⟨⟨⟨⟨⟨⟨⟨o1,o2⟩,o3⟩,o4⟩,o5⟩,o6⟩,o7⟩,o8⟩:=ok
     obtain ⟨k1,k2⟩:=q2p o1 o2 o3 o4 o7
     refine call_range_3 o7 ?_ (.inl (PyProof.noPylong_small (by omega)))
     refine Calls.spliced_nil ?_
     have I2:Inv (X.wish E) pins σ H1 { s1 with heap:=s1.heap.push { cls:=.type "range",data:=.fields #[.int i t,.int j t',.int k t''] } }:=I1.kept (t':=s1.toks) λb o e=>Heap.get?_push_of_some _ e
     refine call_list_range (n:=(Builtin.Range.rangeSize i j k).toNat) (I1.ok.hd hcm) (IsRange.new ..) (q5t o1 o2 o3 o4 (by omega) (by omega) o7) (by omega) (by omega) λh' tk acc' c' hk hS' hacc=>?_
     obtain ⟨z1,z2⟩:=hacc
     have hv:=q5V acc'.toList (λ(j:Nat)=>i+(j:Int)*k) λj v e=>z2 j v (by simpa using e)
     rw [Array.length_toList,z1] at hv
     have ln:((List.range (Builtin.Range.rangeSize i j k).toNat).map λ(j:Nat)=>V.int (i+(j:Int)*k)).length<=sizeLine:=by
      rw [List.length_map,List.length_range]
      have:=line6 (n:=1000000) (by omega)
      omega
     have fr2:H1 (s1.heap.push { cls:=.type "range",data:=.fields #[.int i t,.int j t',.int k t''] }).objs.size=none:=I2.hok.fresh (Nat.le_refl _)
     refine ⟨.ref _,_,I2.laid (t':=tk) (o:=.lst _) hk (Nat.le_refl _) ⟨ln,acc'.toList,c',hv,by simpa using hS'⟩,rfl,?_⟩
     exact hd _ _ _ (sm.trans (q0A fr2)) (sm.free fr2) q0p (q5k _ _)
end
def q2u (caps:List Nat) (ρ:Ro) (d1 d2:D):Ro:=.sh d1::.sh d2::caps.map λi=>q8C (ρ.getD i .no)
def tup2 {α:Type} (f:Ro->Out α) (caps:List Nat) (ρ:Ro):D->Out α
 | .tup [d1,d2]=>f (q2u caps ρ d1 d2)
 | _=>.bad
theorem q6d {α:Type} {f:Ro->Out α} {caps:List Nat} {ρ:Ro} {d:D} {k:α} (h:tup2 f caps ρ d=.ok k):∃d1 d2,d=.tup [d1,d2]:=by
 unfold tup2 at h
 split at h
 ·exact ⟨_,_,rfl⟩
 ·cases h
theorem j0W {X:Cx} {pins:List (Addr×Obj)} {H:Hp} {s s0:Shared} {scope:Scope} {x x2:Str} {ys:List Str} {cl:List (Str×Addr)} {ex:List Addr} {C:Addr} {H0:Hp} {a:Option V} {r:L2.St}
 (I:Inv (CxC X (x::ys) scope cl C s0 H0 ex) pins (a::r) H s):Inv (CxC X (x::x2::ys) scope cl C s0 H0 ex) pins (a::none::r) H s where
 ok:=⟨I.ok.mod,I.ok.kind,I.ok.glob,I.ok.blt,I.ok.above,I.ok.inj,I.ok.has,I.ok.cab,I.ok.hd,I.ok.frames,I.ok.stk,I.ok.exf,I.ok.bs,I.ok.bsz,I.ok.noex,I.ok.exfs,I.ok.funs,I.ok.frf⟩
 os:=I.os
 bare:=I.bare
 base:=I.base
 loc:=by
  obtain ⟨m,hn,hl⟩:=I.loc
  refine ⟨m,hn,λi y v e1 e2 e3=>?_⟩
  match i,e1,e2 with
  | 0,e1,e2=>exact hl 0 y v e1 e2 e3
  | 1,_,e2=>cases e2
  | i+2,e1,e2=>exact hl (i+1) y v e1 e2 e3
 cell:=I.cell
 free:=I.free
 freeC:=I.freeC
 pin:=I.pin
 hok:=I.hok
 len:=by
  have:=I.len
  show (a::none::r).length=(x::x2::ys).length
  have this:(a::r).length=(x::ys).length:=this
  simp only [List.length_cons] at this ⊢
  omega
theorem q9y {T T0:Tb} {K:PySem.W.Frag} {G H H':Hp} {σ:L2.St} {ρ:Ro} {caps:List Nat} {d1 d2:D} {v1 v2:V} (hT:T0={ T with me:=none }) (fr:FR T K G H σ ρ) (p:Pers false H H') (r1:Rep T K H' d1 v1) (r2:Rep T K H' d2 v2) :
 FR T0 K (λ_=>none) H' (some v1::some v2::caps.map λi=>σ.getD i none) (q2u caps ρ d1 d2):=by
 have f:=q5e (w:=none) hT fr p r1 (caps:=caps)
 refine ⟨λ_ _ e=>(by cases e),by simp [q2u],λi s e=>?_,λi j s t b _ e1 _ o1 _=>?_,λx e=>?_,λi c ds e=>?_⟩
 ·match i,e with
  | 0,e=>exact f.sl 0 s e
  | 1,e=>
   have e:Sl.sh d2=s:=Option.some.inj e
   subst e
   exact ⟨v2,rfl,hT ▸ (q1L _ _).mpr r2⟩
  | i+2,e=>exact f.sl (i+1) s e
 ·exfalso
  match i,e1,o1 with
  | 0,e1,o1=>
   have e1:Sl.sh d1=s:=Option.some.inj e1
   subst e1;exact o1
  | 1,e1,o1=>
   have e1:Sl.sh d2=s:=Option.some.inj e1
   subst e1;exact o1
  | i+2,e1,o1=>
   have e:(caps.map λi=>q8C (ρ.getD i .no))[i]?=some s:=e1
   rw [List.getElem?_map] at e
   cases q:caps[i]? with
   | none=>rw [q] at e;cases e
   | some k=>
    rw [q] at e
    have e:q8C (ρ.getD k .no)=s:=Option.some.inj e
    cases z:ρ.getD k .no<;>(rw [z] at e;subst e;exact o1)
 ·subst hT;cases e
 ·exfalso
  match i,e with
  | 0,e=>cases Option.some.inj e
  | 1,e=>cases Option.some.inj e
  | i+2,e=>exact absurd (f.me0 (i+1) c ds e) (by omega)
theorem q28 {prog:Program} {w:World} {A:Around} {R:Result->Shared->Prop} {s:Shared} {elt target iter:Expr} {ifs:List Expr} {scope:Scope} {pos:Pos} {it acc:Value} {env:Env} (I:Nat->Shared->Prop)
 (turn:∀n s,I n s->wpAny (model prog w) A (pyNext it) (λr s₁=>match r with
  | none=>R (.ok .next) s₁
  | some v=>wpAny (model prog w) A (letOwnedTupleGo target it v) (λ_ s₁=>wpAny (model prog w) A (assign target env v) (λ_ s₂=>
   wpAny (model prog w) A (forIn ifs true λc r=>if r=true then do let ok <-isTrue c env (eval c env);pure (ForInStep.yield ok) else pure (ForInStep.yield r)) (λok s₃=>
    if ok=true then wpAny (model prog w) A (eval elt env) (λx s₄=>
     wpAny (model prog w) A (call (.builtin "list.append") [acc,x]) (λ_ s₅=>∃m,m < n/\I m s₅) (notedBy (model prog w) A env λe s'=>R (.error e) s') s₄) (notedBy (model prog w) A env λe s'=>R (.error e) s') s₃
    else ∃m,m < n/\I m s₃) (notedBy (model prog w) A env λe s'=>R (.error e) s') s₂) (notedBy (model prog w) A env λe s'=>R (.error e) s') s₁) (notedBy (model prog w) A env λe s'=>R (.error e) s') s₁) (notedBy (model prog w) A env λe s'=>R (.error e) s') s)
 (n:Nat) (h:I n s):codeAny (model prog w) A (.compLoop (.ListComp elt [⟨target,iter,ifs,0⟩] scope pos) 0 it acc env) R s:=by
 refine codeAny_loop rfl I (λn s hI=>?_) n h
 show wpAny _ A ((compTurn (.ListComp elt [⟨target,iter,ifs,0⟩] scope pos) 0 it acc env).onRaise (λx=>do noteFrame x env;theTreesLotGoes x)) _ _ s
 refine wpAny_noted ?_
 rw [compTurn_list]
 refine wpAny_bind (wpAny_standAt (wpAny_bind (wpAny_mono (turn n s hI) (λr s₁ h₁=>?_) λ_ _ h'=>h')))
 cases r with
 | none=>exact wpAny_pure h₁
 | some v=>
  refine wpAny_bind (wpAny_mono h₁ (λ_ s₀ h₀=>?_) λ_ _ h'=>h')
  refine wpAny_bind (wpAny_mono h₀ (λ_ s₂ h₂=>wpAny_bind (wpAny_mono h₂ (λok s₃ h₃=>?_) λ_ _ h'=>h')) λ_ _ h'=>h')
  cases ok with
  | false=>exact wpAny_pure ⟨rfl,h₃⟩
  | true=>
   exact wpAny_bind (wpAny_bind (wpAny_mono h₃ (λx s₄ h₄=>wpAny_bind (wpAny_mono h₄ (λ_ s₅ h₅=>wpAny_pure (wpAny_pure ⟨rfl,h₅⟩)) λ_ _ h'=>h')) λ_ _ h'=>h'))
section
variable {T:Tb} {X:Cx} {elt iter:Expr} {x x2:Str} {px px2 pos pt:Pos} {kk:Nat} {scope:Scope} {ys:List Str} {caps:List Nat} {fe:Ev} {ft:Ro->Out Bool} {tst:Expr} {cl:List (Str×Addr)} {pins:List (Addr×Obj)} {σ:L2.St} {G H2:Hp} {s2:Shared} {J:It} {fp:List Addr} {it:Addr} {tn:Nat->Heap->Prop} {ρ:Ro} {ds es:List D}
theorem q6n {T0:Tb} {RR:Value->Addr->Result->Shared->Prop} {E:Value->Shared->Prop} (hT:T0={ T with me:=none }) (hc:X.calm=true) (cp:Cap X scope x ys caps) (own2:scope.names.lookup x2=some .local) (nd2:(x::x2::ys).Nodup) (h1:∀y c,cl.lookup y=some c->X.env.cells.lookup y=some c) (h2:∀y∈scope.names,y.2=.free->∃c,cl.lookup y.1=some c)
 (he:∀(cl:List (Str×Addr)) (C:Addr) (s₀:Shared) (H₀:Hp) (ex:List Addr),DE T0 (CxC X (x::x2::ys) scope cl C s₀ H₀ ex) elt fe)
 (ht:∀(cl:List (Str×Addr)) (C:Addr) (s₀:Shared) (H₀:Hp) (ex:List Addr),DT T0 (CxC X (x::x2::ys) scope cl C s₀ H₀ ex) tst ft)
 (I2:Inv X pins σ H2 s2) (Tn:Turn X.prog X.w X.K (.Tuple [.Name x px,.Name x2 px2] kk pt) J fp it tn) (t0:tn 0 s2.heap) (f2:∀b∈fp,q1X X pins H2 b)
 (fr:FR T X.K G H2 σ ρ) (wk:Walk T X.K G J ds H2) (hm:q2c (tup2 ft caps ρ) (tup2 fe caps ρ) ds=some es) (hl:ds.length<=1000000)
 (hRR:∀(a C:Addr) (s':Shared) (m':Str->Option Value) (Hn:Hp) (vs:List V),Inv X pins σ Hn s'->q1X X pins Hn C->s'.heap.Ns C m'->Same H2 Hn->H2 a=none->Hn a=some (.lst vs)->RepL T X.K Hn es vs->RR (.ref a) C (.ok .next) s') :
 wpAny (model X.prog X.w) X.A (newList []) (λacc s3=>wpAny (model X.prog X.w) X.A (newFunctionEnv scope X.env.globals cl [] X.env.qual none .none (some X.env)) (λcenv s4=>
  codeAny (model X.prog X.w) X.A (.compStart (.ListComp elt [⟨.Tuple [.Name x px,.Name x2 px2] kk pt,iter,[tst],0⟩] scope pos) 0 (.ref it) acc { cenv with scope:=relabel scope X.env }) (RR acc cenv.locals) s4) E s3) E s2:=by
 refine wpAny_newList (wpAny_newFunctionEnv cp.nocell (by intro y hy;simp at hy) (λh' hns hsb=>?_) cp.kind)
 have I3:Inv X pins σ (upd H2 s2.heap.objs.size (.lst [])) { s2 with heap:=s2.heap.push { cls:=.type "list",data:=.seq ([]:List Value).toArray } }:=I2.lnew (t':=s2.toks) .nil (Nat.zero_le _)
 have bl:∀b∈fp,b < s2.heap.objs.size:=λb hb=>by
  obtain ⟨o,e,_⟩:=Tn.obj 0 _ t0 b hb
  exact Heap.lt_size e
 have ha0:H2 s2.heap.objs.size=none:=I2.hok.fresh (Nat.le_refl _)
 generalize hA:s2.heap.objs.size=a at *
 have f3:∀b∈fp,q1X X pins (upd H2 a (.lst [])) b:=λb hb=>⟨by rw [q0h (Nat.ne_of_lt (bl b hb))];exact (f2 b hb).1,(f2 b hb).2⟩
 have hs3:(s2.heap.push { cls:=.type "list",data:=.seq ([]:List Value).toArray }).objs.size=a+1:=by rw [Heap.size_push,hA]
 generalize hH:s2.heap.push { cls:=.type "list",data:=.seq ([]:List Value).toArray }=hp3 at *
 have up3:∀b o,s2.heap.get? b=some o->hp3.get? b=some o:=λb o e=>hH ▸ Heap.get?_push_of_some _ e
 have k3:∀b o,hp3.get? b=some o->h'.get? b=some o:=λb o e=>
  hsb.extBut b o (Nat.ne_of_lt (Heap.lt_size e)) (Heap.get?_push_of_some _ e)
 have t1:tn 0 h':=Tn.keep 0 _ _ t0 λb hb o e=>k3 b o (up3 b o e)
 generalize hC:hp3.objs.size=C at *
 have I4:Inv (CxC X (x::x2::ys) scope cl C { s2 with heap:=hp3 } (upd H2 a (.lst [])) fp) [] (none::none::caps.map λi=>σ.getD i none) (upd H2 a (.lst [])) { s2 with heap:=h',toks:=s2.toks+([]:List (Str×Value)).length }:=by
  have:=q3O (ex:=fp) (tk:=s2.toks+([]:List (Str×Value)).length) (h':=h') I3 cp h1 h2 (λb hb=>⟨f3 b hb,by show b < hp3.objs.size;rw [hC,hs3];exact Nat.lt_succ_of_lt (bl b hb)⟩) (by show h'.Ns hp3.objs.size _;rw [hC];exact hns) k3
  have e:({ s2 with heap:=hp3 }:Shared).heap.objs.size=C:=hC
  rw [e] at this
  exact j0W this
 have sm0:Same H2 (upd H2 a (.lst [])):=λb o e=>by
  have:b≠a:=λz=>by rw [z,ha0] at e;cases e
  rw [q0h this];exact e
 have own2':(CxC X (x::x2::ys) scope cl C { s2 with heap:=hp3 } (upd H2 a (.lst [])) fp).env.scope.names.lookup x2=some .local:=lookup_relabel_local own2
 have own:(CxC X (x::x2::ys) scope cl C { s2 with heap:=hp3 } (upd H2 a (.lst [])) fp).env.scope.names.lookup x=some .local:=lookup_relabel_local cp.own
 have Icf:q1X X pins (upd H2 a (.lst [])) C:=I3.fpOk (by show hp3.objs.size<=C;rw [hC];exact Nat.le_refl _) I4.free
 have fpc:∀{pn:List (Addr×Obj)} {H:Hp},(∀b∈fp,H b=none)->(∀b∈fp,∀p∈pn,p.1≠b)->∀b∈fp,q1X (CxC X (x::x2::ys) scope cl C { s2 with heap:=hp3 } (upd H2 a (.lst [])) fp) pn H b:=λhn hp b hb=>
  ⟨hn b hb,(I4.ok.exf b hb).1,I4.ok.exfs b hb,.inl hb,(I4.ok.exf b hb).2,hp b hb⟩
 have loop:∀s':Shared,s'={ s2 with heap:=h',toks:=s2.toks+([]:List (Str×Value)).length } ->
  codeAny (model X.prog X.w) X.A (.compLoop (.ListComp elt [⟨.Tuple [.Name x px,.Name x2 px2] kk pt,iter,[tst],0⟩] scope pos) 0 (.ref it) (.ref a) (compEnvC scope cl C X.env)) (RR (.ref a) C) s':=by
  rintro s' rfl
  refine q28 (λn s'=>∃(i:Nat) (w w2:Option V) (H':Hp) (vs:List V),n=ds.length-i/\i<=ds.length/\Inv (CxC X (x::x2::ys) scope cl C { s2 with heap:=hp3 } (upd H2 a (.lst [])) fp) [] (w::w2::caps.map λi=>σ.getD i none) H' s'/\tn i s'.heap/\(∀b∈fp,H' b=none) /\
   Same H2 H'/\H' a=some (.lst vs)/\∃xs,q2c (tup2 ft caps ρ) (tup2 fe caps ρ) (ds.take i)=some xs/\RepL T X.K H' xs vs) ?_ ds.length ⟨0,none,none,_,[],rfl,Nat.zero_le _,I4,t1,λb hb=>(f3 b hb).1,sm0,q0p,[],by rw [List.take_zero];rfl,rfl⟩
  rintro n s' ⟨i,w,w2,H',vs,rfl,hi,I',ti,fn,sm,hv,xs,ex,rp⟩
  obtain ⟨w1,w2⟩:=wk i H' (Pers.of sm) (fr.same.trans sm)
  by_cases hlt:i < ds.length
  ·obtain ⟨d,e1⟩:∃d,ds[i]?=some d:=⟨ds[i],by simp [hlt]⟩
   obtain ⟨go,yl⟩:=w1 d e1
   have tk1:ds.take (i+1)=ds.take i++[d]:=by
    obtain ⟨q1,q2⟩:=List.getElem?_eq_some_iff.mp e1
    rw [List.take_succ_eq_append_getElem q1,q2]
   obtain ⟨xs',ex'⟩:=q2L (a:=ds.take (i+1)) (b:=ds.drop (i+1)) (by rw [List.take_append_drop];exact hm)
   have stp:=q2h ex (by rw [<-tk1];exact ex')
   refine wpAny_mono (Tn.item ((CxC X (x::x2::ys) scope cl C { s2 with heap:=hp3 } (upd H2 a (.lst [])) fp).wish λ_ _=>False) rfl rfl rfl hc i [] s' _ H' (λ_ _=>False) (I'.wish _) (fpc fn λ_ _ p hp=>by cases hp) ti go) (λr s1 h=>?_) λ_ _ z=>z.elim
   obtain ⟨u,rfl,h⟩:=h
   refine wpAny_mono h (λ_ s5 h5=>?_) λ_ _ z=>z.elim
   obtain ⟨y,H5,I5,r5,y5,t5,f5⟩:=h5
   obtain ⟨s5',rd⟩:=yl y H5 y5
   have I5':=I5.pinned (fpc f5 λ_ _ p hp=>by cases hp) (Tn.obj _ _ t5)
   obtain ⟨d1,d2,rfl⟩:∃d1 d2,d=.tup [d1,d2]:=by
    rcases stp with ⟨q,_⟩ | ⟨q,_⟩<;>exact q6d q
   obtain ⟨p,vs2,rfl,sq,v1,r1,rfl,rd1,v2,r2,rfl,rd2,rfl⟩:=rd
   refine wpAny_mono (j0u (X:=(CxC X (x::x2::ys) scope cl C { s2 with heap:=hp3 } (upd H2 a (.lst [])) fp).wish λ_ _=>False) (n:=2) hc (q3G (q18 (X:=(CxC X (x::x2::ys) scope cl C { s2 with heap:=hp3 } (upd H2 a (.lst [])) fp).wish λ_ _=>False) (i:=0) nd2 rfl (.inl own) (.inr own)) (q3G (q18 (X:=(CxC X (x::x2::ys) scope cl C { s2 with heap:=hp3 } (upd H2 a (.lst [])) fp).wish λ_ _=>False) (i:=1) nd2 rfl (.inl own2') (.inr own2')) q7W)) rfl rfl _ s5 _ H5 _ u (fun σ' H''=>σ'=some v1::some v2::caps.map (λi=>σ.getD i none)/\H''=H5) I5' r5 ⟨p,[v1,v2],rfl,sq,rfl,v1,[v2],rfl,v2,[],rfl,rfl,rfl,rfl⟩) (λ_ s6 h6=>?_) λ_ _ z=>z.elim
   obtain ⟨σ6,H6,I6,rfl,rfl⟩:=h6
   have fr6:FR T0 X.K (λ_=>none) H6 (some v1::some v2::caps.map λi=>σ.getD i none) (q2u caps ρ d1 d2):=q9y hT fr (Pers.of (sm.trans s5')) rd1 rd2
   have lv:vs.length<=i:=by rw [RepL.length _ _ rp];exact Nat.le_trans (q2D ex) (by rw [List.length_take];exact Nat.min_le_left _ _)
   have tst1:∀k,ft (q2u caps ρ d1 d2)=.ok k->wpAny (model X.prog X.w) X.A (isTrue tst (compEnvC scope cl C X.env) (eval tst (compEnvC scope cl C X.env))) (λb s7=>b=k/\∃H7,Inv (CxC X (x::x2::ys) scope cl C { s2 with heap:=hp3 } (upd H2 a (.lst [])) fp |>.wish λ_ _=>False) ([]++q3n fp s5.heap) (some v1::some v2::caps.map λi=>σ.getD i none) H7 s7/\Same H6 H7) (λ_ _=>False) s6:=λk hk=>by
    refine wpAny_mono ((ht cl C { s2 with heap:=hp3 } (upd H2 a (.lst [])) fp).run (λ_=>none) (λ_ _=>False) PassesOwn.never _ s6 _ H6 (λb H7=>b=k/\Same H6 H7) I6 ⟨q2u caps ρ d1 d2,fr6,by rw [hk];exact λH7 s7=>⟨rfl,s7⟩⟩) (λb s7 h7=>?_) λ_ _ z=>z
    obtain ⟨H7,I7,q1,q2⟩:=h7
    exact ⟨q1,H7,I7,q2⟩
   rcases stp with ⟨tt,e,ef,rfl⟩ | ⟨tf,rfl⟩
   ·refine wpAny_bind (wpAny_bind (wpAny_mono (tst1 true tt) (λb s6' h6'=>?_) λ_ _ z=>z.elim))
    obtain ⟨rfl,H6',I6',sm6⟩:=h6'
    refine wpAny_pure (wpAny_pure ?_)
    show wpAny (model X.prog X.w) X.A (eval elt (compEnvC scope cl C X.env)) _ _ s6'
    refine wpAny_mono ((he cl C { s2 with heap:=hp3 } (upd H2 a (.lst [])) fp).run (λ_=>none) (λ_ _=>False) PassesOwn.never _ s6' _ H6' (λv H7=>Same H6' H7/\Rep T0 X.K H7 e v) I6' ⟨q2u caps ρ d1 d2,fr6.mono sm6,by rw [show fe (q2u caps ρ d1 d2)=.ok e from ef];exact λv H7 s7 r7=>⟨s7,r7⟩⟩) (λu7 s7 h7=>?_) λ_ _ z=>z.elim
    obtain ⟨v7,H7,I7,r7,sm7',rp7⟩:=h7
    have rp7:Rep T X.K H7 e v7:=by subst hT;exact (q1L _ _).mp rp7
    have sm7:Same H6 H7:=sm6.trans sm7'
    have hv7:H7 a=some (.lst vs):=sm7 _ _ (s5' _ _ hv)
    refine wpAny_mono (q2k (X:=(CxC X (x::x2::ys) scope cl C { s2 with heap:=hp3 } (upd H2 a (.lst [])) fp).wish λ_ _=>False) _ s7 _ H7 (.ref a) [v7] (.ref a) [u7] (λ_ H8=>H8=upd H7 a (.lst (vs++[v7]))) I7 rfl (.cons r7 .nil) ⟨a,vs,v7,rfl,rfl,hv7,Nat.lt_of_le_of_lt lv (Nat.lt_of_lt_of_le hlt (Nat.le_trans hl (by unfold sizeLine;decide))),rfl⟩) (λ_ s8 h8=>?_) λ_ _ z=>z.elim
    obtain ⟨_,H8,I8,_,rfl⟩:=h8
    have p8:Pers false H7 (upd H7 a (.lst (vs++[v7]))):=q1Y hv7
    refine ⟨ds.length-(i+1),by omega,i+1,some v1,some v2,_,vs++[v7],rfl,hlt,I8.unwish.unpinned,?_,λb hb=>?_,λb o q=>?_,q0p,xs++[e],ex',?_⟩
    ·exact Tn.keep _ _ _ t5 λb hb o q=>(I8.pin (b,o) (List.mem_append_right _ (List.mem_append_right _ (q0K hb q)))).1
    ·obtain ⟨o,q,d'⟩:=Tn.obj _ _ t5 b hb
     exact (I8.pin (b,o) (List.mem_append_right _ (List.mem_append_right _ (q0K hb q)))).2.1
    ·have:b≠a:=λz=>by rw [z,ha0] at q;cases q
     rw [q0h this]
     exact sm7 _ _ (s5' _ _ (sm _ _ q))
    ·exact RepL.append _ _ _ _ (RepL.pers p8 _ _ (RepL.mono sm7 _ _ (RepL.mono s5' _ _ rp))) ⟨v7,[],rfl,Rep.pers p8 _ _ rp7,rfl⟩
   ·refine wpAny_bind (wpAny_bind (wpAny_mono (tst1 false tf) (λb s6' h6'=>?_) λ_ _ z=>z.elim))
    obtain ⟨rfl,H6',I6',sm6⟩:=h6'
    refine wpAny_pure (wpAny_pure ?_)
    show ∃m,m < ds.length-i/\_
    refine ⟨ds.length-(i+1),by omega,i+1,some v1,some v2,H6',vs,rfl,hlt,I6'.unwish.unpinned,?_,λb hb=>?_,λb o q=>sm6 _ _ (s5' _ _ (sm _ _ q)),sm6 _ _ (s5' _ _ hv),_,ex',RepL.mono sm6 _ _ (RepL.mono s5' _ _ rp)⟩
    ·exact Tn.keep _ _ _ t5 λb hb o q=>(I6'.pin (b,o) (List.mem_append_right _ (List.mem_append_right _ (q0K hb q)))).1
    ·obtain ⟨o,q,d'⟩:=Tn.obj _ _ t5 b hb
     exact (I6'.pin (b,o) (List.mem_append_right _ (List.mem_append_right _ (q0K hb q)))).2.1
  ·have e:i=ds.length:=by omega
   refine wpAny_mono (Tn.done ((CxC X (x::x2::ys) scope cl C { s2 with heap:=hp3 } (upd H2 a (.lst [])) fp).wish λ_ _=>False) rfl rfl rfl hc i [] s' _ H' (λ_ _=>False) (I'.wish _) (fpc fn λ_ _ p hp=>by cases hp) ti (w2 (by omega))) (λr s1 h=>?_) λ_ _ z=>z.elim
   obtain ⟨rfl,I1⟩:=h
   have I1:=I1.unwish
   obtain ⟨m',hn,_⟩:=I1.loc
   refine hRR a C s1 m' H' vs (q2r I3 I1 f3) ⟨I1.free,Icf.2⟩ hn sm ha0 hv ?_
   have:ds.take i=ds:=by rw [List.take_of_length_le (by omega)]
   rw [this,hm] at ex
   cases ex
   exact rp
 exact codeAny_compStart_list (loop _ rfl) (Tn.self _ 0 _ _ _ t1 (loop _ rfl))
end
section
variable {T:Tb} {X:Cx} {elt iter tst:Expr} {x x2:Str} {px px2 pos pt:Pos} {kk:Nat} {scope:Scope} {ys:List Str} {caps:List Nat} {fe:Ev} {ft:Ro->Out Bool} {fl:Ro->Out (List D)}
@[simp] def j0t (fl:Ro->Out (List D)) (caps:List Nat) (ft:Ro->Out Bool) (fe:Ev) (ρ:Ro):Out (List D):=(fl ρ).bind λds=>if ds.length<=1000000 then (match q2c (tup2 ft caps ρ) (tup2 fe caps ρ) ds with | some es=>.ok es | none=>.bad) else .bad
theorem q89 {T0:Tb} (hT:T0={ T with me:=none }) (hc:X.calm=true) (hi:DI T X (.Tuple [.Name x px,.Name x2 px2] kk pt) iter fl) (cp:Cap X scope x ys caps)
 (he:∀(cl:List (Str×Addr)) (C:Addr) (s₀:Shared) (H₀:Hp) (ex:List Addr),DE T0 (CxC X (x::x2::ys) scope cl C s₀ H₀ ex) elt fe) (ht:∀(cl:List (Str×Addr)) (C:Addr) (s₀:Shared) (H₀:Hp) (ex:List Addr),DT T0 (CxC X (x::x2::ys) scope cl C s₀ H₀ ex) tst ft)
 (own2:scope.names.lookup x2=some .local:=by rfl) (nd2:(x::x2::ys).Nodup:=by decide) (hs:∀x,foldedSetIterable iter X.env x=pure x:=by intro _;rfl):DF T X (.ListComp elt [⟨.Tuple [.Name x px,.Name x2 px2] kk pt,iter,[tst],0⟩] scope pos) (j0t fl caps ft fe):=.mk λG E hp=>
 CompOk.pe (X:=X.wish E) (by
 rintro pins s σ H Q use QQ I ⟨ρ,fr,h⟩ k
 obtain ⟨cl,hclos,h1,h2⟩:=q10 X.env scope λy hy hf=>I.ok.has y.1 (cp.free y hy hf)
 refine wpAny_comprehension_free rfl hs hclos cp.kind cp.names ?_
 refine wpAny_mono (hi.run G E hp pins s σ H (λJ H'=>∃ds es,Same H H'/\Walk T X.K G J ds H'/\q2c (tup2 ft caps ρ) (tup2 fe caps ρ) ds=some es/\ds.length<=1000000/\∀a vs H'',Same H H''->H a=none->H'' a=some (.lst vs)->RepL T X.K H'' es vs->Q (.ref a) H'') I
  ⟨ρ,fr,Acc.mono (Acc.bind h) λds _ hd J H1 s1 wk=>?_⟩) (λv s1 h1'=>wpAny_mono h1' (λitv s2 h2'=>?_) λ_ _ z=>z) λ_ _ z=>z
 ·by_cases hl:ds.length<=1000000
  ·rw [if_pos hl] at hd
   cases hm:q2c (tup2 ft caps ρ) (tup2 fe caps ρ) ds with
   | none=>rw [hm] at hd;exact hd.elim
   | some es=>
    rw [hm] at hd
    exact ⟨ds,es,s1,wk,hm,hl,hd⟩
  ·rw [if_neg hl] at hd;exact hd.elim
 ·obtain ⟨it,fp,tn,J,H2,rfl,I2,Tn,t0,f2,ds,es,sm,wk,hm,hl,kq⟩:=h2'
  refine q6n (X:=X) (E:=E) (G:=G) (RR:=λacc C=>compPost (model X.prog X.w) X.A E use QQ acc C) hT hc cp own2 nd2 h1 h2 he ht I2.unwish Tn t0 f2 (fr.mono sm) wk hm hl ?_
  intro a C s' m' Hn vs I' f hn smn ha hv rp
  exact k a C s' m' Hn (I'.wish E) f hn (kq a vs Hn (sm.trans smn) (sm.free ha) hv rp))
end
section
open PySem.SeqAt
open PySem.AutoSeq1 (wpAny_loadPart')
theorem q5Q {prog:Program} {w:World} {A:Around} {E:Value->Shared->Prop} (items:Array Value) (x:Value) (e:Value->Bool) (j:Nat) (hj:j < items.size) (hit:e items[j]=true) (hno:∀m (hm:m < items.size),m < j->e items[m]=false) {Q:Option Fin×Unit->Shared->Prop} (body:Nat->Option Fin×Unit->Sem (ForInStep (Option Fin×Unit))) (hb:∀i r y,items[i]?=some y->body i r=(do
 let b <-eqBool y x
 if b=true then do
  let v <-retInt (i:Int)
  pure (ForInStep.done (some v,()))
 else pure (ForInStep.yield (none,())))) :
 ∀(m k:Nat) (s:Shared),k+m=items.size->k<=j->(∀y,y∈items->EqAt A s y x (e y))->Q (some (.done (.ret (.int j s.toks))),()) { s with toks:=s.toks+1 } ->
  wpAny (model prog w) A (forIn (List.range' k m) ((none,()):Option Fin×Unit) body) Q E s
 | 0,k,s,hk,hkj,he,h=>by omega
 | m+1,k,s,hk,hkj,he,h=>by
  have lt:k < items.size:=by omega
  rw [List.range'_succ,List.forIn_cons,hb k _ items[k] (Array.getElem?_eq_getElem lt)]
  refine wpAny_bind (wpAny_bind (he items[k] (Array.getElem_mem lt) prog w _ _ ?_))
  by_cases c:k=j
  ·subst c
   rw [hit]
   refine wpAny_bind ?_
   show wpAny _ _ (retInt (k:Int)) _ _ _
   unfold retInt
   exact wpAny_bind (wpAny_mkInt (wpAny_pure (wpAny_pure (wpAny_pure h))))
  ·rw [hno k lt (by omega)]
   refine wpAny_pure ?_
   exact q5Q items x e j hj hit hno body hb m (k+1) s (by omega) (by omega) he h
theorem q4K (t:Addr) (items:Array Value) (n:Nat) (dd:Option Addr) (sl:Array (Option Value)) (x:Value) (e:Value->Bool) (j:Nat) (hj:j < items.size) (hit:e items[j]=true) (hno:∀m (hm:m < items.size),m < j->e items[m]=false) :
 Meets (Builtin.«tuple.index» ⟨[.ref t,x],[]⟩)
  (λA R s=>s.heap.get? t=some { cls:=.type "tuple",dict:=dd,data:=.seq items n,slots:=sl }/\(∀y,y∈items->EqAt A.in1 s y x (e y))/\R (.ok (.ret (.int j s.toks))) { s with toks:=s.toks+1 }):=by
 intro prog w A R s h
 obtain ⟨hp,g,d,tk,os⟩:=s;obtain ⟨hl,he,h⟩:=h
 unfold Builtin.«tuple.index»
 simp only [Std.Legacy.Range.forIn_eq_forIn_range']
 wp_walk using wpAny_loadPart' hl
 have ez:(Std.Legacy.Range.size [:min items.size items.size])=items.size:=by simp [Std.Legacy.Range.size]
 rw [ez]
 show wpAny _ _ (forIn (List.range' 0 items.size) ((none,()):Option Fin×Unit) _) _ _ _
 refine q5Q items x e j hj hit hno _ (λi r y hy=>by simp only [hy]) items.size 0 _ (by omega) (Nat.zero_le _) he ?_
 exact wpAny_pure h
end
section
variable {T:Tb} {X:Cx} {o e:Expr} {cpos apos:Pos} {fo fe:Ev}
theorem q7P:MtR X "tuple.index" (λv vs H Q=>∃(a:Addr) (x:V) (xs:List V) (j:Nat),v=.ref a/\vs=[x]/\SqT X.K H a xs/\q17 x=true/\xs.all q17=true/\j < xs.length/\eqV (xs.getD j .non) x=true/\(∀m,m < j->eqV (xs.getD m .non) x=false)/\Q (.int j) H):=by
 intro pins s σ H x xs v us Q I rx rv h
 obtain ⟨a,y,ys,j,rfl,rfl,hq,fy,fs,hj,hit,hno,q⟩:=h
 cases rx
 obtain ⟨u,rfl,ru⟩:=rv.one
 obtain ⟨its,r,pl,hz⟩:=I.tuple hq
 have hl:=r.length
 obtain ⟨⟨cls,dd,data,sl⟩,ho,hc,n,hd⟩:=pl
 simp only at hc hd
 subst hc hd
 have ev:∀m (hm:m < its.length),eqU y its[m]=eqV (ys.getD m .non) y:=λm hm=>q7n (q7L r m hm) (q6T fs m)
 refine call_meets F.slot_tuple_index ⟨_,ho,rfl⟩ F.entry_tuple_index (F.args_tuple_index_2 _ _)
  (q4K a its.toArray n dd sl u (eqU y) j (by rw [List.size_toArray];omega) ?_ ?_) ⟨ho,λw hw=>q1Z ru fy r fs w (by simpa using hw),?_⟩
 ·have:=ev j (by omega)
  simp only [List.getElem_toArray]
  rw [this];exact hit
 ·intro m hm hlt
  have:=ev m (by rw [List.size_toArray] at hm;exact hm)
  simp only [List.getElem_toArray]
  rw [this];exact hno m hlt
 ·exact ⟨.int j,H,I.tok _,⟨_,rfl⟩,q⟩
def TupInD (K:PySem.W.Frag) (mg:Str->Option Value) (x:Str) (ds:List D):Prop:=∃(a:Addr) (vs:List V) (o:Obj),mg x=some (.ref a)/\(∀H,SqT K H a vs)/\q1g ds=some vs/\K.lookup a=some o/\o.cls=.type "tuple"/\o.dict=none
theorem q7E {K:PySem.W.Frag} {mg:Str->Option Value} {x:Str} {a:Addr} {its:Array Value} {n:Nat} {sl:Array (Option Value)} {ds:List D} {vs:List V} (hm:mg x=some (.ref a)) (hk:K.lookup a=some ⟨.type "tuple",none,.seq its n,sl⟩)
 (hz:its.size<=1000000) (hv:Vals vs its.toList) (hf:q1g ds=some vs):TupInD K mg x ds:=
 ⟨a,vs,_,hm,λH=>.inr ⟨_,its,n,hk,rfl,rfl,line6 hz,hv⟩,hf,hk,rfl,rfl⟩
theorem TupInD.pl {K:PySem.W.Frag} {mg:Str->Option Value} {x:Str} {ds:List D} (h:TupInD K mg x ds):q9d K mg x ds:=by
 obtain ⟨a,vs,o,h1,h2,h3,_⟩:=h
 exact ⟨a,vs,h1,h2,h3⟩
@[simp] def w1g (ds:List D) (fe:Ev) (ρ:Ro):Out D:=(fe ρ).bind λd=>match q2A d,q1g ds with | some x,some xs=>(match j2r x xs with | some j=>.ok (.int j) | none=>.bad) | _,_=>.bad
theorem q7Q {x:Str} {p:Pos} {ds:List D} (hg:Gl X x) (h:TupInD X.K X.mg x ds) (ha:DE T X e fe) (hd:(x==("__debug__" : Str))=false:=by decide) (hbase:attributeBase (.Name x p) "index" X.env (eval (.Name x p) X.env)=eval (.Name x p) X.env:=by rfl)
 (hfew:((backTo cpos (starEach [e] X.env)).all (λx=>!x.1) && (backToKw cpos (keywordEach [] X.env)).all (λx=>x.1.isSome)
  && decide (([e]:List Expr).length+([]:List Keyword).length+(if ([]:List Keyword).isEmpty then 0 else 1) < 30))=true:=by exact q7s rfl rfl)
 (hline:(apos.endLine==cpos.line)=true:=by rfl) (hs:starEach [e] X.env=(false,eval e X.env)::starEach [] X.env:=by exact q0w rfl) (hplain:(backTo cpos (starEach ([]:List Expr) X.env)).any (·.1)=false:=by exact q0z rfl) :
 DE T X (.Call (.Attribute (.Name x p) "index" apos) [e] [] cpos) (w1g ds fe):=.mk λG E hp=>by
 obtain ⟨a,vs,ob,hm,sq,hf,hk,hc,hn⟩:=h
 refine PE.imp (j1j (X:=X.wish E) PySem.F.plainAttrs_tuple PySem.F.slot_tuple_index PySem.F.type_tuple_index q7P (q41 (X:=X.wish E) (v:=.ref a) hg hm rfl hd) (q0C (X:=X.wish E) (ha.run G E hp) q0Y hs) hbase hfew hline hs hplain) fun σ H Q ⟨ρ,fr,q⟩=>?_
 refine ⟨.inr (.inl ⟨rfl,ob,hk,hc,hn⟩),ρ,fr,?_⟩
 refine Acc.mono (Acc.bind q) λd' _ hd' v' H2 s2 rd'=>?_
 cases q1:q2A d' with
 | none=>rw [q1] at hd';exact hd'.elim
 | some x=>
  rw [q1,hf] at hd'
  cases q3:j2r x vs with
  | none=>simp only [q3] at hd';exact hd'.elim
  | some j=>
   simp only [q3] at hd'
   obtain ⟨_,f2⟩:=q1W (T:=T) (K:=X.K) (H:=H2) hf (q2T hf)
   obtain ⟨rfl,f1⟩:=q2e q1 rd'
   obtain ⟨k1,k2,k3⟩:=q6X q3
   exact ⟨a,_,_,j,rfl,rfl,sq H2,f1,f2,k1,k2,k3,hd' _ H2 s2 rfl⟩
end
section
variable {T:Tb} {X:Cx}
theorem j08 {x:Str} {n:Int} (h:0<=n/\n<=1000/\x.length<=1000):MulOk x n:=by
 obtain ⟨h1,h2,h3⟩:=h
 refine ⟨?_,λc _=>?_,λc _=>?_⟩
 ·simp only [Bool.or_eq_false_iff,decide_eq_false_iff_not];omega
 ·have:(x.length:Int)*n<=1000*1000:=Int.mul_le_mul (by omega) h2 h1 (by omega)
  have:=Int.le_ediv_of_mul_le (a:=(x.length:Int)) (b:=2 ^ 63-1) (c:=n) (by omega) (by omega)
  omega
 ·have:x.length*n.toNat<=1000*1000:=Nat.mul_le_mul h3 (by omega)
  unfold Builtin.Str.tooLong
  simp only [decide_eq_false_iff_not]
  have:=line6 (n:=1000000) (by omega)
  omega
@[simp] def j3I:D->D->Out D
 | .str x,.int n=>if 0<=n/\n<=1000/\x.length<=1000 then .ok (.str (PySem.Txt.mul x n)) else .bad
 | _,_=>.bad
theorem j0V:OpD T X (binaryOp .Mult) j3I:=λE=>⟨λx y H Q=>∃i j,x=.str i/\y=.int j/\(0<=j/\j<=1000/\i.length<=1000)/\Q (.str (PySem.Txt.mul i j)) H,(by
 intro pins s σ H x y v u Q I r1 r2 h
 obtain ⟨i,j,rfl,rfl,hz,q⟩:=h
 obtain ⟨t,rfl⟩:=r1
 obtain ⟨t',rfl⟩:=r2
 exact SB.mul (j08 hz) λt' k=>⟨.str _,H,I.tok _,⟨_,rfl⟩,q⟩),λdx dy x y σ H Q rx ry q=>by
 cases dx with
 | str i=>
  cases dy with
  | int j=>
   have q:Acc T X E σ H (if 0<=j/\j<=1000/\i.length<=1000 then .ok (.str (PySem.Txt.mul i j)) else .bad) (kE T X.K H Q):=q
   by_cases c:0<=j/\j<=1000/\i.length<=1000
   ·rw [if_pos c] at q
    exact ⟨i,j,rx,ry,c,q _ H (Same.refl H) rfl⟩
   ·rw [if_neg c] at q;exact q.elim
  | _=>exact q.elim
 | _=>exact q.elim⟩
end
end L3
namespace L3
open PySem PySem.Spec PyProof.Rows L2
theorem j2b (led:Bool) (h:Int) (x:Value):(layNew (.fresh 0 0 led) #[] h x).1=#[(h,x)]/\(layNew (.fresh 0 0 led) #[] h x).2.1.led=led/\(layNew (.fresh 0 0 led) #[] h x).2.1.fits 1=true/\(layNew (.fresh 0 0 led) #[] h x).2.1.tooFull=false/\(layNew (.fresh 0 0 led) #[] h x).2.1.place.size=1:=by
 have hp:(layNew (.fresh 0 0 led) #[] h x).1=#[(h,x)]:=by
  have:=layNew_perm (.fresh 0 0 led) #[] h x
  simp at this
  exact Array.toList_inj.mp (by simpa using this)
 have hf:=layNew_fits (.fresh 0 0 led) #[] h x
 rw [hp] at hf
 have hs:(layNew (.fresh 0 0 led) #[] h x).2.1.place.size=1:=by
  simp only [SetTable.fits,Bool.and_eq_true,beq_iff_eq] at hf
  simpa using hf.1
 have os:∀(t:SetTable) (n:Nat),t.orStandIn n=t∨t.orStandIn n=t.standIn n:=λt n=>by
  unfold SetTable.orStandIn
  split
  ·exact .inl rfl
  ·exact .inr rfl
 refine ⟨hp,?_,by simpa using hf,?_,hs⟩
 ·unfold layNew
  split
  ·show (SetTable.orStandIn _ _).led=led
   rcases os _ _ with e | e<;>rw [e]<;>rfl
  ·rfl
 ·have key:∀t:SetTable,t.place.size=1->t.dummies=#[]->7<=t.mask->t.tooFull=false:=λt h1 h2 h3=>by
   simp only [SetTable.tooFull,SetTable.fill,h1,h2,decide_eq_false_iff_not]
   simp
   omega
  refine key _ hs ?_ ?_
  ·unfold layNew
   split
   ·show (SetTable.orStandIn _ _).dummies=#[]
    rcases os _ _ with e | e<;>rw [e]
    ·simp [SetTable.put,SetTable.fresh,SetTable.has,SetTable.below,SetTable.below.go]
    ·rfl
   ·rfl
  ·unfold layNew
   split
   ·show 7<=(SetTable.orStandIn _ _).mask
    rcases os _ _ with e | e<;>rw [e]
    ·exact Nat.le_refl 7
    ·show 7<=4*(SetTable.insertAt #[] _ _).size+4
     have:∀k:Nat,(SetTable.insertAt (#[]:Array (Int×Value)) k (h,x)).size=1:=λk=>by simp [SetTable.insertAt]
     rw [this];decide
   ·show 7<=4*_+4
    simp
section
variable {P:Program} {w:World} {A:Around} {E:Value->Shared->Prop} {s:Shared}
def q4H (w:World):Bool:=w.params.followText "set-order"
def Set1 (w:World) (p:Addr) (x:Value) (h:Heap):Prop:=∃(ep:Nat) (t:SetTable) (hh:Int),h.get? p=some { cls:=.type "set",dict:=none,data:=.set #[(hh,x)] ep t }/\t.fits 1=true/\t.place.size=1/\t.led=!q4H w
theorem add1 {a:Addr} {i:Int} {tk:Tok} {led:Bool} {Q:Bool->Shared->Prop} (ho:s.heap.get? a=some { cls:=.type "set",dict:=none,data:=.set #[] 0 (.fresh 0 0 led) })
 (hled:led=!q4H w) (h:∀h',Heap.SameBut a s.heap h'->Set1 w a (.int i tk) h'->Q true { s with heap:=h' }):wpAny (model P w) A (setAddHashed a (.int i tk) (hashInt i)) Q E s:=by
 have hel:ElemsOf (intKind P w) (#[]:Array (Int×Value)).toList:=λe he=>by simp at he
 have hkey:(intKind P w).is i (.int i tk)=true:=by simp [intKind,Value.isInt]
 unfold setAddHashed setAddHashedIn
 refine wpAny_holding (wpAny_bind (wpAny_setState_of ho rfl (by rfl) ?_))
 dsimp only
 rw [byScan_of (knd:=intKind P w) rfl (by decide) hel]
 simp only [↓reduceIte]
 unfold setAddByScan
 refine wpAny_bind ?_
 refine wpAny_bind (wpAny_rule ?_)
 refine wpAny_bind (wpAny_setScan_of (knd:=intKind P w) (k:=i) hkey ho rfl (by rfl) hel ?_)
 obtain ⟨l1,l2,l3,l4,l5⟩:=j2b led (hashInt i) (.int i tk)
 show wpAny _ _ _ _ _ s
 dsimp only [List.findIdx?_nil]
 generalize hL:layNew (.fresh 0 0 led) #[] (hashInt i) (.int i tk)=L at l1 l2 l3 l4 l5 ⊢
 obtain ⟨es1,t1,wasDummy,gave⟩:=L
 dsimp only at l1 l2 l3 l4 l5 ⊢
 subst l1
 have hgw:∀(b:Bool) {s₁:Shared} {Q':Unit->Shared->Prop},Q' () s₁->wpAny (model P w) A (match b with | true=>rule "set.scan.the-table-gave-way" | false=>pure ()) Q' E s₁:=
  λb s₁ Q' hq=>by cases b<;>first | exact wpAny_pure hq | exact wpAny_rule hq
 refine wpAny_bind (hgw _ ?_)
 have tail:∀R:Option Bool->Shared->Prop,(∀h',Heap.SameBut a s.heap h'->Set1 w a (.int i tk) h'->R (some true) { s with heap:=h' }) ->
  ∀(g:Sem (Option Bool)),wpAny (model P w) A (do storeSet a #[(hashInt i,Value.int i tk)] t1;if (!wasDummy && t1.tooFull)=true then g else pure (some true)) R E s:=λR hR g=>by
  refine wpAny_bind (wpAny_storeSet_of ho rfl ?_ (by show 1<=sizeLine;decide))
  rw [l4,Bool.and_false,if_neg Bool.false_ne_true]
  exact wpAny_pure (hR _ (Heap.SameBut.update s.heap a _) ⟨_,t1,_,Heap.get?_update_self _ ho rfl,l3,l5,l2.trans hled⟩)
 split
 ·refine wpAny_bind ?_
  rw [hashByValue_scannable 8 rfl]
  refine wpAny_pure ?_
  refine tail _ (λh' sb st=>?_) _
  exact wpAny_pure (h h' sb st)
 ·refine wpAny_bind (wpAny_pure ?_)
  refine tail _ (λh' sb st=>?_) _
  exact wpAny_pure (h h' sb st)
theorem q3J (a:Value) {Q₁:Value->Shared->Prop}
 (h:Q₁ (.ref s.heap.objs.size) { s with heap:=s.heap.push { cls:=.type "set",dict:=none,data:=.set #[] 0 (.fresh 0 0 (!q4H w)) } }) :
 codeAny (model P w) A (.call (.builtin "set.__new__") ⟨[.type "set",a],[]⟩) (wants Q₁ E) s:=by
 refine codeAny_of_tree ?_
 show wpAny _ A.in1 (do checkBuiltinCall "set.__new__" ⟨[.type "set",a],[]⟩;again (.builtin "set.__new__" ⟨[.type "set",a],[]⟩)) _ _ s
 refine wpAny_bind (wpAny_of_eq (PySem.F.newCall_set_1 a) (wpAny_pure ⟨plainId_quiet PySem.F.plain_set_new _,codeAny_builtin PySem.F.entry_set_new ?_⟩))
 rw [Around.under_plainId PySem.F.plain_set_new _]
 unfold Builtin.«set.__new__» Builtin.Frozenset.newClass
 have hsub:=PySem.sub_set_self
 obtain ⟨hp,g,d,tk,os⟩:=s
 dsimp only
 wp_walk
 refine wpAny_askSetting (wpAny_pure ?_)
 dsimp only
 simp only [newObj]
 refine wpAny_bind (wpAny_alloc (wpAny_pure ?_))
 exact wpAny_pure h
theorem upd1 {R:Result->Shared->Prop} {J:Addr} {fp wr:List Addr} {G:Array GenState->Array GenState->Prop} {St:Nat->Shared->Prop} {i:Int} {t:Tok} {led:Bool} (W:WalksS P w A.in1 J fp wr G 1 (λk v=>(#[.int i t]:Array Value)[k]?=some v) St) (S:Addr) (hSf:S∉fp) (hled:led=!q4H w) (s:Shared) (hst:St 0 s)
 (ho:s.heap.get? S=some { cls:=.type "set",dict:=none,data:=.set #[] 0 (.fresh 0 0 led) }) (fin:∀s',Moved (S::wr) G s s'->Set1 w S (.int i t) s'.heap->R (.ok (.ret .none)) s'):codeAny (model P w) A (.builtin "set.update.loop" ⟨[.ref S,.ref J],[]⟩) R s:=by
 have nw:S∉wr:=λz=>hSf (W.sub _ z)
 have more:∀b∈wr,b∈S::wr:=λb z=>List.mem_cons_of_mem _ z
 refine codeAny_builtin PyProof.Rows.F.entry_set_update_loop ?_
 rw [Around.under_plainId PyProof.Rows.F.plain_set_update_loop _]
 show wpAny _ A.in1 (pyNext (.ref J) >>= _) _ _ s
 refine wpAny_bind (W.item 0 s _ _ (by omega) hst λv s' hv hst' mv=>?_)
 have hv:some (Value.int i t)=some v:=hv
 cases hv
 show wpAny _ A.in1 (holding [Value.int i t] (setAdd S (.int i t)) >>= _) _ _ s'
 refine wpAny_bind (wpAny_holding ?_)
 unfold setAdd
 refine wpAny_holding (wpAny_bind (wpAny_pyHash_int ?_))
 refine add1 (s:={ s' with toks:=s'.toks+1 }) (mv.heap S _ nw ho) hled λh' sb st=>?_
 refine wpAny_pure ⟨plainId_quiet PyProof.Rows.F.plain_set_update_loop _,?_⟩
 have hst2:St 1 { s' with heap:=h',toks:=s'.toks+1 }:=W.frame _ s' _ _ hst' (Nat.le_succ _) λb hb' o e=>by
  rw [sb.2 b (λz:b=S=>hSf (z ▸ hb'))];exact e
 refine codeAny_builtin PyProof.Rows.F.entry_set_update_loop ?_
 rw [Around.under_plainId PyProof.Rows.F.plain_set_update_loop _]
 show wpAny _ A.in1 (pyNext (.ref J) >>= _) _ _ _
 refine wpAny_bind (W.done _ _ _ hst2 λs2 mv2=>?_)
 show wpAny _ A.in1 (ret Value.none) _ _ s2
 refine wpAny_pure (fin s2 ?_ ?_)
 ·refine Moved.trans W.gtrans ((mv.mono more).then_heap (Nat.le_succ _) λb o hb' e=>?_) (mv2.mono more)
  rw [sb.2 b (λz:b=S=>hb' (z ▸ List.mem_cons_self))];exact e
 ·obtain ⟨ep,t',hh,z1,z2⟩:=st
  exact ⟨ep,t',hh,mv2.heap S _ nw z1,z2⟩
set_option maxHeartbeats 3200000 in
theorem q7K {l:Addr} {i:Int} {t:Tok} {Q:Value->Shared->Prop} (hh:A.handled=none) (hl:s.heap.IsList l #[.int i t])
 (fin:∀(h':Heap) (tk:Nat),Set1 w s.heap.objs.size (.int i t) h'->(∀b o,s.heap.get? b=some o->h'.get? b=some o)->Q (.ref s.heap.objs.size) { s with heap:=h',toks:=tk }) :
 wpAny (model P w) A (call (.type "set") [.ref l]) Q E s:=by
 obtain ⟨c,tl,mro⟩:=PySem.F.called_set.mro
 have made:=PySem.F.called_set.made
 have subs:=PySem.F.called_set.sub
 refine wpAny_call (codeAny_of_tree ?_)
 show wpAny _ _ (callAny (.type "set") _) _ _ _
 refine wpAny_pure ⟨Code.quiet_builtin _ (by decide +kernel),codeAny_builtin PySem.F.entry_type_call ?_⟩
 rw [Around.under_plain (weight_type_call_type "set" [.ref l] []) rfl]
 have notT:=PySem.F.called_set.notType
 have canC:=PySem.F.called_set.canCreate
 have tcall:=PySem.F.typeCall_set_1 (.ref l)
 repeat (any_goals (first | assumption | wp_step))
 refine codeAny_mono (q3J (.ref l) (E:=E) (Q₁:=λobj s₁=>∃led:Bool,led=(!q4H w)/\obj=.ref s.heap.objs.size/\s₁={ s with heap:=s.heap.push { cls:=.type "set",dict:=none,data:=.set #[] 0 (.fresh 0 0 led) } }) ⟨_,rfl,rfl,rfl⟩) λr s₁ hr=>?_
 rcases r with e | fl
 ·exact hr
 rcases fl with _ | _ | _ | obj
 any_goals exact hr.elim
 obtain ⟨led,hled,rfl,rfl⟩:=hr
 generalize hO:({ cls:=.type "set",dict:=none,data:=.set #[] 0 (.fresh 0 0 led) }:Obj)=O
 have gO:(s.heap.push O).get? s.heap.objs.size=some O:=Heap.get?_push_size _ (by rw [<-hO];rfl)
 have tO:Shared.TypeIs { s with heap:=s.heap.push O } (.ref s.heap.objs.size) "set":=⟨_,gO,by rw [<-hO]⟩
 have look:=PySem.F.called_set.init.lookup
 have bnd:=PySem.F.called_set.init.bind (.ref s.heap.objs.size)
 repeat (any_goals (first | assumption | wp_step))
 refine codeAny_mono (codeAny_call_builtin (R:=wants (λr s₂=>r=.none/\∃h' tk,s₂={ s with heap:=h',toks:=tk }/\Set1 w s.heap.objs.size (.int i t) h'/\∀b o,s.heap.get? b=some o->h'.get? b=some o) E) PySem.F.called_set.init.plain PySem.F.entry_set_init (check_set_init_1 tO ?_)) λr₂ s₂ hr₂=>?_
 ·obtain ⟨⟨oc,od,odt,osl⟩,ho,hc,n,hd⟩:=hl
  simp only at hc hd
  subst hc hd
  have lt:l < s.heap.objs.size:=Heap.lt_size ho
  have ho':(s.heap.push O).get? l=some { cls:=.type "list",dict:=od,data:=.seq #[.int i t] n,slots:=osl }:=Heap.get?_push_of_some _ ho
  have n1:=PySem.F.sub_list_set
  have n2:=PySem.F.sub_list_frozenset
  have n3:(Value.type "list"==Value.type "dict")=false:=by decide
  have isl:(s.heap.push O).IsList l #[.int i t]:=⟨_,ho',rfl,n,rfl⟩
  have sz:(s.heap.push O).objs.size=s.heap.objs.size+1:=Heap.size_push ..
  subst hO
  unfold Builtin.«set.__init__» noKeywords Builtin.Frozenset.updateFrom
  generalize hPI:pyIter=PI
  wp_walk
  subst hPI
  refine wpAny_pyIter_list isl ?_
  refine wpAny_bind (wpAny_runValue ?_)
  have h3:A.in1.in1.in1.handled=none:=by simp [hh]
  have ne1:l≠(s.heap.push { cls:=.type "set",dict:=none,data:=.set #[] 0 (.fresh 0 0 led) }).objs.size:=by rw [sz];exact Nat.ne_of_lt (Nat.lt_succ_of_lt lt)
  have nf:s.heap.objs.size∉[(s.heap.push { cls:=.type "set",dict:=none,data:=.set #[] 0 (.fresh 0 0 led) }).objs.size,l]:=by
   rw [sz];simp only [List.mem_cons,List.not_mem_nil,or_false,not_or]
   exact ⟨Nat.ne_of_lt (Nat.lt_succ_self _),Nat.ne_of_gt lt⟩
  refine upd1 ((Walks.list h3 _ l ne1 #[.int i t]).toS) s.heap.objs.size nf hled _ ⟨⟨_,Heap.get?_push_size _ rfl,rfl,rfl⟩,isl.push _⟩ (Heap.get?_push_of_some _ gO) λs' mv hs'=>?_
  obtain ⟨h',g',d',tk',os'⟩:=s'
  obtain rfl:g'=s.gens:=mv.gens
  obtain rfl:d'=s.drawn:=mv.drawn
  obtain rfl:os'=s.os:=mv.os
  refine wpAny_pure (?_:wpAny _ _ (ret Value.none) _ _ _)
  refine wpAny_pure ⟨rfl,h',tk',rfl,hs',λb o e=>?_⟩
  have hb0:=Heap.lt_size e
  exact mv.heap b o (by rw [sz];simp only [List.mem_cons,List.not_mem_nil,or_false,not_or];exact ⟨Nat.ne_of_lt hb0,Nat.ne_of_lt (Nat.lt_succ_of_lt hb0)⟩) (Heap.get?_push_of_some _ (Heap.get?_push_of_some _ e))
 ·rcases r₂ with e | fl₂
  ·exact hr₂
  rcases fl₂ with _ | _ | _ | r
  any_goals exact hr₂.elim
  obtain ⟨rfl,h',tk,rfl,hs',kk⟩:=hr₂
  repeat (any_goals (first | assumption | wp_step))
  exact fin _ _ hs' kk
end
theorem q05:Slot "set_iterator" "__next__" "set_iterator.__next__" :=
 .of (owner:="set_iterator") (n:="__next__") (by rw [typeLookup_type,builtinLookup_eq_fast];kernel_rfl) (by decide +kernel) (by decide +kernel) (by decide +kernel)
  (by first | exact .inl (by decide +kernel) | exact .inr (by decide +kernel)) (by rw [isSubtype_type];kernel_rfl)
theorem q1O:entryFor table "set_iterator.__next__" = some Builtin.«set_iterator.__next__»:=entryFor_of_tree (by kernel_rfl)
theorem q3f:entryFor table "set.__iter__" = some Builtin.«frozenset.__iter__» :=
 entryFor_alias (id':="frozenset.__iter__") (by kernel_rfl) rfl (by decide +kernel) (by kernel_rfl)
theorem q6v:Manifest.owners.lookup (String.ofList ['r','o','t','a','r','e','t','i','_','t','e','s'].reverse)=some Manifest.sig_set_iterator:=by kernel_rfl
theorem q1G (a:Value):argsOk "set_iterator.__next__" ⟨[a],[]⟩:=by
 unfold argsOk;rw [signature?_of (id:="set_iterator.__next__") (n:=['_','_','t','x','e','n','_','_']) (o:=['r','o','t','a','r','e','t','i','_','t','e','s']) (by kernel_rfl) q6v];kernel_rfl
section
variable {P:Program} {w:World} {A:Around} {E:Value->Shared->Prop} {s:Shared}
def S1 (w:World) (p:Addr) (x:Value) (ep:Nat) (t:SetTable) (h:Heap):Prop:=∃hh:Int,h.get? p=some { cls:=.type "set",dict:=none,data:=.set #[(hh,x)] ep t }/\t.fits 1=true/\t.place.size=1/\t.led=!q4H w
theorem S1.ty {p:Addr} {x:Value} {ep:Nat} {t:SetTable} (h:S1 w p x ep t s.heap):s.TypeIs (.ref p) "set":=by
 obtain ⟨hh,z1,z2⟩:=h
 exact ⟨_,z1,rfl⟩
theorem S1.at {p:Addr} {x:Value} {ep:Nat} {t:SetTable} {h h':Heap} (z:S1 w p x ep t h) (k:∀o,h.get? p=some o->h'.get? p=some o):S1 w p x ep t h':=by
 obtain ⟨hh,z1,z2⟩:=z
 exact ⟨hh,k _ z1,z2⟩
def itS (p:Addr) (k j:Nat) (ep:Nat):Obj:={ cls:=.type "set_iterator",data:=.fields #[rawInt k,rawInt j,.ref p,rawInt 1,rawInt ep] }
theorem q6W {p:Addr} {x:Value} {ep:Nat} {t:SetTable} {Q:Value->Shared->Prop} (h:S1 w p x ep t s.heap)
 (hQ:Q (.ref s.heap.objs.size) { s with heap:=s.heap.push (itS p 0 0 ep) }):wpAny (model P w) A (pyIter (.ref p)) Q E s:=by
 obtain ⟨hh,z1,z2,z3,z4⟩:=id h
 refine wpAny_pyIter_slot h.ty F.slot_set_iter (wpAny_call_entry F.slot_set_iter h.ty q3f ?_ (F.args_set_iter_1 _))
 unfold Builtin.«frozenset.__iter__» Builtin.Frozenset.sizeOf setEntries setDrawn setEpoch
 refine wpAny_bind (wpAny_of_eq (show Builtin.Frozenset.slot0 "__iter__" ⟨[.ref p],[]⟩=pure p from rfl) ?_)
 refine wpAny_bind (wpAny_bind (wpAny_bind (wpAny_setState_of z1 rfl z2 (wpAny_pure (wpAny_pure ?_)))))
 refine wpAny_bind (wpAny_bind (wpAny_setState_of z1 rfl z2 ?_))
 dsimp only
 unfold setsByText
 refine wpAny_bind (wpAny_bind (wpAny_askSetting (wpAny_pure (wpAny_pure ?_))))
 show wpAny _ _ (if ((!_) && (!t.plain && decide ((#[(hh,x)]:Array (Int×Value)).size > 1)))=true then _ else _) _ _ _
 rw [show (decide ((#[(hh,x)]:Array (Int×Value)).size > 1))=false from rfl,Bool.and_false,Bool.and_false,if_neg Bool.false_ne_true]
 refine wpAny_bind (wpAny_pure ?_)
 refine wpAny_bind (wpAny_bind (wpAny_setState_of z1 rfl z2 (wpAny_pure ?_)))
 exact wpAny_bind (wpAny_newObj_type (wpAny_pure ⟨_,rfl,"set_iterator",_,⟨_,Heap.get?_push_size _ rfl,rfl⟩,q05.lookup,hQ⟩))
theorem below1 {t:SetTable} (h:t.place.size=1) (k:Nat):SetTable.below t.place k=if t.place.getD 0 k < k then 1 else 0:=by
 unfold SetTable.below
 rw [h]
 simp [SetTable.below.go]
theorem j9n {t:SetTable} (h:t.place.size=1) (k k':Nat):t.place.getD 0 k=t.place.getD 0 k'/\t.place[0]?=some (t.place.getD 0 k):=by
 have:0 < t.place.size:=by omega
 simp [Array.getD,this]
theorem q5z {p:Addr} {x:Value} {ep:Nat} {t:SetTable} {k j:Nat} {Q:Option (Value×Nat)->Shared->Prop} (h:S1 w p x ep t s.heap) (hj:(j=0/\k=0)∨(j=1/\k=if q4H w=true then 0 else t.place.getD 0 0+1))
 (hQ:Q (if j=0 then some (x,if q4H w=true then 0 else t.place.getD 0 0+1) else none) s):wpAny (model P w) A (setNext p k j ep) Q E s:=by
 obtain ⟨hh,z1,z2,z3,z4⟩:=id h
 unfold setNext
 refine wpAny_bind (wpAny_setState_of z1 rfl z2 ?_)
 dsimp only
 unfold setsByText
 refine wpAny_bind (wpAny_bind (wpAny_askSetting (wpAny_pure ?_)))
 show wpAny _ _ (if q4H w=true then _ else _) _ _ _
 cases hb:q4H w with
 | true=>
  rw [if_pos rfl]
  rw [if_neg (by simp)]
  unfold setWalk
  refine wpAny_bind (wpAny_bind (wpAny_setState_of z1 rfl z2 ?_))
  dsimp only
  unfold setsByText
  refine wpAny_bind (wpAny_bind (wpAny_askSetting (wpAny_pure ?_)))
  show wpAny _ _ (if q4H w=true then _ else _) _ _ _
  rw [hb,if_pos rfl]
  refine wpAny_bind (wpAny_askSetting (wpAny_pure ?_))
  have pk:∀f:Nat->Nat,pickOrder f #[(hh,x)]=#[(hh,x)]:=λf=>by
   simp [pickOrder,pickOrder.go,Nat.mod_one]
  rw [pk]
  refine wpAny_pure ?_
  rw [hb] at hQ hj
  rcases hj with ⟨rfl,rfl⟩ | ⟨rfl,rfl⟩
  ·exact hQ
  ·exact hQ
 | false=>
  rw [if_neg Bool.false_ne_true]
  rw [hb] at z4 hQ hj
  show wpAny _ _ (if (!t.plain && decide ((#[(hh,x)]:Array (Int×Value)).size > 1))=true then _ else _) _ _ _
  rw [show (decide ((#[(hh,x)]:Array (Int×Value)).size > 1))=false from rfl,Bool.and_false,if_neg Bool.false_ne_true]
  refine wpAny_bind (wpAny_of_eq (show (if (!t.led && !(#[(hh,x)]:Array (Int×Value)).isEmpty)=true then _ else _)=pure () by rw [z4];rfl) ?_)
  rw [below1 z3]
  obtain ⟨g1,g2⟩:=j9n z3 0 k
  rw [<-g1]
  rcases hj with ⟨rfl,rfl⟩ | ⟨rfl,rfl⟩
  ·rw [if_neg (by omega)]
   show wpAny _ _ (pure (match (#[(hh,x)]:Array (Int×Value))[0]?,t.place[0]? with | some (_,x),some j=>some (x,j+1) | _,_=>none)) _ _ _
   rw [g2]
   exact wpAny_pure hQ
  ·rw [if_pos (by rw [if_neg Bool.false_ne_true];omega)]
   exact wpAny_pure hQ
theorem q7D {p it:Addr} {x:Value} {ep:Nat} {t:SetTable} {Q:Option Value->Shared->Prop} (h:S1 w p x ep t s.heap) (hi:s.heap.get? it=some (itS p 0 0 ep)) (ne:p≠it)
 (hQ:∀h',Heap.SameBut it s.heap h'->h'.get? it=some (itS p (if q4H w=true then 0 else t.place.getD 0 0+1) 1 ep)->Q (some x) { s with heap:=h' }):wpAny (model P w) A (pyNext (.ref it)) Q E s:=by
 obtain ⟨hh,z1,z2,z3,z4⟩:=id h
 have ty:s.TypeIs (.ref it) "set_iterator":=⟨_,hi,rfl⟩
 unfold pyNext
 refine wpAny_bind (wpAny_attempt (wpAny_callSpecial?_slot (name:=Str.ofString "__next__") ty q05
  (wpAny_call_entry q05 ty q1O ?_ (q1G _))))
 unfold Builtin.«set_iterator.__next__»
 refine wpAny_bind (wpAny_of_eq (show slotArgs "__next__" 0 ⟨[.ref it],[]⟩=pure (.ref it,[]) from rfl) ?_)
 dsimp only
 refine wpAny_bind (wpAny_fieldsOf hi rfl ?_)
 show wpAny _ _ (setEntries p >>= _) _ _ s
 unfold setEntries
 refine wpAny_bind (wpAny_bind (wpAny_setState_of z1 rfl z2 (wpAny_pure ?_)))
 rw [if_neg (by simp)]
 refine wpAny_bind (q5z (k:=0) (j:=0) h (.inl ⟨rfl,rfl⟩) ?_)
 rw [if_pos rfl]
 dsimp only
 generalize (if q4H w=true then 0 else t.place.getD 0 0+1)=K at *
 refine wpAny_bind (wpAny_setField hi rfl (by simp) ?_)
 refine wpAny_bind (wpAny_setField (Heap.get?_update_self _ hi rfl) rfl (by simp) (wpAny_pure ⟨x,rfl,wpAny_pure (hQ _ ((Heap.SameBut.update ..).trans (Heap.SameBut.update ..)) ?_)⟩))
 exact Heap.get?_update_self _ (Heap.get?_update_self _ hi rfl) rfl
theorem q9q {p it:Addr} {x:Value} {ep:Nat} {t:SetTable} {Q:Option Value->Shared->Prop} (hh:A.handled=none) (h:S1 w p x ep t s.heap) (hi:s.heap.get? it=some (itS p (if q4H w=true then 0 else t.place.getD 0 0+1) 1 ep))
 (hQ:∀h',Heap.ExtBut it s.heap h'->Q none { s with heap:=h' }):wpAny (model P w) A (pyNext (.ref it)) Q E s:=by
 obtain ⟨_,z1,z2,z3,z4⟩:=id h
 have ty:s.TypeIs (.ref it) "set_iterator":=⟨_,hi,rfl⟩
 unfold pyNext
 refine wpAny_bind (wpAny_attempt (wpAny_callSpecial?_slot (name:=Str.ofString "__next__") ty q05
  (wpAny_call_entry q05 ty q1O ?_ (q1G _))))
 unfold Builtin.«set_iterator.__next__»
 refine wpAny_bind (wpAny_of_eq (show slotArgs "__next__" 0 ⟨[.ref it],[]⟩=pure (.ref it,[]) from rfl) ?_)
 dsimp only
 refine wpAny_bind (wpAny_fieldsOf hi rfl ?_)
 show wpAny _ _ (setEntries p >>= _) _ _ s
 unfold setEntries
 refine wpAny_bind (wpAny_bind (wpAny_setState_of z1 rfl z2 (wpAny_pure ?_)))
 rw [if_neg (by simp)]
 refine wpAny_bind (q5z (k:=if q4H w=true then 0 else t.place.getD 0 0+1) (j:=1) h (.inr ⟨rfl,rfl⟩) ?_)
 rw [if_neg (by decide)]
 dsimp only
 refine wpAny_bind (wpAny_setField hi rfl (by simp) ?_)
 show wpAny _ _ (newExc (.type "StopIteration") [] >>= _) _ _ _
 refine wpAny_bind ?_
 simp only [newExc,newTuple]
 refine wpAny_bind (wpAny_newObj_type ?_ (by size_fits))
 refine wpAny_bind (m:=firstArgMember _ _) (wpAny_of_eq (a:=Value.none) (by first | rfl | (simp only [firstArgMember];rfl)) ?_)
 refine wpAny_newObj_type ?_ (by size_fits)
 simp only [raiseNew]
 refine wpAny_bind (wpAny_handled ?_)
 first | rw [show A.in1.handled=none from hh] | rw [hh]
 refine wpAny_bind (wpAny_pure (wpAny_throw ?_))
 refine wpAny_bind (wpAny_isInstance (T:="StopIteration") (b:=true) ⟨_,Heap.get?_push_size _ rfl,rfl⟩ isSubtype_stop ?_)
 exact wpAny_pure (hQ _ (((Heap.SameBut.update ..).extBut.push _).push _))
theorem q8x {p:Addr} {x:Value} {ep:Nat} {t:SetTable} {Q:Bool->Shared->Prop} (h:S1 w p x ep t s.heap) (hQ:∀b tk,Q b { s with toks:=tk }):wpAny (model P w) A (Builtin.List.listLengthHint (.ref p)) Q E s:=by
 unfold Builtin.List.listLengthHint
 refine wpAny_bind (wpAny_specialOf h.ty F.slot_set_len.lookup ?_)
 generalize hid:("set.__len__" : String)=id0
 wp_delta
 rw [show splitId id0=some ("set","__len__") from by subst hid;decide +kernel]
 subst hid
 refine wpAny_bind (wpAny_isInstance (T:="set") (b:=true) h.ty (by rw [isSubtype_type];kernel_rfl) ?_)
 refine wpAny_ite_split (λhab=>absurd hab (by decide)) (λ_=>?_)
 refine wpAny_ite_split (λ_=>?_) (λhab=>absurd (by decide +kernel) hab)
 refine wpAny_bind (wpAny_typeOf h.ty ?_)
 exact wpAny_pure (hQ false s.toks)
theorem touch1 {S:Addr} {c:Nat} {Q:Unit->Shared->Prop} (ho:s.heap.get? S=some (seqObj "list" #[] c)) (hQ:∀h' c',Heap.SameBut S s.heap h'->h'.get? S=some (seqObj "list" #[] c')->Q () { s with heap:=h' }):wpAny (model P w) A (Builtin.List.listTouch (.ref S)) Q E s:=by
 unfold Builtin.List.listTouch
 refine wpAny_bind (listUpdate_at (xs:=#[]) (n:=c) ho rfl ?_ (Nat.zero_le _) (by show 1<=sizeLine+1;omega))
 refine listUpdate_at (xs:=#[.none]) (n:=_) (Heap.get?_update_self _ ho rfl) rfl ?_ (by show 1<=sizeLine;decide) (by show 0<=sizeLine+1;omega)
 exact hQ _ _ ((Heap.SameBut.update ..).trans (Heap.SameBut.update ..)) (Heap.get?_update_self _ (Heap.get?_update_self _ ho rfl) rfl)
theorem q4p {p:Addr} {x:Value} {ep:Nat} {t:SetTable} {Q:List Value->Shared->Prop} (hh:A.handled=none) (h:S1 w p x ep t s.heap)
 (hQ:∀h' tk,(∀b o,s.heap.get? b=some o->h'.get? b=some o)->Q [x] { s with heap:=h',toks:=tk }):wpAny (model P w) A (collect (.ref p)) Q E s:=by
 unfold collect
 refine wpAny_bind (wpAny_runValue (codeAny_builtin entry_proto_collect' ?_))
 show wpAny _ _ (do again (.builtin "list.__iadd__" ⟨[<-newList [],.ref p],[]⟩)) _ _ s
 refine wpAny_bind (wpAny_newList (wpAny_pure ⟨Code.quiet_builtin _ (by decide +kernel),codeAny_builtin entry_list_iadd' ?_⟩))
 show wpAny _ _ (Builtin.List.listExtendWith (.ref s.heap.objs.size) (.ref p) (.ref s.heap.objs.size)) _ _ { s with heap:=s.heap.push (seqObj "list" #[] 0) }
 rw [Around.under_plainId F.plain_list_iadd _]
 unfold Builtin.List.listExtendWith
 have h1:S1 w p x ep t (s.heap.push (seqObj "list" #[] 0)):=h.at λo e=>Heap.get?_push_of_some _ e
 have plt:p < s.heap.objs.size:=by obtain ⟨_,z,_⟩:=h;exact Heap.lt_size z
 refine wpAny_bind (wpAny_typeOf (s:={ s with heap:=s.heap.push (seqObj "list" #[] 0) }) h1.ty ?_)
 rw [if_neg (by simp [Builtin.List.listSameRef];exact Nat.ne_of_gt plt)]
 refine wpAny_bind (q6W (s:={ s with heap:=s.heap.push (seqObj "list" #[] 0) }) h1 ?_)
 have sz:(s.heap.push (seqObj "list" #[] 0)).objs.size=s.heap.objs.size+1:=Heap.size_push ..
 have h2:S1 w p x ep t ((s.heap.push (seqObj "list" #[] 0)).push (itS p 0 0 ep)):=h1.at λo e=>Heap.get?_push_of_some _ e
 have it2:((s.heap.push (seqObj "list" #[] 0)).push (itS p 0 0 ep)).get? (s.heap.push (seqObj "list" #[] 0)).objs.size=some (itS p 0 0 ep):=Heap.get?_push_size _ rfl
 have ac2:((s.heap.push (seqObj "list" #[] 0)).push (itS p 0 0 ep)).get? s.heap.objs.size=some (seqObj "list" #[] 0):=Heap.get?_push_of_some _ (Heap.get?_push_size _ rfl)
 have up2:∀b o,s.heap.get? b=some o->((s.heap.push (seqObj "list" #[] 0)).push (itS p 0 0 ep)).get? b=some o:=λb o e=>Heap.get?_push_of_some _ (Heap.get?_push_of_some _ e)
 refine wpAny_bind (wpAny_holding (q8x (s:={ s with heap:=(s.heap.push (seqObj "list" #[] 0)).push (itS p 0 0 ep) }) h2 λb tk=>?_))
 dsimp only at it2 ac2 ⊢
 generalize (s.heap.push (seqObj "list" #[] 0)).push (itS p 0 0 ep)=g2 at *
 rw [sz] at it2 ⊢
 generalize hS:s.heap.objs.size=S at *
 rw [if_pos (by cases b<;>decide +kernel)]
 have nS:∀b o,s.heap.get? b=some o->b≠S:=λb o e=>hS ▸ Nat.ne_of_lt (Heap.lt_size e)
 have nT:∀b o,s.heap.get? b=some o->b≠S+1:=λb o e=>hS ▸ Nat.ne_of_lt (Nat.lt_succ_of_lt (Heap.lt_size e))
 obtain ⟨op,hop⟩:∃o,s.heap.get? p=some o:=by obtain ⟨_,z,_⟩:=h;exact ⟨_,z⟩
 refine wpAny_bind (wpAny_rule ?_)
 refine wpAny_bind (touch1 (s:={ s with heap:=g2,toks:=tk }) ac2 λg3 c3 sb3 ac3=>?_)
 have up3:∀b o,s.heap.get? b=some o->g3.get? b=some o:=λb o e=>by
  rw [sb3.2 b (nS b o e)];exact up2 b o e
 have h3:S1 w p x ep t g3:=h.at (up3 p)
 have it3:g3.get? (S+1)=some (itS p 0 0 ep):=by rw [sb3.2 _ (Nat.succ_ne_self S)];exact it2
 refine wpAny_pure ⟨plainId_quiet F.plain_extend_loop _,codeAny_builtin F.entry_extend_loop ?_⟩
 rw [Around.under_plainId F.plain_extend_loop _]
 show wpAny _ _ (pyNext (.ref (S+1)) >>= _) _ _ _
 refine wpAny_bind (q7D (s:={ s with heap:=g3,toks:=tk }) h3 it3 (nT p _ hop) λg4 sb4 it4=>?_)
 have ac4:g4.get? S=some (seqObj "list" #[] c3):=by rw [sb4.2 _ (Nat.succ_ne_self S).symm];exact ac3
 have up4:∀b o,s.heap.get? b=some o->g4.get? b=some o:=λb o e=>by
  rw [sb4.2 b (nT b o e)];exact up3 b o e
 show wpAny _ _ (updateSeq S (·.push x) >>= _) _ _ _
 refine wpAny_bind (wpAny_updateSeq ac4 rfl (wpAny_pure ⟨plainId_quiet F.plain_extend_loop _,codeAny_builtin F.entry_extend_loop ?_⟩))
 rw [Around.under_plainId F.plain_extend_loop _]
 show wpAny _ _ (pyNext (.ref (S+1)) >>= _) _ _ _
 have ot:∀b,b≠S->(g4.update S (Obj.mapSeq (·.push x))).get? b=g4.get? b:=λb z=>Heap.get?_update_other _ _ (Ne.symm z)
 have ac5:(g4.update S (Obj.mapSeq (·.push x))).get? S=some (seqObj "list" #[x] (c3+1)):=Heap.get?_update_self _ ac4 rfl
 have h5:S1 w p x ep t (g4.update S (Obj.mapSeq (·.push x))):=h.at λo e=>by rw [ot _ (nS p _ hop)];exact up4 p o e
 have it5:(g4.update S (Obj.mapSeq (·.push x))).get? (S+1)=some (itS p (if q4H w=true then 0 else t.place.getD 0 0+1) 1 ep):=by rw [ot _ (Nat.succ_ne_self S)];exact it4
 generalize g4.update S (Obj.mapSeq (·.push x))=g5 at *
 refine wpAny_bind (q9q (s:={ s with heap:=g5,toks:=tk }) (by simp [hh]) h5 it5 λg6 eb6=>?_)
 have ac6:=eb6 S _ (Nat.succ_ne_self S).symm ac5
 refine wpAny_pure ?_
 show wpAny (model P w) A (do
  let o <-load S
  match o.data with
  | .seq xs _=>pure xs.toList
  | _=>unsupported "internal:collect") Q E _
 refine wpAny_bind (wpAny_load ac6 ?_)
 exact wpAny_pure (hQ g6 tk λb o e=>eb6 b o (nT b o e) (by rw [ot b (nS b o e)];exact up4 b o e))
end
section
variable {P:Program} {w:World} {A:Around} {E:Value->Shared->Prop} {s:Shared}
theorem q4Q {p:Addr} {i:Int} {tk:Tok} {ep:Nat} {t:SetTable} {Q:Value->Shared->Prop} (hh:A.handled=none) (h:S1 w p (.int i tk) ep t s.heap)
 (hQ:∀(g h':Heap) (t':Nat) (c:Nat) (k:Tok),(∀b o,s.heap.get? b=some o->g.get? b=some o)->(∀b o,g.get? b=some o->h'.get? b=some o)->h'.get? g.objs.size=some (seqObj "list" #[.int i k] c)->Q (.ref g.objs.size) { s with heap:=h',toks:=t' }) :
 wpAny (model P w) A (call (.builtin "sorted") [.ref p]) Q E s:=by
 refine Calls.call_function_entry kind_sorted plain_sorted entry_sorted (args_sorted1 _) ?_
 unfold Builtin.«sorted»
 refine wpAny_bind (m:=checkCount "sorted" 1 1 _) (wpAny_pure ?_)
 refine wpAny_bind (q4p (by simp [hh]) h λg tk' up=>?_)
 refine wpAny_bind (wpAny_newList ?_)
 have hoL:(g.push (seqObj "list" [Value.int i tk].toArray 0)).get? g.objs.size=some (seqObj "list" [Value.int i tk].toArray 0):=Heap.get?_push_size _ rfl
 refine wpAny_bind (wpAny_holding (wpAny_call_entry slot_list_sort ⟨_,hoL,rfl⟩ entry_list_sort (list_sort_tree (ns:=[i]) hoL ?_ (by show 1 < 64;decide) λout ns' a1 a2 a3=>⟨_,rfl,?_⟩) (args_list_sort _)))
 ·exact .cons i tk .nil
 ·obtain ⟨e,he⟩:=sortedHeap_at (out:=out) hoL
  have en:ns'=[i]:=List.perm_singleton.mp a2
  subst en
  obtain ⟨k,eo⟩:∃k,out=#[.int i k]:=by
   generalize hl:out.toList=l at a1
   cases a1 with
   | cons n k r=>
    cases r
    exact ⟨_,Array.toList_inj.mp (by simpa using hl)⟩
  subst eo
  refine wpAny_pure ⟨_,rfl,hQ g _ tk' e k up (λb o q=>?_) he⟩
  have lt:=Heap.lt_size q
  rw [sortedHeap_old (Nat.ne_of_lt lt) (by rw [size_push'];exact Nat.lt_succ_of_lt lt)]
  exact Heap.get?_push_of_some _ q
end
section
variable {T:Tb} {X:Cx} {e:Expr} {pos p pos2 p2:Pos} {fl:Ro->Out (List D)}
theorem q8r (hc:X.calm=true):CallR X (.type "set") (λxs H Q=>∃(a:Addr) (i:Int),xs=[.ref a]/\SqL X.K H a [.int i]/\∀p t,H p=none->Q (.ref p) (upd H p (.ext (Set1 X.w p (.int i t))))):=by
 intro pins s σ H xs us Q I rv h
 obtain ⟨a,i,rfl,hq,q⟩:=h
 obtain ⟨u,rfl,ru⟩:=rv.one
 cases ru
 obtain ⟨its,r,pl,hz⟩:=I.list hq
 obtain ⟨v,rfl,rv1⟩:=Vals.one r
 obtain ⟨t,rfl⟩:=rv1
 have fr:=I.fresh
 refine q7K (I.ok.hd hc) pl.isList λh' tk hs kk=>?_
 refine ⟨.ref _,_,I.laid (t':=tk) (o:=.ext (Set1 X.w s.heap.objs.size (.int i t))) kk (Nat.le_refl _) ⟨hs,?_,λh1 h2 z k=>?_⟩,rfl,q _ t fr⟩
 ·obtain ⟨ep,tb,hh,z1,_⟩:=hs
  exact ⟨_,z1⟩
 ·obtain ⟨ep,tb,hh,z1,z2⟩:=z
  exact ⟨ep,tb,hh,k _ z1,z2⟩
theorem q4h (hc:X.calm=true):CallR X (.builtin "sorted") (λxs H Q=>∃(a:Addr) (i:Int) (t:Tok),xs=[.ref a]/\H a=some (.ext (Set1 X.w a (.int i t)))/\∀p,H p=none->Q (.ref p) (upd H p (.lst [.int i]))):=by
 intro pins s σ H xs us Q I rv h
 obtain ⟨a,i,t,rfl,ha,q⟩:=h
 obtain ⟨u,rfl,ru⟩:=rv.one
 cases ru
 obtain ⟨⟨ep,tb,hh,z⟩,_⟩:=(show ObjOk X.prog X.w H s.heap a (.ext (Set1 X.w a (.int i t))) from I.hok a _ ha)
 refine q4Q (I.ok.hd hc) ⟨hh,z⟩ λg h' t' c k up up2 hl=>?_
 have I1:Inv X pins σ H { s with heap:=g }:=I.kept (t':=s.toks) up
 refine ⟨.ref _,_,I1.laid (t':=t') (o:=.lst [.int i]) up2 (Nat.le_refl _) ⟨by show 1<=sizeLine;decide,[.int i k],c,.cons ⟨k,rfl⟩ .nil,hl⟩,rfl,q _ (I1.hok.fresh (Nat.le_refl _))⟩
@[simp] def j0p (fl:Ro->Out (List D)) (ρ:Ro):Out (List D):=(fl ρ).bind λds=>match ds with
 | [.int i]=>.ok [.int i]
 | _=>.bad
theorem q6c (hc:X.calm=true) (hg:Gl X "sorted") (hm:X.mg "sorted" = none) (hg2:Gl X "set") (hm2:X.mg "set" = none) (hl:DL T X e fl)
 (hs:starEach [e] X.env=(false,eval e X.env)::starEach [] X.env:=by exact q0w rfl) (hpl:(backTo pos2 (starEach ([]:List Expr) X.env)).any (·.1)=false:=by exact q0z rfl)
 (hsO:starEach [.Call (.Name "set" p2) [e] [] pos2] X.env=(false,eval (.Call (.Name "set" p2) [e] [] pos2) X.env)::starEach [] X.env:=by exact q0w rfl) (hplO:(backTo pos (starEach ([]:List Expr) X.env)).any (·.1)=false:=by exact q0z rfl) :
 DF T X (.Call (.Name "sorted" p) [.Call (.Name "set" p2) [e] [] pos2] [] pos) (j0p fl):=.mk λG E hp=>
 PE.imp (q2M (X:=X.wish E) (q4h (X:=X.wish E) hc) hg hm rfl (q0C (X:=X.wish E) (q1K (X:=X.wish E) (q8r (X:=X.wish E) hc) hg2 hm2 rfl (q0C (X:=X.wish E) (hl.run G E hp) q0Y hs) (by decide) (by decide) hs hpl) q0Y hsO) (by decide) (by decide) hsO hplO) fun σ H Q ⟨ρ,fr,h⟩=>⟨ρ,fr,Acc.mono (Acc.bind h) λds _ hd l vs H1 s1 sq r=>by
  split at hd
  ·rename_i i _
   obtain ⟨v,r0,rfl,rv,rfl⟩:=r
   have rv:v=.int i:=rv
   subst rv
   refine ⟨l,i,rfl,sq,λq t hq=>⟨q,i,t,rfl,q0p,λq2 hq2=>?_⟩⟩
   have s2:Same H1 (upd H1 q (.ext (Set1 X.w q (.int i t)))):=q0A hq
   have s3:=q0A (o:=.lst [.int i]) hq2
   exact hd _ _ _ ((s1.trans s2).trans s3) ((s1.trans s2).free hq2) q0p ⟨_,_,rfl,rfl,rfl⟩
  ·exact hd.elim⟩
end
section
variable {P:Program} {w:World} {A:Around} {E:Value->Shared->Prop} {s:Shared}
theorem q2w {id:String} {b:Builtin} {args:List Value} {kw:List (Str×Value)} {Q:Value->Shared->Prop} (hk:builtinKind id=none) (hp:plainId id=true)
 (hb:entryFor table id=some b) (ha:argsOk id ⟨args,kw⟩)
 (hc:wpAny (model P w) A.in1 (b ⟨args,kw⟩) (λfin s'=>match fin with
  | .done f=>(match (Except.ok f:Result) with | .ok (.ret v)=>Q v s' | .ok _=>False | .error e=>E e s')
  | .again c'=>c'.quiet=true/\codeAny (model P w) A c' (λr s'=>match r with | .ok (.ret v)=>Q v s' | .ok _=>False | .error e=>E e s') s') E s) :
 wpAny (model P w) A (call (.builtin id) args kw) Q E s:=by
 refine wpAny_call (codeAny_call_builtin hp hb ?_)
 simp only [checkBuiltinCall,hk]
 cases hsig:Manifest.signature? id with
 | none=>exact wpAny_pure hc
 | some sig=>
  simp only [argsOk,hsig] at ha
  have h2:Bind.checkArgs id sig ⟨args,kw⟩=pure ():=ha
  show wpAny _ A.in1 (Bind.checkArgs id sig ⟨args,kw⟩) _ _ s
  rw [h2];exact wpAny_pure hc
theorem q62 (a d:Value):argsOk "max" ⟨[a],[("default",d)]⟩:=by unfold argsOk;kernel_rfl
theorem q6A (a k d:Value):argsOk "min" ⟨[a],[("key",k),("default",d)]⟩:=by unfold argsOk;kernel_rfl
abbrev lit (l:Addr) (k:Int):Obj:={ cls:=.type "list_iterator",data:=.fields #[.ref l,.int k 0] }
abbrev j4J:Obj:={ cls:=.type "list",data:=.seq #[] }
structure Mm (h0:Heap) (l I S:Addr) (vs:Array Value) (h:Heap):Prop where
 up:∀b o,h0.get? b=some o->h.get? b=some o
 nI:h0.get? I=none
 nS:h0.get? S=none
 ne:S≠I
 lI:l≠I
 it:h.IsListIter I l 0
 ls:h.IsList l vs
 l0:∃o,h0.get? l=some o
 oS:h.get? S=some j4J
theorem Mm.mk0 {l:Addr} {vs:Array Value} (hl:s.heap.IsList l vs):Mm s.heap l s.heap.objs.size (s.heap.push (lit l 0)).objs.size vs ((s.heap.push (lit l 0)).push j4J):=by
 have sI:(s.heap.push (lit l 0)).objs.size=s.heap.objs.size+1:=Heap.size_push ..
 have nI:s.heap.get? s.heap.objs.size=none:=Heap.get?_none_of_le (Nat.le_refl _)
 have up:∀b o,s.heap.get? b=some o->((s.heap.push (lit l 0)).push j4J).get? b=some o:=λb o e=>Heap.get?_push_of_some _ (Heap.get?_push_of_some _ e)
 refine ⟨up,nI,Heap.get?_none_of_le (by rw [sI];exact Nat.le_succ _),by rw [sI];exact Nat.succ_ne_self _,λz=>?_,⟨_,Heap.get?_push_of_some _ (Heap.get?_push_size _ rfl),rfl,rfl⟩,hl.at λo e=>up _ o e,by obtain ⟨o,e,_⟩:=hl;exact ⟨o,e⟩,Heap.get?_push_size _ rfl⟩
 obtain ⟨o,e,_⟩:=hl
 rw [z,nI] at e;cases e
theorem Mm.bI {h0 h:Heap} {l I S:Addr} {vs:Array Value} (m:Mm h0 l I S vs h):∀b o,h0.get? b=some o->b∉[I]:=λb o e z=>by
 have nI:=m.nI
 rw [List.mem_singleton.mp z,nI] at e;cases e
theorem Mm.bS {h0 h:Heap} {l I S:Addr} {vs:Array Value} (m:Mm h0 l I S vs h):∀b o,h0.get? b=some o->b≠S:=λb o e z=>by
 have nS:=m.nS
 rw [z,nS] at e;cases e
theorem j7e {l:Addr} {vs:Array Value} {d:Value} {Q:Value->Shared->Prop} (hl:s.heap.IsList l vs)
 (h:∀(h1:Heap) (I S:Addr),Mm s.heap l I S vs h1->codeAny (model P w) A (.builtin "max.loop" ⟨[.ref I,.none,.ref S],[(("default" : Str),d)]⟩) (λr s'=>match r with | .ok (.ret v)=>Q v s' | .ok _=>False | .error e=>E e s') { s with heap:=h1 }) :
 wpAny (model P w) A (call (.builtin "max") [.ref l] [(("default" : Str),d)]) Q E s:=by
 have nm:(toString "max"++toString ".loop" : String)="max.loop":=by decide
 refine q2w F.kind_max F.plain_max F.entry_max (q62 _ _) ?_
 refine wpAny_bind (wpAny_of_eq (show Builtin.Builtins.bindParams "max" ["key","default"] 0 ⟨[],[(("default" : Str),d)]⟩=pure [none,some d] from rfl) (wpAny_bind (wpAny_pure ?_)))
 refine wpAny_bind (wpAny_pyIter_list hl ?_)
 refine wpAny_bind (wpAny_newObj_type ?_)
 rw [nm]
 exact wpAny_pure ⟨plainId_quiet F.plain_max_loop _,h _ _ _ (Mm.mk0 hl)⟩
theorem j1D {l I S:Addr} {d:Value} {h0 h1:Heap} {R:Result->Shared->Prop} (hh:A.handled=none) (m:Mm h0 l I S #[] h1)
 (h:∀h' tk,KpH h0 h'->R (.ok (.ret d)) { s with heap:=h',toks:=tk }):codeAny (model P w) A (.builtin "max.loop" ⟨[.ref I,.none,.ref S],[(("default" : Str),d)]⟩) R { s with heap:=h1 }:=by
 have W:=Walks.list (prog:=P) (w:=w) (A:=A.in1) hh I l m.lI #[]
 refine codeAny_builtin F.entry_max_loop ?_
 rw [Around.under_plainId F.plain_max_loop _]
 refine wpAny_bind (wpAny_seqItems m.oS rfl ?_)
 refine wpAny_bind (wpAny_tryCatch (W.done { s with heap:=h1 } _ _ ⟨m.it,m.ls⟩ λh2 tk k2=>?_))
 refine wpAny_bind (wpAny_rule (wpAny_pure ?_))
 exact h h2 tk λb o e=>k2 b o (m.bI b o e) (m.up b o e)
theorem j00 {nm:String} {l I S:Addr} {x y key:Value} {kw:List (Str×Value)} {h0 h4:Heap} {c:Nat} {R:Result->Shared->Prop} (hh:A.handled=none) (lI:l≠I) (ne:S≠I) (nI:h0.get? I=none) (nS:h0.get? S=none) (up:∀b o,h0.get? b=some o->h4.get? b=some o) (it:h4.IsListIter I l 1) (ls:h4.IsList l #[x])
 (oS:h4.get? S=some ⟨.type "list",none,.seq #[x,y] c,#[]⟩) (h:∀h' tk,KpH h0 h'->R (.ok (.ret x)) { s with heap:=h',toks:=tk }) (hn:nm="max.loop"∨nm="min.loop"):codeAny (model P w) A (.builtin nm ⟨[.ref I,key,.ref S],kw⟩) R { s with heap:=h4 }:=by
 have W:=Walks.list (prog:=P) (w:=w) (A:=A.in1) hh I l lI #[x]
 have bI:∀b o,h0.get? b=some o->b∉[I]:=λb o e z=>by rw [List.mem_singleton.mp z,nI] at e;cases e
 rcases hn with rfl | rfl
 ·refine codeAny_builtin F.entry_max_loop ?_
  rw [Around.under_plainId F.plain_max_loop _]
  refine wpAny_bind (wpAny_seqItems oS rfl ?_)
  refine wpAny_bind (wpAny_tryCatch (W.done { s with heap:=h4 } _ _ ⟨it,ls⟩ λh5 tk5 k5=>?_))
  have oS5:=k5 S _ (by simpa using ne) oS
  refine wpAny_bind ?_
  refine wpAny_updateSeq oS5 rfl (wpAny_bind (wpAny_letGo (wpAny_pure ?_)))
  refine h _ tk5 λb o e=>?_
  exact (Heap.get?_update_other _ _ (λz=>by rw [<-z,nS] at e;cases e)).trans (k5 b o (bI b o e) (up b o e))
 ·refine codeAny_builtin F.entry_min_loop ?_
  rw [Around.under_plainId F.plain_min_loop _]
  refine wpAny_bind (wpAny_seqItems oS rfl ?_)
  refine wpAny_bind (wpAny_tryCatch (W.done { s with heap:=h4 } _ _ ⟨it,ls⟩ λh5 tk5 k5=>?_))
  have oS5:=k5 S _ (by simpa using ne) oS
  refine wpAny_bind ?_
  refine wpAny_updateSeq oS5 rfl (wpAny_bind (wpAny_letGo (wpAny_pure ?_)))
  refine h _ tk5 λb o e=>?_
  exact (Heap.get?_update_other _ _ (λz=>by rw [<-z,nS] at e;cases e)).trans (k5 b o (bI b o e) (up b o e))
theorem j2m {l I S:Addr} {x d:Value} {h0 h1:Heap} {R:Result->Shared->Prop} (hh:A.handled=none) (m:Mm h0 l I S #[x] h1)
 (h:∀h' tk,KpH h0 h'->R (.ok (.ret x)) { s with heap:=h',toks:=tk }):codeAny (model P w) A (.builtin "max.loop" ⟨[.ref I,.none,.ref S],[(("default" : Str),d)]⟩) R { s with heap:=h1 }:=by
 have nm:(toString "max"++toString ".loop" : String)="max.loop":=by decide
 have W:=Walks.list (prog:=P) (w:=w) (A:=A.in1) hh I l m.lI #[x]
 refine codeAny_builtin F.entry_max_loop ?_
 rw [Around.under_plainId F.plain_max_loop _]
 refine wpAny_bind (wpAny_seqItems m.oS rfl ?_)
 refine wpAny_bind (wpAny_tryCatch (W.item 0 { s with heap:=h1 } _ _ Nat.one_pos ⟨m.it,m.ls⟩ λy h3 tk hy st3 k3=>?_))
 have hy:some x=some y:=hy
 cases hy
 have oS:=k3 S _ (by simpa using m.ne) m.oS
 show wpAny (model P w) A.in1 (updateSeq S (λ_=>#[x,x]) >>= _) _ _ _
 refine wpAny_bind (wpAny_updateSeq oS rfl ?_)
 rw [nm]
 refine wpAny_pure ⟨plainId_quiet F.plain_max_loop _,?_⟩
 have ot:∀b,b≠S->(h3.update S (Obj.mapSeq λ_=>#[x,x])).get? b=h3.get? b:=λb z=>Heap.get?_update_other _ _ (Ne.symm z)
 have nl:l≠S:=λz=>by
  obtain ⟨o,e⟩:=m.l0
  exact m.bS l o e z
 refine j00 (s:={ s with toks:=tk }) hh m.lI m.ne m.nI m.nS (λb o e=>?_) (st3.1.at λo e=>(ot _ (Ne.symm m.ne)).trans e) (st3.2.at λo e=>(ot _ nl).trans e) (Heap.get?_update_self _ oS rfl) (λh' tk' k=>h h' tk' k) (.inl rfl)
 rw [ot b (m.bS b o e)]
 exact k3 b o (m.bI b o e) (m.up b o e)
end
section
variable {T:Tb} {X:Cx} {a d:Expr} {pos p kp:Pos} {fl:Ro->Out (List D)} {fd:Ev}
@[simp] def j1a (fl:Ro->Out (List D)) (fd:Ev) (ρ:Ro):Out D:=(fl ρ).bind λds=>(fd ρ).bind λd=>match ds with
 | []=>.ok d
 | [x]=>.ok x
 | _=>.bad
theorem q63 (hc:X.calm=true) (hg:Gl X "max") (hm:X.mg "max" = none) (ha:DL T X a fl) (hd:DE T X d fd) (hs:starEach [a] X.env=(false,eval a X.env)::starEach [] X.env:=by exact q0w rfl) (hpl:(backTo pos (starEach ([a]:List Expr) X.env)).any (·.1)=false:=by exact q0z rfl) :
 DE T X (.Call (.Name "max" p) [a] [⟨some "default",d,kp⟩] pos) (j1a fl fd):=.mk λG E hp=>by
 rintro pins s σ H Q I ⟨ρ,fr,h⟩
 refine wpAny_Call_Name_kw (q1l (X:=X.wish E) I hg hm boot_max (callWith_kw (thn ((q0C (X:=X.wish E) (ha.run G E hp) q0Y hs) pos pins s σ H (λus H1=>∃l vs ds,us=[.ref l]/\Same H H1/\SqL X.K H1 l vs/\RepL T X.K H1 ds vs/\Acc T X E σ H ((fd ρ).bind λd=>match ds with | []=>.ok d | [x]=>.ok x | _=>.bad) (kE T X.K H Q)) I ⟨ρ,fr,Acc.mono (Acc.bind h) λds _ hd l vs H1 s1 sq r=>⟨l,vs,ds,rfl,s1,sq,r,hd⟩⟩) λus s1 ⟨xs,H1,I1,r1,l,vs,ds,e1,sm,sq,r,hq⟩=>?_) (by rw [hs];rfl) hpl rfl rfl))
 subst e1
 obtain ⟨u,rfl,ru⟩:=Vals.one r1
 cases ru
 refine kws_cons (thn (hd.run G E hp pins s1 σ H1 (λv H2=>Same H1 H2/\∃d,Rep T X.K H2 d v/\Acc T X E σ H1 (match ds with | []=>.ok d | [x]=>.ok x | _=>.bad) (kE T X.K H Q)) I1 ⟨ρ,fr.mono sm,Acc.mono (Acc.bind (Acc.heap sm hq)) λd _ hd' v H2 s2 r2=>⟨s2,d,r2,hd'⟩⟩) λdv s2 ⟨v,H2,I2,r2,s12,d,rd,q2⟩=>kws_nil ?_)
 obtain ⟨its,rv,pl,hz⟩:=I2.list (s12.seq sq)
 have rl:=RepL.mono s12 _ _ r
 refine j7e pl.isList λh1 It S m=>?_
 match ds,rl,q2 with
 | [],rl,q2=>
  cases rl
  cases rv
  exact j1D (I2.ok.hd hc) m λh' tk k=>⟨v,H2,I2.kept (t':=tk) k,r2,q2 v H2 (sm.trans s12) rd⟩
 | [x],rl,q2=>
  obtain ⟨y,r0,rfl,ry,rfl⟩:=rl
  obtain ⟨uy,rfl,ruy⟩:=Vals.one rv
  exact j2m (I2.ok.hd hc) m λh' tk k=>⟨y,H2,I2.kept (t':=tk) k,ruy,q2 y H2 (sm.trans s12) ry⟩
 | _::_::_,rl,q2=>exact q2.elim
end
section
variable {P:Program} {w:World} {A:Around} {E:Value->Shared->Prop} {s:Shared}
theorem j2F {l:Addr} {vs:Array Value} {f:Addr} {d:Value} {Q:Value->Shared->Prop} (hl:s.heap.IsList l vs)
 (h:∀(h1:Heap) (I S:Addr),Mm s.heap l I S vs h1->s.heap.objs.size<=I->s.heap.objs.size<=S->codeAny (model P w) A (.builtin "min.loop" ⟨[.ref I,.ref f,.ref S],[(("default" : Str),d)]⟩) (λr s'=>match r with | .ok (.ret v)=>Q v s' | .ok _=>False | .error e=>E e s') { s with heap:=h1 }) :
 wpAny (model P w) A (call (.builtin "min") [.ref l] [(("key" : Str),.ref f),(("default" : Str),d)]) Q E s:=by
 have nm:(toString "min"++toString ".loop" : String)="min.loop":=by decide
 refine q2w F.kind_min F.plain_min F.entry_min (q6A _ _ _) ?_
 refine wpAny_bind (wpAny_of_eq (show Builtin.Builtins.bindParams "min" ["key","default"] 0 ⟨[],[(("key" : Str),.ref f),(("default" : Str),d)]⟩=pure [some (.ref f),some d] from rfl) (wpAny_bind (wpAny_pure ?_)))
 refine wpAny_bind (wpAny_pyIter_list hl ?_)
 refine wpAny_bind (wpAny_newObj_type ?_)
 rw [nm]
 exact wpAny_pure ⟨plainId_quiet F.plain_min_loop _,h _ _ _ (Mm.mk0 hl) (Nat.le_refl _) (by rw [show (s.heap.push (lit l 0)).objs.size=s.heap.objs.size+1 from Heap.size_push ..];exact Nat.le_succ _)⟩
theorem j1P {l I S f:Addr} {d:Value} {h0 h1:Heap} {R:Result->Shared->Prop} (hh:A.handled=none) (m:Mm h0 l I S #[] h1)
 (h:∀h' tk,KpH h0 h'->R (.ok (.ret d)) { s with heap:=h',toks:=tk }):codeAny (model P w) A (.builtin "min.loop" ⟨[.ref I,.ref f,.ref S],[(("default" : Str),d)]⟩) R { s with heap:=h1 }:=by
 have W:=Walks.list (prog:=P) (w:=w) (A:=A.in1) hh I l m.lI #[]
 refine codeAny_builtin F.entry_min_loop ?_
 rw [Around.under_plainId F.plain_min_loop _]
 refine wpAny_bind (wpAny_seqItems m.oS rfl ?_)
 refine wpAny_bind (wpAny_tryCatch (W.done { s with heap:=h1 } _ _ ⟨m.it,m.ls⟩ λh2 tk k2=>?_))
 refine wpAny_bind (wpAny_rule (wpAny_pure ?_))
 exact h h2 tk λb o e=>k2 b o (m.bI b o e) (m.up b o e)
theorem j0U {l I S:Addr} {arr:Array Value} {x y key:Value} {kw:List (Str×Value)} {c:Nat} {R:Result->Shared->Prop} (hh:A.handled=none) (lI:l≠I) (ne:S≠I) (it:s.heap.IsListIter I l 1) (az:arr.size=1) (ls:s.heap.IsList l arr)
 (oS:s.heap.get? S=some ⟨.type "list",none,.seq #[x,y] c,#[]⟩) (h:∀h' tk,(∀b o,b≠I->b≠S->s.heap.get? b=some o->h'.get? b=some o)->R (.ok (.ret x)) { s with heap:=h',toks:=tk }):codeAny (model P w) A (.builtin "min.loop" ⟨[.ref I,key,.ref S],kw⟩) R s:=by
 have W:=Walks.list (prog:=P) (w:=w) (A:=A.in1) hh I l lI arr
 refine codeAny_builtin F.entry_min_loop ?_
 rw [Around.under_plainId F.plain_min_loop _]
 refine wpAny_bind (wpAny_seqItems oS rfl ?_)
 refine wpAny_bind (wpAny_tryCatch (W.done s _ _ ⟨by rw [az];exact it,ls⟩ λh5 tk5 k5=>?_))
 have oS5:=k5 S _ (by simpa using ne) oS
 refine wpAny_bind ?_
 refine wpAny_updateSeq oS5 rfl (wpAny_bind (wpAny_letGo (wpAny_pure ?_)))
 refine h _ tk5 λb o nI nS e=>?_
 exact (Heap.get?_update_other _ _ (Ne.symm nS)).trans (k5 b o (by simpa using nI) e)
theorem q9b {l I S f:Addr} {x d:Value} {h0 h1:Heap} {R:Result->Shared->Prop} {K:Value->Shared->Prop} (hh:A.handled=none) (m:Mm h0 l I S #[x] h1)
 (hcall:∀(h3:Heap) (tk:Nat) (oI:Obj),KpH h0 h3->h3.get? I=some oI->(∀v,oI.data≠.cell v)->h3.get? S=some j4J ->
  wpAny (model P w) A.in1 (call (.ref f) [x]) (λy s4=>(s4.heap.get? I=some oI/\s4.heap.get? S=some j4J/\∃arr,arr.size=1/\s4.heap.IsList l arr)/\K y s4) (λ_ _=>False) { s with heap:=h3,toks:=tk })
 (h:∀y s4 h' tk,K y s4->(∀b o,b≠I->b≠S->s4.heap.get? b=some o->h'.get? b=some o)->R (.ok (.ret x)) { s4 with heap:=h',toks:=tk }) :
 codeAny (model P w) A (.builtin "min.loop" ⟨[.ref I,.ref f,.ref S],[(("default" : Str),d)]⟩) R { s with heap:=h1 }:=by
 have nm:(toString "min"++toString ".loop" : String)="min.loop":=by decide
 have W:=Walks.list (prog:=P) (w:=w) (A:=A.in1) hh I l m.lI #[x]
 refine codeAny_builtin F.entry_min_loop ?_
 rw [Around.under_plainId F.plain_min_loop _]
 refine wpAny_bind (wpAny_seqItems m.oS rfl ?_)
 refine wpAny_bind (wpAny_tryCatch (W.item 0 { s with heap:=h1 } _ _ Nat.one_pos ⟨m.it,m.ls⟩ λy h3 tk hy st3 k3=>?_))
 have hy:some x=some y:=hy
 cases hy
 have oS:=k3 S _ (by simpa using m.ne) m.oS
 obtain ⟨oI,eI,cI,dI⟩:=st3.1
 have kp3:KpH h0 h3:=λb o e=>k3 b o (m.bI b o e) (m.up b o e)
 show wpAny (model P w) A.in1 (tryCatch (holding [x] (call (.ref f) [x])) _ >>= _) _ _ _
 refine wpAny_bind (wpAny_tryCatch (wpAny_holding (wpAny_mono (hcall h3 tk oI kp3 eI (λv z=>by rw [dI] at z;cases z) oS) (λy s4 h4=>?_) λ_ _ z=>z.elim)))
 obtain ⟨⟨e4,o4,arr,az,l4⟩,k4⟩:=h4
 show wpAny (model P w) A.in1 (updateSeq S (λ_=>#[x,y]) >>= _) _ _ _
 refine wpAny_bind (wpAny_updateSeq o4 rfl ?_)
 rw [nm]
 refine wpAny_pure ⟨plainId_quiet F.plain_min_loop _,?_⟩
 have ot:∀b,b≠S->(s4.heap.update S (Obj.mapSeq λ_=>#[x,y])).get? b=s4.heap.get? b:=λb z=>Heap.get?_update_other _ _ (Ne.symm z)
 have nl:l≠S:=λz=>by
  obtain ⟨o,e⟩:=m.l0
  exact m.bS l o e z
 refine j0U (s:={ s4 with heap:=s4.heap.update S (Obj.mapSeq λ_=>#[x,y]) }) hh m.lI m.ne ⟨oI,(ot _ (Ne.symm m.ne)).trans e4,cI,dI⟩ az (l4.at λo e=>(ot _ nl).trans e) (Heap.get?_update_self _ o4 rfl) λh' tk' k=>?_
 exact h y s4 h' tk' k4 λb o n1 n2 e=>k b o n1 n2 ((ot b n2).trans e)
end
theorem j19 {X:Cx} {pins:List (Addr×Obj)} {σ:L2.St} {H:Hp} {s:Shared} (I:Inv X pins σ H s):Inv { X with A:=X.A.in1 } pins σ H s where
 ok:=⟨I.ok.mod,I.ok.kind,I.ok.glob,I.ok.blt,I.ok.above,I.ok.inj,I.ok.has,I.ok.cab,I.ok.hd,I.ok.frames,I.ok.stk,I.ok.exf,I.ok.bs,I.ok.bsz,I.ok.noex,I.ok.exfs,I.ok.funs,I.ok.frf⟩
 os:=I.os
 bare:=I.bare
 base:=I.base
 loc:=I.loc
 cell:=I.cell
 free:=I.free
 freeC:=I.freeC
 pin:=I.pin
 hok:=I.hok
 len:=I.len
theorem q9p {X:Cx} {pins:List (Addr×Obj)} {σ:L2.St} {H:Hp} {s:Shared} (ok:X.Ok) (I:Inv { X with A:=X.A.in1 } pins σ H s):Inv X pins σ H s where
 ok:=ok
 os:=I.os
 bare:=I.bare
 base:=I.base
 loc:=I.loc
 cell:=I.cell
 free:=I.free
 freeC:=I.freeC
 pin:=I.pin
 hok:=I.hok
 len:=I.len
theorem q8w {X:Cx} {pins:List (Addr×Obj)} {σ:L2.St} {H:Hp} {s:Shared} {h':Heap} {t':Nat} {fp:List Addr} (I:Inv X pins σ H s) (k:∀b o,b∉fp->s.heap.get? b=some o->h'.get? b=some o) (hf:∀b∈fp,q1X X pins H b):Inv X pins σ H { s with heap:=h',toks:=t' }:=by
 have nit:∀b u,H b=some u->b∉fp:=λb u e z=>by rw [(hf b z).1] at e;cases e
 refine I.step (g':=s.gens) (d':=s.drawn) (ch:=fp) (λb hb=>?_) (λb o _ _ hc e _=>k b o hc e) (λb o _ _ hc e _=>⟨o.slots,k b o hc e⟩) (λ_ _ _ _ n=>n)
  (λb o hc e=>⟨o,k b o hc e⟩) (λ_ _ e=>e) (λ_ _ _ e=>e) (λb ps e=>⟨#[],by rw [e];simp⟩) (λm hm=>?_) (λb u e=>?_) I.bare
 ·obtain ⟨_,f1,_,f3,f4,f5⟩:=hf b hb
  exact ⟨f3,f1,f4,f5⟩
 ·obtain ⟨o,es,ep,ho,r⟩:=hm
  exact ⟨o,es,ep,k _ o (λz=>(hf _ z).2.1 rfl) ho,r⟩
 ·refine (I.hok b u e).stay (λc v hc q=>k c v ?_ q) (λ_ q=>q) λ_ _ q=>q
  rcases hc with z | z
  ·rw [z];exact nit b u e
  ·exact nit c _ z
section
variable {T:Tb} {X:Cx} {a d:Expr} {pos p px kp kp2:Pos} {fl:Ro->Out (List D)} {fv:Ev} {k:Nat} {f:Addr} {fd:FuncData} {ps:List Str} {F:Fn} {x:Str}
@[simp] def j4y (F:Fn) (fl:Ro->Out (List D)) (fv:Ev) (ρ:Ro):Out D:=(fl ρ).bind λds=>(fv ρ).bind λv=>match ds with
 | []=>.ok v
 | [d]=>(match F [.sh d] with | .ok _=>.ok d | _=>.bad)
 | _=>.bad
theorem j2j (FO:FnOk X.prog X.w X.K X.mg X.base (CXE T X.prog X.w) k f fd ps (spD T X.K ps.length F)) (hr:Room (k+1) X.A) (hc:X.calm=true) (hg:Gl X "min") (hm:X.mg "min" = none) (hgx:Gl X x) (hmx:X.mg x=some (.ref f)) (hb:Binds X.K fd ps []) (hn:ps.length=1)
 (ha:DL T X a fl) (hd:DE T X d fv) (hdb:(x==("__debug__" : Str))=false:=by decide) (hs:starEach [a] X.env=(false,eval a X.env)::starEach [] X.env:=by exact q0w rfl) (hpl:(backTo pos (starEach ([a]:List Expr) X.env)).any (·.1)=false:=by exact q0z rfl) :
 DE T X (.Call (.Name "min" p) [a] [⟨some "key",.Name x px,kp⟩,⟨some "default",d,kp2⟩] pos) (j4y F fl fv):=.mk λG E hp=>by
 rintro pins s σ H Q I ⟨ρ,fr,h⟩
 refine wpAny_Call_Name_kw (q1l (X:=X.wish E) I hg hm boot_min (callWith_kw (thn ((q0C (X:=X.wish E) (ha.run G E hp) q0Y hs) pos pins s σ H (λus H1=>∃l vs ds,us=[.ref l]/\Same H H1/\SqL X.K H1 l vs/\RepL T X.K H1 ds vs/\Acc T X E σ H ((fv ρ).bind λv=>match ds with | []=>.ok v | [d]=>(match F [.sh d] with | .ok _=>.ok d | _=>.bad) | _=>.bad) (kE T X.K H Q)) I ⟨ρ,fr,Acc.mono (Acc.bind h) λds _ hd l vs H1 s1 sq r=>⟨l,vs,ds,rfl,s1,sq,r,hd⟩⟩) λus s1 ⟨xs,H1,I1,r1,l,vs,ds,e1,sm,sq,r,hq⟩=>?_) (by rw [hs];rfl) hpl rfl rfl))
 subst e1
 obtain ⟨u,rfl,ru⟩:=Vals.one r1
 cases ru
 refine kws_cons (q15 (X:=X.wish E) I1 hgx hmx ?_ hdb)
 refine kws_cons (thn (hd.run G E hp pins s1 σ H1 (λv H2=>Same H1 H2/\∃d,Rep T X.K H2 d v/\Acc T X E σ H1 (match ds with | []=>.ok d | [d]=>(match F [.sh d] with | .ok _=>.ok d | _=>.bad) | _=>.bad) (kE T X.K H Q)) I1 ⟨ρ,fr.mono sm,Acc.mono (Acc.bind (Acc.heap sm hq)) λd _ hd' v H2 s2 r2=>⟨s2,d,r2,hd'⟩⟩) λdv s2 ⟨v,H2,I2,r2,s12,d,rd,q2⟩=>kws_nil ?_)
 obtain ⟨its,rv,pl,hz⟩:=I2.list (s12.seq sq)
 have rl:=RepL.mono s12 _ _ r
 refine j2F pl.isList λh1 It S m lI lS=>?_
 match ds,rl,q2 with
 | [],rl,q2=>
  cases rl
  cases rv
  exact j1P (I2.ok.hd hc) m λh' tk k=>⟨v,H2,I2.kept (t':=tk) k,r2,q2 v H2 (sm.trans s12) rd⟩
 | [x'],rl,q2=>
  obtain ⟨y,r0,rfl,ry,rfl⟩:=rl
  obtain ⟨uy,rfl,ruy⟩:=Vals.one rv
  have q2:Acc T X E σ H1 (match F [.sh x'] with | .ok _=>.ok x' | _=>.bad) (kE T X.K H Q):=q2
  cases eF:F [.sh x'] with
  | ok r=>
   rw [eF] at q2
   have fI:q1X X pins H2 It:=I2.unwish.fpOk lI (I2.hok.fresh lI)
   have fS:q1X X pins H2 S:=I2.unwish.fpOk lS (I2.hok.fresh lS)
   refine q9b (K:=λ_ s4=>∃H4,Inv X pins σ H4 s4/\Same H2 H4/\q1X X pins H4 It/\q1X X pins H4 S) (I2.ok.hd hc) m (λh3 tk oI kp eI nc oS=>?_) λ_ s4 h' tk ⟨H4,I4,sm4,gI,gS⟩ kk=>?_
   ·have I3:Inv X pins σ H2 { s2 with heap:=h3,toks:=tk }:=I2.unwish.kept kp
    have I3p:=I3.pinned (fp:=[It,S]) (λb hb=>by
     simp only [List.mem_cons,List.not_mem_nil,or_false] at hb
     rcases hb with rfl | rfl
     ·exact fI
     ·exact fS) (λb hb=>by
     simp only [List.mem_cons,List.not_mem_nil,or_false] at hb
     rcases hb with rfl | rfl
     ·exact ⟨oI,eI,nc⟩
     ·exact ⟨_,oS,λv z=>by cases z⟩)
    have run:=q8V (X:={ X with A:=X.A.in1 }) (T:=T) (E:=λ_ _=>False) (Q:=λ_ H4=>Same H2 H4) (us:=[uy]) (vs:=[y]) (ss:=[.sh x']) (dvs:=[]) FO hr.in1 hb .nil ((j19 I3p).wish _) (.cons ruy .nil) ⟨_,_,rfl,ry,rfl⟩ (by simp [hn]) (by rw [eF];exact λv H4 s4 _=>s4)
    refine wpAny_mono run (λyv s4 h4=>?_) λ_ _ z=>z
    obtain ⟨v4,H4,I4,r4,sm4⟩:=h4
    have I4:=I4.unwish
    obtain ⟨p1,p2,_⟩:=I4.pin (It,oI) (List.mem_append_right _ (List.mem_append_right _ (q0K (by simp) eI)))
    obtain ⟨q1,q2',_⟩:=I4.pin (S,_) (List.mem_append_right _ (List.mem_append_right _ (q0K (by simp) oS)))
    have I4':=(q9p I3.ok I4).unpinned
    obtain ⟨its4,rv4,pl4,_⟩:=I4'.list (sm4.seq (s12.seq sq))
    obtain ⟨uy4,rfl,_⟩:=Vals.one rv4
    exact ⟨⟨p1,q1,_,rfl,pl4.isList⟩,H4,I4',sm4,⟨p2,fI.2⟩,⟨q2',fS.2⟩⟩
   ·have I5:Inv X pins σ H4 { s4 with heap:=h',toks:=tk }:=q8w (fp:=[It,S]) I4 (λb o hb e=>kk b o (λz=>hb (by simp [z])) (λz=>hb (by simp [z])) e) λb hb=>by
     simp only [List.mem_cons,List.not_mem_nil,or_false] at hb
     rcases hb with rfl | rfl
     ·exact gI
     ·exact gS
    exact ⟨y,H4,I5.wish E,ruy,q2 y H4 ((sm.trans s12).trans sm4) (Rep.mono sm4 _ _ ry)⟩
  | exc c=>rw [eF] at q2;exact q2.elim
  | bad=>rw [eF] at q2;exact q2.elim
 | _::_::_,rl,q2=>exact q2.elim
end
end L3
namespace L3
open PySem L2
def q2l (_:Ro):Fl:=.bad
theorem q0F {T:Tb} {b:Bool} {X:Cx} {sts:List Stmt}:DSs T b X sts q2l:=.mk λG E hp pins s σ H D I ⟨ρ,fr,h⟩=>h.elim
end L3
namespace L3
open PySem PySem.Spec PyProof.Rows L2
theorem q3z:entryFor table "proto.unchain" = some Builtin.«proto.unchain»:=entryFor_of_tree (by kernel_rfl)
section
variable {P:Program} {w:World} {A:Around} {E:Value->Shared->Prop} {s:Shared}
theorem q7I {α:Type} {ea e:Addr} {oe o:Obj} {vs ws:Array Value} {Q:α->Shared->Prop} (hh:A.handled=some (.ref ea)) (he:s.heap.get? ea=some oe) (hd:oe.data=.fields vs) (h2:vs[2]?=some .none)
 (ne:ea≠e) (ho:s.heap.get? e=some o) (hod:o.data=.fields ws) (hsz:2 < ws.size) (h:E (.ref e) { s with heap:=s.heap.update e (Obj.mapFields (·.setIfInBounds 2 (.ref ea))) }):wpAny (model P w) A (raiseNew (.ref e):Sem α) Q E s:=by
 unfold raiseNew
 refine wpAny_bind (wpAny_handled ?_)
 rw [hh]
 dsimp only
 rw [if_pos (by simp [ne])]
 refine wpAny_bind (wpAny_holding (wpAny_runValue (codeAny_builtin q3z ?_)))
 refine wpAny_bind (wpAny_field he hd h2 ?_)
 rw [if_pos (show (Value.none==Value.none)=true from rfl)]
 refine wpAny_pure ?_
 show wpAny (model P w) A (updateField e 2 (.ref ea) >>= λ_=>throw (.ref e)) Q E s
 refine wpAny_bind ?_
 unfold updateField
 refine wpAny_bind (wpAny_load ho ?_)
 rw [hod]
 dsimp only
 rw [if_pos hsz]
 exact wpAny_update ho (wpAny_throw h)
theorem q3V {it ea:Addr} {oe:Obj} {vs:Array Value} {x left step:Int} {Q:Option Value->Shared->Prop} (hh:A.handled=some (.ref ea)) (he:s.heap.get? ea=some oe) (hd:oe.data=.fields vs) (h2:vs[2]?=some .none) (hit:IsRangeIter s.heap it x left step) (hl:left<=0)
 (hQ:∀h',Heap.ExtBut it s.heap h'->Q none { s with heap:=h' }):wpAny (model P w) A (pyNext (.ref it)) Q E s:=by
 have ty:s.TypeIs (.ref it) "range_iterator":=⟨_,hit,rfl⟩
 unfold pyNext
 refine wpAny_bind (wpAny_attempt (wpAny_callSpecial?_slot (name:=Str.ofString "__next__") ty F.slot_range_iterator_next (wpAny_call_entry F.slot_range_iterator_next ty F.entry_range_iterator_next ?_ (F.args_range_iterator_next_1 _))))
 show wpAny _ _ (field (.ref it) 0 >>= _) _ _ s
 refine wpAny_bind (wpAny_field hit rfl (x:=rawInt x) rfl ?_)
 show wpAny _ _ (field (.ref it) 1 >>= _) _ _ s
 refine wpAny_bind (wpAny_field hit rfl (x:=rawInt left) rfl ?_)
 show wpAny _ _ (field (.ref it) 2 >>= _) _ _ s
 refine wpAny_bind (wpAny_field hit rfl (x:=rawInt step) rfl ?_)
 show wpAny _ _ (if left<=0 then _ else _) _ _ s
 rw [if_pos hl]
 refine wpAny_bind (wpAny_rule (wpAny_bind (?_:wpAny _ _ (newExc (.type "StopIteration") [] >>= _) _ _ _)))
 refine wpAny_bind ?_
 simp only [newExc,newTuple]
 refine wpAny_bind (wpAny_newObj_type ?_ (by size_fits))
 refine wpAny_bind (m:=firstArgMember _ _) (wpAny_of_eq (a:=Value.none) (by first | rfl | (simp only [firstArgMember];rfl)) ?_)
 refine wpAny_newObj_type ?_ (by size_fits)
 generalize hT:({ cls:=Value.type "tuple",data:=Data.seq ([]:List Value).toArray }:Obj)=oT
 generalize hX:({ cls:=Value.type "StopIteration",data:=_ }:Obj)=oX
 have sz:(s.heap.push oT).objs.size=s.heap.objs.size+1:=Heap.size_push ..
 have gX:((s.heap.push oT).push oX).get? (s.heap.push oT).objs.size=some oX:=Heap.get?_push_size _ (by rw [<-hX];rfl)
 have up:∀b o,s.heap.get? b=some o->((s.heap.push oT).push oX).get? b=some o:=λb o e=>Heap.get?_push_of_some _ (Heap.get?_push_of_some _ e)
 have nb:∀b o,s.heap.get? b=some o->b≠(s.heap.push oT).objs.size:=λb o e=>by rw [sz];exact Nat.ne_of_lt (Nat.lt_succ_of_lt (Heap.lt_size e))
 refine q7I (s:={ s with heap:=(s.heap.push oT).push oX }) (A:=A.in1) hh (up _ _ he) hd h2 (nb _ _ he) gX (by rw [<-hX]) (by simp;omega) ?_
 refine wpAny_bind (wpAny_isInstance (T:="StopIteration") (b:=true) ⟨_,Heap.get?_update_self _ gX (by rw [<-hX];rfl),by rw [<-hX];rfl⟩ isSubtype_stop ?_)
 refine wpAny_pure (hQ _ λb o _ e=>?_)
 rw [Heap.get?_update_other _ _ (Ne.symm (nb b o e))]
 exact up b o e
end
structure j88 (k:Nat) (A:Around) (H:Hp):Prop where
 hot:j8l A H
 dp:A.depth+3*k+5 < recursionLimit
structure j1T (P:Program) (w:World) (K:PySem.W.Frag) (mg:Str->Option Value) (base:Heap) (CX:CXT) (k:Nat) (f:Addr) (fd:FuncData) (ps:List Str) (sp:Sp):Prop where
 run:∀(A:Around) (outer:List Env) (s:Shared) (H:Hp) (args:Args) (us:List Value) (vs:List V) (Q:VK) (E:XK),j88 k A H->Env0 P w K mg base A outer s H->BindsTo s fd args (ps.zip us)->Vals vs us->sp vs H Q E ->
  codeAny (model P w) A (.call (.ref f) args) (CR CX outer P w H s Q E) s
section
variable {P:Program} {w:World} {K:PySem.W.Frag} {mg:Str->Option Value} {base:Heap} {T:Tb}
theorem w0p {x qual:Str} {st:Stmt} {fa:Addr} {fd:FuncData} {N ps:List Str} {k:Nat} {f:Ro->Fl} (hT:T.me=none) (F:L2.Fun K x qual st fa fd) (S:q0m N ps (q0f st))
 (hb:∀(cdv:Value) (A:Around) (outer:List Env) (s:Shared) (H:Hp) (E:XK),Hot ({ CxD T P w K mg base N qual (q0f st) fa cdv A outer s H E with calm:=false }:Cx)->DSs T false ({ CxD T P w K mg base N qual (q0f st) fa cdv A outer s H E with calm:=false }:Cx) (q1d st) f) :
 j1T P w K mg base (CXE T P w) k fa fd ps (spD T K ps.length (fnF N.length f)):=by
 obtain ⟨oc,od,kV,doc,pm,an,cdv,ct,osl,rfl,lk,hcd⟩:=F.ex
 refine ⟨λA outer s H args us vs Q E hr e0 hbi r ⟨ss,ha,hl,ho⟩=>?_⟩
 have KX:K.In s.heap:=e0.mod.kin.keeps λb o e=>(e0.bs b o e).1
 have lim:s.heap.NoLimit:=e0.mod.nolimit.keeps λb o e=>(e0.bs b o e).1
 have hkind:∀y∈ps.zip us,(q0f st).names.lookup y.1=some .local∨((q0f st).names.lookup y.1=some .cell/\((cellsFrom (s.heap.objs.size+1) (q0f st).names []).lookup y.1).isSome=true):=λ⟨n,v⟩ hy=>by
  rcases S.par n (List.of_mem_zip hy).1 with q | q
  ·exact .inl q
  ·exact .inr ⟨q,PySem.W.cellsFrom_some _ _ _ (.inl q)⟩
 refine codeAny_call_function (by have:=hr.dp;omega) (KX _ _ lk) rfl S.co S.gen rfl (PySem.W.codeRec_of KX hcd) (hbi _ _ _ _ ?_)
 refine wpAny_newFunctionEnv_cells S.kind hkind λenv he s1 x=>?_
 subst he
 refine ⟨lim.keeps x.toInCall.keep,codeAny_func ?_⟩
 have hot:=hr.hot
 have hb':=hb cdv A outer s H E (show j8l A H from hot)
 have fr:=q5Z (N:=N) hT ha
 have I:Inv { CxD T P w K mg base N qual (q0f st) fa cdv A outer s H E with calm:=false } [] (start N vs) H s1:=q4F false S (λz=>by cases z) e0 hl r x
 refine wpAny_mono (hb'.run H (CxD T P w K mg base N qual (q0f st) fa cdv A outer s H E).xe PassesOwn.leaving [] s1 (start N vs) H { nx:=λ_ H'=>Q .non H',rt:=Q } (I.wish _) ⟨_,fr,?_⟩) (λfl s' hs=>?_) λe s' hs=>hs
 ·unfold fnF at ho
  cases e:f (ss++List.replicate (N.length-ss.length) .no) with
  | nx ρ=>
   rw [e] at ho
   exact fun σ H' fr' _=>ho .non H' fr'.same rfl
  | rt r=>
   rw [e] at ho
   exact λv H' hs r'=>ho v H' hs r'
  | exc c ρ=>
   rw [e] at ho
   intro σ' H' fr' _ pins s' u H'' I hs fl
   exact q29 I rfl rfl rfl fl (ho H'' (fr'.same.trans hs))
  | bk ρ=>rw [e] at ho;exact ho.elim
  | ct ρ=>rw [e] at ho;exact ho.elim
  | bad=>rw [e] at ho;exact ho.elim
 ·have fin:∀{σ':L2.St} {H':Hp} {v:V} {u:Value},Inv ({ CxD T P w K mg base N qual (q0f st) fa cdv A outer s H E with calm:=false }:Cx) [] σ' H' s'->RelV v u->Q v H'->CE outer P w H s Q u s':=
   λ{σ' H' v u} J rv q=>⟨v,H',J.os,J.bare,J.base,J.hok,rv,q⟩
  cases fl with
  | ret u=>
   obtain ⟨v,σ',H',J,rv,q⟩:=hs
   exact fin J.unwish rv q
  | next=>
   obtain ⟨σ',H',J,q⟩:=hs
   exact fin (v:=V.non) (u:=Value.none) J.unwish rfl q
  | brk=>
   obtain ⟨_,_,_,q⟩:=hs
   exact False.elim q
  | cont=>
   obtain ⟨_,_,_,q⟩:=hs
   exact False.elim q
end
section
variable {T:Tb} {X:Cx} {e:Expr} {es:List Expr} {pos p:Pos} {fs:Ro->Out (List Sl)} {k n:Nat} {f:Addr} {fd:FuncData} {ps:List Str} {F:Fn} {x:Str}
theorem Inv.hotNow {pins:List (Addr×Obj)} {σ:L2.St} {H:Hp} {s:Shared} (I:Inv X pins σ H s) (h:Hot X):j8l X.A H:=by
 obtain ⟨ea,ob,vs,h1,h2,h3,h4⟩:=h
 exact ⟨ea,ob,vs,h1,I.base.frzs ea ob _ h2,h3,h4⟩
theorem q8P (FO:j1T X.prog X.w X.K X.mg X.base (CXE T X.prog X.w) k f fd ps (spD T X.K ps.length F)) (hot:Hot X) (hdp:X.A.depth+3*k+5 < recursionLimit) (hg:Gl X x) (hm:X.mg x=some (.ref f)) (hk:PySem.W.keepIn X.K (.ref f)=true) (hb:Binds X.K fd ps [])
 (hn:n=ps.length) (ha:DG T X (e::es) fs) (hdb:(x==("__debug__" : Str))=false:=by decide) (he:starEach (e::es) X.env=(false,eval e X.env)::starEach es X.env:=by exact q0w rfl) (hpl:(backTo pos (starEach es X.env)).any (·.1)=false:=by exact q0z rfl) :
 DR T X (.Call (.Name x p) (e::es) [] pos) (q6y (n:=n) F [] fs):=.mk λG E hp=>by
 rintro pins s σ H Q I ⟨ρ,fr,h⟩
 refine wpAny_Call_Name_kw (q15 (X:=X.wish E) I hg hm ?_ hdb)
 refine PySem.W.callWith_K (h₀:=X.base) I.ok.mod.kin hk (thn (ha.run G E hp pos pins s σ H (λvs H1=>∃ss,ArgsOk T X.K H1 vs ss/\ss.length=n/\Same H H1/\Acc T X E σ H1 (F ss) (λr=>∀v H',Same H1 H'->RvOk T X.K H1 H' v r->Q v H')) I ⟨ρ,fr,?_⟩) λus s1 ⟨vs,H1,I1,r,ss,ha1,hl1,s1',q⟩=>⟨I1.kIn,?_⟩) he hpl
 ·refine Acc.mono (Acc.bind h) λss _ hss vs H1 s1 r1=>?_
  by_cases hl:ss.length+([]:List Sl).length=n
  ·rw [if_pos hl,List.append_nil] at hss
   exact ⟨ss,r1,hl,s1,Acc.mono (Acc.heap s1 hss) λr _ hr' v H' s2 r2=>hr' v H' (s1.trans s2) (q21 s1 r2)⟩
  ·rw [if_neg hl] at hss;exact hss.elim
 ·have la:=ArgsOk.length ss vs ha1
  have lr:=r.length
  have IX:Inv X pins σ H1 s1:=I1.unwish
  have hl:us.length=ps.length:=by omega
  let EX:XK:=λcls _ H'=>∃c,cls=.ref (T.ca c)/\F ss=.exc c/\Same H1 H'
  have hbs:=hb s1 us IX.kIn (by rw [List.append_nil];exact hl)
  rw [List.append_nil] at hbs
  refine wpAny_call (codeAny_mono (FO.run X.A X.stack s1 H1 ⟨us,[]⟩ us vs Q EX ⟨Inv.hotNow IX hot,hdp⟩ IX.env0 hbs r ⟨ss,ha1,r.length.trans hl,?_⟩) λres s' hq=>?_)
  ·cases e:F ss with
   | ok r=>rw [e] at q;exact q
   | exc c=>exact λH' hs=>⟨c,rfl,e,hs⟩
   | bad=>rw [e] at q;exact q.elim
  ·cases res with
   | error ev=>
    obtain ⟨c,H',I',fl,c',ec,eF,hs⟩:=Inv.flown IX hq
    rw [eF] at q
    refine q pins s' ev H' I' hs ?_
    obtain ⟨ea,rfl,h1,h2,nc,oe,vs',a0,he,hc,rest⟩:=fl
    exact ⟨ea,rfl,h1,h2,nc,oe,vs',a0,he,hc.trans ec,rest⟩
   | ok fl=>
    cases fl with
    | ret u=>
     obtain ⟨v,H',I',rv,q⟩:=IX.after hq
     exact ⟨v,H',I'.wish E,rv,q⟩
    | next=>exact False.elim hq
    | brk=>exact False.elim hq
    | cont=>exact False.elim hq
end
theorem q49 {P:Program} {w:World} {K:PySem.W.Frag} {tg:Expr} (it:Addr) (lo:Int) (n:Nat):j2l Hot P w K tg (Itr lo n) [it] it (λi h=>IsRangeIter h it (lo+(i:Nat)*1) ((n:Int)-(i:Nat)) 1) where
 mem:=by simp
 obj:=(q6p (P:=P) (w:=w) (K:=K) (tg:=tg) it lo n).obj
 keep:=λi h h' st k=>k it (by simp) _ st
 item:=by
  intro X hP hw hK hc i pins s σ H E I hf st hg
  subst hP hw hK
  obtain ⟨f0,f1,f2,f3,f4,f5⟩:=hf it (by simp)
  have hg:i < n:=hg
  refine wpAny_pyNext_range_item st (by omega) λh' hit' hs'=>?_
  have e1:lo+((i+1:Nat):Int)*1=lo+(i:Int)*1+1:=by push_cast;omega
  have e2:(n:Int)-((i+1:Nat):Int)=(n:Int)-(i:Int)-1:=by push_cast;omega
  have st':IsRangeIter h' it (lo+((i+1:Nat):Int)*1) ((n:Int)-((i+1:Nat):Int)) 1:=by rw [e1,e2];exact hit'
  have I1:Inv X pins σ H { s with heap:=h',toks:=s.toks+1 }:=I.turned (λb o hb e=>hs'.extBut b o hb e) f0 f1 f3 f4 f5
  refine ⟨_,rfl,q4Y (s:={ s with heap:=h',toks:=s.toks+1 }) (n:="range_iterator") st' rfl rfl (by decide) ⟨.int (lo+i),H,I1,⟨s.toks,?_⟩,⟨rfl,rfl⟩,st',λb hb=>(hf b hb).1⟩⟩
  rw [Int.mul_one]
 done:=by
  intro X hP hw hK hc i pins s σ H E I hf st hg
  subst hP hw hK
  obtain ⟨f0,f1,f2,f3,f4,f5⟩:=hf it (by simp)
  have hg:n<=i:=hg
  obtain ⟨ea,ob,vs,g1,g2,g3,g4⟩:=Inv.hotNow I hc
  obtain ⟨ho,_⟩:=(show ObjOk X.prog X.w H s.heap ea (.frz ob _) from I.hok ea _ g2)
  exact q3V g1 ho g3 g4 st (by omega) λh' eb=>⟨rfl,I.turned (t':=s.toks) (λb o hb e=>eb b o hb e) f0 f1 f3 f4 f5⟩
 self:=λ_ _ _ _ _ st h=>wpAny_pyIter_rangeiter st h
theorem q7G {X:Cx} {pins:List (Addr×Obj)} {σ:L2.St} {H:Hp} {s:Shared} {R E:Value->Shared->Prop} {j:Int} {t u v:Tok} {tk:Nat} (I:Inv X pins σ H s) (h3:-(2 ^ 62)<=j) (h4:j < 2 ^ 62)
 (k:∀it s2,Inv X pins σ H s2->IsRangeIter s2.heap it ((0:Int)+((0:Nat):Int)*1) (((j.toNat:Nat):Int)-((0:Nat):Int)) 1->q1X X pins H it->R (.ref it) s2) :
 wpAny (model X.prog X.w) X.A (pyIter (.ref s.heap.objs.size)) R E { s with heap:=s.heap.push { cls:=.type "range",data:=.fields #[.int 0 t,.int j u,.int 1 v] },toks:=tk }:=by
 refine wpAny_pyIter_range (IsRange.new ..) (small_one (by omega) (by omega) h3 h4) ?_
 have I1:Inv X pins σ H { s with heap:=s.heap.push { cls:=.type "range",data:=.fields #[.int 0 t,.int j u,.int 1 v] },toks:=tk }:=I.kept λb o e=>Heap.get?_push_of_some _ e
 refine k _ _ (I1.kept (t':=tk) λb o e=>Heap.get?_push_of_some _ e) ?_ (I1.fpOk (Nat.le_refl _) (I1.hok.fresh (Nat.le_refl _)))
 have e1:(0:Int)+((0:Nat):Int)*1=0:=by simp
 have e2:((j.toNat:Nat):Int)-((0:Nat):Int)=Builtin.Range.rangeSize 0 j 1:=by rw [rangeSize_one];split<;>omega
 rw [e1,e2]
 exact Heap.get?_push_size _ rfl
section
variable {T:Tb} {X:Cx} {elt a tst:Expr} {x:Str} {px pos p rpos:Pos} {scope:Scope} {ys:List Str} {caps:List Nat} {fe fa:Ev} {ft:Ro->Out Bool}
theorem q9H {T0:Tb} (hT:T0={ T with me:=none }) (hot:Hot X) (hg:Gl X "range") (hm:X.mg "range" = none) (ha:DE T X a fa) (cp:Cap X scope x ys caps)
 (he:∀(cl:List (Str×Addr)) (C:Addr) (s₀:Shared) (H₀:Hp) (ex:List Addr),DE T0 (CxC X (x::ys) scope cl C s₀ H₀ ex) elt fe) (ht:∀(cl:List (Str×Addr)) (C:Addr) (s₀:Shared) (H₀:Hp) (ex:List Addr),DT T0 (CxC X (x::ys) scope cl C s₀ H₀ ex) tst ft)
 (hs:∀x,foldedSetIterable (.Call (.Name "range" p) [a] [] rpos) X.env x=pure x:=by intro _;rfl) (hs1:starEach [a] X.env=[(false,eval a X.env)]:=by rfl) :
 DF T X (.ListComp elt [⟨.Name x px,.Call (.Name "range" p) [a] [] rpos,[tst],0⟩] scope pos) (q1T (w1T (n1 fa)) caps ft fe):=.mk λG E hp=>by
 refine CompOk.pe (X:=X.wish E) ?_
 rintro pins s σ H Q use QQ I ⟨ρ,fr,h⟩ k
 obtain ⟨cl,hclos,h1,h2⟩:=q10 X.env scope λy hy hf=>I.ok.has y.1 (cp.free y hy hf)
 refine wpAny_comprehension_free rfl hs hclos cp.kind cp.names ?_
 refine Call_ (q1l (X:=X.wish E) I hg hm boot_range (PyProof.Rows.callWith_type1 (thn ((q0C (X:=X.wish E) (ha.run G E hp) q0Y hs1) rpos pins s σ H (λvs H1=>∃j es,vs=[.int j]/\-(2 ^ 62)<=j/\j < 2 ^ 62/\Same H H1/\q2c (λd=>ft (q1e caps ρ d)) (λd=>fe (q1e caps ρ d)) (rgD 0 j.toNat)=some es/\(rgD 0 j.toNat).length<=1000000/\∀a vs H'',Same H H''->H a=none->H'' a=some (.lst vs)->RepL T X.K H'' es vs->Q (.ref a) H'') I ⟨ρ,fr,?_⟩) λus s1 ⟨vs,H1,I1,r1,j,es,ev,q1,q2,sm,hmf,hl,kq⟩=>?_) hs1 rfl))
 ·refine Acc.mono (Acc.bind (Acc.bind (Acc.bind h))) λd _ hd v H1 s1 r=>?_
  cases d with
  | int i=>
   have hd':Acc T X E σ H (if -(2 ^ 62)<=i/\i < 2 ^ 62 then Out.ok ((0:Int),i.toNat) else .bad) _:=hd
   by_cases z:-(2 ^ 62)<=i/\i < 2 ^ 62
   ·rw [if_pos z] at hd'
    have hd2:Acc T X E σ H (if (rgD 0 i.toNat).length<=1000000 then (match q2c (λd=>ft (q1e caps ρ d)) (λd=>fe (q1e caps ρ d)) (rgD 0 i.toNat) with | some es=>Out.ok es | none=>.bad) else .bad) (λds=>∀a vs H',Same H H'->H a=none->H' a=some (.lst vs)->RepL T X.K H' ds vs->Q (.ref a) H'):=hd'
    by_cases hl:(rgD 0 i.toNat).length<=1000000
    ·rw [if_pos hl] at hd2
     cases hmf:q2c (λd=>ft (q1e caps ρ d)) (λd=>fe (q1e caps ρ d)) (rgD 0 i.toNat) with
     | none=>rw [hmf] at hd2;exact hd2.elim
     | some es=>rw [hmf] at hd2;exact ⟨i,es,by rw [show v=V.int i from r],z.1,z.2,s1,hmf,hl,hd2⟩
    ·rw [if_neg hl] at hd2;exact hd2.elim
   ·rw [if_neg z] at hd';exact hd'.elim
  | _=>exact hd.elim
 ·subst ev
  cases r1 with
  | cons r rr=>
   cases rr
   obtain ⟨t,rfl⟩:=r
   refine call_range_1 (q7G I1 q1 q2 λit s2 I2 t0 f2=>?_)
   refine q3l (X:=X) (E:=E) (G:=G) (Cp:=Hot) (RR:=λacc C=>compPost (model X.prog X.w) X.A E use QQ acc C) hT (λC' s₀ H₀ sm0=>?_) cp h1 h2 he ht I2.unwish (q49 it 0 j.toNat) t0 (λb hb=>?_) (fr.mono sm) q47 hmf hl ?_
   ·obtain ⟨ea,ob,vs,g1,g2,g3,g4⟩:=Inv.hotNow I1.unwish hot
    exact ⟨ea,ob,vs,g1,sm0 _ _ g2,g3,g4⟩
   ·rw [List.mem_singleton.mp hb];exact f2
   ·intro a C s' m' Hn vs I' f hn smn ha hv rp
    exact k a C s' m' Hn (I'.wish E) f hn (kq a vs Hn (sm.trans smn) (sm.free ha) hv rp)
end
theorem _root_.L2.Room.le {j k:Nat} {A:Around} (r:Room k A) (h:j<=k:=by decide):Room j A:=r.mono h
def FoC (T:Tb) (K:PySem.W.Frag) (at_:Str) (q:Nat×Nat):Prop:=Cls K (T.ca q.1)/\NoAttr K (T.ca q.1) at_/\(T.fl q.1).Nodup/\(T.fl q.1)[q.2]?=some at_
theorem foN {T:Tb} {K:PySem.W.Frag} {a:Str}:∀q∈([]:List (Nat×Nat)),FoC T K a q:=List.forall_mem_nil _
theorem foC {T:Tb} {K:PySem.W.Frag} {a:Str} {c j:Nat} {l:List Str} {r:List (Nat×Nat)} (cl:Cls K (T.ca c)) (na:NoAttr K (T.ca c) a) (e:T.fl c=l) (h:∀q∈r,FoC T K a q) (hd:l.Nodup:=by decide) (hj:l[j]?=some a:=by rfl):∀q∈(c,j)::r,FoC T K a q:=
 List.forall_mem_cons.mpr ⟨⟨cl,na,by show (T.fl c).Nodup;rw [e];exact hd,by show (T.fl c)[j]?=_;rw [e];exact hj⟩,h⟩
theorem flA {T:Tb} {c j:Nat} {l:List Str} {a:Str} (e:T.fl c=l) (h:l[j]?=some a:=by rfl):(T.fl c)[j]?=some a:=by rw [e];exact h
theorem flN {T:Tb} {c:Nat} {l:List Str} (e:T.fl c=l) (h:l.Nodup:=by decide):(T.fl c).Nodup:=by rw [e];exact h
@[simp] abbrev eI (i:Int):Ev:=eC (.int i)
@[simp] abbrev eS (x:Str):Ev:=eC (.str x)
@[simp] abbrev tEq (a b:Ev):Ro->Out Bool:=tB2 (λa b=>bD false (eqS a b)) a b
@[simp] abbrev tNe (a b:Ev):Ro->Out Bool:=tB2 (λa b=>bD true (eqS a b)) a b
@[simp] abbrev qLt:D->D->Out D:=i2 λi j=>.bl (decide (i < j))
@[simp] abbrev qGt:D->D->Out D:=i2 λi j=>.bl (decide (j < i))
@[simp] abbrev qLe:D->D->Out D:=i2 λi j=>.bl (decide (i<=j))
@[simp] abbrev qGe:D->D->Out D:=i2 λi j=>.bl (decide (j<=i))
@[simp] abbrev q5Y (a b:Ev):Ev:=e2 (i2 λi j=>.int (i-j)) a b
@[simp] abbrev w2C (a b:Ev):Ev:=e2 (i2c q4z λi j=>.int (i*j)) a b
@[simp] abbrev w1d (a b:Ev):Ev:=e2 (i2c j2p λi j=>.int (i / j)) a b
@[simp] abbrev q8D (a b:Ev):Ev:=e2 (i2c j2h λi j=>.int (i % j)) a b
@[simp] abbrev q3Y (a b:Ev):Ev:=e2 w1x a b
@[simp] abbrev eIx (a b:Ev):Ev:=e2 ixD a b
@[simp] abbrev tCh (g g':D->D->Out D) (a b c:Ev):Ro->Out Bool:=fun ρ=>(q7m g g' a b c ρ).bind D.toB
@[simp] abbrev fFr (f:Ro->Out (List D)):Ro->Out Rv:=fun ρ=>(f ρ).bind λds=>.ok (.fr ds)
@[simp] abbrev rC (n:Nat) (F:Fn) (fs:Ro->Out (List Sl)):Ro->Out Rv:=q6y (n:=n) F [] fs
end L3
namespace L3
open PySem L2
theorem j37 {l:PySem.W.OpenLaw} {k:Nat} {q:Program} {loose:List Str} {XP:(Str->Option Value)->Heap->Prop} {YP:World->Heap->Prop} {d:DefRec} {x:Str} {F:Fn}
 (hn:l.most=some 63) (hdf:d.params.defaults=[]) (hr:Room k callerA)
 (FF:∀(w:World) (mg:Str->Option Value) (fa:Addr) (h:Heap),YP w h->h.Ns mainGlobals mg->mg d.name=some (.ref fa) ->
  ∃K:PySem.W.Frag,K.In h/\∃fd:FuncData,(∀(s:Shared) (u:Value),BindsTo s fd ⟨[u],[]⟩ [(x,u)])/\∃T:Tb,∀base:Heap,K.In base->base.Ns mainGlobals mg->FnOk l.prog w K mg base (CXE T l.prog w) k fa fd [x] (spD T K 1 F))
 (hL:∀ns:List Int,ns.length<=63->F [.sh (.lst (ns.map D.int))]=.ok (.sh (.bl true))) :
 PySem.W.WalkO q loose XP YP l.row.toRowW d [] (λf vs=>PySem.call f vs):=by
 refine Att.attach_call hn hdf λw s₀ s₁ mg mb fa o pm cd doc a vs ns G Y ho hd hcd hmg hobj hints hlen hg=>?_
 obtain ⟨K,KX,fd,hb,T,hF⟩:=FF w mg fa _ Y G.T.g hmg
 refine q8O KX G.T.g G.T.b G.T.builtins G.T.nolimit hg hobj hints (Nat.le_trans hlen (by rw [sizeLine_eq];decide)) hr hF hb (λH hO hS=>?_) λH e s' h=>?_
 ·refine ⟨[.sh (.lst (ns.map D.int))],⟨_,[],rfl,⟨a,ns.map V.int,rfl,?_,RepL.ints ns⟩,rfl⟩,rfl,?_⟩
  ·rcases hS with (h | ⟨ob,h⟩) | h
   ·rcases hO a with z | ⟨_,_,z⟩
    ·rw [h] at z;cases z
    ·rw [h] at z;cases z
   ·exact .inl ⟨ob,h⟩
   ·exact .inr h
  ·rw [hL ns hlen]
   exact λv H' _ r=>r
 ·obtain ⟨_,_,_,_,_,_,_,_,_,z⟩:=h
  exact z
end L3
namespace Lw
open PySem L2 L3
structure Tx (K:PySem.W.Frag) (mg:Str->Option Value) (fa:Nat->Addr) (fd:Nat->FuncData) (T:Tb):Prop where
 me:T.me=none
 F1:L2.Fun K "check_name" "check_name" s_1 (fa 1) (fd 1)
 b1:Binds K (fd 1) ["name"] []
 m1:mg "check_name" = some (.ref (fa 1))
 F2:L2.Fun K "check_number" "check_number" s_2 (fa 2) (fd 2)
 b2:Binds K (fd 2) ["number","lowest","highest"] []
 m2:mg "check_number" = some (.ref (fa 2))
 F3:L2.Fun K "check_count" "check_count" s_3 (fa 3) (fd 3)
 b3:Binds K (fd 3) ["count","lowest","highest"] []
 m3:mg "check_count" = some (.ref (fa 3))
 F4:L2.Fun K "check_batch" "check_batch" s_4 (fa 4) (fd 4)
 b4:Binds K (fd 4) ["batch","count"] []
 m4:mg "check_batch" = some (.ref (fa 4))
 F5:L2.Fun K "__init__" "Order.__init__" s_5 (fa 5) (fd 5)
 b5:Binds K (fd 5) ["self","bread","loaves","due"] []
 F6:L2.Fun K "__init__" "Batch.__init__" s_6 (fa 6) (fd 6)
 b6:Binds K (fd 6) ["self","order","first","loaves"] []
 F7:L2.Fun K "greatest" "greatest" s_7 (fa 7) (fd 7)
 b7:Binds K (fd 7) ["bakery"] []
 m7:mg "greatest" = some (.ref (fa 7))
 F8:L2.Fun K "check_due" "check_due" s_8 (fa 8) (fd 8)
 b8:Binds K (fd 8) ["due","night"] []
 m8:mg "check_due" = some (.ref (fa 8))
 F9:L2.Fun K "accept" "accept" s_9 (fa 9) (fd 9)
 b9:Binds K (fd 9) ["bakery","orders"] []
 m9:mg "accept" = some (.ref (fa 9))
 F10:L2.Fun K "batches_of" "batches_of" j7F (fa 10) (fd 10)
 b10:Binds K (fd 10) ["orders","most"] []
 m10:mg "batches_of" = some (.ref (fa 10))
 F11:L2.Fun K "cut" "cut" j8G (fa 11) (fd 11)
 b11:Binds K (fd 11) ["bakery","orders"] []
 m11:mg "cut" = some (.ref (fa 11))
 F13:L2.Fun K "is_figures" "is_figures" j8i (fa 13) (fd 13)
 b13:Binds K (fd 13) ["text"] []
 m13:mg "is_figures" = some (.ref (fa 13))
 F14:L2.Fun K "minute_of" "minute_of" j8d (fa 14) (fd 14)
 b14:Binds K (fd 14) ["text"] []
 m14:mg "minute_of" = some (.ref (fa 14))
 F15:L2.Fun K "__init__" "Bakery.__init__" j7J (fa 15) (fd 15)
 b15:Binds K (fd 15) ["self","night","hands","benches","ovens","breads"] []
 F16:L2.Fun K "bread_of" "Bakery.bread_of" j8E (fa 16) (fd 16)
 b16:Binds K (fd 16) ["self","name"] []
 mt16:Meth K (T.ca 20) "bread_of" (fa 16)
 F17:L2.Fun K "check_names_apart" "check_names_apart" j8z (fa 17) (fd 17)
 b17:Binds K (fd 17) ["names"] []
 m17:mg "check_names_apart" = some (.ref (fa 17))
 F18:j99 K "__init__" "Stage.__init__" j8a (fa 18) (fd 18)
 b18:Binds K (fd 18) ["self","name","least","most","want","heat"] []
 bd18:∃t,Binds K (fd 18) ["self","name","least","most","want","heat"] [.int 0 t]
 F19:L2.Fun K "__init__" "Bread.__init__" j8p (fa 19) (fd 19)
 b19:Binds K (fd 19) ["self","name","stages"] []
 F22:L2.Fun K "bakes" "Bread.bakes" j8k (fa 22) (fd 22)
 b22:Binds K (fd 22) ["self"] []
 mt22:Meth K (T.ca 22) "bakes" (fa 22)
 F23:L2.Fun K "__init__" "Oven.__init__" j8C (fa 23) (fd 23)
 b23:Binds K (fd 23) ["self","room","rate","heat"] []
 F24:L2.Fun K "between" "between" j7Y (fa 24) (fd 24)
 b24:Binds K (fd 24) ["one","other","rate"] []
 m24:mg "between" = some (.ref (fa 24))
 F25:L2.Fun K "goals" "goals" j8n (fa 25) (fd 25)
 b25:Binds K (fd 25) ["wanted"] []
 m25:mg "goals" = some (.ref (fa 25))
 F27:L2.Fun K "course" "course" j8h (fa 27) (fd 27)
 b27:Binds K (fd 27) ["oven","wanted"] []
 m27:mg "course" = some (.ref (fa 27))
 F28:j99 K "__init__" "Run.__init__" j8e (fa 28) (fd 28)
 b28:Binds K (fd 28) ["self","begin","lengths","oven"] []
 F29:L2.Fun K "end" "Run.end" j8I (fa 29) (fd 29)
 b29:Binds K (fd 29) ["self"] []
 mt29:Meth K (T.ca 24) "end" (fa 29)
 F30:L2.Fun K "spans" "Run.spans" j7T (fa 30) (fd 30)
 b30:Binds K (fd 30) ["self"] []
 mt30:Meth K (T.ca 24) "spans" (fa 30)
 F31:L2.Fun K "__init__" "Part.__init__" j8u (fa 31) (fd 31)
 b31:Binds K (fd 31) ["self","batch","stage","begin","until","loaves","oven"] []
 F32:L2.Fun K "check_run" "check_run" j8w (fa 32) (fd 32)
 b32:Binds K (fd 32) ["bakery","bread","run"] []
 m32:mg "check_run" = some (.ref (fa 32))
 F33:L2.Fun K "fitted" "fitted" j8b (fa 33) (fd 33)
 b33:Binds K (fd 33) ["bakery","orders","plan"] []
 m33:mg "fitted" = some (.ref (fa 33))
 F34:L2.Fun K "bread_in" "bread_in" j7G (fa 34) (fd 34)
 b34:Binds K (fd 34) ["bakery","orders","batch"] []
 m34:mg "bread_in" = some (.ref (fa 34))
 F35:L2.Fun K "parts_of" "parts_of" j77 (fa 35) (fd 35)
 b35:Binds K (fd 35) ["bakery","orders","plan"] []
 m35:mg "parts_of" = some (.ref (fa 35))
 F36:L2.Fun K "lasting" "lasting" j8K (fa 36) (fd 36)
 b36:Binds K (fd 36) ["parts","minute"] []
 m36:mg "lasting" = some (.ref (fa 36))
 F37:L2.Fun K "count_of" "count_of" j8s (fa 37) (fd 37)
 b37:Binds K (fd 37) ["parts","want"] []
 m37:mg "count_of" = some (.ref (fa 37))
 F38:L2.Fun K "loaves_in" "loaves_in" j8c (fa 38) (fd 38)
 b38:Binds K (fd 38) ["parts","oven"] []
 m38:mg "loaves_in" = some (.ref (fa 38))
 F39:L2.Fun K "rank" "rank" j8g (fa 39) (fd 39)
 b39:Binds K (fd 39) ["found"] []
 m39:mg "rank" = some (.ref (fa 39))
 F40:L2.Fun K "fault" "fault" j7S (fa 40) (fd 40)
 b40:Binds K (fd 40) ["bakery","orders","plan"] []
 m40:mg "fault" = some (.ref (fa 40))
 F41:L2.Fun K "door_faults" "door_faults" j7D (fa 41) (fd 41)
 b41:Binds K (fd 41) ["bakery","orders","plan"] []
 m41:mg "door_faults" = some (.ref (fa 41))
 F42:L2.Fun K "length_faults" "length_faults" j8B (fa 42) (fd 42)
 b42:Binds K (fd 42) ["parts"] []
 m42:mg "length_faults" = some (.ref (fa 42))
 F43:L2.Fun K "beginnings" "beginnings" j8M (fa 43) (fd 43)
 b43:Binds K (fd 43) ["parts"] []
 m43:mg "beginnings" = some (.ref (fa 43))
 F44:L2.Fun K "held_faults" "held_faults" j8t (fa 44) (fd 44)
 b44:Binds K (fd 44) ["bakery","parts"] []
 m44:mg "held_faults" = some (.ref (fa 44))
 F45:L2.Fun K "heat_faults" "heat_faults" j8F (fa 45) (fd 45)
 b45:Binds K (fd 45) ["bakery","parts"] []
 m45:mg "heat_faults" = some (.ref (fa 45))
 F46:L2.Fun K "heat_fails" "heat_fails" j8m (fa 46) (fd 46)
 b46:Binds K (fd 46) ["oven","baking","minute"] []
 m46:mg "heat_fails" = some (.ref (fa 46))
 F47:L2.Fun K "late" "late" j8x (fa 47) (fd 47)
 b47:Binds K (fd 47) ["bakery","orders","plan","batch","minutes"] []
 m47:mg "late" = some (.ref (fa 47))
 F48:L2.Fun K "heats" "heats" j7C (fa 48) (fd 48)
 b48:Binds K (fd 48) ["bakery","orders","plan","oven"] []
 m48:mg "heats" = some (.ref (fa 48))
 F50:L2.Fun K "narrow" "narrow" j8L (fa 50) (fd 50)
 b50:Binds K (fd 50) ["bakery","orders"] []
 m50:mg "narrow" = some (.ref (fa 50))
 F51:L2.Fun K "steps" "steps" j8o (fa 51) (fd 51)
 b51:Binds K (fd 51) ["lowest","highest"] []
 m51:mg "steps" = some (.ref (fa 51))
 F52:L2.Fun K "lengths_within" "lengths_within" j73 (fa 52) (fd 52)
 b52:Binds K (fd 52) ["stages","minutes"] []
 m52:mg "lengths_within" = some (.ref (fa 52))
 F53:L2.Fun K "ovens_for" "ovens_for" j8q (fa 53) (fd 53)
 b53:Binds K (fd 53) ["bakery","bread","loaves"] []
 m53:mg "ovens_for" = some (.ref (fa 53))
 F54:L2.Fun K "ways_of" "ways_of" j70 (fa 54) (fd 54)
 b54:Binds K (fd 54) ["bakery","orders","batch"] []
 m54:mg "ways_of" = some (.ref (fa 54))
 F55:L2.Fun K "ways" "ways" j7L (fa 55) (fd 55)
 b55:Binds K (fd 55) ["bakery","orders","batch"] []
 m55:mg "ways" = some (.ref (fa 55))
 F56:L2.Fun K "all_ways" "all_ways" j7P (fa 56) (fd 56)
 b56:Binds K (fd 56) ["bakery","orders"] []
 m56:mg "all_ways" = some (.ref (fa 56))
 F57:L2.Fun K "plans_of" "plans_of" j7N (fa 57) (fd 57)
 b57:Binds K (fd 57) ["rows"] []
 m57:mg "plans_of" = some (.ref (fa 57))
 F58:L2.Fun K "good_plans" "good_plans" j8j (fa 58) (fd 58)
 b58:Binds K (fd 58) ["bakery","orders","rows"] []
 m58:mg "good_plans" = some (.ref (fa 58))
 F59:L2.Fun K "check_plans" "check_plans" j7R (fa 59) (fd 59)
 b59:Binds K (fd 59) ["plans"] []
 m59:mg "check_plans" = some (.ref (fa 59))
 F61:L2.Fun K "latest" "latest" j72 (fa 61) (fd 61)
 b61:Binds K (fd 61) ["bakery","orders"] []
 m61:mg "latest" = some (.ref (fa 61))
 F62:L2.Fun K "__init__" "Night.__init__" j79 (fa 62) (fd 62)
 b62:Binds K (fd 62) ["self","bakery"] []
 F64:L2.Fun K "strike" "Night.strike" j7M (fa 64) (fd 64)
 b64:Binds K (fd 64) ["self","number"] []
 mt64:Meth K (T.ca 26) "strike" (fa 64)
 F67:L2.Fun K "_law_at" "_law_at" j8r (fa 67) (fd 67)
 b67:Binds K (fd 67) ["_law_script","_law_k"] []
 m67:mg "_law_at" = some (.ref (fa 67))
 F68:L2.Fun K "_law_is" "_law_is" j7V (fa 68) (fd 68)
 b68:Binds K (fd 68) ["_law_found","_law_due"] []
 m68:mg "_law_is" = some (.ref (fa 68))
 F69:L2.Fun K "_law_kinds" "_law_kinds" j7W (fa 69) (fd 69)
 b69:Binds K (fd 69) ["_law_e"] []
 m69:mg "_law_kinds" = some (.ref (fa 69))
 F70:L2.Fun K "_law_first_half" "_law_first_half" j8y (fa 70) (fd 70)
 b70:Binds K (fd 70) ["_law_which","_law_cell","_law_kiln","_law_bread","_law_bakery"] []
 m70:mg "_law_first_half" = some (.ref (fa 70))
 F71:L2.Fun K "_law_second_half" "_law_second_half" j7U (fa 71) (fd 71)
 b71:Binds K (fd 71) ["_law_which","_law_cell","_law_kiln","_law_bread","_law_bakery"] []
 m71:mg "_law_second_half" = some (.ref (fa 71))
 F72:L2.Fun K "_law_caught" "_law_caught" j78 (fa 72) (fd 72)
 b72:Binds K (fd 72) ["_law_which","_law_cell","_law_kiln","_law_bread","_law_bakery"] []
 m72:mg "_law_caught" = some (.ref (fa 72))
 F73:L2.Fun K "law" "law" j8J (fa 73) (fd 73)
 b73:Binds K (fd 73) ["_law_script"] []
 m73:mg "law" = some (.ref (fa 73))
 mC0:mg "DoughError" = some (.ref (T.ca 0))
 xc0:q3d K (T.ca 0)
 mC1:mg "BadTime" = some (.ref (T.ca 1))
 xc1:q3d K (T.ca 1)
 mC2:mg "BadName" = some (.ref (T.ca 2))
 xc2:q3d K (T.ca 2)
 mC3:mg "BadWant" = some (.ref (T.ca 3))
 xc3:q3d K (T.ca 3)
 mC4:mg "BadNumber" = some (.ref (T.ca 4))
 xc4:q3d K (T.ca 4)
 mC5:mg "BadCount" = some (.ref (T.ca 5))
 xc5:q3d K (T.ca 5)
 mC6:mg "TwiceNamed" = some (.ref (T.ca 6))
 xc6:q3d K (T.ca 6)
 mC7:mg "NoBread" = some (.ref (T.ca 7))
 xc7:q3d K (T.ca 7)
 mC8:mg "BeyondNight" = some (.ref (T.ca 8))
 xc8:q3d K (T.ca 8)
 mC9:mg "TooMany" = some (.ref (T.ca 9))
 xc9:q3d K (T.ca 9)
 mC10:mg "BadPlan" = some (.ref (T.ca 10))
 xc10:q3d K (T.ca 10)
 mC11:mg "NoBatch" = some (.ref (T.ca 11))
 xc11:q3d K (T.ca 11)
 mC12:mg "NoOven" = some (.ref (T.ca 12))
 xc12:q3d K (T.ca 12)
 mC13:mg "NoOrder" = some (.ref (T.ca 13))
 xc13:q3d K (T.ca 13)
 mC14:mg "Faulty" = some (.ref (T.ca 14))
 xc14:q3d K (T.ca 14)
 mC15:mg "TooCold" = some (.ref (T.ca 15))
 xc15:q3d K (T.ca 15)
 mC16:mg "TooWide" = some (.ref (T.ca 16))
 xc16:q3d K (T.ca 16)
 mC17:mg "NoPlan" = some (.ref (T.ca 17))
 xc17:q3d K (T.ca 17)
 mC18:mg "Order" = some (.ref (T.ca 18))
 cC18:Cls K (T.ca 18)
 mk18:Mk K (T.ca 18) (fa 5)
 fl18:T.fl 18=(["bread","loaves","due"]:List Str)
 na18_bread:NoAttr K (T.ca 18) "bread"
 na18_loaves:NoAttr K (T.ca 18) "loaves"
 na18_due:NoAttr K (T.ca 18) "due"
 mC19:mg "Batch" = some (.ref (T.ca 19))
 cC19:Cls K (T.ca 19)
 mk19:Mk K (T.ca 19) (fa 6)
 fl19:T.fl 19=(["order","first","loaves"]:List Str)
 na19_order:NoAttr K (T.ca 19) "order"
 na19_first:NoAttr K (T.ca 19) "first"
 na19_loaves:NoAttr K (T.ca 19) "loaves"
 mC20:mg "Bakery" = some (.ref (T.ca 20))
 cC20:Cls K (T.ca 20)
 mk20:Mk K (T.ca 20) (fa 15)
 fl20:T.fl 20=(["night","hands","benches","ovens","breads"]:List Str)
 na20_night:NoAttr K (T.ca 20) "night"
 na20_hands:NoAttr K (T.ca 20) "hands"
 na20_benches:NoAttr K (T.ca 20) "benches"
 na20_ovens:NoAttr K (T.ca 20) "ovens"
 na20_breads:NoAttr K (T.ca 20) "breads"
 mC21:mg "Stage" = some (.ref (T.ca 21))
 cC21:Cls K (T.ca 21)
 mk21:Mk K (T.ca 21) (fa 18)
 fl21:T.fl 21=(["name","least","most","want","heat"]:List Str)
 na21_name:NoAttr K (T.ca 21) "name"
 na21_least:NoAttr K (T.ca 21) "least"
 na21_most:NoAttr K (T.ca 21) "most"
 na21_want:NoAttr K (T.ca 21) "want"
 na21_heat:NoAttr K (T.ca 21) "heat"
 mC22:mg "Bread" = some (.ref (T.ca 22))
 cC22:Cls K (T.ca 22)
 mk22:Mk K (T.ca 22) (fa 19)
 fl22:T.fl 22=(["name","stages"]:List Str)
 na22_name:NoAttr K (T.ca 22) "name"
 na22_stages:NoAttr K (T.ca 22) "stages"
 mC23:mg "Oven" = some (.ref (T.ca 23))
 cC23:Cls K (T.ca 23)
 mk23:Mk K (T.ca 23) (fa 23)
 fl23:T.fl 23=(["room","rate","heat"]:List Str)
 na23_room:NoAttr K (T.ca 23) "room"
 na23_rate:NoAttr K (T.ca 23) "rate"
 na23_heat:NoAttr K (T.ca 23) "heat"
 mC24:mg "Run" = some (.ref (T.ca 24))
 cC24:Cls K (T.ca 24)
 mk24:Mk K (T.ca 24) (fa 28)
 fl24:T.fl 24=(["begin","lengths","oven"]:List Str)
 na24_begin:NoAttr K (T.ca 24) "begin"
 na24_lengths:NoAttr K (T.ca 24) "lengths"
 na24_oven:NoAttr K (T.ca 24) "oven"
 mC25:mg "Part" = some (.ref (T.ca 25))
 cC25:Cls K (T.ca 25)
 mk25:Mk K (T.ca 25) (fa 31)
 fl25:T.fl 25=(["batch","stage","begin","until","loaves","oven"]:List Str)
 na25_batch:NoAttr K (T.ca 25) "batch"
 na25_stage:NoAttr K (T.ca 25) "stage"
 na25_begin:NoAttr K (T.ca 25) "begin"
 na25_until:NoAttr K (T.ca 25) "until"
 na25_loaves:NoAttr K (T.ca 25) "loaves"
 na25_oven:NoAttr K (T.ca 25) "oven"
 mC26:mg "Night" = some (.ref (T.ca 26))
 cC26:Cls K (T.ca 26)
 mk26:Mk K (T.ca 26) (fa 62)
 fl26:T.fl 26=(["bakery","orders"]:List Str)
 na26_bakery:NoAttr K (T.ca 26) "bakery"
 na26_orders:NoAttr K (T.ca 26) "orders"
 exm0_0:PySem.W.exmOne K (.ref (T.ca 0)) (.ref (T.ca 0))=some true
 exm1_0:PySem.W.exmOne K (.ref (T.ca 1)) (.ref (T.ca 0))=some true
 exm2_0:PySem.W.exmOne K (.ref (T.ca 2)) (.ref (T.ca 0))=some true
 exm3_0:PySem.W.exmOne K (.ref (T.ca 3)) (.ref (T.ca 0))=some true
 exm4_0:PySem.W.exmOne K (.ref (T.ca 4)) (.ref (T.ca 0))=some true
 exm5_0:PySem.W.exmOne K (.ref (T.ca 5)) (.ref (T.ca 0))=some true
 exm6_0:PySem.W.exmOne K (.ref (T.ca 6)) (.ref (T.ca 0))=some true
 exm7_0:PySem.W.exmOne K (.ref (T.ca 7)) (.ref (T.ca 0))=some true
 exm8_0:PySem.W.exmOne K (.ref (T.ca 8)) (.ref (T.ca 0))=some true
 exm9_0:PySem.W.exmOne K (.ref (T.ca 9)) (.ref (T.ca 0))=some true
 exm10_0:PySem.W.exmOne K (.ref (T.ca 10)) (.ref (T.ca 0))=some true
 exm11_0:PySem.W.exmOne K (.ref (T.ca 11)) (.ref (T.ca 0))=some true
 exm12_0:PySem.W.exmOne K (.ref (T.ca 12)) (.ref (T.ca 0))=some true
 exm13_0:PySem.W.exmOne K (.ref (T.ca 13)) (.ref (T.ca 0))=some true
 exm14_0:PySem.W.exmOne K (.ref (T.ca 14)) (.ref (T.ca 0))=some true
 exm15_0:PySem.W.exmOne K (.ref (T.ca 15)) (.ref (T.ca 0))=some true
 exm16_0:PySem.W.exmOne K (.ref (T.ca 16)) (.ref (T.ca 0))=some true
 exm17_0:PySem.W.exmOne K (.ref (T.ca 17)) (.ref (T.ca 0))=some true
 ix:∀c,c < 18->q9m K (T.ca c)
 kt:∀c j,c < 18->j < 18->PySem.W.kitOne K (.ref (T.ca c)) (.ref (T.ca j))=some (c==j || j==0)
 kv:∀c,c < 18->PySem.W.kitOne K (.ref (T.ca c)) (.type "ValueError")=some true
 c_FASTEST:∃t,mg "FASTEST" = some (.int 300 t)
 c_FAULTS:TupInD K mg "FAULTS" [.str "door",.str "short",.str "long",.str "hands",.str "bench",.str "room",.str "heat"]
 c_HOTTEST:∃t,mg "HOTTEST" = some (.int 300 t)
 c_LETTERS:∃t,mg "LETTERS" = some (.str "abcdefghijklmnopqrstuvwxyz" t)
 c_LONGEST_NAME:∃t,mg "LONGEST_NAME" = some (.int 12 t)
 c_MOST_BATCHES:∃t,mg "MOST_BATCHES" = some (.int 24 t)
 c_MOST_BENCHES:∃t,mg "MOST_BENCHES" = some (.int 6 t)
 c_MOST_BREADS:∃t,mg "MOST_BREADS" = some (.int 8 t)
 c_MOST_HANDS:∃t,mg "MOST_HANDS" = some (.int 6 t)
 c_MOST_LOAVES:∃t,mg "MOST_LOAVES" = some (.int 60 t)
 c_MOST_ORDERS:∃t,mg "MOST_ORDERS" = some (.int 12 t)
 c_MOST_OVENS:∃t,mg "MOST_OVENS" = some (.int 3 t)
 c_MOST_PLANNED:∃t,mg "MOST_PLANNED" = some (.int 3 t)
 c_MOST_ROOM:∃t,mg "MOST_ROOM" = some (.int 30 t)
 c_MOST_STAGES:∃t,mg "MOST_STAGES" = some (.int 6 t)
 c_MOST_STEPPED:∃t,mg "MOST_STEPPED" = some (.int 4 t)
 c_MOST_WAYS:∃t,mg "MOST_WAYS" = some (.int 2000 t)
 c_NIGHT:∃t,mg "NIGHT" = some (.int 720 t)
 c_NOTHING_BAKES:∃t,mg "NOTHING_BAKES" = some (.int (-1) t)
 c_STEP:∃t,mg "STEP" = some (.int 5 t)
 c_WANTS:q9d K mg "WANTS" [.str "nothing",.str "hands",.str "bench",.str "oven"]
 c_WIDEST:∃t,mg "WIDEST" = some (.int 120 t)
 n_ValueError:mg "ValueError" = none
 n_abs:mg "abs" = none
 n_all:mg "all" = none
 n_any:mg "any" = none
 n_bool:mg "bool" = none
 n_enumerate:mg "enumerate" = none
 n_int:mg "int" = none
 n_isinstance:mg "isinstance" = none
 n_len:mg "len" = none
 n_list:mg "list" = none
 n_max:mg "max" = none
 n_min:mg "min" = none
 n_range:mg "range" = none
 n_reversed:mg "reversed" = none
 n_set:mg "set" = none
 n_sorted:mg "sorted" = none
 n_str:mg "str" = none
 n_sum:mg "sum" = none
 n_tuple:mg "tuple" = none
 n_zip:mg "zip" = none
local macro_rules | `(tactic| walk_at "sc")=>`(tactic| exact ⟨rfl,rfl,rfl,by decide +kernel,rfl,by decide +kernel,by decide +kernel⟩)
section
variable {P:Program} {w:World} {K:PySem.W.Frag} {mg:Str->Option Value} {base:Heap} {fa:Nat->Addr} {fd:Nat->FuncData} {T:Tb}
theorem fo0 (x:Tx K mg fa fd T):∀q∈[(18,1),(19,2),(25,4)],FoC T K "loaves" q:=foC x.cC18 x.na18_loaves x.fl18 (foC x.cC19 x.na19_loaves x.fl19 (foC x.cC25 x.na25_loaves x.fl25 foN))
theorem fo1 (x:Tx K mg fa fd T):∀q∈[(20,4)],FoC T K "breads" q:=foC x.cC20 x.na20_breads x.fl20 foN
theorem fo2 (x:Tx K mg fa fd T):∀q∈[(21,0),(22,0)],FoC T K "name" q:=foC x.cC21 x.na21_name x.fl21 (foC x.cC22 x.na22_name x.fl22 foN)
theorem fo3 (x:Tx K mg fa fd T):∀q∈[(18,0)],FoC T K "bread" q:=foC x.cC18 x.na18_bread x.fl18 foN
theorem fo4 (x:Tx K mg fa fd T):∀q∈[(20,0)],FoC T K "night" q:=foC x.cC20 x.na20_night x.fl20 foN
theorem fo5 (x:Tx K mg fa fd T):∀q∈[(18,2)],FoC T K "due" q:=foC x.cC18 x.na18_due x.fl18 foN
theorem fo6 (x:Tx K mg fa fd T):∀q∈[(20,3)],FoC T K "ovens" q:=foC x.cC20 x.na20_ovens x.fl20 foN
theorem fo7 (x:Tx K mg fa fd T):∀q∈[(23,0)],FoC T K "room" q:=foC x.cC23 x.na23_room x.fl23 foN
theorem fo8 (x:Tx K mg fa fd T):∀q∈[(24,1)],FoC T K "lengths" q:=foC x.cC24 x.na24_lengths x.fl24 foN
theorem fo9 (x:Tx K mg fa fd T):∀q∈[(22,1)],FoC T K "stages" q:=foC x.cC22 x.na22_stages x.fl22 foN
theorem fo10 (x:Tx K mg fa fd T):∀q∈[(24,2),(25,5)],FoC T K "oven" q:=foC x.cC24 x.na24_oven x.fl24 (foC x.cC25 x.na25_oven x.fl25 foN)
theorem fo11 (x:Tx K mg fa fd T):∀q∈[(21,3)],FoC T K "want" q:=foC x.cC21 x.na21_want x.fl21 foN
theorem fo12 (x:Tx K mg fa fd T):∀q∈[(19,0)],FoC T K "order" q:=foC x.cC19 x.na19_order x.fl19 foN
theorem fo13 (x:Tx K mg fa fd T):∀q∈[(24,0),(25,2)],FoC T K "begin" q:=foC x.cC24 x.na24_begin x.fl24 (foC x.cC25 x.na25_begin x.fl25 foN)
theorem fo14 (x:Tx K mg fa fd T):∀q∈[(25,3)],FoC T K "until" q:=foC x.cC25 x.na25_until x.fl25 foN
theorem fo15 (x:Tx K mg fa fd T):∀q∈[(25,1)],FoC T K "stage" q:=foC x.cC25 x.na25_stage x.fl25 foN
theorem fo16 (x:Tx K mg fa fd T):∀q∈[(21,1)],FoC T K "least" q:=foC x.cC21 x.na21_least x.fl21 foN
theorem fo17 (x:Tx K mg fa fd T):∀q∈[(21,2)],FoC T K "most" q:=foC x.cC21 x.na21_most x.fl21 foN
theorem fo18 (x:Tx K mg fa fd T):∀q∈[(20,1)],FoC T K "hands" q:=foC x.cC20 x.na20_hands x.fl20 foN
theorem fo19 (x:Tx K mg fa fd T):∀q∈[(20,2)],FoC T K "benches" q:=foC x.cC20 x.na20_benches x.fl20 foN
theorem fo20 (x:Tx K mg fa fd T):∀q∈[(21,4),(23,2)],FoC T K "heat" q:=foC x.cC21 x.na21_heat x.fl21 (foC x.cC23 x.na23_heat x.fl23 foN)
theorem fo21 (x:Tx K mg fa fd T):∀q∈[(23,1)],FoC T K "rate" q:=foC x.cC23 x.na23_rate x.fl23 foN
theorem fo22 (x:Tx K mg fa fd T):∀q∈[(26,1)],FoC T K "orders" q:=foC x.cC26 x.na26_orders x.fl26 foN
theorem j98:q0m ["_law_script","_law_k"] ["_law_script","_law_k"] (q0f j8r):=by walk_at "sc"
def q6L (ρ:Ro):Fl:=(q3u (eIx (q0g 0) (q0g 1))) ρ
def q7e (ρ:Ro):Fl:=(q3u (eI 0)) ρ
def q8q (ρ:Ro):Fl:=((sIf (tB2 qLt (q0g 1) (eCB q2E (q0o (q0g 0) q0G))) q6L Fl.nx) ρ).bind q7e
def q8B:Fn:=fnF 2 q8q
theorem j0L (x:Tx K mg fa fd T):FnOk P w K mg base (CXE T P w) 1 (fa 67) (fd 67) ["_law_script","_law_k"] (spD T K 2 q8B):=
 have hT:=x.me
 have hT0:=q0n x.me
 q1j x.me x.F67 j98 λcdv A outer s H E hr=>
  (q0b (q0I (q0t q36 (q0a 1) (q0s q02 rfl x.n_len rfl (q0e (q0a 0) q0j)) (nomark _)) (q0d (q1a (q1S (q0a 0) (q0a 1)))) q0x)
   (q0d (q1a q0i)))
theorem j9V:q0m ["text"] ["text"] (q0f j8i):=by walk_at "sc"
def w0S:Fn:=fnF 1 q2l
theorem j3Z (x:Tx K mg fa fd T):FnOk P w K mg base (CXE T P w) 1 (fa 13) (fd 13) ["text"] (spD T K 1 w0S):=
 have hT:=x.me
 have hT0:=q0n x.me
 q1j x.me x.F13 j9V λcdv A outer s H E hr=>
  q0F
theorem j3M:q0m ["text","parts","minute"] ["text"] (q0f j8d):=by walk_at "sc"
def j3u (ρ:Ro):Fl:=(q1f 1 (q0o (eJ (q2m q6z (q0g 0) (q2F " is not hours, a colon and minutes" jN0))) q0G)) ρ
def j5l (ρ:Ro):Fl:=((sIf (j1Q (tNe (eCB q2E (q0o (q0g 1) q0G)) (eI 2)) (j1Q (q2i (q8L (rD (rC 1 w0S (gSh (eIx (q0g 1) (eI 0)) gN0))))) (q2i (q8L (rD (rC 1 w0S (gSh (eIx (q0g 1) (eI 1)) gN0))))))) j3u Fl.nx) ρ).bind q2l
def j2W (ρ:Ro):Fl:=((q1i 1 (q1r (q9T (q0g 0) (eS ":")))) ρ).bind j5l
def w2k:Fn:=fnF 3 j2W
theorem w0v (x:Tx K mg fa fd T):FnOk P w K mg base (CXE T P w) 2 (fa 14) (fd 14) ["text"] (spD T K 1 w2k):=
 have hT:=x.me
 have hT0:=q0n x.me
 q1j x.me x.F14 j3M λcdv A outer s H E hr=>
  (q0b (q0B 1 j3M.nd (DF.de (q9u (q0a 0) q0T)))
   (q0b (q0I (DW.dt (q6g (q0t q2y (q0s q02 rfl x.n_len rfl (q0e (q0a 1) q0j)) q0i (nomark _)) (q6g (q1y (q1t (DR.de (q0l (j3Z x) hr.le rfl x.m13 x.F13.kp x.b13 .nil (λ_=>rfl) rfl (q0c (q1S (q0a 1) q0i) q0k))))) (q5O (q1y (q1t (DR.de (q0l (j3Z x) hr.le rfl x.m13 x.F13.kp x.b13 .nil (λ_=>rfl) rfl (q0c (q1S (q0a 1) q0i) q0k))))))))) (q0d (q0R (c:=1) rfl x.xc1 rfl x.mC1 (q0e (q1h (q3y (q0a 0) (q01 q1z))) q0j) hsh1)) q0x)
   q0F))
theorem j3W:q0m ["self","name","bread"] ["self","name"] (q0f j8E):=by walk_at "sc"
def j5U (ρ:Ro):Fl:=(q3u (q0g 2)) ρ
def j4g (ρ:Ro):Fl:=(sIf (tEq (q0X [(21,0),(22,0)] (q0g 2)) (q0g 1)) j5U Fl.nx) ρ
def j3e (ρ:Ro):Fl:=(q1f 7 (q0o (eJ (q2F "the bakery has no bread " (q2m q6z (q0g 1) jN0))) q0G)) ρ
def j3r (ρ:Ro):Fl:=((q2G (q2z (q0X [(20,4)] (q0g 0))) (q4G 2) j4g) ρ).bind j3e
def j6H:Fn:=fnF 3 j3r
theorem q9D (x:Tx K mg fa fd T):FnOk P w K mg base (CXE T P w) 1 (fa 16) (fd 16) ["self","name"] (spD T K 2 j6H):=
 have hT:=x.me
 have hT0:=q0n x.me
 q1j x.me x.F16 j3W λcdv A outer s H E hr=>
  (q0b (q0P rfl (q4r (q0q (q0a 0) (fo1 x))) (q07 2 j3W.nd) (q0d (q0I (q0t q1m (q0q (q0a 2) (fo2 x)) (q0a 1) (nomark _)) (q0d (q1a (q0a 2))) q0x)))
   (q0d (q0R (c:=7) rfl x.xc7 rfl x.mC7 (q0e (q1h (q01 (q3y (q0a 1) q1z))) q0j) hsh1)))
theorem w2Y:q0m ["count","lowest","highest"] ["count","lowest","highest"] (q0f s_3):=by walk_at "sc"
def j9C (ρ:Ro):Fl:=(q1f 5 (q0o (eJ (q2m q3c (q0g 0) (q2F " of them, not " (q2m q3c (q0g 1) (q2F " to " (q2m q3c (q0g 2) jN0)))))) q0G)) ρ
def j9s (ρ:Ro):Fl:=(sIf (q2i (tCh qLe qLe (q0g 1) (q0g 0) (q0g 2))) j9C Fl.nx) ρ
def F_3:Fn:=fnF 3 j9s
theorem j7Q (x:Tx K mg fa fd T):FnOk P w K mg base (CXE T P w) 1 (fa 3) (fd 3) ["count","lowest","highest"] (spD T K 3 F_3):=
 have hT:=x.me
 have hT0:=q0n x.me
 q1j x.me x.F3 w2Y λcdv A outer s H E hr=>
  (q0d (q0I (q1y (q1p q1N q1N (q0a 1) (q0a 0) (q0a 2))) (q0d (q0R (c:=5) rfl x.xc5 rfl x.mC5 (q0e (q1h (q08 (q0a 0) (q01 (q08 (q0a 1) (q01 (q08 (q0a 2) q1z)))))) q0j) hsh1)) q0x))
theorem w3p:q0m ["due","night"] ["due","night"] (q0f s_8):=by walk_at "sc"
def j97 (ρ:Ro):Fl:=(q1f 8 (q0o (eJ (q2F "minute " (q2m q3c (q0g 0) (q2F " does not lie from 0 to " (q2m q3c (q0g 1) jN0))))) q0G)) ρ
def w0T (ρ:Ro):Fl:=(sIf (q2i (tCh qLe qLe (eI 0) (q0g 0) (q0g 1))) j97 Fl.nx) ρ
def F_8:Fn:=fnF 2 w0T
theorem w2O (x:Tx K mg fa fd T):FnOk P w K mg base (CXE T P w) 1 (fa 8) (fd 8) ["due","night"] (spD T K 2 F_8):=
 have hT:=x.me
 have hT0:=q0n x.me
 q1j x.me x.F8 w3p λcdv A outer s H E hr=>
  (q0d (q0I (q1y (q1p q1N q1N q0i (q0a 0) (q0a 1))) (q0d (q0R (c:=8) rfl x.xc8 rfl x.mC8 (q0e (q1h (q01 (q08 (q0a 0) (q01 (q08 (q0a 1) q1z))))) q0j) hsh1)) q0x))
theorem w3q:q0m ["self","order","first","loaves"] ["self","order","first","loaves"] (q0f s_6):=by walk_at "sc"
def j9d (ρ:Ro):Fl:=(q0J 19 2 (q0g 3)) ρ
def w0F (ρ:Ro):Fl:=((q0J 19 1 (q0g 2)) ρ).bind j9d
def j8Z (ρ:Ro):Fl:=((q0J 19 0 (q0g 1)) ρ).bind w0F
def F_6:Fn:=q2s 4 19 3 j8Z
theorem w3m (x:Tx K mg fa fd T):FnOk P w K mg base (CXE T P w) 1 (fa 6) (fd 6) ["self","order","first","loaves"] (spI T K 19 4 F_6):=
 have hT0:=q0n x.me
 q9a x.me (by rw [x.fl19];rfl) (q2S x.F6) w3q λy cdv A outer s H E hr=>
  (q0b (q0M (c:=19) 0 x.cC19 x.na19_order (flA x.fl19) (flN x.fl19) (by decide) (q0a 1))
   (q0b (q0M (c:=19) 1 x.cC19 x.na19_first (flA x.fl19) (flN x.fl19) (by decide) (q0a 2))
   (q0d (q0M (c:=19) 2 x.cC19 x.na19_loaves (flA x.fl19) (flN x.fl19) (by decide) (q0a 3)))))
theorem q6u:q0m ["orders","most","row","number","order","first","left"] ["orders","most"] (q0f j7F):=by walk_at "sc"
def j3X (ρ:Ro):Fl:=(q91 2 (rD (rC 3 F_6 (gSh (q0g 3) (gSh (q0g 5) (gSh (eCB j53 (q0o (q0g 1) (q0o (q0g 6) q0G))) gN0)))))) ρ
def j2J (ρ:Ro):Fl:=((q1i 6 (q3Y (q5Y (q0X [(18,1),(19,2),(25,4)] (q0g 4)) (q0g 5)) (eI 1))) ρ).bind j3X
def j61 (ρ:Ro):Fl:=(q2G (j4Y (eI 1) (q3Y (q0X [(18,1),(19,2),(25,4)] (q0g 4)) (eI 1)) (q0g 1)) (q4G 5) j2J) ρ
def j4C (ρ:Ro):Fl:=(q2W 2) ρ
def j5O (ρ:Ro):Fl:=((q2G (j1N (q1n (q0g 0))) (q9G [3,4]) j61) ρ).bind j4C
def j5v (ρ:Ro):Fl:=((q19 2 (fFr (q0L q0G))) ρ).bind j5O
def w0q:Fn:=fnF 7 j5v
theorem j7j (x:Tx K mg fa fd T):FnOk P w K mg base (CXE T P w) 3 (fa 10) (fd 10) ["orders","most"] (spD T K 2 w0q):=
 have hT:=x.me
 have hT0:=q0n x.me
 q1j x.me x.F10 q6u λcdv A outer s H E hr=>
  (q0b (q1b 2 q6u.nd (DF.dr (q0y q0j)))
   (q0b (q0P rfl (q5h rfl x.n_enumerate (DE.dp (q0a 0))) (q2x rfl (q0U 3 q6u.nd (q0U 4 q6u.nd q1U))) (q0d (q0P rfl (j0P rfl x.n_range q0i (q0N q1c (q0q (q0a 4) (fo0 x)) q0i) (q0a 1)) (q07 5 q6u.nd) (q0b (q0B 6 q6u.nd (q0N q1c (q0N q1u (q0q (q0a 4) (fo0 x)) (q0a 5)) q0i))
   (q0d (q3j 2 (DR.de (q0O x.mk19 (w3m x) q0E hr.le rfl x.mC19 x.b6 .nil (λ_=>rfl) rfl (q0c (q0a 3) (q0c (q0a 5) (q0c (q0s (q8m rfl) rfl x.n_min rfl (q0e (q0a 1) (q0e (q0a 6) q0j))) q0k)))))))))))
   (q0d (q1E 2))))
theorem w2V:q0m ["bakery"] ["bakery"] (q0f s_7):=by walk_at "sc"
def w0l (ρ:Ro):Fl:=(q3u (eCB q8E (q0o (q1r (q2C (q2z (q0X [(20,3)] (q0g 0))) [] (q0X [(23,0)] (q0g 0)))) q0G))) ρ
def F_7:Fn:=fnF 1 w0l
theorem w1H (x:Tx K mg fa fd T):FnOk P w K mg base (CXE T P w) 1 (fa 7) (fd 7) ["bakery"] (spD T K 1 F_7):=
 have hT:=x.me
 have hT0:=q0n x.me
 q1j x.me x.F7 w2V λcdv A outer s H E hr=>
  (q0d (q1a (q0s (q6R rfl) rfl x.n_max rfl (q0e (DF.de (q2b hT0 rfl (q4r (q0q (q0a 0) (fo6 x))) cap0 (λcl C s₀ H₀ ex=>(q0q (q0a 0) (fo7 x))))) q0j))))
theorem j8v:q0m ["bakery","orders","order","count"] ["bakery","orders"] (q0f s_9):=by walk_at "sc"
def w0n (ρ:Ro):Fl:=(q0V (rD (q6D (n:=2) 20 j6H (q0g 0) (gSh (q0X [(18,0)] (q0g 2)) gN0)))) ρ
def j9H (ρ:Ro):Fl:=(q0V (rD (rC 2 F_8 (gSh (q0X [(18,2)] (q0g 2)) (gSh (q0X [(20,0)] (q0g 0)) gN0))))) ρ
def j9g (ρ:Ro):Fl:=(q1f 9 (q0o (eJ (q2m q3c (q0g 3) (q2F " batches, not at most " (q2m q3c (eI 24) jN0)))) q0G)) ρ
def j85 (ρ:Ro):Fl:=(sIf (tB2 qGt (q0g 3) (eI 24)) j9g Fl.nx) ρ
def w0m (ρ:Ro):Fl:=((q1i 3 (eCB q2E (q0o (rD (rC 2 w0q (gSh (q0g 1) (gSh (rD (rC 1 F_7 (gSh (q0g 0) gN0))) gN0)))) q0G))) ρ).bind j85
def j87 (ρ:Ro):Fl:=((q2G (q1n (q0g 1)) (q4G 2) j9H) ρ).bind w0m
def j8P (ρ:Ro):Fl:=((q2G (q1n (q0g 1)) (q4G 2) w0n) ρ).bind j87
def w0L (ρ:Ro):Fl:=((q0V (rD (rC 3 F_3 (gSh (eCB q2E (q0o (q0g 1) q0G)) (gSh (eI 0) (gSh (eI 12) gN0)))))) ρ).bind j8P
def F_9:Fn:=fnF 4 w0L
theorem j8f (x:Tx K mg fa fd T):FnOk P w K mg base (CXE T P w) 4 (fa 9) (fd 9) ["bakery","orders"] (spD T K 2 F_9):=
 have hT:=x.me
 have hT0:=q0n x.me
 q1j x.me x.F9 j8v λcdv A outer s H E hr=>
  (q0b (q0u (DR.de (q0l (j7Q x) hr.le rfl x.m3 x.F3.kp x.b3 .nil (λ_=>rfl) rfl (q0c (q0s q02 rfl x.n_len rfl (q0e (q0a 1) q0j)) (q0c q0i (q0c (q0v rfl x.c_MOST_ORDERS) q0k))))))
   (q0b (q0P rfl (q0Q (DE.dp (q0a 1))) (q07 2 j8v.nd) (q0d (q0u (DR.de (q20 (q0a 0) x.cC20 x.mt16 (by rw [x.fl20];decide) (q9D x) hr.le x.b16 rfl (q0c (q0q (q0a 2) (fo3 x)) q0k))))))
   (q0b (q0P rfl (q0Q (DE.dp (q0a 1))) (q07 2 j8v.nd) (q0d (q0u (DR.de (q0l (w2O x) hr.le rfl x.m8 x.F8.kp x.b8 .nil (λ_=>rfl) rfl (q0c (q0q (q0a 2) (fo5 x)) (q0c (q0q (q0a 0) (fo4 x)) q0k)))))))
   (q0b (q0B 3 j8v.nd (q0s q02 rfl x.n_len rfl (q0e (DR.de (q0l (j7j x) hr.le rfl x.m10 x.F10.kp x.b10 .nil (λ_=>rfl) rfl (q0c (q0a 1) (q0c (DR.de (q0l (w1H x) hr.le rfl x.m7 x.F7.kp x.b7 .nil (λ_=>rfl) rfl (q0c (q0a 0) q0k))) q0k)))) q0j)))
   (q0d (q0I (q0t q3g (q0a 3) (q0v rfl x.c_MOST_BATCHES) (nomark _)) (q0d (q0R (c:=9) rfl x.xc9 rfl x.mC9 (q0e (q1h (q08 (q0a 3) (q01 (q08 (q0v rfl x.c_MOST_BATCHES) q1z)))) q0j) hsh1)) q0x))))))
theorem w2Z:q0m ["name"] ["name"] (q0f s_1):=by walk_at "sc"
def w0h (ρ:Ro):Fl:=(q1f 2 (q0o (eJ (q2m q6z (q0g 0) (q2F " is not 1 to " (q2m q3c (eI 12) (q2F " small letters" jN0))))) q0G)) ρ
def w0s (ρ:Ro):Fl:=(sIf (j1Q (q2i (tCh qLe qLe (eI 1) (eCB q2E (q0o (q0g 0) q0G)) (eI 12))) (q2i (q8L (eCB w0Q (q0o (q1r (q2C (w1o (q0g 0)) [] (e2 (inD false) (q0g 0) (eS "abcdefghijklmnopqrstuvwxyz")))) q0G))))) w0h Fl.nx) ρ
def F_1:Fn:=fnF 1 w0s
theorem w1p (x:Tx K mg fa fd T):FnOk P w K mg base (CXE T P w) 1 (fa 1) (fd 1) ["name"] (spD T K 1 F_1):=
 have hT:=x.me
 have hT0:=q0n x.me
 q1j x.me x.F1 w2Z λcdv A outer s H E hr=>
  (q0d (q0I (DW.dt (q6g (q1y (q1p q1N q1N q0i (q0s q02 rfl x.n_len rfl (q0e (q0a 0) q0j)) (q0v rfl x.c_LONGEST_NAME))) (q5O (q1y (q1t (q0s (j6N rfl) rfl x.n_all rfl (q0e (DF.de (q2b hT0 rfl (j5m (q0a 0)) cap0 (λcl C s₀ H₀ ex=>(q4s w0t (q0a 0) (q8W rfl x.c_LETTERS) rfl)))) q0j))))))) (q0d (q0R (c:=2) rfl x.xc2 rfl x.mC2 (q0e (q1h (q3y (q0a 0) (q01 (q08 (q0v rfl x.c_LONGEST_NAME) (q01 q1z))))) q0j) hsh1)) q0x))
theorem j81:q0m ["self","name","stages"] ["self","name","stages"] (q0f j8p):=by walk_at "sc"
def j5P (ρ:Ro):Fl:=(q0J 22 1 (q4v (q1n (q0g 2)))) ρ
def j4f (ρ:Ro):Fl:=((q0J 22 0 (q0g 1)) ρ).bind j5P
def j5r (ρ:Ro):Fl:=((q0V (rD (rC 3 F_3 (gSh (eCB q2E (q0o (q0g 2) q0G)) (gSh (eI 1) (gSh (eI 6) gN0)))))) ρ).bind j4f
def j3D (ρ:Ro):Fl:=((q0V (rD (rC 1 F_1 (gSh (q0g 1) gN0)))) ρ).bind j5r
def j2x:Fn:=q2s 3 22 2 j3D
theorem j09 (x:Tx K mg fa fd T):FnOk P w K mg base (CXE T P w) 2 (fa 19) (fd 19) ["self","name","stages"] (spI T K 22 3 j2x):=
 have hT0:=q0n x.me
 q9a x.me (by rw [x.fl22];rfl) (q2S x.F19) j81 λy cdv A outer s H E hr=>
  (q0b (q0u (DR.de (q0l (q12 (w1p x)) hr.le rfl x.m1 x.F1.kp x.b1 .nil (λ_=>rfl) rfl (q0c (q0a 1) q0k))))
   (q0b (q0u (DR.de (q0l (q12 (j7Q x)) hr.le rfl x.m3 x.F3.kp x.b3 .nil (λ_=>rfl) rfl (q0c (q0s q02 rfl x.n_len rfl (q0e (q0a 2) q0j)) (q0c q0i (q0c (q0v rfl x.c_MOST_STAGES) q0k))))))
   (q0b (q0M (c:=22) 0 x.cC22 x.na22_name (flA x.fl22) (flN x.fl22) (by decide) (q0a 1))
   (q0d (q0M (c:=22) 1 x.cC22 x.na22_stages (flA x.fl22) (flN x.fl22) (by decide) (q3M rfl x.n_tuple (DE.dl (q0a 2))))))))
theorem w29:q0m ["number","lowest","highest"] ["number","lowest","highest"] (q0f s_2):=by walk_at "sc"
def j0I (ρ:Ro):Fl:=(q1f 4 (q0o (eJ (q2m q3c (q0g 0) (q2F " does not lie from " (q2m q3c (q0g 1) (q2F " to " (q2m q3c (q0g 2) jN0)))))) q0G)) ρ
def q9P (ρ:Ro):Fl:=(sIf (q2i (tCh qLe qLe (q0g 1) (q0g 0) (q0g 2))) j0I Fl.nx) ρ
def F_2:Fn:=fnF 3 q9P
theorem q8A (x:Tx K mg fa fd T):FnOk P w K mg base (CXE T P w) 1 (fa 2) (fd 2) ["number","lowest","highest"] (spD T K 3 F_2):=
 have hT:=x.me
 have hT0:=q0n x.me
 q1j x.me x.F2 w29 λcdv A outer s H E hr=>
  (q0d (q0I (q1y (q1p q1N q1N (q0a 1) (q0a 0) (q0a 2))) (q0d (q0R (c:=4) rfl x.xc4 rfl x.mC4 (q0e (q1h (q08 (q0a 0) (q01 (q08 (q0a 1) (q01 (q08 (q0a 2) q1z)))))) q0j) hsh1)) q0x))
theorem j9D:q0m ["self","name","least","most","want","heat"] ["self","name","least","most","want","heat"] (q0f j8a):=by walk_at "sc"
def j49 (ρ:Ro):Fl:=(q1f 3 (q0o (eJ (q2F "a stage can't want " (q2m q6z (q0g 4) jN0))) q0G)) ρ
def j30 (ρ:Ro):Fl:=(q0J 21 4 (q0g 5)) ρ
def j3d (ρ:Ro):Fl:=((q0J 21 3 (q0g 4)) ρ).bind j30
def j2N (ρ:Ro):Fl:=((q0J 21 2 (q0g 3)) ρ).bind j3d
def j7a (ρ:Ro):Fl:=((q0J 21 1 (q0g 2)) ρ).bind j2N
def j3L (ρ:Ro):Fl:=((q0J 21 0 (q0g 1)) ρ).bind j7a
def j3U (ρ:Ro):Fl:=((q0V (rD (rC 3 F_2 (gSh (q0g 5) (gSh (eI 0) (gSh (eI 300) gN0)))))) ρ).bind j3L
def j6S (ρ:Ro):Fl:=((q0V (rD (rC 3 F_2 (gSh (q0g 3) (gSh (q0g 2) (gSh (eI 720) gN0)))))) ρ).bind j3U
def j6V (ρ:Ro):Fl:=((q0V (rD (rC 3 F_2 (gSh (q0g 2) (gSh (eI 1) (gSh (eI 720) gN0)))))) ρ).bind j6S
def j2d (ρ:Ro):Fl:=((sIf (tB2 (inD true) (q0g 4) (eC (.tup [.str "nothing",.str "hands",.str "bench",.str "oven"]))) j49 Fl.nx) ρ).bind j6V
def j1b (ρ:Ro):Fl:=((q0V (rD (rC 1 F_1 (gSh (q0g 1) gN0)))) ρ).bind j2d
def j2v:Fn:=q2s 6 21 5 j1b
theorem j1Z (x:Tx K mg fa fd T):FnOk P w K mg base (CXE T P w) 2 (fa 18) (fd 18) ["self","name","least","most","want","heat"] (spI T K 21 6 j2v):=
 have hT0:=q0n x.me
 q9a x.me (by rw [x.fl21];rfl) x.F18.ex j9D λy cdv A outer s H E hr=>
  (q0b (q0u (DR.de (q0l (q12 (w1p x)) hr.le rfl x.m1 x.F1.kp x.b1 .nil (λ_=>rfl) rfl (q0c (q0a 1) q0k))))
   (q0b (q0I (q0t q9M (q0a 4) (q9n rfl x.c_WANTS) rfl) (q0d (q0R (c:=3) rfl x.xc3 rfl x.mC3 (q0e (q1h (q01 (q3y (q0a 4) q1z))) q0j) hsh1)) q0x)
   (q0b (q0u (DR.de (q0l (q12 (q8A x)) hr.le rfl x.m2 x.F2.kp x.b2 .nil (λ_=>rfl) rfl (q0c (q0a 2) (q0c q0i (q0c (q0v rfl x.c_NIGHT) q0k))))))
   (q0b (q0u (DR.de (q0l (q12 (q8A x)) hr.le rfl x.m2 x.F2.kp x.b2 .nil (λ_=>rfl) rfl (q0c (q0a 3) (q0c (q0a 2) (q0c (q0v rfl x.c_NIGHT) q0k))))))
   (q0b (q0u (DR.de (q0l (q12 (q8A x)) hr.le rfl x.m2 x.F2.kp x.b2 .nil (λ_=>rfl) rfl (q0c (q0a 5) (q0c q0i (q0c (q0v rfl x.c_HOTTEST) q0k))))))
   (q0b (q0M (c:=21) 0 x.cC21 x.na21_name (flA x.fl21) (flN x.fl21) (by decide) (q0a 1))
   (q0b (q0M (c:=21) 1 x.cC21 x.na21_least (flA x.fl21) (flN x.fl21) (by decide) (q0a 2))
   (q0b (q0M (c:=21) 2 x.cC21 x.na21_most (flA x.fl21) (flN x.fl21) (by decide) (q0a 3))
   (q0b (q0M (c:=21) 3 x.cC21 x.na21_want (flA x.fl21) (flN x.fl21) (by decide) (q0a 4))
   (q0d (q0M (c:=21) 4 x.cC21 x.na21_heat (flA x.fl21) (flN x.fl21) (by decide) (q0a 5))))))))))))
theorem j9e:q0m ["self","room","rate","heat"] ["self","room","rate","heat"] (q0f j8C):=by walk_at "sc"
def j55 (ρ:Ro):Fl:=(q0J 23 2 (q0g 3)) ρ
def j5I (ρ:Ro):Fl:=((q0J 23 1 (q0g 2)) ρ).bind j55
def j3q (ρ:Ro):Fl:=((q0J 23 0 (q0g 1)) ρ).bind j5I
def j5C (ρ:Ro):Fl:=((q0V (rD (rC 3 F_2 (gSh (q0g 3) (gSh (eI 0) (gSh (eI 300) gN0)))))) ρ).bind j3q
def j6d (ρ:Ro):Fl:=((q0V (rD (rC 3 F_2 (gSh (q0g 2) (gSh (eI 1) (gSh (eI 300) gN0)))))) ρ).bind j5C
def j4G (ρ:Ro):Fl:=((q0V (rD (rC 3 F_2 (gSh (q0g 1) (gSh (eI 1) (gSh (eI 30) gN0)))))) ρ).bind j6d
def j7Z:Fn:=q2s 4 23 3 j4G
theorem j5W (x:Tx K mg fa fd T):FnOk P w K mg base (CXE T P w) 2 (fa 23) (fd 23) ["self","room","rate","heat"] (spI T K 23 4 j7Z):=
 have hT0:=q0n x.me
 q9a x.me (by rw [x.fl23];rfl) (q2S x.F23) j9e λy cdv A outer s H E hr=>
  (q0b (q0u (DR.de (q0l (q12 (q8A x)) hr.le rfl x.m2 x.F2.kp x.b2 .nil (λ_=>rfl) rfl (q0c (q0a 1) (q0c q0i (q0c (q0v rfl x.c_MOST_ROOM) q0k))))))
   (q0b (q0u (DR.de (q0l (q12 (q8A x)) hr.le rfl x.m2 x.F2.kp x.b2 .nil (λ_=>rfl) rfl (q0c (q0a 2) (q0c q0i (q0c (q0v rfl x.c_FASTEST) q0k))))))
   (q0b (q0u (DR.de (q0l (q12 (q8A x)) hr.le rfl x.m2 x.F2.kp x.b2 .nil (λ_=>rfl) rfl (q0c (q0a 3) (q0c q0i (q0c (q0v rfl x.c_HOTTEST) q0k))))))
   (q0b (q0M (c:=23) 0 x.cC23 x.na23_room (flA x.fl23) (flN x.fl23) (by decide) (q0a 1))
   (q0b (q0M (c:=23) 1 x.cC23 x.na23_rate (flA x.fl23) (flN x.fl23) (by decide) (q0a 2))
   (q0d (q0M (c:=23) 2 x.cC23 x.na23_heat (flA x.fl23) (flN x.fl23) (by decide) (q0a 3))))))))
theorem w0k:q0m ["names"] ["names"] (q0f j8z):=by walk_at "sc"
def j6D (ρ:Ro):Fl:=(q1f 6 (q0o (eJ (q2F "two breads of one name among " (j8A (q1n (q0g 0)) jN0))) q0G)) ρ
def j7v (ρ:Ro):Fl:=(sIf (tNe (q8k (q1n (q0g 0))) (eCB q2E (q0o (q0g 0) q0G))) j6D Fl.nx) ρ
def w1h:Fn:=fnF 1 j7v
theorem w0K (x:Tx K mg fa fd T):FnOk P w K mg base (CXE T P w) 1 (fa 17) (fd 17) ["names"] (spD T K 1 w1h):=
 have hT:=x.me
 have hT0:=q0n x.me
 q1j x.me x.F17 w0k λcdv A outer s H E hr=>
  (q0d (q0I (q0t q2y (q7T rfl rfl x.n_len rfl x.n_set (DE.dl (q0a 0))) (q0s q02 rfl x.n_len rfl (q0e (q0a 0) q0j)) (nomark _)) (q0d (q0R (c:=6) rfl x.xc6 rfl x.mC6 (q0e (q1h (q01 (q9L hr (DE.dl (q0a 0)) q1z))) q0j) hsh1)) q0x))
theorem j9p:q0m ["self","night","hands","benches","ovens","breads"] ["self","night","hands","benches","ovens","breads"] (q0f j7J):=by walk_at "sc"
def j6y (ρ:Ro):Fl:=(q0J 20 4 (q4v (q1n (q0g 5)))) ρ
def j63 (ρ:Ro):Fl:=((q0J 20 3 (q4v (q1n (q0g 4)))) ρ).bind j6y
def j5J (ρ:Ro):Fl:=((q0J 20 2 (q0g 3)) ρ).bind j63
def j6c (ρ:Ro):Fl:=((q0J 20 1 (q0g 2)) ρ).bind j5J
def j5M (ρ:Ro):Fl:=((q0J 20 0 (q0g 1)) ρ).bind j6c
def j4k (ρ:Ro):Fl:=((q0V (rD (rC 1 w1h (gSh (q1r (q2C (q1n (q0g 5)) [] (q0X [(21,0),(22,0)] (q0g 0)))) gN0)))) ρ).bind j5M
def j6X (ρ:Ro):Fl:=((q0V (rD (rC 3 F_3 (gSh (eCB q2E (q0o (q0g 5) q0G)) (gSh (eI 1) (gSh (eI 8) gN0)))))) ρ).bind j4k
def j3Y (ρ:Ro):Fl:=((q0V (rD (rC 3 F_3 (gSh (eCB q2E (q0o (q0g 4) q0G)) (gSh (eI 1) (gSh (eI 3) gN0)))))) ρ).bind j6X
def j5f (ρ:Ro):Fl:=((q0V (rD (rC 3 F_2 (gSh (q0g 3) (gSh (eI 1) (gSh (eI 6) gN0)))))) ρ).bind j3Y
def j2o (ρ:Ro):Fl:=((q0V (rD (rC 3 F_2 (gSh (q0g 2) (gSh (eI 1) (gSh (eI 6) gN0)))))) ρ).bind j5f
def j1p (ρ:Ro):Fl:=((q0V (rD (rC 3 F_2 (gSh (q0g 1) (gSh (eI 1) (gSh (eI 720) gN0)))))) ρ).bind j2o
def j1J:Fn:=q2s 6 20 5 j1p
theorem j0K (x:Tx K mg fa fd T):FnOk P w K mg base (CXE T P w) 2 (fa 15) (fd 15) ["self","night","hands","benches","ovens","breads"] (spI T K 20 6 j1J):=
 have hT0:=q0n x.me
 q9a x.me (by rw [x.fl20];rfl) (q2S x.F15) j9p λy cdv A outer s H E hr=>
  (q0b (q0u (DR.de (q0l (q12 (q8A x)) hr.le rfl x.m2 x.F2.kp x.b2 .nil (λ_=>rfl) rfl (q0c (q0a 1) (q0c q0i (q0c (q0v rfl x.c_NIGHT) q0k))))))
   (q0b (q0u (DR.de (q0l (q12 (q8A x)) hr.le rfl x.m2 x.F2.kp x.b2 .nil (λ_=>rfl) rfl (q0c (q0a 2) (q0c q0i (q0c (q0v rfl x.c_MOST_HANDS) q0k))))))
   (q0b (q0u (DR.de (q0l (q12 (q8A x)) hr.le rfl x.m2 x.F2.kp x.b2 .nil (λ_=>rfl) rfl (q0c (q0a 3) (q0c q0i (q0c (q0v rfl x.c_MOST_BENCHES) q0k))))))
   (q0b (q0u (DR.de (q0l (q12 (j7Q x)) hr.le rfl x.m3 x.F3.kp x.b3 .nil (λ_=>rfl) rfl (q0c (q0s q02 rfl x.n_len rfl (q0e (q0a 4) q0j)) (q0c q0i (q0c (q0v rfl x.c_MOST_OVENS) q0k))))))
   (q0b (q0u (DR.de (q0l (q12 (j7Q x)) hr.le rfl x.m3 x.F3.kp x.b3 .nil (λ_=>rfl) rfl (q0c (q0s q02 rfl x.n_len rfl (q0e (q0a 5) q0j)) (q0c q0i (q0c (q0v rfl x.c_MOST_BREADS) q0k))))))
   (q0b (q0u (DR.de (q0l (q12 (w0K x)) hr.le rfl x.m17 x.F17.kp x.b17 .nil (λ_=>rfl) rfl (q0c (DF.de (q2b hT0 rfl (q0Q (DE.dp (q0a 5))) cap0 (λcl C s₀ H₀ ex=>(q0q (q0a 0) (fo2 x))))) q0k))))
   (q0b (q0M (c:=20) 0 x.cC20 x.na20_night (flA x.fl20) (flN x.fl20) (by decide) (q0a 1))
   (q0b (q0M (c:=20) 1 x.cC20 x.na20_hands (flA x.fl20) (flN x.fl20) (by decide) (q0a 2))
   (q0b (q0M (c:=20) 2 x.cC20 x.na20_benches (flA x.fl20) (flN x.fl20) (by decide) (q0a 3))
   (q0b (q0M (c:=20) 3 x.cC20 x.na20_ovens (flA x.fl20) (flN x.fl20) (by decide) (q3M rfl x.n_tuple (DE.dl (q0a 4))))
   (q0d (q0M (c:=20) 4 x.cC20 x.na20_breads (flA x.fl20) (flN x.fl20) (by decide) (q3M rfl x.n_tuple (DE.dl (q0a 5)))))))))))))))
theorem w25:q0m ["self","bread","loaves","due"] ["self","bread","loaves","due"] (q0f s_5):=by walk_at "sc"
def j39 (ρ:Ro):Fl:=(q0J 18 2 (q0g 3)) ρ
def j6m (ρ:Ro):Fl:=((q0J 18 1 (q0g 2)) ρ).bind j39
def j3g (ρ:Ro):Fl:=((q0J 18 0 (q0g 1)) ρ).bind j6m
def j7i (ρ:Ro):Fl:=((q0V (rD (rC 3 F_2 (gSh (q0g 2) (gSh (eI 1) (gSh (eI 60) gN0)))))) ρ).bind j3g
def F_5:Fn:=q2s 4 18 3 j7i
theorem j11 (x:Tx K mg fa fd T):FnOk P w K mg base (CXE T P w) 2 (fa 5) (fd 5) ["self","bread","loaves","due"] (spI T K 18 4 F_5):=
 have hT0:=q0n x.me
 q9a x.me (by rw [x.fl18];rfl) (q2S x.F5) w25 λy cdv A outer s H E hr=>
  (q0b (q0u (DR.de (q0l (q12 (q8A x)) hr.le rfl x.m2 x.F2.kp x.b2 .nil (λ_=>rfl) rfl (q0c (q0a 2) (q0c q0i (q0c (q0v rfl x.c_MOST_LOAVES) q0k))))))
   (q0b (q0M (c:=18) 0 x.cC18 x.na18_bread (flA x.fl18) (flN x.fl18) (by decide) (q0a 1))
   (q0b (q0M (c:=18) 1 x.cC18 x.na18_loaves (flA x.fl18) (flN x.fl18) (by decide) (q0a 2))
   (q0d (q0M (c:=18) 2 x.cC18 x.na18_due (flA x.fl18) (flN x.fl18) (by decide) (q0a 3))))))
theorem j9t:q0m ["_law_which","_law_cell","_law_kiln","_law_bread","_law_bakery"] ["_law_which","_law_cell","_law_kiln","_law_bread","_law_bakery"] (q0f j8y):=by walk_at "sc"
def j5w (ρ:Ro):Fl:=(q0V (rD (rC 1 w2k (gSh (q3Y (eS "x") (eCB j5N (q0o (q0g 1) q0G))) gN0)))) ρ
def j5k (ρ:Ro):Fl:=(q0V (rD (rC 2 j2x (gSh (e2 j3I (eS "A") (q3Y (eI 1) (q8D (q0g 1) (eI 13)))) (gSh (q1r (q0L (q0o (rD (q6y (n:=5) j2v [.sh (.int 0)] (gSh (eS "a") (gSh (eI 1) (gSh (eI 1) (gSh (eS "hands") gN0)))))) q0G))) gN0))))) ρ
def j4v (ρ:Ro):Fl:=(q0V (rD (q6y (n:=5) j2v [.sh (.int 0)] (gSh (eS "a") (gSh (eI 1) (gSh (eI 1) (gSh (q3Y (eS "hands") (eCB j5N (q0o (q0g 1) q0G))) gN0))))))) ρ
def j33 (ρ:Ro):Fl:=(q0V (rD (rC 3 j7Z (gSh (q3Y (eI 31) (q0g 1)) (gSh (eI 1) (gSh (eI 0) gN0)))))) ρ
def j6E (ρ:Ro):Fl:=(q0V (rD (rC 2 j2x (gSh (eS "a") (gSh (q1r (q0L q0G)) gN0))))) ρ
def j24 (ρ:Ro):Fl:=(q0V (rD (rC 5 j1J (gSh (eI 100) (gSh (eI 1) (gSh (eI 1) (gSh (q1r (q0L (q0o (q0g 2) q0G))) (gSh (q1r (q0L (q0o (q0g 3) (q0o (q0g 3) q0G)))) gN0)))))))) ρ
def j6W (ρ:Ro):Fl:=(q0V (rD (q6D (n:=2) 20 j6H (q0g 4) (gSh (q3Y (eS "ryebread") (eCB j5N (q0o (q0g 1) q0G))) gN0)))) ρ
def j6J (ρ:Ro):Fl:=(q0V (rD (rC 2 F_9 (gSh (q0g 4) (gSh (q1r (q0L (q0o (rD (rC 3 F_5 (gSh (eS "rye") (gSh (eI 1) (gSh (q3Y (eI 101) (q0g 1)) gN0))))) q0G))) gN0))))) ρ
def j6G (ρ:Ro):Fl:=(sIf (tEq (q0g 0) (eI 7)) j6J Fl.nx) ρ
def j1F (ρ:Ro):Fl:=(sIf (tEq (q0g 0) (eI 6)) j6W j6G) ρ
def j1d (ρ:Ro):Fl:=(sIf (tEq (q0g 0) (eI 5)) j24 j1F) ρ
def j0N (ρ:Ro):Fl:=(sIf (tEq (q0g 0) (eI 4)) j6E j1d) ρ
def j1I (ρ:Ro):Fl:=(sIf (tEq (q0g 0) (eI 3)) j33 j0N) ρ
def j05 (ρ:Ro):Fl:=(sIf (tEq (q0g 0) (eI 2)) j4v j1I) ρ
def j04 (ρ:Ro):Fl:=(sIf (tEq (q0g 0) (eI 1)) j5k j05) ρ
def j1o (ρ:Ro):Fl:=((sIf (tEq (q0g 0) (eI 0)) j5w j04) ρ).bind q2l
def j3a:Fn:=fnF 5 j1o
theorem j96 (x:Tx K mg fa fd T):FnOk P w K mg base (CXE T P w) 5 (fa 70) (fd 70) ["_law_which","_law_cell","_law_kiln","_law_bread","_law_bakery"] (spD T K 5 j3a):=
 have hT:=x.me
 have hT0:=q0n x.me
 q1j x.me x.F70 j9t λcdv A outer s H E hr=>
  (q0b (q0I (q0t q1m (q0a 0) q0i (nomark _)) (q0d (q0u (DR.de (q0l (w0v x) hr.le rfl x.m14 x.F14.kp x.b14 .nil (λ_=>rfl) rfl (q0c (q0N q1c q0T (q2g q7t rfl x.n_str rfl (q0e (q0a 1) q0j))) q0k))))) (q0d (q0I (q0t q1m (q0a 0) q0i (nomark _)) (q0d (q0u (DR.de (q0O x.mk22 (j09 x) q0E hr.le rfl x.mC22 x.b19 .nil (λ_=>rfl) rfl (q0c (q0N j0V q0T (q0N q1c q0i (q0N q14 (q0a 1) q0i))) (q0c (DF.de (q0y (q0e (DR.de (x.bd18.elim λt hb=>q0O x.mk21 (j1Z x) q0E hr.le rfl x.mC21 hb (vcI .nil) (λ_=>⟨_,[],rfl,rfl,rfl⟩) rfl (q0c q0T (q0c q0i (q0c q0i (q0c q0T q0k)))))) q0j))) q0k)))))) (q0d (q0I (q0t q1m (q0a 0) q0i (nomark _)) (q0d (q0u (DR.de (x.bd18.elim λt hb=>q0O x.mk21 (j1Z x) q0E hr.le rfl x.mC21 hb (vcI .nil) (λ_=>⟨_,[],rfl,rfl,rfl⟩) rfl (q0c q0T (q0c q0i (q0c q0i (q0c (q0N q1c q0T (q2g q7t rfl x.n_str rfl (q0e (q0a 1) q0j))) q0k)))))))) (q0d (q0I (q0t q1m (q0a 0) q0i (nomark _)) (q0d (q0u (DR.de (q0O x.mk23 (j5W x) q0E hr.le rfl x.mC23 x.b23 .nil (λ_=>rfl) rfl (q0c (q0N q1c q0i (q0a 1)) (q0c q0i (q0c q0i q0k))))))) (q0d (q0I (q0t q1m (q0a 0) q0i (nomark _)) (q0d (q0u (DR.de (q0O x.mk22 (j09 x) q0E hr.le rfl x.mC22 x.b19 .nil (λ_=>rfl) rfl (q0c q0T (q0c (DF.de (q0y q0j)) q0k)))))) (q0d (q0I (q0t q1m (q0a 0) q0i (nomark _)) (q0d (q0u (DR.de (q0O x.mk20 (j0K x) q0E hr.le rfl x.mC20 x.b15 .nil (λ_=>rfl) rfl (q0c q0i (q0c q0i (q0c q0i (q0c (DF.de (q0y (q0e (q0a 2) q0j))) (q0c (DF.de (q0y (q0e (q0a 3) (q0e (q0a 3) q0j)))) q0k))))))))) (q0d (q0I (q0t q1m (q0a 0) q0i (nomark _)) (q0d (q0u (DR.de (q20 (q0a 4) x.cC20 x.mt16 (by rw [x.fl20];decide) (q9D x) hr.le x.b16 rfl (q0c (q0N q1c q0T (q2g q7t rfl x.n_str rfl (q0e (q0a 1) q0j))) q0k))))) (q0d (q0I (q0t q1m (q0a 0) q0i (nomark _)) (q0d (q0u (DR.de (q0l (j8f x) hr.le rfl x.m9 x.F9.kp x.b9 .nil (λ_=>rfl) rfl (q0c (q0a 4) (q0c (DF.de (q0y (q0e (DR.de (q0O x.mk18 (j11 x) q0E hr.le rfl x.mC18 x.b5 .nil (λ_=>rfl) rfl (q0c q0T (q0c q0i (q0c (q0N q1c q0i (q0a 1)) q0k))))) q0j))) q0k)))))) q0x)))))))))))))))
   q0F)
theorem w2G:q0m ["batch","count"] ["batch","count"] (q0f s_4):=by walk_at "sc"
def j3H (ρ:Ro):Fl:=(q1f 11 (q0o (eJ (q2F "no batch " (q2m q3c (q0g 0) (q2F " among " (q2m q3c (q0g 1) jN0))))) q0G)) ρ
def j7y (ρ:Ro):Fl:=(sIf (q2i (tCh qLe qLe (eI 1) (q0g 0) (q0g 1))) j3H Fl.nx) ρ
def F_4:Fn:=fnF 2 j7y
theorem w21 (x:Tx K mg fa fd T):FnOk P w K mg base (CXE T P w) 1 (fa 4) (fd 4) ["batch","count"] (spD T K 2 F_4):=
 have hT:=x.me
 have hT0:=q0n x.me
 q1j x.me x.F4 w2G λcdv A outer s H E hr=>
  (q0d (q0I (q1y (q1p q1N q1N q0i (q0a 0) (q0a 1))) (q0d (q0R (c:=11) rfl x.xc11 rfl x.mC11 (q0e (q1h (q01 (q08 (q0a 0) (q01 (q08 (q0a 1) q1z))))) q0j) hsh1)) q0x))
theorem j9i:q0m ["bakery","orders"] ["bakery","orders"] (q0f j8G):=by walk_at "sc"
def j3z (ρ:Ro):Fl:=(q2B (rC 2 w0q (gSh (q0g 1) (gSh (rD (rC 1 F_7 (gSh (q0g 0) gN0))) gN0)))) ρ
def j6L (ρ:Ro):Fl:=((q0V (rD (rC 2 F_9 (gSh (q0g 0) (gSh (q0g 1) gN0))))) ρ).bind j3z
def j2w:Fn:=fnF 2 j6L
theorem j12 (x:Tx K mg fa fd T):FnOk P w K mg base (CXE T P w) 5 (fa 11) (fd 11) ["bakery","orders"] (spD T K 2 j2w):=
 have hT:=x.me
 have hT0:=q0n x.me
 q1j x.me x.F11 j9i λcdv A outer s H E hr=>
  (q0b (q0u (DR.de (q0l (j8f x) hr.le rfl x.m9 x.F9.kp x.b9 .nil (λ_=>rfl) rfl (q0c (q0a 0) (q0c (q0a 1) q0k)))))
   (q0d (q1s (q0l (j7j x) hr.le rfl x.m10 x.F10.kp x.b10 .nil (λ_=>rfl) rfl (q0c (q0a 1) (q0c (DR.de (q0l (w1H x) hr.le rfl x.m7 x.F7.kp x.b7 .nil (λ_=>rfl) rfl (q0c (q0a 0) q0k))) q0k))))))
theorem j9N:q0m ["self"] ["self"] (q0f j8k):=by walk_at "sc"
def j6Y (ρ:Ro):Fl:=(q3u (eCB j9y (q0o (q1r (q2C (q2z (q0X [(22,1)] (q0g 0))) [] (e2 (λa b=>bD false (eqS a b)) (q0X [(21,3)] (q0g 0)) (eS "oven")))) q0G))) ρ
def j74:Fn:=fnF 1 j6Y
theorem j1X (x:Tx K mg fa fd T):FnOk P w K mg base (CXE T P w) 1 (fa 22) (fd 22) ["self"] (spD T K 1 j74):=
 have hT:=x.me
 have hT0:=q0n x.me
 q1j x.me x.F22 j9N λcdv A outer s H E hr=>
  (q0d (q1a (q0s (j7A rfl) rfl x.n_any rfl (q0e (DF.de (q2b hT0 rfl (q4r (q0q (q0a 0) (fo9 x))) cap0 (λcl C s₀ H₀ ex=>(q4s q1m (q0q (q0a 0) (fo11 x)) q0T (nomark _))))) q0j))))
theorem j9z:q0m ["bakery","bread","run"] ["bakery","bread","run"] (q0f j8w):=by walk_at "sc"
def j5D (ρ:Ro):Fl:=(sIf (q6a (q2i (q8L (rD (q3q 22 j74 (q0g 1))))) (tNe (q0X [(24,2),(25,5)] (q0g 2)) (eI 0))) q2l Fl.nx) ρ
def j4i (ρ:Ro):Fl:=((sIf (q6a (q8L (rD (q3q 22 j74 (q0g 1)))) (q2i (tCh qLe qLe (eI 1) (q0X [(24,2),(25,5)] (q0g 2)) (eCB q2E (q0o (q0X [(20,3)] (q0g 0)) q0G))))) q2l Fl.nx) ρ).bind j5D
def j5t (ρ:Ro):Fl:=((sIf (tNe (eCB q2E (q0o (q0X [(24,1)] (q0g 2)) q0G)) (eCB q2E (q0o (q0X [(22,1)] (q0g 1)) q0G))) q2l Fl.nx) ρ).bind j4i
def w2j:Fn:=fnF 3 j5t
theorem j9T (x:Tx K mg fa fd T):FnOk P w K mg base (CXE T P w) 2 (fa 32) (fd 32) ["bakery","bread","run"] (spD T K 3 w2j):=
 have hT:=x.me
 have hT0:=q0n x.me
 q1j x.me x.F32 j9z λcdv A outer s H E hr=>
  (q0b (q0I (q0t q2y (q0s q02 rfl x.n_len rfl (q0e (q0q (q0a 2) (fo8 x)) q0j)) (q0s q02 rfl x.n_len rfl (q0e (q0q (q0a 1) (fo9 x)) q0j)) (nomark _)) q0F q0x)
   (q0b (q0I (DW.dt (q4c (q1t (DR.de (q2f (q0a 1) x.cC22 x.mt22 (by rw [x.fl22];decide) (j1X x) hr.le x.b22 rfl))) (q24 (q1y (q1p q1N q1N q0i (q0q (q0a 2) (fo10 x)) (q0s q02 rfl x.n_len rfl (q0e (q0q (q0a 0) (fo6 x)) q0j))))))) q0F q0x)
   (q0d (q0I (DW.dt (q4c (q1y (q1t (DR.de (q2f (q0a 1) x.cC22 x.mt22 (by rw [x.fl22];decide) (j1X x) hr.le x.b22 rfl)))) (q24 (q0t q2y (q0q (q0a 2) (fo10 x)) q0i (nomark _))))) q0F q0x))))
theorem w0a:q0m ["bakery","orders","batch"] ["bakery","orders","batch"] (q0f j7G):=by walk_at "sc"
def j2D (ρ:Ro):Fl:=(q2B (q6D (n:=2) 20 j6H (q0g 0) (gSh (q0X [(18,0)] (eIx (q0g 1) (q5Y (q0X [(19,0)] (q0g 2)) (eI 1)))) gN0))) ρ
def j7I:Fn:=fnF 3 j2D
theorem j2a (x:Tx K mg fa fd T):FnOk P w K mg base (CXE T P w) 2 (fa 34) (fd 34) ["bakery","orders","batch"] (spD T K 3 j7I):=
 have hT:=x.me
 have hT0:=q0n x.me
 q1j x.me x.F34 w0a λcdv A outer s H E hr=>
  (q0d (q1s (q20 (q0a 0) x.cC20 x.mt16 (by rw [x.fl20];decide) (q9D x) hr.le x.b16 rfl (q0c (q0q (q1S (q0a 1) (q0N q1u (q0q (q0a 2) (fo12 x)) q0i)) (fo3 x)) q0k))))
theorem q8S:q0m ["bakery","orders","plan","batches","batch","run"] ["bakery","orders","plan"] (q0f j8b):=by walk_at "sc"
def j4I (ρ:Ro):Fl:=(q1f 10 (q0o (eS "the plan has another number of runs than there are batches") q0G)) ρ
def j3T (ρ:Ro):Fl:=(q0V (rD (rC 3 w2j (gSh (q0g 0) (gSh (rD (rC 3 j7I (gSh (q0g 0) (gSh (q0g 1) (gSh (q0g 4) gN0))))) (gSh (q0g 5) gN0)))))) ρ
def j3i (ρ:Ro):Fl:=(q3u (q0g 3)) ρ
def j5q (ρ:Ro):Fl:=((q2G (j2u (q1n (q0g 3)) (j76 2)) (q9G [4,5]) j3T) ρ).bind j3i
def j3o (ρ:Ro):Fl:=((sIf (tNe (j7O (j2g 2)) (eCB q2E (q0o (q0g 3) q0G))) j4I Fl.nx) ρ).bind j5q
def j2S (ρ:Ro):Fl:=((q1i 3 (rD (rC 2 j2w (gSh (q0g 0) (gSh (q0g 1) gN0))))) ρ).bind j3o
def j5g:Fn:=fnF 6 j2S
theorem j1i (x:Tx K mg fa fd T):FnOk P w K mg base (CXE T P w) 6 (fa 33) (fd 33) ["bakery","orders","plan"] (spD T K 3 j5g):=
 have hT:=x.me
 have hT0:=q0n x.me
 q1j x.me x.F33 q8S λcdv A outer s H E hr=>
  (q0b (q0B 3 q8S.nd (DR.de (q0l (j12 x) hr.le rfl x.m11 x.F11.kp x.b11 .nil (λ_=>rfl) rfl (q0c (q0a 0) (q0c (q0a 1) q0k)))))
   (q0b (q0I (q0t q2y (q4X rfl x.n_len (q33 2)) (q0s q02 rfl x.n_len rfl (q0e (q0a 3) q0j)) (nomark _)) (q0d (q0R (c:=10) rfl x.xc10 rfl x.mC10 (q0e q0T q0j) hsh1)) q0x)
   (q0b (q0P rfl (q6N rfl x.n_zip (DE.dp (q0a 3)) (q90 2)) (q2x rfl (q0U 4 q8S.nd (q0U 5 q8S.nd q1U))) (q0d (q0u (DR.de (q0l (j9T x) hr.le rfl x.m32 x.F32.kp x.b32 .nil (λ_=>rfl) rfl (q0c (q0a 0) (q0c (DR.de (q0l (j2a x) hr.le rfl x.m34 x.F34.kp x.b34 .nil (λ_=>rfl) rfl (q0c (q0a 0) (q0c (q0a 1) (q0c (q0a 4) q0k))))) (q0c (q0a 5) q0k))))))))
   (q0d (q1a (q0a 3))))))
theorem j89:q0m ["bakery","orders","plan","batch","minutes","run","changed"] ["bakery","orders","plan","batch","minutes"] (q0f j8x):=by walk_at "sc"
def j0b (ρ:Ro):Fl:=((q0V (rD (rC 2 F_4 (gSh (q0g 3) (gSh (eCB q2E (q0o (rD (rC 3 j5g (gSh (q0g 0) (gSh (q0g 1) (gSh (q0g 2) gN0))))) q0G)) gN0))))) ρ).bind q2l
def j71:Fn:=fnF 7 j0b
theorem j23 (x:Tx K mg fa fd T):FnOk P w K mg base (CXE T P w) 7 (fa 47) (fd 47) ["bakery","orders","plan","batch","minutes"] (spD T K 5 j71):=
 have hT:=x.me
 have hT0:=q0n x.me
 q1j x.me x.F47 j89 λcdv A outer s H E hr=>
  (q0b (q0u (DR.de (q0l (w21 x) hr.le rfl x.m4 x.F4.kp x.b4 .nil (λ_=>rfl) rfl (q0c (q0a 3) (q0c (q0s q02 rfl x.n_len rfl (q0e (DR.de (q0l (j1i x) hr.le rfl x.m33 x.F33.kp x.b33 .nil (λ_=>rfl) rfl (q0c (q0a 0) (q0c (q0a 1) (q0c (q0a 2) q0k))))) q0j)) q0k)))))
   q0F)
theorem q7g:q0m ["self","row","minute","length"] ["self"] (q0f j7T):=by walk_at "sc"
def j6k (ρ:Ro):Fl:=(j8Y 2 (q0g 3)) ρ
def j62 (ρ:Ro):Fl:=((q91 1 (j2z (q0o (q0g 2) (q0o (q3Y (q0g 2) (q0g 3)) q0G)))) ρ).bind j6k
def j2V (ρ:Ro):Fl:=(q2W 1) ρ
def j3P (ρ:Ro):Fl:=((q2G (q2z (q0X [(24,1)] (q0g 0))) (q4G 3) j62) ρ).bind j2V
def j6B (ρ:Ro):Fl:=((q1i 2 (q0X [(24,0),(25,2)] (q0g 0))) ρ).bind j3P
def j3j (ρ:Ro):Fl:=((q19 1 (fFr (q0L q0G))) ρ).bind j6B
def w1Q:Fn:=fnF 4 j3j
theorem w0d (x:Tx K mg fa fd T):FnOk P w K mg base (CXE T P w) 1 (fa 30) (fd 30) ["self"] (spD T K 1 w1Q):=
 have hT:=x.me
 have hT0:=q0n x.me
 q1j x.me x.F30 q7g λcdv A outer s H E hr=>
  (q0b (q1b 1 q7g.nd (DF.dr (q0y q0j)))
   (q0b (q0B 2 q7g.nd (q0q (q0a 0) (fo13 x)))
   (q0b (q0P rfl (q4r (q0q (q0a 0) (fo8 x))) (q07 3 q7g.nd) (q0b (q3j 1 (q4q (q0e (q0a 2) (q0e (q0N q1c (q0a 2) (q0a 3)) q0j))))
   (q0d (j2M 2 q7g.nd (q0a 3)))))
   (q0d (q1E 1)))))
theorem j9a:q0m ["self","batch","stage","begin","until","loaves","oven"] ["self","batch","stage","begin","until","loaves","oven"] (q0f j8u):=by walk_at "sc"
def j4Z (ρ:Ro):Fl:=(q0J 25 5 (q0g 6)) ρ
def j3J (ρ:Ro):Fl:=((q0J 25 4 (q0g 5)) ρ).bind j4Z
def j3O (ρ:Ro):Fl:=((q0J 25 3 (q0g 4)) ρ).bind j3J
def j5Q (ρ:Ro):Fl:=((q0J 25 2 (q0g 3)) ρ).bind j3O
def j36 (ρ:Ro):Fl:=((q0J 25 1 (q0g 2)) ρ).bind j5Q
def j6R (ρ:Ro):Fl:=((q0J 25 0 (q0g 1)) ρ).bind j36
def w1V:Fn:=q2s 7 25 6 j6R
theorem j9h (x:Tx K mg fa fd T):FnOk P w K mg base (CXE T P w) 1 (fa 31) (fd 31) ["self","batch","stage","begin","until","loaves","oven"] (spI T K 25 7 w1V):=
 have hT0:=q0n x.me
 q9a x.me (by rw [x.fl25];rfl) (q2S x.F31) j9a λy cdv A outer s H E hr=>
  (q0b (q0M (c:=25) 0 x.cC25 x.na25_batch (flA x.fl25) (flN x.fl25) (by decide) (q0a 1))
   (q0b (q0M (c:=25) 1 x.cC25 x.na25_stage (flA x.fl25) (flN x.fl25) (by decide) (q0a 2))
   (q0b (q0M (c:=25) 2 x.cC25 x.na25_begin (flA x.fl25) (flN x.fl25) (by decide) (q0a 3))
   (q0b (q0M (c:=25) 3 x.cC25 x.na25_until (flA x.fl25) (flN x.fl25) (by decide) (q0a 4))
   (q0b (q0M (c:=25) 4 x.cC25 x.na25_loaves (flA x.fl25) (flN x.fl25) (by decide) (q0a 5))
   (q0d (q0M (c:=25) 5 x.cC25 x.na25_oven (flA x.fl25) (flN x.fl25) (by decide) (q0a 6))))))))
theorem q4j:q0m ["bakery","orders","plan","row","number","batch","run","stage","span","oven"] ["bakery","orders","plan"] (q0f j77):=by walk_at "sc"
def j38 (ρ:Ro):Fl:=(q91 3 (rD (rC 6 w1V (gSh (q0g 4) (gSh (q0g 7) (gSh (eIx (q0g 8) (eI 0)) (gSh (eIx (q0g 8) (eI 1)) (gSh (q0X [(18,1),(19,2),(25,4)] (q0g 5)) (gSh (q0g 9) gN0))))))))) ρ
def j6T (ρ:Ro):Fl:=((q1i 9 (eIf (tEq (q0X [(21,3)] (q0g 7)) (eS "oven")) (q0X [(24,2),(25,5)] (q0g 6)) (eI 0))) ρ).bind j38
def j6U (ρ:Ro):Fl:=(q2G (j2u (q2z (q0X [(22,1)] (rD (rC 3 j7I (gSh (q0g 0) (gSh (q0g 1) (gSh (q0g 5) gN0))))))) (q1n (rD (q3q 24 w1Q (q0g 6))))) (q9G [7,8]) j6T) ρ
def j2X (ρ:Ro):Fl:=((q1i 6 (w1e (j2g 2) (q5Y (q0g 4) (eI 1)))) ρ).bind j6U
def j5A (ρ:Ro):Fl:=(q2W 3) ρ
def j6p (ρ:Ro):Fl:=((q2G (j1N (q1n (rD (rC 3 j5g (gSh (q0g 0) (gSh (q0g 1) (gBo 2 gN0))))))) (q9G [4,5]) j2X) ρ).bind j5A
def j4U (ρ:Ro):Fl:=((q19 3 (fFr (q0L q0G))) ρ).bind j6p
def j6b:Fn:=fnF 10 j4U
theorem j5F (x:Tx K mg fa fd T):FnOk P w K mg base (CXE T P w) 7 (fa 35) (fd 35) ["bakery","orders","plan"] (spD T K 3 j6b):=
 have hT:=x.me
 have hT0:=q0n x.me
 q1j x.me x.F35 q4j λcdv A outer s H E hr=>
  (q0b (q1b 3 q4j.nd (DF.dr (q0y q0j)))
   (q0b (q0P rfl (q5h rfl x.n_enumerate (DE.dp (DR.de (q0l (j1i x) hr.le rfl x.m33 x.F33.kp x.b33 .nil (λ_=>rfl) rfl (q0c (q0a 0) (q0c (q0a 1) (q8T 2 q0k))))))) (q2x rfl (q0U 4 q4j.nd (q0U 5 q4j.nd q1U))) (q0b (q0B 6 q4j.nd (j3R (q33 2) (q0N q1u (q0a 4) q0i)))
   (q0d (q0P rfl (j2k rfl x.n_zip (q0q (DR.de (q0l (j2a x) hr.le rfl x.m34 x.F34.kp x.b34 .nil (λ_=>rfl) rfl (q0c (q0a 0) (q0c (q0a 1) (q0c (q0a 5) q0k))))) (fo9 x)) (DE.dp (DR.de (q2f (q0a 6) x.cC24 x.mt30 (by rw [x.fl24];decide) (w0d x) hr.le x.b30 rfl)))) (q2x rfl (q0U 7 q4j.nd (q0U 8 q4j.nd q1U))) (q0b (q0B 9 q4j.nd (w0z (q0t q1m (q0q (q0a 7) (fo11 x)) q0T (nomark _)) (q0q (q0a 6) (fo10 x)) q0i))
   (q0d (q3j 3 (DR.de (q0O x.mk25 (j9h x) q0E hr.le rfl x.mC25 x.b31 .nil (λ_=>rfl) rfl (q0c (q0a 4) (q0c (q0a 7) (q0c (q1S (q0a 8) q0i) (q0c (q1S (q0a 8) q0i) (q0c (q0q (q0a 5) (fo0 x)) (q0c (q0a 9) q0k)))))))))))))))
   (q0d (q1E 3))))
theorem j92:q0m ["self"] ["self"] (q0f j8I):=by walk_at "sc"
def j4e (ρ:Ro):Fl:=(q3u (q3Y (q0X [(24,0),(25,2)] (q0g 0)) (eCB j1B (q0o (q0X [(24,1)] (q0g 0)) q0G)))) ρ
def w0W:Fn:=fnF 1 j4e
theorem w0r (x:Tx K mg fa fd T):FnOk P w K mg base (CXE T P w) 1 (fa 29) (fd 29) ["self"] (spD T K 1 w0W):=
 have hT:=x.me
 have hT0:=q0n x.me
 q1j x.me x.F29 j92 λcdv A outer s H E hr=>
  (q0d (q1a (q0N q1c (q0q (q0a 0) (fo13 x)) (q0s (j1H rfl) rfl x.n_sum rfl (q0e (q0q (q0a 0) (fo8 x)) q0j)))))
theorem q7V:q0m ["bakery","orders","plan","row","batch","run","due"] ["bakery","orders","plan"] (q0f j7D):=by walk_at "sc"
def j2C (ρ:Ro):Fl:=(q91 3 (j2z (q0o (q0g 6) (q0o (eS "door") (q0o (q0X [(19,0)] (q0g 4)) q0G))))) ρ
def j4B (ρ:Ro):Fl:=(sIf (tB2 qGt (rD (q3q 24 w0W (q0g 5))) (q0g 6)) j2C Fl.nx) ρ
def j3N (ρ:Ro):Fl:=((q1i 6 (q0X [(18,2)] (eIx (q0g 1) (q5Y (q0X [(19,0)] (q0g 4)) (eI 1))))) ρ).bind j4B
def j3s (ρ:Ro):Fl:=(q2W 3) ρ
def j5u (ρ:Ro):Fl:=((q2G (j2u (q1n (rD (rC 3 j5g (gSh (q0g 0) (gSh (q0g 1) (gBo 2 gN0)))))) (j76 2)) (q9G [4,5]) j3N) ρ).bind j3s
def j6M (ρ:Ro):Fl:=((q19 3 (fFr (q0L q0G))) ρ).bind j5u
def w0I:Fn:=fnF 7 j6M
theorem w0e (x:Tx K mg fa fd T):FnOk P w K mg base (CXE T P w) 7 (fa 41) (fd 41) ["bakery","orders","plan"] (spD T K 3 w0I):=
 have hT:=x.me
 have hT0:=q0n x.me
 q1j x.me x.F41 q7V λcdv A outer s H E hr=>
  (q0b (q1b 3 q7V.nd (DF.dr (q0y q0j)))
   (q0b (q0P rfl (q6N rfl x.n_zip (DE.dp (DR.de (q0l (j1i x) hr.le rfl x.m33 x.F33.kp x.b33 .nil (λ_=>rfl) rfl (q0c (q0a 0) (q0c (q0a 1) (q8T 2 q0k)))))) (q90 2)) (q2x rfl (q0U 4 q7V.nd (q0U 5 q7V.nd q1U))) (q0b (q0B 6 q7V.nd (q0q (q1S (q0a 1) (q0N q1u (q0q (q0a 4) (fo12 x)) q0i)) (fo5 x)))
   (q0d (q0I (q0t q3g (DR.de (q2f (q0a 5) x.cC24 x.mt29 (by rw [x.fl24];decide) (w0r x) hr.le x.b29 rfl)) (q0a 6) (nomark _)) (q0d (q3j 3 (q4q (q0e (q0a 6) (q0e q0T (q0e (q0q (q0a 4) (fo12 x)) q0j)))))) q0x))))
   (q0d (q1E 3))))
theorem q8J:q0m ["parts","row","part","length"] ["parts"] (q0f j8B):=by walk_at "sc"
def j4l (ρ:Ro):Fl:=(sIf (tB2 qGt (q0g 3) (q0X [(21,2)] (q0X [(25,1)] (q0g 2)))) q2l Fl.nx) ρ
def j2A (ρ:Ro):Fl:=((sIf (tB2 qLt (q0g 3) (q0X [(21,1)] (q0X [(25,1)] (q0g 2)))) q2l Fl.nx) ρ).bind j4l
def j5s (ρ:Ro):Fl:=((q1i 3 (q5Y (q0X [(25,3)] (q0g 2)) (q0X [(24,0),(25,2)] (q0g 2)))) ρ).bind j2A
def j65 (ρ:Ro):Fl:=(q2W 1) ρ
def j4V (ρ:Ro):Fl:=((q2G (q1n (q0g 0)) (q4G 2) j5s) ρ).bind j65
def j3y (ρ:Ro):Fl:=((q19 1 (fFr (q0L q0G))) ρ).bind j4V
def j9m:Fn:=fnF 4 j3y
theorem j9M (x:Tx K mg fa fd T):FnOk P w K mg base (CXE T P w) 1 (fa 42) (fd 42) ["parts"] (spD T K 1 j9m):=
 have hT:=x.me
 have hT0:=q0n x.me
 q1j x.me x.F42 q8J λcdv A outer s H E hr=>
  (q0b (q1b 1 q8J.nd (DF.dr (q0y q0j)))
   (q0b (q0P rfl (q0Q (DE.dp (q0a 0))) (q07 2 q8J.nd) (q0b (q0B 3 q8J.nd (q0N q1u (q0q (q0a 2) (fo14 x)) (q0q (q0a 2) (fo13 x))))
   (q0b (q0I (q0t q36 (q0a 3) (q0q (q0q (q0a 2) (fo15 x)) (fo16 x)) (nomark _)) q0F q0x)
   (q0d (q0I (q0t q3g (q0a 3) (q0q (q0q (q0a 2) (fo15 x)) (fo17 x)) (nomark _)) q0F q0x)))))
   (q0d (q1E 1))))
theorem w0H:q0m ["parts"] ["parts"] (q0f j8M):=by walk_at "sc"
def j4j (ρ:Ro):Fl:=(q2B (fFr (j0p (q2C (q1n (q0g 0)) [] (q0X [(24,0),(25,2)] (q0g 0)))))) ρ
def w0o:Fn:=fnF 1 j4j
theorem j3b (x:Tx K mg fa fd T):FnOk P w K mg base (CXE T P w) 1 (fa 43) (fd 43) ["parts"] (spD T K 1 w0o):=
 have hT:=x.me
 have hT0:=q0n x.me
 q1j x.me x.F43 w0H λcdv A outer s H E hr=>
  (q0d (q1s (DF.dr (q6c rfl rfl x.n_sorted rfl x.n_set (DF.dl (q2b hT0 rfl (q0Q (DE.dp (q0a 0))) cap0 (λcl C s₀ H₀ ex=>(q0q (q0a 0) (fo13 x)))))))))
theorem w0b:q0m ["parts","minute"] ["parts","minute"] (q0f j8K):=by walk_at "sc"
def j3m (ρ:Ro):Fl:=(q2B (fFr (q1T (q1n (q0g 0)) [1] (tCh qLe qLt (q0X [(24,0),(25,2)] (q0g 0)) (q0g 1) (q0X [(25,3)] (q0g 0))) (q0g 0)))) ρ
def j8O:Fn:=fnF 2 j3m
theorem j28 (x:Tx K mg fa fd T):FnOk P w K mg base (CXE T P w) 1 (fa 36) (fd 36) ["parts","minute"] (spD T K 2 j8O):=
 have hT:=x.me
 have hT0:=q0n x.me
 q1j x.me x.F36 w0b λcdv A outer s H E hr=>
  (q0d (q1s (DF.dr (q2I hT0 rfl (q0Q (DE.dp (q0a 0))) (q7f ["minute"] [1] (hc:=(q1o rfl rfl rfl q1J))) (λcl C s₀ H₀ ex=>(q0a 0)) (λcl C s₀ H₀ ex=>(q1p q1N q36 (q0q (q0a 0) (fo13 x)) (q0a 1) (q0q (q0a 0) (fo14 x))))))))
theorem j93:q0m ["parts","want"] ["parts","want"] (q0f j8s):=by walk_at "sc"
def j57 (ρ:Ro):Fl:=(q3u (j7O (q1T (q1n (q0g 0)) [1] (tEq (q0X [(21,3)] (q0X [(25,1)] (q0g 0))) (q0g 1)) (q0g 0)))) ρ
def w0J:Fn:=fnF 2 j57
theorem j4H (x:Tx K mg fa fd T):FnOk P w K mg base (CXE T P w) 1 (fa 37) (fd 37) ["parts","want"] (spD T K 2 w0J):=
 have hT:=x.me
 have hT0:=q0n x.me
 q1j x.me x.F37 j93 λcdv A outer s H E hr=>
  (q0d (q1a (q4X rfl x.n_len (DF.dl (q2I hT0 rfl (q0Q (DE.dp (q0a 0))) (q7f ["want"] [1] (hc:=(q1o rfl rfl rfl q1J))) (λcl C s₀ H₀ ex=>(q0a 0)) (λcl C s₀ H₀ ex=>(q0t q1m (q0q (q0q (q0a 0) (fo15 x)) (fo11 x)) (q0a 1) (nomark _))))))))
theorem j9Q:q0m ["parts","oven"] ["parts","oven"] (q0f j8c):=by walk_at "sc"
def j7d (ρ:Ro):Fl:=(q3u (eCB j7X (q0o (q1r (q1T (q1n (q0g 0)) [1] (tEq (q0X [(24,2),(25,5)] (q0g 0)) (q0g 1)) (q0X [(18,1),(19,2),(25,4)] (q0g 0)))) q0G))) ρ
def w1C:Fn:=fnF 2 j7d
theorem w0O (x:Tx K mg fa fd T):FnOk P w K mg base (CXE T P w) 1 (fa 38) (fd 38) ["parts","oven"] (spD T K 2 w1C):=
 have hT:=x.me
 have hT0:=q0n x.me
 q1j x.me x.F38 j9Q λcdv A outer s H E hr=>
  (q0d (q1a (q0s (j0w rfl) rfl x.n_sum rfl (q0e (DF.de (q2I hT0 rfl (q0Q (DE.dp (q0a 0))) (q7f ["oven"] [1] (hc:=(q1o rfl rfl rfl q1J))) (λcl C s₀ H₀ ex=>(q0q (q0a 0) (fo0 x))) (λcl C s₀ H₀ ex=>(q0t q1m (q0q (q0a 0) (fo10 x)) (q0a 1) (nomark _))))) q0j))))
theorem q54:q0m ["bakery","parts","row","minute","now","number","oven"] ["bakery","parts"] (q0f j8t):=by walk_at "sc"
def j4S (ρ:Ro):Fl:=(sIf (tB2 qGt (rD (rC 2 w1C (gSh (q0g 4) (gSh (q0g 5) gN0)))) (q0X [(23,0)] (q0g 6))) q2l Fl.nx) ρ
def j7u (ρ:Ro):Fl:=(q2G (j1N (q2z (q0X [(20,3)] (q0g 0)))) (q9G [5,6]) j4S) ρ
def j6f (ρ:Ro):Fl:=((sIf (tB2 qGt (rD (rC 2 w0J (gSh (q0g 4) (gSh (eS "bench") gN0)))) (q0X [(20,2)] (q0g 0))) q2l Fl.nx) ρ).bind j7u
def j4q (ρ:Ro):Fl:=((sIf (tB2 qGt (rD (rC 2 w0J (gSh (q0g 4) (gSh (eS "hands") gN0)))) (q0X [(20,1)] (q0g 0))) q2l Fl.nx) ρ).bind j6f
def j2B (ρ:Ro):Fl:=((q1i 4 (rD (rC 2 j8O (gSh (q0g 1) (gSh (q0g 3) gN0))))) ρ).bind j4q
def j4b (ρ:Ro):Fl:=(q2W 2) ρ
def j4K (ρ:Ro):Fl:=((q2G (q1n (rD (rC 1 w0o (gSh (q0g 1) gN0)))) (q4G 3) j2B) ρ).bind j4b
def j3E (ρ:Ro):Fl:=((q19 2 (fFr (q0L q0G))) ρ).bind j4K
def j9v:Fn:=fnF 7 j3E
theorem j9P (x:Tx K mg fa fd T):FnOk P w K mg base (CXE T P w) 2 (fa 44) (fd 44) ["bakery","parts"] (spD T K 2 j9v):=
 have hT:=x.me
 have hT0:=q0n x.me
 q1j x.me x.F44 q54 λcdv A outer s H E hr=>
  (q0b (q1b 2 q54.nd (DF.dr (q0y q0j)))
   (q0b (q0P rfl (q0Q (DE.dp (DR.de (q0l (j3b x) hr.le rfl x.m43 x.F43.kp x.b43 .nil (λ_=>rfl) rfl (q0c (q0a 1) q0k))))) (q07 3 q54.nd) (q0b (q0B 4 q54.nd (DR.de (q0l (j28 x) hr.le rfl x.m36 x.F36.kp x.b36 .nil (λ_=>rfl) rfl (q0c (q0a 1) (q0c (q0a 3) q0k)))))
   (q0b (q0I (q0t q3g (DR.de (q0l (j4H x) hr.le rfl x.m37 x.F37.kp x.b37 .nil (λ_=>rfl) rfl (q0c (q0a 4) (q0c q0T q0k)))) (q0q (q0a 0) (fo18 x)) (nomark _)) q0F q0x)
   (q0b (q0I (q0t q3g (DR.de (q0l (j4H x) hr.le rfl x.m37 x.F37.kp x.b37 .nil (λ_=>rfl) rfl (q0c (q0a 4) (q0c q0T q0k)))) (q0q (q0a 0) (fo19 x)) (nomark _)) q0F q0x)
   (q0d (q0P rfl (q3B rfl x.n_enumerate (q0q (q0a 0) (fo6 x))) (q2x rfl (q0U 5 q54.nd (q0U 6 q54.nd q1U))) (q0d (q0I (q0t q3g (DR.de (q0l (w0O x) hr.le rfl x.m38 x.F38.kp x.b38 .nil (λ_=>rfl) rfl (q0c (q0a 4) (q0c (q0a 5) q0k)))) (q0q (q0a 6) (fo7 x)) (nomark _)) q0F q0x))))))))
   (q0d (q1E 2))))
theorem j9F:q0m ["one","other","rate"] ["one","other","rate"] (q0f j7Y):=by walk_at "sc"
def j45 (ρ:Ro):Fl:=(q3u (w1d (q5Y (q3Y (eCB j9f (q0o (q5Y (q0g 0) (q0g 1)) q0G)) (q0g 2)) (eI 1)) (q0g 2))) ρ
def w18:Fn:=fnF 3 j45
theorem j94 (x:Tx K mg fa fd T):FnOk P w K mg base (CXE T P w) 1 (fa 24) (fd 24) ["one","other","rate"] (spD T K 3 w18):=
 have hT:=x.me
 have hT0:=q0n x.me
 q1j x.me x.F24 j9F λcdv A outer s H E hr=>
  (q0d (q1a (q0N q8u (q0N q1u (q0N q1c (q0s j3w rfl x.n_abs rfl (q0e (q0N q1u (q0a 0) (q0a 1)) q0j)) (q0a 2)) q0i) (q0a 2))))
theorem q8F:q0m ["oven","baking","minute","wanted","before","last"] ["oven","baking","minute"] (q0f j8m):=by walk_at "sc"
def j69 (ρ:Ro):Fl:=(q3u (e2 qLt (q5Y (q0g 2) (eIx (q0g 5) (eI 0))) (rD (rC 3 w18 (gSh (eIx (q0g 5) (eI 1)) (gSh (eIx (q0g 3) (eI 0)) (gSh (q0X [(23,1)] (q0g 0)) gN0))))))) ρ
def j6P (ρ:Ro):Fl:=((q1i 5 (j1a (q1n (q0g 4)) (j2z (q0o (eI 0) (q0o (q0X [(21,4),(23,2)] (q0g 0)) q0G))))) ρ).bind j69
def j31 (ρ:Ro):Fl:=((q1i 4 (q1r (q1T (q1n (q0g 1)) [2] (tB2 qLt (q0X [(24,0),(25,2)] (q0g 0)) (q0g 1)) (j2z (q0o (eCB j53 (q0o (q0X [(25,3)] (q0g 0)) (q0o (q0g 1) q0G))) (q0o (q0X [(21,4),(23,2)] (q0X [(25,1)] (q0g 0))) q0G)))))) ρ).bind j6P
def j40 (ρ:Ro):Fl:=((sIf (tNe (eCB q48 (q0o (q0g 3) q0G)) (eCB q8E (q0o (q0g 3) q0G))) q2l Fl.nx) ρ).bind j31
def j3Q (ρ:Ro):Fl:=((q1i 3 (q1r (q2C (q1n (rD (rC 2 j8O (gSh (q0g 1) (gSh (q0g 2) gN0))))) [] (q0X [(21,4),(23,2)] (q0X [(25,1)] (q0g 0)))))) ρ).bind j40
def w2B:Fn:=fnF 6 j3Q
theorem j9X (x:Tx K mg fa fd T):FnOk P w K mg base (CXE T P w) 2 (fa 46) (fd 46) ["oven","baking","minute"] (spD T K 3 w2B):=
 have hT:=x.me
 have hT0:=q0n x.me
 q1j x.me x.F46 q8F λcdv A outer s H E hr=>
  (q0b (q5l 3 hT0 rfl q8F.nd (q0Q (DE.dp (DR.de (q0l (j28 x) hr.le rfl x.m36 x.F36.kp x.b36 .nil (λ_=>rfl) rfl (q0c (q0a 1) (q0c (q0a 2) q0k)))))) cap0 (λcl C s₀ H₀ ex=>(q0q (q0q (q0a 0) (fo15 x)) (fo20 x))))
   (q0b (q0I (q0t q2y (q0s (q75 rfl) rfl x.n_min rfl (q0e (q0a 3) q0j)) (q0s (q6R rfl) rfl x.n_max rfl (q0e (q0a 3) q0j)) (nomark _)) q0F q0x)
   (q0b (q4A 4 hT0 rfl q8F.nd (q0Q (DE.dp (q0a 1))) (q7f ["minute"] [2] (hc:=(q1o rfl rfl rfl q1J))) (λcl C s₀ H₀ ex=>(q4q (q0e (q0s (q8m rfl) rfl x.n_min rfl (q0e (q0q (q0a 0) (fo14 x)) (q0e (q0a 1) q0j))) (q0e (q0q (q0q (q0a 0) (fo15 x)) (fo20 x)) q0j)))) (λcl C s₀ H₀ ex=>(q0t q36 (q0q (q0a 0) (fo13 x)) (q0a 1) (nomark _))))
   (q0b (q0B 5 q8F.nd (q63 rfl rfl x.n_max (DE.dl (q0a 4)) (q4q (q0e q0i (q0e (q0q (q0a 0) (fo20 x)) q0j)))))
   (q0d (q1a (q4s q36 (q0N q1u (q0a 2) (q1S (q0a 5) q0i)) (DR.de (q0l (j94 x) hr.le rfl x.m24 x.F24.kp x.b24 .nil (λ_=>rfl) rfl (q0c (q1S (q0a 5) q0i) (q0c (q1S (q0a 3) q0i) (q0c (q0q (q0a 0) (fo21 x)) q0k))))) (nomark _))))))))
theorem q6w:q0m ["bakery","parts","row","number","oven","baking","minute"] ["bakery","parts"] (q0f j8F):=by walk_at "sc"
def j20 (ρ:Ro):Fl:=(sIf (q8L (rD (rC 3 w2B (gSh (q0g 4) (gSh (q0g 5) (gSh (q0g 6) gN0)))))) q2l Fl.nx) ρ
def j59 (ρ:Ro):Fl:=(q2G (q1n (rD (rC 1 w0o (gSh (q0g 5) gN0)))) (q4G 6) j20) ρ
def j7z (ρ:Ro):Fl:=((q1i 5 (q1r (q1T (q1n (q0g 1)) [3] (q6a (tEq (q0X [(24,2),(25,5)] (q0g 0)) (q0g 1)) (tB2 qLt (q0X [(24,0),(25,2)] (q0g 0)) (q0X [(25,3)] (q0g 0)))) (q0g 0)))) ρ).bind j59
def j48 (ρ:Ro):Fl:=(q2W 2) ρ
def j7t (ρ:Ro):Fl:=((q2G (j1N (q2z (q0X [(20,3)] (q0g 0)))) (q9G [3,4]) j7z) ρ).bind j48
def j2U (ρ:Ro):Fl:=((q19 2 (fFr (q0L q0G))) ρ).bind j7t
def j9l:Fn:=fnF 7 j2U
theorem j9w (x:Tx K mg fa fd T):FnOk P w K mg base (CXE T P w) 3 (fa 45) (fd 45) ["bakery","parts"] (spD T K 2 j9l):=
 have hT:=x.me
 have hT0:=q0n x.me
 q1j x.me x.F45 q6w λcdv A outer s H E hr=>
  (q0b (q1b 2 q6w.nd (DF.dr (q0y q0j)))
   (q0b (q0P rfl (q3B rfl x.n_enumerate (q0q (q0a 0) (fo6 x))) (q2x rfl (q0U 3 q6w.nd (q0U 4 q6w.nd q1U))) (q0b (q4A 5 hT0 rfl q6w.nd (q0Q (DE.dp (q0a 1))) (q7f ["number"] [3] (hc:=(q1o rfl rfl rfl q1J))) (λcl C s₀ H₀ ex=>(q0a 0)) (λcl C s₀ H₀ ex=>(DW.dt (q4c (q0t q1m (q0q (q0a 0) (fo10 x)) (q0a 1) (nomark _)) (q24 (q0t q36 (q0q (q0a 0) (fo13 x)) (q0q (q0a 0) (fo14 x)) (nomark _)))))))
   (q0d (q0P rfl (q0Q (DE.dp (DR.de (q0l (j3b x) hr.le rfl x.m43 x.F43.kp x.b43 .nil (λ_=>rfl) rfl (q0c (q0a 5) q0k))))) (q07 6 q6w.nd) (q0d (q0I (q1t (DR.de (q0l (j9X x) hr.le rfl x.m46 x.F46.kp x.b46 .nil (λ_=>rfl) rfl (q0c (q0a 4) (q0c (q0a 5) (q0c (q0a 6) q0k)))))) q0F q0x))))))
   (q0d (q1E 2))))
theorem j83:q0m ["found"] ["found"] (q0f j8g):=by walk_at "sc"
def j42 (ρ:Ro):Fl:=(q3u (j2z (q0o (eIx (q0g 0) (eI 0)) (q0o (w1g [.str "door",.str "short",.str "long",.str "hands",.str "bench",.str "room",.str "heat"] (eIx (q0g 0) (eI 1))) (q0o (eIx (q0g 0) (eI 2)) q0G))))) ρ
def j9b:Fn:=fnF 1 j42
theorem w0N (x:Tx K mg fa fd T):FnOk P w K mg base (CXE T P w) 1 (fa 39) (fd 39) ["found"] (spD T K 1 j9b):=
 have hT:=x.me
 have hT0:=q0n x.me
 q1j x.me x.F39 j83 λcdv A outer s H E hr=>
  (q0d (q1a (q4q (q0e (q1S (q0a 0) q0i) (q0e (q7Q rfl x.c_FAULTS (q1S (q0a 0) q0i)) (q0e (q1S (q0a 0) q0i) q0j))))))
theorem q81:q0m ["bakery","orders","plan","parts","row"] ["bakery","orders","plan"] (q0f j7S):=by walk_at "sc"
def q5x (ρ:Ro):Fl:=(q3u (j4y j9b (j2g 4) (eC .non))) ρ
def q5r (ρ:Ro):Fl:=((q7F 4 (q8i (q1n (rD (rC 2 j9v (gSh (q0g 0) (gSh (q0g 3) gN0))))) (q1n (rD (rC 2 j9l (gSh (q0g 0) (gSh (q0g 3) gN0))))))) ρ).bind q5x
def q5I (ρ:Ro):Fl:=((q19 4 (fFr (q8i (q1n (rD (rC 3 w0I (gSh (q0g 0) (gSh (q0g 1) (gBo 2 gN0)))))) (q1n (rD (rC 1 j9m (gSh (q0g 3) gN0))))))) ρ).bind q5r
def q7v (ρ:Ro):Fl:=((q1i 3 (rD (rC 3 j6b (gSh (q0g 0) (gSh (q0g 1) (gBo 2 gN0)))))) ρ).bind q5I
def j21:Fn:=fnF 5 q7v
theorem j5G (x:Tx K mg fa fd T):FnOk P w K mg base (CXE T P w) 8 (fa 40) (fd 40) ["bakery","orders","plan"] (spD T K 3 j21):=
 have hT:=x.me
 have hT0:=q0n x.me
 q1j x.me x.F40 q81 λcdv A outer s H E hr=>
  (q0b (q0B 3 q81.nd (DR.de (q0l (j5F x) hr.le rfl x.m35 x.F35.kp x.b35 .nil (λ_=>rfl) rfl (q0c (q0a 0) (q0c (q0a 1) (q8T 2 q0k))))))
   (q0b (q1b 4 q81.nd (DF.dr (q13 (DE.dl (DR.de (q0l (w0e x) hr.le rfl x.m41 x.F41.kp x.b41 .nil (λ_=>rfl) rfl (q0c (q0a 0) (q0c (q0a 1) (q8T 2 q0k)))))) (DE.dl (DR.de (q0l (j9M x) hr.le rfl x.m42 x.F42.kp x.b42 .nil (λ_=>rfl) rfl (q0c (q0a 3) q0k)))))))
   (q0b (q4Z 4 q81.nd (q13 (DE.dl (DR.de (q0l (j9P x) hr.le rfl x.m44 x.F44.kp x.b44 .nil (λ_=>rfl) rfl (q0c (q0a 0) (q0c (q0a 3) q0k))))) (DE.dl (DR.de (q0l (j9w x) hr.le rfl x.m45 x.F45.kp x.b45 .nil (λ_=>rfl) rfl (q0c (q0a 0) (q0c (q0a 3) q0k)))))))
   (q0d (q1a (j2j (w0N x) hr.le rfl rfl x.n_min rfl x.m39 x.b39 rfl (q33 4) q51))))))
theorem j0Q:q0m ["bakery","orders","plan","oven","parts","count"] ["bakery","orders","plan","oven"] (q0f j7C):=by walk_at "sc"
def j0r (ρ:Ro):Fl:=(q1f 12 (q0o (eJ (q2F "no oven " (q2m q3c (q0g 3) (q2F " among " (q2m q3c (q0g 5) jN0))))) q0G)) ρ
def q9Z (ρ:Ro):Fl:=(q1f 14 (q0o (eS "the plan has a fault") q0G)) ρ
def j0F (ρ:Ro):Fl:=((sIf (tB2 (isD true) (rD (rC 3 j21 (gSh (q0g 0) (gSh (q0g 1) (gSh (q0g 2) gN0))))) (eC .non)) q9Z Fl.nx) ρ).bind q2l
def q8v (ρ:Ro):Fl:=((sIf (q2i (tCh qLe qLe (eI 1) (q0g 3) (q0g 5))) j0r Fl.nx) ρ).bind j0F
def q7d (ρ:Ro):Fl:=((q1i 5 (eCB q2E (q0o (q0X [(20,3)] (q0g 0)) q0G))) ρ).bind q8v
def q7l (ρ:Ro):Fl:=((q1i 4 (rD (rC 3 j6b (gSh (q0g 0) (gSh (q0g 1) (gSh (q0g 2) gN0)))))) ρ).bind q7d
def j3G:Fn:=fnF 6 q7l
theorem j4h (x:Tx K mg fa fd T):FnOk P w K mg base (CXE T P w) 9 (fa 48) (fd 48) ["bakery","orders","plan","oven"] (spD T K 4 j3G):=
 have hT:=x.me
 have hT0:=q0n x.me
 q1j x.me x.F48 j0Q λcdv A outer s H E hr=>
  (q0b (q0B 4 j0Q.nd (DR.de (q0l (j5F x) hr.le rfl x.m35 x.F35.kp x.b35 .nil (λ_=>rfl) rfl (q0c (q0a 0) (q0c (q0a 1) (q0c (q0a 2) q0k))))))
   (q0b (q0B 5 j0Q.nd (q0s q02 rfl x.n_len rfl (q0e (q0q (q0a 0) (fo6 x)) q0j)))
   (q0b (q0I (q1y (q1p q1N q1N q0i (q0a 3) (q0a 5))) (q0d (q0R (c:=12) rfl x.xc12 rfl x.mC12 (q0e (q1h (q01 (q08 (q0a 3) (q01 (q08 (q0a 5) q1z))))) q0j) hsh1)) q0x)
   (q0b (q0I (q0t q52 (DR.de (q0l (j5G x) hr.le rfl x.m40 x.F40.kp x.b40 .nil (λ_=>rfl) rfl (q0c (q0a 0) (q0c (q0a 1) (q0c (q0a 2) q0k))))) q51 (nomark _)) (q0d (q0R (c:=14) rfl x.xc14 rfl x.mC14 (q0e q0T q0j) hsh1)) q0x)
   q0F))))
theorem j5a:q0m ["self","number","count"] ["self","number"] (q0f j7M):=by walk_at "sc"
def j0a (ρ:Ro):Fl:=(q1f 13 (q0o (eJ (q2F "no order " (q2m q3c (q0g 1) (q2F " among " (q2m q3c (q0g 2) jN0))))) q0G)) ρ
def j0i (ρ:Ro):Fl:=((sIf (q2i (tCh qLe qLe (eI 1) (q0g 1) (q0g 2))) j0a Fl.nx) ρ).bind q2l
def j0y (ρ:Ro):Fl:=((q1i 2 (eCB q2E (q0o (q0X [(26,1)] (q0g 0)) q0G))) ρ).bind j0i
def w0f:Fn:=fnF 3 j0y
theorem j9r (x:Tx K mg fa fd T):FnOk P w K mg base (CXE T P w) 1 (fa 64) (fd 64) ["self","number"] (spD T K 2 w0f):=
 have hT:=x.me
 have hT0:=q0n x.me
 q1j x.me x.F64 j5a λcdv A outer s H E hr=>
  (q0b (q0B 2 j5a.nd (q0s q02 rfl x.n_len rfl (q0e (q0q (q0a 0) (fo22 x)) q0j)))
   (q0b (q0I (q1y (q1p q1N q1N q0i (q0a 1) (q0a 2))) (q0d (q0R (c:=13) rfl x.xc13 rfl x.mC13 (q0e (q1h (q01 (q08 (q0a 1) (q01 (q08 (q0a 2) q1z))))) q0j) hsh1)) q0x)
   q0F))
theorem q74:q0m ["wanted","row","goal","heat"] ["wanted"] (q0f j8n):=by walk_at "sc"
def j5o (ρ:Ro):Fl:=(q1i 2 (q0g 3)) ρ
def j4d (ρ:Ro):Fl:=(q91 1 (q0g 2)) ρ
def j4R (ρ:Ro):Fl:=((sIf (tNe (q0g 3) (eI (-1))) j5o Fl.nx) ρ).bind j4d
def j7x (ρ:Ro):Fl:=(q2B (fFr (w2x (j2g 1)))) ρ
def j6v (ρ:Ro):Fl:=((q2G (w1B (q1n (q0g 0))) (q4G 3) j4R) ρ).bind j7x
def j58 (ρ:Ro):Fl:=((q1i 2 (eI (-1))) ρ).bind j6v
def j7s (ρ:Ro):Fl:=((q19 1 (fFr (q0L q0G))) ρ).bind j58
def w1u:Fn:=fnF 4 j7s
theorem j9q (x:Tx K mg fa fd T):FnOk P w K mg base (CXE T P w) 1 (fa 25) (fd 25) ["wanted"] (spD T K 1 w1u):=
 have hT:=x.me
 have hT0:=q0n x.me
 q1j x.me x.F25 q74 λcdv A outer s H E hr=>
  (q0b (q1b 1 q74.nd (DF.dr (q0y q0j)))
   (q0b (q0B 2 q74.nd (q0v rfl x.c_NOTHING_BAKES))
   (q0b (q0P rfl (j3A rfl x.n_reversed (DE.dp (q0a 0))) (q07 3 q74.nd) (q0b (q0I (q0t q2y (q0a 3) (q0v rfl x.c_NOTHING_BAKES) (nomark _)) (q0d (q0B 2 q74.nd (q0a 3))) q0x)
   (q0d (q3j 1 (q0a 2)))))
   (q0d (q1s (DF.dr (q6o rfl rfl x.n_list rfl x.n_reversed (q33 1))))))))
theorem q6b:q0m ["oven","wanted","heat","row","want","goal","minute"] ["oven","wanted"] (q0f j8h):=by walk_at "sc"
def j2Q (ρ:Ro):Fl:=(q1f 15 (q0o (eJ (q2F "the oven has heat " (q2m q3c (q0g 2) (q2F " in minute " (q2m q3c (q0g 6) (q2F ", not " (q2m q3c (q0g 4) jN0))))))) q0G)) ρ
def j27 (ρ:Ro):Fl:=((q1i 6 (q5Y (j7O (j2g 3)) (eI 1))) ρ).bind j2Q
def j51 (ρ:Ro):Fl:=((sIf (q6a (tNe (q0g 4) (eI (-1))) (tNe (q0g 4) (q0g 2))) j27 Fl.nx) ρ).bind q2l
def j7o (ρ:Ro):Fl:=((sIf (q6a (tEq (q0g 4) (eI (-1))) (tNe (q0g 5) (eI (-1)))) q2l Fl.nx) ρ).bind j51
def j4W (ρ:Ro):Fl:=((q2G (j2u (q1n (q0g 1)) (q1n (rD (rC 1 w1u (gSh (q0g 1) gN0))))) (q9G [4,5]) j7o) ρ).bind q2l
def j2T (ρ:Ro):Fl:=((q19 3 (fFr (q0L (q0o (q0g 2) q0G)))) ρ).bind j4W
def j67 (ρ:Ro):Fl:=((q1i 2 (q0X [(21,4),(23,2)] (q0g 0))) ρ).bind j2T
def j8U:Fn:=fnF 7 j67
theorem j9Y (x:Tx K mg fa fd T):FnOk P w K mg base (CXE T P w) 2 (fa 27) (fd 27) ["oven","wanted"] (spD T K 2 j8U):=
 have hT:=x.me
 have hT0:=q0n x.me
 q1j x.me x.F27 q6b λcdv A outer s H E hr=>
  (q0b (q0B 2 q6b.nd (q0q (q0a 0) (fo20 x)))
   (q0b (q1b 3 q6b.nd (DF.dr (q0y (q0e (q0a 2) q0j))))
   (q0b (q0P rfl (q6N rfl x.n_zip (DE.dp (q0a 1)) (DE.dp (DR.de (q0l (j9q x) hr.le rfl x.m25 x.F25.kp x.b25 .nil (λ_=>rfl) rfl (q0c (q0a 1) q0k))))) (q2x rfl (q0U 4 q6b.nd (q0U 5 q6b.nd q1U))) (q0b (q0I (DW.dt (q4c (q0t q1m (q0a 4) (q0v rfl x.c_NOTHING_BAKES) (nomark _)) (q24 (q0t q2y (q0a 5) (q0v rfl x.c_NOTHING_BAKES) (nomark _))))) q0F q0x)
   (q0b (q0I (DW.dt (q4c (q0t q2y (q0a 4) (q0v rfl x.c_NOTHING_BAKES) (nomark _)) (q24 (q0t q2y (q0a 4) (q0a 2) (nomark _))))) (q0b (q0B 6 q6b.nd (q0N q1u (q4X rfl x.n_len (q33 3)) q0i))
   (q0d (q0R (c:=15) rfl x.xc15 rfl x.mC15 (q0e (q1h (q01 (q08 (q0a 2) (q01 (q08 (q0a 6) (q01 (q08 (q0a 4) q1z))))))) q0j) hsh1))) q0x)
   q0F)))
   q0F)))
theorem j0G:q0m ["bakery","orders","batches","stages"] ["bakery","orders"] (q0f j8L):=by walk_at "sc"
def j6r (ρ:Ro):Fl:=(q1f 16 (q0o (eS "the night, the batches or a bread's stages are more than the planner goes through") q0G)) ρ
def j7p (ρ:Ro):Fl:=(q3u (q0g 2)) ρ
def j5z (ρ:Ro):Fl:=((sIf (j1Q (tB2 qGt (q0X [(20,0)] (q0g 0)) (eI 120)) (j1Q (tB2 qGt (eCB q2E (q0o (q0g 2) q0G)) (eI 3)) (tB2 qGt (j1a (q1n (q0g 3)) (eI 0)) (eI 4)))) j6r Fl.nx) ρ).bind j7p
def j4A (ρ:Ro):Fl:=((q1i 3 (q1r (q2C (q1n (q0g 1)) [0] (eCB q2E (q0o (q0X [(22,1)] (rD (q6D (n:=2) 20 j6H (q0g 1) (gSh (q0X [(18,0)] (q0g 0)) gN0)))) q0G))))) ρ).bind j5z
def j2K (ρ:Ro):Fl:=((q1i 2 (rD (rC 2 j2w (gSh (q0g 0) (gSh (q0g 1) gN0))))) ρ).bind j4A
def j9K:Fn:=fnF 4 j2K
theorem j6o (x:Tx K mg fa fd T):FnOk P w K mg base (CXE T P w) 6 (fa 50) (fd 50) ["bakery","orders"] (spD T K 2 j9K):=
 have hT:=x.me
 have hT0:=q0n x.me
 q1j x.me x.F50 j0G λcdv A outer s H E hr=>
  (q0b (q0B 2 j0G.nd (DR.de (q0l (j12 x) hr.le rfl x.m11 x.F11.kp x.b11 .nil (λ_=>rfl) rfl (q0c (q0a 0) (q0c (q0a 1) q0k)))))
   (q0b (q5l 3 hT0 rfl j0G.nd (q0Q (DE.dp (q0a 1))) (q7f ["bakery"] [0] (hc:=(q1o rfl rfl rfl q1J))) (λcl C s₀ H₀ ex=>(q0s q02 rfl x.n_len rfl (q0e (q0q (DR.de (q20 (q0a 1) x.cC20 x.mt16 (by rw [x.fl20];decide) (q9D x) hr.le x.b16 rfl (q0c (q0q (q0a 0) (fo3 x)) q0k))) (fo9 x)) q0j))))
   (q0b (q0I (DW.dt (q6g (q0t q3g (q0q (q0a 0) (fo4 x)) (q0v rfl x.c_WIDEST) (nomark _)) (q6g (q0t q3g (q0s q02 rfl x.n_len rfl (q0e (q0a 2) q0j)) (q0v rfl x.c_MOST_PLANNED) (nomark _)) (q5O (q0t q3g (q63 rfl rfl x.n_max (DE.dl (q0a 3)) q0i) (q0v rfl x.c_MOST_STEPPED) (nomark _)))))) (q0d (q0R (c:=16) rfl x.xc16 rfl x.mC16 (q0e q0T q0j) hsh1)) q0x)
   (q0d (q1a (q0a 2))))))
theorem j43:q0m ["bakery","orders","batch","batches"] ["bakery","orders","batch"] (q0f j7L):=by walk_at "sc"
def j6I (ρ:Ro):Fl:=((q1i 3 (rD (rC 2 j9K (gSh (q0g 0) (gSh (q0g 1) gN0))))) ρ).bind q2l
def j75:Fn:=fnF 4 j6I
theorem j9x (x:Tx K mg fa fd T):FnOk P w K mg base (CXE T P w) 7 (fa 55) (fd 55) ["bakery","orders","batch"] (spD T K 3 j75):=
 have hT:=x.me
 have hT0:=q0n x.me
 q1j x.me x.F55 j43 λcdv A outer s H E hr=>
  (q0b (q0B 3 j43.nd (DR.de (q0l (j6o x) hr.le rfl x.m50 x.F50.kp x.b50 .nil (λ_=>rfl) rfl (q0c (q0a 0) (q0c (q0a 1) q0k)))))
   q0F)
theorem q4T:q0m ["rows","plans","row","longer","plan"] ["rows"] (q0f j7N):=by walk_at "sc"
def j6F (ρ:Ro):Fl:=(q7F 3 (q2C (q1n (q0g 2)) [4] (q1r (q8i (q1n (q0g 1)) (q0L (q0o (q0g 0) q0G)))))) ρ
def j6Z (ρ:Ro):Fl:=(q1i 1 (q0g 3)) ρ
def j54 (ρ:Ro):Fl:=j8D 3 j6Z ρ
def j4x (ρ:Ro):Fl:=((q2G (q1n (q0g 1)) (q4G 4) j6F) ρ).bind j54
def j4M (ρ:Ro):Fl:=((q19 3 (fFr (q0L q0G))) ρ).bind j4x
def j6z (ρ:Ro):Fl:=(q3u (q0g 1)) ρ
def j7l (ρ:Ro):Fl:=((q2G (q1n (q0g 0)) (q4G 2) j4M) ρ).bind j6z
def j34 (ρ:Ro):Fl:=((q1i 1 (q1r (q0L (q0o (q1r (q0L q0G)) q0G)))) ρ).bind j7l
def w2y:Fn:=fnF 5 j34
theorem w0u (x:Tx K mg fa fd T):FnOk P w K mg base (CXE T P w) 1 (fa 57) (fd 57) ["rows"] (spD T K 1 w2y):=
 have hT:=x.me
 have hT0:=q0n x.me
 q1j x.me x.F57 q4T λcdv A outer s H E hr=>
  (q0b (q0B 1 q4T.nd (DF.de (q0y (q0e (DF.de (q0y q0j)) q0j))))
   (q0b (q0P rfl (q0Q (DE.dp (q0a 0))) (q07 2 q4T.nd) (q0b (q1b 3 q4T.nd (DF.dr (q0y q0j)))
   (q0b (q0P rfl (q0Q (DE.dp (q0a 1))) (q07 4 q4T.nd) (q0d (q4Z 3 q4T.nd (q2b hT0 rfl (q0Q (DE.dp (q0a 2))) (q7f ["plan"] [4] (hc:=(q1o rfl rfl rfl q1J))) (λcl C s₀ H₀ ex=>(DF.de (q13 (DE.dl (q0a 1)) (DF.dl (q0y (q0e (q0a 0) q0j))))))))))
   (q7R 3 (q0d (q0B 1 q4T.nd (q0a 3)))))))
   (q0d (q1a (q0a 1)))))
theorem j80:q0m ["bakery","orders","rows"] ["bakery","orders","rows"] (q0f j8j):=by walk_at "sc"
def j52 (ρ:Ro):Fl:=(q2B (fFr (q1T (q1n (rD (rC 1 w2y (gSh (q0g 2) gN0)))) [0,1] (tB2 (isD false) (rD (rC 3 j21 (gSh (q0g 1) (gSh (q0g 2) (gSh (q0g 0) gN0))))) (eC .non)) (q0g 0)))) ρ
def w2s:Fn:=fnF 3 j52
theorem j9U (x:Tx K mg fa fd T):FnOk P w K mg base (CXE T P w) 9 (fa 58) (fd 58) ["bakery","orders","rows"] (spD T K 3 w2s):=
 have hT:=x.me
 have hT0:=q0n x.me
 q1j x.me x.F58 j80 λcdv A outer s H E hr=>
  (q0d (q1s (DF.dr (q2I hT0 rfl (q0Q (DE.dp (DR.de (q0l (w0u x) hr.le rfl x.m57 x.F57.kp x.b57 .nil (λ_=>rfl) rfl (q0c (q0a 2) q0k))))) (q7f ["bakery","orders"] [0,1] (hc:=(q1o rfl rfl rfl (q1o rfl rfl rfl q1J)))) (λcl C s₀ H₀ ex=>(q0a 0)) (λcl C s₀ H₀ ex=>(q0t j9A (DR.de (q0l (j5G x) hr.le rfl x.m40 x.F40.kp x.b40 .nil (λ_=>rfl) rfl (q0c (q0a 1) (q0c (q0a 2) (q0c (q0a 0) q0k))))) q51 (nomark _)))))))
theorem j82:q0m ["bakery","bread","loaves"] ["bakery","bread","loaves"] (q0f j8q):=by walk_at "sc"
def j7b (ρ:Ro):Fl:=(q2B (fFr (j0t (j1N (q2z (q0X [(20,3)] (q0g 0)))) [2] (tB2 qGe (q0X [(23,0)] (q0g 1)) (q0g 2)) (q0g 0)))) ρ
def j3t (ρ:Ro):Fl:=((sIf (q2i (q8L (rD (q3q 22 j74 (q0g 1))))) q2l Fl.nx) ρ).bind j7b
def w1I:Fn:=fnF 3 j3t
theorem j9J (x:Tx K mg fa fd T):FnOk P w K mg base (CXE T P w) 2 (fa 53) (fd 53) ["bakery","bread","loaves"] (spD T K 3 w1I):=
 have hT:=x.me
 have hT0:=q0n x.me
 q1j x.me x.F53 j82 λcdv A outer s H E hr=>
  (q0b (q0I (q1y (q1t (DR.de (q2f (q0a 1) x.cC22 x.mt22 (by rw [x.fl22];decide) (j1X x) hr.le x.b22 rfl)))) q0F q0x)
   (q0d (q1s (DF.dr (q89 hT0 rfl (q3B rfl x.n_enumerate (q0q (q0a 0) (fo6 x))) (q7f ["loaves"] [2] (hc:=(q1o rfl rfl rfl q1J))) (λcl C s₀ H₀ ex=>(q0a 0)) (λcl C s₀ H₀ ex=>(q0t j8W (q0q (q0a 1) (fo7 x)) (q0a 2) (nomark _))))))))
theorem j22:q0m ["lowest","highest","first"] ["lowest","highest"] (q0f j8o):=by walk_at "sc"
def j3x (ρ:Ro):Fl:=(q2B (fFr (j4a (q0g 2) (q3Y (q0g 1) (eI 1)) (eI 5)))) ρ
def j6u (ρ:Ro):Fl:=((q1i 2 (w2C (w1d (q5Y (q3Y (q0g 0) (eI 5)) (eI 1)) (eI 5)) (eI 5))) ρ).bind j3x
def w19:Fn:=fnF 3 j6u
theorem j8Q (x:Tx K mg fa fd T):FnOk P w K mg base (CXE T P w) 1 (fa 51) (fd 51) ["lowest","highest"] (spD T K 2 w19):=
 have hT:=x.me
 have hT0:=q0n x.me
 q1j x.me x.F51 j22 λcdv A outer s H E hr=>
  (q0b (q0B 2 j22.nd (q0N j4c (q0N q8u (q0N q1u (q0N q1c (q0a 0) (q0v rfl x.c_STEP)) q0i) (q0v rfl x.c_STEP)) (q0v rfl x.c_STEP)))
   (q0d (q1s (DF.dr (q4R rfl rfl x.n_list rfl x.n_range (q0a 2) (q0N q1c (q0a 1) q0i) (q0v rfl x.c_STEP))))))
theorem q44:q0m ["stages","minutes","rows","stage","longer","row"] ["stages","minutes"] (q0f j73):=by walk_at "sc"
def j4L (ρ:Ro):Fl:=(q7F 4 (q2C (q1n (rD (rC 2 w19 (gSh (q0X [(21,1)] (q0g 3)) (gSh (eCB j53 (q0o (q0X [(21,2)] (q0g 3)) (q0o (q5Y (q0g 1) (eCB j7X (q0o (q0g 5) q0G))) q0G))) gN0))))) [5] (q1r (q8i (q1n (q0g 1)) (q0L (q0o (q0g 0) q0G)))))) ρ
def j29 (ρ:Ro):Fl:=(q1i 2 (q0g 4)) ρ
def j4X (ρ:Ro):Fl:=j8D 4 j29 ρ
def j44 (ρ:Ro):Fl:=((q2G (q1n (q0g 2)) (q4G 5) j4L) ρ).bind j4X
def j7r (ρ:Ro):Fl:=((q19 4 (fFr (q0L q0G))) ρ).bind j44
def j5h (ρ:Ro):Fl:=(q3u (q0g 2)) ρ
def j6Q (ρ:Ro):Fl:=((q2G (q2z (q0g 0)) (q4G 3) j7r) ρ).bind j5h
def j2P (ρ:Ro):Fl:=((q1i 2 (q1r (q0L (q0o (q1r (q0L q0G)) q0G)))) ρ).bind j6Q
def w2p:Fn:=fnF 6 j2P
theorem w0U (x:Tx K mg fa fd T):FnOk P w K mg base (CXE T P w) 2 (fa 52) (fd 52) ["stages","minutes"] (spD T K 2 w2p):=
 have hT:=x.me
 have hT0:=q0n x.me
 q1j x.me x.F52 q44 λcdv A outer s H E hr=>
  (q0b (q0B 2 q44.nd (DF.de (q0y (q0e (DF.de (q0y q0j)) q0j))))
   (q0b (q0P rfl (q4r (q0a 0)) (q07 3 q44.nd) (q0b (q1b 4 q44.nd (DF.dr (q0y q0j)))
   (q0b (q0P rfl (q0Q (DE.dp (q0a 2))) (q07 5 q44.nd) (q0d (q4Z 4 q44.nd (q2b hT0 rfl (q0Q (DE.dp (DR.de (q0l (j8Q x) hr.le rfl x.m51 x.F51.kp x.b51 .nil (λ_=>rfl) rfl (q0c (q0q (q0a 3) (fo16 x)) (q0c (q0s (q8m rfl) rfl x.n_min rfl (q0e (q0q (q0a 3) (fo17 x)) (q0e (q0N q1u (q0a 1) (q0s (j0w rfl) rfl x.n_sum rfl (q0e (q0a 5) q0j))) q0j))) q0k)))))) (q7f ["row"] [5] (hc:=(q1o rfl rfl rfl q1J))) (λcl C s₀ H₀ ex=>(DF.de (q13 (DE.dl (q0a 1)) (DF.dl (q0y (q0e (q0a 0) q0j))))))))))
   (q7R 4 (q0d (q0B 2 q44.nd (q0a 4)))))))
   (q0d (q1a (q0a 2)))))
theorem q6C:q0m ["bakery","orders","batch","bread","due","ovens","row","lengths","begin"] ["bakery","orders","batch"] (q0f j70):=by walk_at "sc"
def j6l (ρ:Ro):Fl:=(q2W 6) ρ
def j4p (ρ:Ro):Fl:=((q2G (q1n (rD (rC 2 w2p (gSh (q0X [(22,1)] (q0g 3)) (gSh (q0g 4) gN0))))) (q4G 7) q2l) ρ).bind j6l
def j3S (ρ:Ro):Fl:=((q19 6 (fFr (q0L q0G))) ρ).bind j4p
def j7B (ρ:Ro):Fl:=((q1i 5 (rD (rC 3 w1I (gSh (q0g 0) (gSh (q0g 3) (gSh (q0X [(18,1),(19,2),(25,4)] (q0g 2)) gN0)))))) ρ).bind j3S
def j3K (ρ:Ro):Fl:=((q1i 4 (q0X [(18,2)] (eIx (q0g 1) (q5Y (q0X [(19,0)] (q0g 2)) (eI 1))))) ρ).bind j7B
def j2Y (ρ:Ro):Fl:=((q1i 3 (rD (rC 3 j7I (gSh (q0g 0) (gSh (q0g 1) (gSh (q0g 2) gN0)))))) ρ).bind j3K
def w1w:Fn:=fnF 9 j2Y
theorem j90 (x:Tx K mg fa fd T):FnOk P w K mg base (CXE T P w) 3 (fa 54) (fd 54) ["bakery","orders","batch"] (spD T K 3 w1w):=
 have hT:=x.me
 have hT0:=q0n x.me
 q1j x.me x.F54 q6C λcdv A outer s H E hr=>
  (q0b (q0B 3 q6C.nd (DR.de (q0l (j2a x) hr.le rfl x.m34 x.F34.kp x.b34 .nil (λ_=>rfl) rfl (q0c (q0a 0) (q0c (q0a 1) (q0c (q0a 2) q0k))))))
   (q0b (q0B 4 q6C.nd (q0q (q1S (q0a 1) (q0N q1u (q0q (q0a 2) (fo12 x)) q0i)) (fo5 x)))
   (q0b (q0B 5 q6C.nd (DR.de (q0l (j9J x) hr.le rfl x.m53 x.F53.kp x.b53 .nil (λ_=>rfl) rfl (q0c (q0a 0) (q0c (q0a 3) (q0c (q0q (q0a 2) (fo0 x)) q0k))))))
   (q0b (q1b 6 q6C.nd (DF.dr (q0y q0j)))
   (q0b (q0P rfl (q0Q (DE.dp (DR.de (q0l (w0U x) hr.le rfl x.m52 x.F52.kp x.b52 .nil (λ_=>rfl) rfl (q0c (q0q (q0a 3) (fo9 x)) (q0c (q0a 4) q0k)))))) (q07 7 q6C.nd) q0F)
   (q0d (q1E 6)))))))
theorem q6j:q0m ["bakery","orders","rows","width","batch","row"] ["bakery","orders"] (q0f j7P):=by walk_at "sc"
def j5R (ρ:Ro):Fl:=(q91 2 (q0g 5)) ρ
def j5H (ρ:Ro):Fl:=((sIf (tB2 qGt (q0g 3) (eI 2000)) q2l Fl.nx) ρ).bind j5R
def j7m (ρ:Ro):Fl:=((j2n 3 (eCB w0i (q0o (eI 1) (q0o (eCB q2E (q0o (q0g 5) q0G)) q0G)))) ρ).bind j5H
def j2L (ρ:Ro):Fl:=((q1i 5 (rD (rC 3 w1w (gSh (q0g 0) (gSh (q0g 1) (gSh (q0g 4) gN0)))))) ρ).bind j7m
def j3l (ρ:Ro):Fl:=(q2W 2) ρ
def j5T (ρ:Ro):Fl:=((q2G (q1n (rD (rC 2 j9K (gSh (q0g 0) (gSh (q0g 1) gN0))))) (q4G 4) j2L) ρ).bind j3l
def j6t (ρ:Ro):Fl:=((q1i 3 (eI 1)) ρ).bind j5T
def j56 (ρ:Ro):Fl:=((q19 2 (fFr (q0L q0G))) ρ).bind j6t
def w1j:Fn:=fnF 6 j56
theorem j8N (x:Tx K mg fa fd T):FnOk P w K mg base (CXE T P w) 7 (fa 56) (fd 56) ["bakery","orders"] (spD T K 2 w1j):=
 have hT:=x.me
 have hT0:=q0n x.me
 q1j x.me x.F56 q6j λcdv A outer s H E hr=>
  (q0b (q1b 2 q6j.nd (DF.dr (q0y q0j)))
   (q0b (q0B 3 q6j.nd q0i)
   (q0b (q0P rfl (q0Q (DE.dp (DR.de (q0l (j6o x) hr.le rfl x.m50 x.F50.kp x.b50 .nil (λ_=>rfl) rfl (q0c (q0a 0) (q0c (q0a 1) q0k)))))) (q07 4 q6j.nd) (q0b (q0B 5 q6j.nd (DR.de (q0l (j90 x) hr.le rfl x.m54 x.F54.kp x.b54 .nil (λ_=>rfl) rfl (q0c (q0a 0) (q0c (q0a 1) (q0c (q0a 4) q0k))))))
   (q0b (j2e 3 q6j.nd (q0s (j2G rfl) rfl x.n_max rfl (q0e q0i (q0e (q0s q02 rfl x.n_len rfl (q0e (q0a 5) q0j)) q0j))))
   (q0b (q0I (q0t q3g (q0a 3) (q0v rfl x.c_MOST_WAYS) (nomark _)) q0F q0x)
   (q0d (q3j 2 (q0a 5)))))))
   (q0d (q1E 2)))))
theorem j86:q0m ["plans"] ["plans"] (q0f j7R):=by walk_at "sc"
def j5n (ρ:Ro):Fl:=(q1f 17 (q0o (eS "the orders have no good plan") q0G)) ρ
def j7n (ρ:Ro):Fl:=(sIf (tB2 (j9R false) (q0g 0) (q1r (q0L q0G))) j5n Fl.nx) ρ
def w0Y:Fn:=fnF 1 j7n
theorem j9u (x:Tx K mg fa fd T):FnOk P w K mg base (CXE T P w) 1 (fa 59) (fd 59) ["plans"] (spD T K 1 w0Y):=
 have hT:=x.me
 have hT0:=q0n x.me
 q1j x.me x.F59 j86 λcdv A outer s H E hr=>
  (q0d (q0I (q0t (j1G hr) (q0a 0) (DF.de (q0y q0j)) (nomark _)) (q0d (q0R (c:=17) rfl x.xc17 rfl x.mC17 (q0e q0T q0j) hsh1)) q0x))
theorem j5c:q0m ["bakery","orders","plans"] ["bakery","orders"] (q0f j72):=by walk_at "sc"
def j4r (ρ:Ro):Fl:=((q0V (rD (rC 1 w0Y (gSh (q0g 2) gN0)))) ρ).bind q2l
def j7c (ρ:Ro):Fl:=((q1i 2 (rD (rC 3 w2s (gSh (q0g 0) (gSh (q0g 1) (gSh (rD (rC 2 w1j (gSh (q0g 0) (gSh (q0g 1) gN0)))) gN0)))))) ρ).bind j4r
def j9E:Fn:=fnF 3 j7c
theorem w0j (x:Tx K mg fa fd T):FnOk P w K mg base (CXE T P w) 10 (fa 61) (fd 61) ["bakery","orders"] (spD T K 2 j9E):=
 have hT:=x.me
 have hT0:=q0n x.me
 q1j x.me x.F61 j5c λcdv A outer s H E hr=>
  (q0b (q0B 2 j5c.nd (DR.de (q0l (j9U x) hr.le rfl x.m58 x.F58.kp x.b58 .nil (λ_=>rfl) rfl (q0c (q0a 0) (q0c (q0a 1) (q0c (DR.de (q0l (j8N x) hr.le rfl x.m56 x.F56.kp x.b56 .nil (λ_=>rfl) rfl (q0c (q0a 0) (q0c (q0a 1) q0k)))) q0k))))))
   (q0b (q0u (DR.de (q0l (j9u x) hr.le rfl x.m59 x.F59.kp x.b59 .nil (λ_=>rfl) rfl (q0c (q0a 2) q0k))))
   q0F))
theorem j9c:q0m ["self","begin","lengths","oven"] ["self","begin","lengths","oven"] (q0f j8e):=by walk_at "sc"
def q93 (ρ:Ro):Fl:=(q0J 24 2 (q0g 3)) ρ
def q9U (ρ:Ro):Fl:=((q0J 24 1 (q4v (q1n (q0g 2)))) ρ).bind q93
def q9W (ρ:Ro):Fl:=((q0J 24 0 (q0g 1)) ρ).bind q9U
def j0k (ρ:Ro):Fl:=((sIf (tB2 qLt (eCB q48 (q0o (q1r (q8i (q0L (q0o (q0g 1) (q0o (q0g 3) q0G))) (q94 (q1n (q0g 2))))) q0G)) (eI 0)) q2l Fl.nx) ρ).bind q9W
def j25:Fn:=q2s 4 24 3 j0k
theorem j5x (x:Tx K mg fa fd T):FnOk P w K mg base (CXE T P w) 1 (fa 28) (fd 28) ["self","begin","lengths","oven"] (spI T K 24 4 j25):=
 have hT0:=q0n x.me
 q9a x.me (by rw [x.fl24];rfl) x.F28.ex j9c λy cdv A outer s H E hr=>
  (q0b (q0I (q0t q36 (q0s (q75 rfl) rfl x.n_min rfl (q0e (DF.de (q13 (DF.dl (q0y (q0e (q0a 1) (q0e (q0a 3) q0j)))) (DF.dl (q9S rfl x.n_list (DE.dl (q0a 2)))))) q0j)) q0i (nomark _)) q0F q0x)
   (q0b (q0M (c:=24) 0 x.cC24 x.na24_begin (flA x.fl24) (flN x.fl24) (by decide) (q0a 1))
   (q0b (q0M (c:=24) 1 x.cC24 x.na24_lengths (flA x.fl24) (flN x.fl24) (by decide) (q3M rfl x.n_tuple (DE.dl (q0a 2))))
   (q0d (q0M (c:=24) 2 x.cC24 x.na24_oven (flA x.fl24) (flN x.fl24) (by decide) (q0a 3))))))
theorem w0D:q0m ["self","bakery"] ["self","bakery"] (q0f j79):=by walk_at "sc"
def j6q (ρ:Ro):Fl:=(q0J 26 1 (q1r (q0L q0G))) ρ
def j46 (ρ:Ro):Fl:=((q0J 26 0 (q0g 1)) ρ).bind j6q
def j9Z:Fn:=q2s 2 26 2 j46
theorem j84 (x:Tx K mg fa fd T):FnOk P w K mg base (CXE T P w) 1 (fa 62) (fd 62) ["self","bakery"] (spI T K 26 2 j9Z):=
 have hT0:=q0n x.me
 q9a x.me (by rw [x.fl26];rfl) (q2S x.F62) w0D λy cdv A outer s H E hr=>
  (q0b (q0M (c:=26) 0 x.cC26 x.na26_bakery (flA x.fl26) (flN x.fl26) (by decide) (q0a 1))
   (q0d (q0M (c:=26) 1 x.cC26 x.na26_orders (flA x.fl26) (flN x.fl26) (by decide) (DF.de (q0y q0j)))))
theorem j1z:q0m ["_law_which","_law_cell","_law_kiln","_law_bread","_law_bakery","_law_orders","_law_plan"] ["_law_which","_law_cell","_law_kiln","_law_bread","_law_bakery"] (q0f j7U):=by walk_at "sc"
def j0c (ρ:Ro):Fl:=(q0V (rD (rC 2 F_9 (gSh (q0g 4) (gSh (q1r (q0L (q0o (rD (rC 3 F_5 (gSh (eS "rye") (gSh (q5Y (eI 60) (q8D (q0g 1) (eI 2))) (gSh (eI 90) gN0))))) (q0o (rD (rC 3 F_5 (gSh (eS "rye") (gSh (eI 60) (gSh (eI 90) gN0))))) (q0o (rD (rC 3 F_5 (gSh (eS "rye") (gSh (eI 60) (gSh (eI 90) gN0))))) q0G))))) gN0))))) ρ
def j5b (ρ:Ro):Fl:=(q0V (rD (rC 5 j71 (gSh (q0g 4) (gSh (q0g 5) (gSh (q1r (q0L q0G)) (gSh (eI 1) (gSh (eI 1) gN0)))))))) ρ
def j0E (ρ:Ro):Fl:=(q0V (rD (rC 5 j71 (gSh (q0g 4) (gSh (q0g 5) (gSh (q0g 6) (gSh (q3Y (eI 2) (q0g 1)) (gSh (eI 1) gN0)))))))) ρ
def j0g (ρ:Ro):Fl:=(q0V (rD (rC 4 j3G (gSh (q0g 4) (gSh (q0g 5) (gSh (q0g 6) (gSh (q3Y (eI 2) (q0g 1)) gN0))))))) ρ
def j0q (ρ:Ro):Fl:=(q0V (rD (q6D (n:=2) 26 w0f (rD (rC 1 j9Z (gSh (q0g 4) gN0))) (gSh (q3Y (eI 1) (q0g 1)) gN0)))) ρ
def j0e (ρ:Ro):Fl:=(q0V (rD (rC 4 j3G (gSh (q0g 4) (gSh (q0g 5) (gSh (q1r (q0L (q0o (rD (rC 3 j25 (gSh (q3Y (eI 71) (q0g 1)) (gSh (q1r (q0L (q0o (eI 20) q0G))) (gSh (eI 1) gN0))))) q0G))) (gSh (eI 1) gN0))))))) ρ
def q9Y (ρ:Ro):Fl:=(q0V (rD (rC 2 j8U (gSh (q0g 2) (gSh (q1r (q0L (q0o (q5Y (eI 299) (q8D (q0g 1) (eI 99))) q0G))) gN0))))) ρ
def q7H (ρ:Ro):Fl:=(q0V (rD (rC 3 j75 (gSh (rD (rC 5 j1J (gSh (q3Y (eI 121) (q8D (q0g 1) (eI 600))) (gSh (eI 1) (gSh (eI 1) (gSh (q1r (q0L (q0o (q0g 2) q0G))) (gSh (q1r (q0L (q0o (q0g 3) q0G))) gN0))))))) (gSh (q0g 5) (gSh (eI 1) gN0)))))) ρ
def q96 (ρ:Ro):Fl:=(q0V (rD (rC 2 j9E (gSh (q0g 4) (gSh (q1r (q0L (q0o (rD (rC 3 F_5 (gSh (eS "rye") (gSh (eI 1) (gSh (q8D (q0g 1) (eI 20)) gN0))))) q0G))) gN0))))) ρ
def q7a (ρ:Ro):Fl:=(sIf (tEq (q0g 0) (eI 16)) q96 Fl.nx) ρ
def q3Z (ρ:Ro):Fl:=(sIf (tEq (q0g 0) (eI 15)) q7H q7a) ρ
def q2N (ρ:Ro):Fl:=(sIf (tEq (q0g 0) (eI 14)) q9Y q3Z) ρ
def q2o (ρ:Ro):Fl:=(sIf (tEq (q0g 0) (eI 13)) j0e q2N) ρ
def q2a (ρ:Ro):Fl:=(sIf (tEq (q0g 0) (eI 12)) j0q q2o) ρ
def q1I (ρ:Ro):Fl:=(sIf (tEq (q0g 0) (eI 11)) j0g q2a) ρ
def q1C (ρ:Ro):Fl:=(sIf (tEq (q0g 0) (eI 10)) j0E q1I) ρ
def q1D (ρ:Ro):Fl:=(sIf (tEq (q0g 0) (eI 9)) j5b q1C) ρ
def q0S (ρ:Ro):Fl:=((sIf (tEq (q0g 0) (eI 8)) j0c q1D) ρ).bind q2l
def q8e (ρ:Ro):Fl:=((q1i 6 (q1r (q0L (q0o (rD (rC 3 j25 (gSh (q8D (q0g 1) (eI 70)) (gSh (q1r (q0L (q0o (eI 20) q0G))) (gSh (eI 1) gN0))))) q0G)))) ρ).bind q0S
def q4P (ρ:Ro):Fl:=((q1i 5 (q1r (q0L (q0o (rD (rC 3 F_5 (gSh (eS "rye") (gSh (eI 1) (gSh (eI 90) gN0))))) q0G)))) ρ).bind q8e
def j2y:Fn:=fnF 7 q4P
theorem j95 (x:Tx K mg fa fd T):FnOk P w K mg base (CXE T P w) 11 (fa 71) (fd 71) ["_law_which","_law_cell","_law_kiln","_law_bread","_law_bakery"] (spD T K 5 j2y):=
 have hT:=x.me
 have hT0:=q0n x.me
 q1j x.me x.F71 j1z λcdv A outer s H E hr=>
  (q0b (q0B 5 j1z.nd (DF.de (q0y (q0e (DR.de (q0O x.mk18 (j11 x) q0E hr.le rfl x.mC18 x.b5 .nil (λ_=>rfl) rfl (q0c q0T (q0c q0i (q0c q0i q0k))))) q0j))))
   (q0b (q0B 6 j1z.nd (DF.de (q0y (q0e (DR.de (q0O x.mk24 (j5x x) q0E hr.le rfl x.mC24 x.b28 .nil (λ_=>rfl) rfl (q0c (q0N q14 (q0a 1) q0i) (q0c (DF.de (q0y (q0e q0i q0j))) (q0c q0i q0k))))) q0j))))
   (q0b (q0I (q0t q1m (q0a 0) q0i (nomark _)) (q0d (q0u (DR.de (q0l (j8f x) hr.le rfl x.m9 x.F9.kp x.b9 .nil (λ_=>rfl) rfl (q0c (q0a 4) (q0c (DF.de (q0y (q0e (DR.de (q0O x.mk18 (j11 x) q0E hr.le rfl x.mC18 x.b5 .nil (λ_=>rfl) rfl (q0c q0T (q0c (q0N q1u q0i (q0N q14 (q0a 1) q0i)) (q0c q0i q0k))))) (q0e (DR.de (q0O x.mk18 (j11 x) q0E hr.le rfl x.mC18 x.b5 .nil (λ_=>rfl) rfl (q0c q0T (q0c q0i (q0c q0i q0k))))) (q0e (DR.de (q0O x.mk18 (j11 x) q0E hr.le rfl x.mC18 x.b5 .nil (λ_=>rfl) rfl (q0c q0T (q0c q0i (q0c q0i q0k))))) q0j))))) q0k)))))) (q0d (q0I (q0t q1m (q0a 0) q0i (nomark _)) (q0d (q0u (DR.de (q0l (j23 x) hr.le rfl x.m47 x.F47.kp x.b47 .nil (λ_=>rfl) rfl (q0c (q0a 4) (q0c (q0a 5) (q0c (DF.de (q0y q0j)) (q0c q0i (q0c q0i q0k))))))))) (q0d (q0I (q0t q1m (q0a 0) q0i (nomark _)) (q0d (q0u (DR.de (q0l (j23 x) hr.le rfl x.m47 x.F47.kp x.b47 .nil (λ_=>rfl) rfl (q0c (q0a 4) (q0c (q0a 5) (q0c (q0a 6) (q0c (q0N q1c q0i (q0a 1)) (q0c q0i q0k))))))))) (q0d (q0I (q0t q1m (q0a 0) q0i (nomark _)) (q0d (q0u (DR.de (q0l (j4h x) hr.le rfl x.m48 x.F48.kp x.b48 .nil (λ_=>rfl) rfl (q0c (q0a 4) (q0c (q0a 5) (q0c (q0a 6) (q0c (q0N q1c q0i (q0a 1)) q0k)))))))) (q0d (q0I (q0t q1m (q0a 0) q0i (nomark _)) (q0d (q0u (DR.de (q20 (DR.de (q0O x.mk26 (j84 x) q0E hr.le rfl x.mC26 x.b62 .nil (λ_=>rfl) rfl (q0c (q0a 4) q0k))) x.cC26 x.mt64 (by rw [x.fl26];decide) (j9r x) hr.le x.b64 rfl (q0c (q0N q1c q0i (q0a 1)) q0k))))) (q0d (q0I (q0t q1m (q0a 0) q0i (nomark _)) (q0d (q0u (DR.de (q0l (j4h x) hr.le rfl x.m48 x.F48.kp x.b48 .nil (λ_=>rfl) rfl (q0c (q0a 4) (q0c (q0a 5) (q0c (DF.de (q0y (q0e (DR.de (q0O x.mk24 (j5x x) q0E hr.le rfl x.mC24 x.b28 .nil (λ_=>rfl) rfl (q0c (q0N q1c q0i (q0a 1)) (q0c (DF.de (q0y (q0e q0i q0j))) (q0c q0i q0k))))) q0j))) (q0c q0i q0k)))))))) (q0d (q0I (q0t q1m (q0a 0) q0i (nomark _)) (q0d (q0u (DR.de (q0l (j9Y x) hr.le rfl x.m27 x.F27.kp x.b27 .nil (λ_=>rfl) rfl (q0c (q0a 2) (q0c (DF.de (q0y (q0e (q0N q1u q0i (q0N q14 (q0a 1) q0i)) q0j))) q0k)))))) (q0d (q0I (q0t q1m (q0a 0) q0i (nomark _)) (q0d (q0u (DR.de (q0l (j9x x) hr.le rfl x.m55 x.F55.kp x.b55 .nil (λ_=>rfl) rfl (q0c (DR.de (q0O x.mk20 (j0K x) q0E hr.le rfl x.mC20 x.b15 .nil (λ_=>rfl) rfl (q0c (q0N q1c q0i (q0N q14 (q0a 1) q0i)) (q0c q0i (q0c q0i (q0c (DF.de (q0y (q0e (q0a 2) q0j))) (q0c (DF.de (q0y (q0e (q0a 3) q0j))) q0k))))))) (q0c (q0a 5) (q0c q0i q0k))))))) (q0d (q0I (q0t q1m (q0a 0) q0i (nomark _)) (q0d (q0u (DR.de (q0l (w0j x) hr.le rfl x.m61 x.F61.kp x.b61 .nil (λ_=>rfl) rfl (q0c (q0a 4) (q0c (DF.de (q0y (q0e (DR.de (q0O x.mk18 (j11 x) q0E hr.le rfl x.mC18 x.b5 .nil (λ_=>rfl) rfl (q0c q0T (q0c q0i (q0c (q0N q14 (q0a 1) q0i) q0k))))) q0j))) q0k)))))) q0x)))))))))))))))))
   q0F)))
theorem q6i:q0m ["_law_e","_law_row"] ["_law_e"] (q0f j7W):=by walk_at "sc"
def j6O (ρ:Ro):Fl:=(q2B (fFr (q1T (w1T (n1 (eCB q2E (q0o (q0g 1) q0G)))) [1] (q8L (eIx (q0g 1) (q0g 0))) (q0g 0)))) ρ
def j5B (ρ:Ro):Fl:=((q1i 1 (q1r (q8i (q1n (q0g 1)) (q0L (q0o (q2H (q1B 18 15) (q0g 0)) (q0o (q2H (q1B 18 16) (q0g 0)) (q0o (q2H (q1B 18 17) (q0g 0)) q0G))))))) ρ).bind j6O
def j66 (ρ:Ro):Fl:=((q1i 1 (q1r (q8i (q1n (q0g 1)) (q0L (q0o (q2H (q1B 18 11) (q0g 0)) (q0o (q2H (q1B 18 12) (q0g 0)) (q0o (q2H (q1B 18 13) (q0g 0)) (q0o (q2H (q1B 18 14) (q0g 0)) q0G)))))))) ρ).bind j5B
def j7q (ρ:Ro):Fl:=((q1i 1 (q1r (q8i (q1n (q0g 1)) (q0L (q0o (q2H (q1B 18 8) (q0g 0)) (q0o (q2H (q1B 18 9) (q0g 0)) (q0o (q2H (q1B 18 10) (q0g 0)) q0G))))))) ρ).bind j66
def j6g (ρ:Ro):Fl:=((q1i 1 (q1r (q8i (q1n (q0g 1)) (q0L (q0o (q2H (q1B 18 5) (q0g 0)) (q0o (q2H (q1B 18 6) (q0g 0)) (q0o (q2H (q1B 18 7) (q0g 0)) q0G))))))) ρ).bind j7q
def j5j (ρ:Ro):Fl:=((q1i 1 (q1r (q0L (q0o (q2H (q1B 18 1) (q0g 0)) (q0o (q2H (q1B 18 2) (q0g 0)) (q0o (q2H (q1B 18 3) (q0g 0)) (q0o (q2H (q1B 18 4) (q0g 0)) q0G))))))) ρ).bind j6g
def j6a:Fn:=fnF 2 j5j
theorem j9W (x:Tx K mg fa fd T):j1T P w K mg base (CXE T P w) 1 (fa 69) (fd 69) ["_law_e"] (spD T K 1 j6a):=
 have hT:=x.me
 have hT0:=q0n x.me
 w0p x.me x.F69 q6i λcdv A outer s H E hot=>
  (q0b (q0B 1 q6i.nd (DF.de (q0y (q0e (q00 rfl x.n_isinstance (q0a 0) rfl x.mC1 (q0Z x.ix λc h=>x.kt c 1 h (by decide)) (q0D _ _)) (q0e (q00 rfl x.n_isinstance (q0a 0) rfl x.mC2 (q0Z x.ix λc h=>x.kt c 2 h (by decide)) (q0D _ _)) (q0e (q00 rfl x.n_isinstance (q0a 0) rfl x.mC3 (q0Z x.ix λc h=>x.kt c 3 h (by decide)) (q0D _ _)) (q0e (q00 rfl x.n_isinstance (q0a 0) rfl x.mC4 (q0Z x.ix λc h=>x.kt c 4 h (by decide)) (q0D _ _)) q0j)))))))
   (q0b (q0B 1 q6i.nd (DF.de (q13 (DE.dl (q0a 1)) (DF.dl (q0y (q0e (q00 rfl x.n_isinstance (q0a 0) rfl x.mC5 (q0Z x.ix λc h=>x.kt c 5 h (by decide)) (q0D _ _)) (q0e (q00 rfl x.n_isinstance (q0a 0) rfl x.mC6 (q0Z x.ix λc h=>x.kt c 6 h (by decide)) (q0D _ _)) (q0e (q00 rfl x.n_isinstance (q0a 0) rfl x.mC7 (q0Z x.ix λc h=>x.kt c 7 h (by decide)) (q0D _ _)) q0j))))))))
   (q0b (q0B 1 q6i.nd (DF.de (q13 (DE.dl (q0a 1)) (DF.dl (q0y (q0e (q00 rfl x.n_isinstance (q0a 0) rfl x.mC8 (q0Z x.ix λc h=>x.kt c 8 h (by decide)) (q0D _ _)) (q0e (q00 rfl x.n_isinstance (q0a 0) rfl x.mC9 (q0Z x.ix λc h=>x.kt c 9 h (by decide)) (q0D _ _)) (q0e (q00 rfl x.n_isinstance (q0a 0) rfl x.mC10 (q0Z x.ix λc h=>x.kt c 10 h (by decide)) (q0D _ _)) q0j))))))))
   (q0b (q0B 1 q6i.nd (DF.de (q13 (DE.dl (q0a 1)) (DF.dl (q0y (q0e (q00 rfl x.n_isinstance (q0a 0) rfl x.mC11 (q0Z x.ix λc h=>x.kt c 11 h (by decide)) (q0D _ _)) (q0e (q00 rfl x.n_isinstance (q0a 0) rfl x.mC12 (q0Z x.ix λc h=>x.kt c 12 h (by decide)) (q0D _ _)) (q0e (q00 rfl x.n_isinstance (q0a 0) rfl x.mC13 (q0Z x.ix λc h=>x.kt c 13 h (by decide)) (q0D _ _)) (q0e (q00 rfl x.n_isinstance (q0a 0) rfl x.mC14 (q0Z x.ix λc h=>x.kt c 14 h (by decide)) (q0D _ _)) q0j)))))))))
   (q0b (q0B 1 q6i.nd (DF.de (q13 (DE.dl (q0a 1)) (DF.dl (q0y (q0e (q00 rfl x.n_isinstance (q0a 0) rfl x.mC15 (q0Z x.ix λc h=>x.kt c 15 h (by decide)) (q0D _ _)) (q0e (q00 rfl x.n_isinstance (q0a 0) rfl x.mC16 (q0Z x.ix λc h=>x.kt c 16 h (by decide)) (q0D _ _)) (q0e (q00 rfl x.n_isinstance (q0a 0) rfl x.mC17 (q0Z x.ix λc h=>x.kt c 17 h (by decide)) (q0D _ _)) q0j))))))))
   (q0d (q1s (DF.dr (q9H hT0 hot rfl x.n_range (q0s q02 rfl x.n_len rfl (q0e (q0a 1) q0j)) (q7f ["_law_row"] [1] (hc:=(q1o rfl rfl rfl q1J))) (λcl C s₀ H₀ ex=>(q0a 0)) (λcl C s₀ H₀ ex=>(q1t (q1S (q0a 1) (q0a 0)))))))))))))
theorem j17:q0m ["_law_which","_law_cell","_law_kiln","_law_bread","_law_bakery","_law_e","_law_row"] ["_law_which","_law_cell","_law_kiln","_law_bread","_law_bakery"] (q0f j78):=by walk_at "sc"
def q97 (ρ:Ro):Fl:=(q2B (fFr (q0L (q0o (eI 99) (q0o (rD (rC 5 j3a (gSh (q0g 0) (gSh (q0g 1) (gSh (q0g 2) (gSh (q0g 3) (gSh (q0g 4) gN0))))))) q0G))))) ρ
def j0j (ρ:Ro):Fl:=(q2B (fFr (q0L (q0o (eI 99) (q0o (rD (rC 5 j2y (gSh (q0g 0) (gSh (q0g 1) (gSh (q0g 2) (gSh (q0g 3) (gSh (q0g 4) gN0))))))) q0G))))) ρ
def q5N (ρ:Ro):Fl:=((sIf (tB2 qLt (q0g 0) (eI 8)) q97 Fl.nx) ρ).bind j0j
def j0o (ρ:Ro):Fl:=(q1i 6 (q1r (q8i (q1n (rD (rC 1 j6a (gSh (q0g 5) gN0)))) (w1z (q0L (q0o (eI 99) q0G)) (eCB j0O (q0o (j16 (q2H (q5n 18) (q0g 5))) q0G)))))) ρ
def q98 (ρ:Ro):Fl:=(q3u (q0g 6)) ρ
def q8b (ρ:Ro):Fl:=((q8z q5N (q2q 5 (λc=>List.lookup c [(0,true),(1,true),(2,true),(3,true),(4,true),(5,true),(6,true),(7,true),(8,true),(9,true),(10,true),(11,true),(12,true),(13,true),(14,true),(15,true),(16,true),(17,true)]) j0o (λ_ _=>.bad))) ρ).bind q98
def j8H:Fn:=fnF 7 q8b
theorem j9G (x:Tx K mg fa fd T):FnOk P w K mg base (CXE T P w) 12 (fa 72) (fd 72) ["_law_which","_law_cell","_law_kiln","_law_bread","_law_bakery"] (spD T K 5 j8H):=
 have hT:=x.me
 have hT0:=q0n x.me
 q1j x.me x.F72 j17 λcdv A outer s H E hr=>
  (q0b (j4T rfl rfl (λpn=>(q0b (q0I (q0t q36 (q0a 0) q0i (nomark _)) (q0d (q1s (DF.dr (q0y (q0e q0i (q0e (DR.de (q0l (j96 x) hr.le rfl x.m70 x.F70.kp x.b70 .nil (λ_=>rfl) rfl (q0c (q0a 0) (q0c (q0a 1) (q0c (q0a 2) (q0c (q0a 3) (q0c (q0a 4) q0k))))))) q0j)))))) q0x)
   (q0d (q1s (DF.dr (q0y (q0e q0i (q0e (DR.de (q0l (j95 x) hr.le rfl x.m71 x.F71.kp x.b71 .nil (λ_=>rfl) rfl (q0c (q0a 0) (q0c (q0a 1) (q0c (q0a 2) (q0c (q0a 3) (q0c (q0a 4) q0k))))))) q0j)))))))) (q7S (k:=0) (m:=λc=>List.lookup c [(0,true),(1,true),(2,true),(3,true),(4,true),(5,true),(6,true),(7,true),(8,true),(9,true),(10,true),(11,true),(12,true),(13,true),(14,true),(15,true),(16,true),(17,true)]) 5 j17.nd rfl x.mC0 (j1f (List.forall_mem_cons.mpr ⟨x.exm0_0,List.forall_mem_cons.mpr ⟨x.exm1_0,List.forall_mem_cons.mpr ⟨x.exm2_0,List.forall_mem_cons.mpr ⟨x.exm3_0,List.forall_mem_cons.mpr ⟨x.exm4_0,List.forall_mem_cons.mpr ⟨x.exm5_0,List.forall_mem_cons.mpr ⟨x.exm6_0,List.forall_mem_cons.mpr ⟨x.exm7_0,List.forall_mem_cons.mpr ⟨x.exm8_0,List.forall_mem_cons.mpr ⟨x.exm9_0,List.forall_mem_cons.mpr ⟨x.exm10_0,List.forall_mem_cons.mpr ⟨x.exm11_0,List.forall_mem_cons.mpr ⟨x.exm12_0,List.forall_mem_cons.mpr ⟨x.exm13_0,List.forall_mem_cons.mpr ⟨x.exm14_0,List.forall_mem_cons.mpr ⟨x.exm15_0,List.forall_mem_cons.mpr ⟨x.exm16_0,List.forall_mem_cons.mpr ⟨x.exm17_0,List.forall_mem_nil _⟩⟩⟩⟩⟩⟩⟩⟩⟩⟩⟩⟩⟩⟩⟩⟩⟩⟩)) (λea ob hot=>(q0d (q0B 6 j17.nd (DF.de (q13 (DE.dl (DR.de (q8P (k:=1) (j9W x) hot (hr.mono (j:=1) (by decide)).dp rfl x.m69 x.F69.kp x.b69 rfl (q0c (q0a 5) q0k)))) (DF.dl (j5S (q0y (q0e q0i q0j)) (q2g j1r rfl x.n_int rfl (q0e (j0d (q3Q rfl x.n_isinstance (q0a 5) rfl x.n_ValueError rfl (q9I x.ix x.kv) (q4O _))) q0j))))))))) j5Z))
   (q0d (q1a (q0a 6))))
theorem j9o:q0m ["_law_found","_law_due"] ["_law_found","_law_due"] (q0f j7V):=by walk_at "sc"
def j0s (ρ:Ro):Fl:=(q3u (q70 (q2H j1E (q0g 0)) (q70 (j16 (q2H q8o (q0g 0))) (e2 (λa b=>bD false (eqS a b)) (q0g 0) (q0g 1))))) ρ
def j7H:Fn:=fnF 2 j0s
theorem j8V (x:Tx K mg fa fd T):FnOk P w K mg base (CXE T P w) 1 (fa 68) (fd 68) ["_law_found","_law_due"] (spD T K 2 j7H):=
 have hT:=x.me
 have hT0:=q0n x.me
 q1j x.me x.F68 j9o λcdv A outer s H E hr=>
  (q0d (q1a (q5B (q3Q rfl x.n_isinstance (q0a 0) rfl x.n_int rfl j0R q6x) (q5B (j0d (q3Q rfl x.n_isinstance (q0a 0) rfl x.n_bool rfl q9x q5b)) (j0x (q4s q1m (q0a 0) (q0a 1) (nomark _)))))))
theorem q3S:q0m ["_law_script","_law_which","_law_cell","_law_kiln","_law_bread","_law_bakery","_law_row","_law_orders","_law_found"] ["_law_script"] (q0f j8J):=by walk_at "sc"
def q5C (ρ:Ro):Fl:=(q3u (q70 (q2H q7q (q0g 8)) (q70 (e2 (λa b=>bD false (eqS a b)) (eCB q2E (q0o (q0g 8) q0G)) (eI 1)) (rD (rC 2 j7H (gSh (q0X [(18,1),(19,2),(25,4)] (eIx (q0g 8) (eI 0))) (gSh (eI 5) gN0))))))) ρ
def q5J (ρ:Ro):Fl:=((q1i 8 (rD (rC 2 j2w (gSh (q0g 5) (gSh (q0g 7) gN0))))) ρ).bind q5C
def q5q (ρ:Ro):Fl:=((sIf (tB2 (isD true) (rD (rC 2 F_9 (gSh (q0g 5) (gSh (q0g 7) gN0)))) (eC .non)) q2l Fl.nx) ρ).bind q5J
def q5T (ρ:Ro):Fl:=((q1i 7 (q1r (q0L (q0o (rD (rC 3 F_5 (gSh (eS "rye") (gSh (eI 5) (gSh (q8D (q0g 2) (eI 101)) gN0))))) q0G)))) ρ).bind q5q
def q5M (ρ:Ro):Fl:=((sIf (j1Q (tNe (eCB q2E (q0o (q0g 6) q0G)) (eI 1)) (tNe (eIx (q0g 6) (eI 0)) (q0g 1))) q2l Fl.nx) ρ).bind q5T
def q5G (ρ:Ro):Fl:=((q1i 6 (rD (rC 5 j8H (gSh (q0g 1) (gSh (q0g 2) (gSh (q0g 3) (gSh (q0g 4) (gSh (q0g 5) gN0)))))))) ρ).bind q5M
def q5p (ρ:Ro):Fl:=((q1i 5 (rD (rC 5 j1J (gSh (eI 100) (gSh (eI 1) (gSh (eI 1) (gSh (q1r (q0L (q0o (q0g 3) q0G))) (gSh (q1r (q0L (q0o (q0g 4) q0G))) gN0)))))))) ρ).bind q5G
def q5X (ρ:Ro):Fl:=((q1i 4 (rD (rC 2 j2x (gSh (eS "rye") (gSh (q1r (q0L (q0o (rD (rC 5 j2v (gSh (eS "bake") (gSh (eI 20) (gSh (eI 20) (gSh (eS "oven") (gSh (eI 100) gN0))))))) q0G))) gN0))))) ρ).bind q5p
def q5j (ρ:Ro):Fl:=((q1i 3 (rD (rC 3 j7Z (gSh (q3Y (eI 5) (q8D (rD (rC 2 q8B (gSh (q0g 0) (gSh (eI 2) gN0)))) (eI 2))) (gSh (eI 40) (gSh (eI 100) gN0)))))) ρ).bind q5X
def q3w (ρ:Ro):Fl:=((q1i 2 (q8D (rD (rC 2 q8B (gSh (q0g 0) (gSh (eI 1) gN0)))) (eI 1000))) ρ).bind q5j
def q42 (ρ:Ro):Fl:=((q1i 1 (q8D (rD (rC 2 q8B (gSh (q0g 0) (gSh (eI 0) gN0)))) (eI 17))) ρ).bind q3w
def j4n:Fn:=fnF 9 q42
theorem w0P (x:Tx K mg fa fd T):FnOk P w K mg base (CXE T P w) 13 (fa 73) (fd 73) ["_law_script"] (spD T K 1 j4n):=
 have hT:=x.me
 have hT0:=q0n x.me
 q1j x.me x.F73 q3S λcdv A outer s H E hr=>
  (q0b (q0B 1 q3S.nd (q0N q14 (DR.de (q0l (j0L x) hr.le rfl x.m67 x.F67.kp x.b67 .nil (λ_=>rfl) rfl (q0c (q0a 0) (q0c q0i q0k)))) q0i))
   (q0b (q0B 2 q3S.nd (q0N q14 (DR.de (q0l (j0L x) hr.le rfl x.m67 x.F67.kp x.b67 .nil (λ_=>rfl) rfl (q0c (q0a 0) (q0c q0i q0k)))) q0i))
   (q0b (q0B 3 q3S.nd (DR.de (q0O x.mk23 (j5W x) q0E hr.le rfl x.mC23 x.b23 .nil (λ_=>rfl) rfl (q0c (q0N q1c q0i (q0N q14 (DR.de (q0l (j0L x) hr.le rfl x.m67 x.F67.kp x.b67 .nil (λ_=>rfl) rfl (q0c (q0a 0) (q0c q0i q0k)))) q0i)) (q0c q0i (q0c q0i q0k))))))
   (q0b (q0B 4 q3S.nd (DR.de (q0O x.mk22 (j09 x) q0E hr.le rfl x.mC22 x.b19 .nil (λ_=>rfl) rfl (q0c q0T (q0c (DF.de (q0y (q0e (DR.de (q0O x.mk21 (j1Z x) q0E hr.le rfl x.mC21 x.b18 .nil (λ_=>rfl) rfl (q0c q0T (q0c q0i (q0c q0i (q0c q0T (q0c q0i q0k))))))) q0j))) q0k)))))
   (q0b (q0B 5 q3S.nd (DR.de (q0O x.mk20 (j0K x) q0E hr.le rfl x.mC20 x.b15 .nil (λ_=>rfl) rfl (q0c q0i (q0c q0i (q0c q0i (q0c (DF.de (q0y (q0e (q0a 3) q0j))) (q0c (DF.de (q0y (q0e (q0a 4) q0j))) q0k))))))))
   (q0b (q0B 6 q3S.nd (DR.de (q0l (j9G x) hr.le rfl x.m72 x.F72.kp x.b72 .nil (λ_=>rfl) rfl (q0c (q0a 1) (q0c (q0a 2) (q0c (q0a 3) (q0c (q0a 4) (q0c (q0a 5) q0k))))))))
   (q0b (q0I (DW.dt (q6g (q0t q2y (q0s q02 rfl x.n_len rfl (q0e (q0a 6) q0j)) q0i (nomark _)) (q5O (q0t q2y (q1S (q0a 6) q0i) (q0a 1) (nomark _))))) q0F q0x)
   (q0b (q0B 7 q3S.nd (DF.de (q0y (q0e (DR.de (q0O x.mk18 (j11 x) q0E hr.le rfl x.mC18 x.b5 .nil (λ_=>rfl) rfl (q0c q0T (q0c q0i (q0c (q0N q14 (q0a 2) q0i) q0k))))) q0j))))
   (q0b (q0I (q0t q52 (DR.de (q0l (j8f x) hr.le rfl x.m9 x.F9.kp x.b9 .nil (λ_=>rfl) rfl (q0c (q0a 5) (q0c (q0a 7) q0k)))) q51 (nomark _)) q0F q0x)
   (q0b (q0B 8 q3S.nd (DR.de (q0l (j12 x) hr.le rfl x.m11 x.F11.kp x.b11 .nil (λ_=>rfl) rfl (q0c (q0a 5) (q0c (q0a 7) q0k)))))
   (q0d (q1a (q5B (q3Q rfl x.n_isinstance (q0a 8) rfl x.n_list rfl q9c q5f) (q5B (q4s q1m (q0s q02 rfl x.n_len rfl (q0e (q0a 8) q0j)) q0i (nomark _)) (j0x (DR.de (q0l (j8V x) hr.le rfl x.m68 x.F68.kp x.b68 .nil (λ_=>rfl) rfl (q0c (q0q (q1S (q0a 8) q0i) (fo0 x)) (q0c q0i q0k)))))))))))))))))))
end
end Lw
open PySem L2 L3
namespace Lw
def isX (k:Nat):Out Rv->Bool
 | .exc c=>Nat.beq c k
 | _=>false
theorem q3o {k:Nat} {o:Out Rv} (h:isX k o=true):o=.exc k:=by
 cases o with
 | exc c=>rw [Nat.eq_of_beq_eq_true h]
 | _=>cases h
theorem q3s {n:Nat} {f:Nat->Bool} (h:(List.range n).all f=true) {c:Nat} (hc:c < n):f c=true:=List.all_eq_true.mp h c (List.mem_range.mpr hc)
def q4U:Nat->Nat->(Nat->Bool)->Bool
 | 0,lo,f=>f lo
 | k+1,lo,f=>q4U k lo f && q4U k (lo+2 ^ k) f
theorem q5d:∀(k lo:Nat) (f:Nat->Bool),q4U k lo f=true->∀c,lo<=c->c < lo+2 ^ k->f c=true
 | 0,lo,f,h,c,h1,h2=>by
  have:c=lo:=by simp at h2;omega
  rw [this];exact h
 | k+1,lo,f,h,c,h1,h2=>by
  rw [q4U,Bool.and_eq_true] at h
  rw [Nat.pow_succ] at h2
  by_cases q:c < lo+2 ^ k
  ·exact q5d k lo f h.1 c h1 q
  ·exact q5d k _ f h.2 c (by omega) (by omega)
theorem q1v {f:Nat->Bool} (h:q4U 10 0 f=true) {c:Nat} (hc:c < 1000):f c=true:=q5d 10 0 f h c (Nat.zero_le c) (by omega)
def kln (v:D):D:=.ins 23 [v,.int 40,.int 100]
def brd:D:=.ins 22 [.str "rye",.tup [.ins 21 [.str "bake",.int 20,.int 20,.str "oven",.int 100]]]
def bak (k:D):D:=.ins 20 [.int 100,.int 1,.int 1,.tup [k],.tup [brd]]
def rm (r:Nat):D:=.int ((5+r:Nat):Int)
def odr (l d:Int):D:=.ins 18 [.str "rye",.int l,.int d]
def pln (p:Int):D:=.lst [.ins 24 [.int p,.tup [.int 20],.int 1]]
def isL (w:Nat):Out Rv->Bool
 | .ok (.fr [.int i])=>decide (i=(w:Int))
 | _=>false
theorem f69 {w:Nat} (hw:w < 17):j6a [.sh (.exc (w+1))]=.ok (.fr [.int (w:Int)]):=by
 have h:=q3s (show (List.range 17).all (λw=>isL w (j6a [.sh (.exc (w+1))]))=true by kernel_rfl) hw
 generalize j6a [.sh (.exc (w+1))]=o at h
 unfold isL at h
 split at h
 ·rw [of_decide_eq_true h]
 ·cases h
theorem f72 {w:Nat} (hw:w < 17) (c:Int) (k b B:D) (h:(if w < 8 then j3a else j2y) [.sh (.int (w:Int)),.sh (.int c),.sh k,.sh b,.sh B]=.exc (w+1)) :
 j8H [.sh (.int (w:Int)),.sh (.int c),.sh k,.sh b,.sh B]=.ok (.sh (.lst [.int (w:Int)])):=by
 have lk:∀w:Nat,w < 17->List.lookup (w+1) [(0,true),(1,true),(2,true),(3,true),(4,true),(5,true),(6,true),(7,true),(8,true),(9,true),(10,true),(11,true),(12,true),(13,true),(14,true),(15,true),(16,true),(17,true)]=some true:=by decide
 have l:=lk w hw
 have e:=f69 hw
 have h18:w+1 < 18:=by omega
 have t:q5N [.sh (.int (w:Int)),.sh (.int c),.sh k,.sh b,.sh B,.no,.no]=.exc (w+1) [.sh (.int (w:Int)),.sh (.int c),.sh k,.sh b,.sh B,.no,.no]:=by
  clear l e lk
  by_cases q:w < 8
  ·rw [if_pos q] at h
   have q':(w:Int) < 8:=by omega
   simp [q5N,q97,h,q']
  ·rw [if_neg q] at h
   have q':¬(w:Int) < 8:=by omega
   simp [q5N,j0j,h,q']
 have s:q8b [.sh (.int (w:Int)),.sh (.int c),.sh k,.sh b,.sh B,.no,.no]=.rt (.sh (.lst [.int (w:Int)])):=by
  unfold q8b q8z
  rw [t]
  unfold q2q
  dsimp only
  rw [l]
  simp [j0o,q98,e,h18]
 rw [j8H];exact j02 _ rfl s
abbrev h1 (w c:Nat) (k B:D):Out Rv:=j3a [.sh (.int (w:Int)),.sh (.int (c:Int)),.sh k,.sh brd,.sh B]
theorem w0 (k B:D):q4U 10 0 (λc=>isX 1 (h1 0 c k B))=true:=by kernel_rfl
theorem w1 (k B:D):q4U 10 0 (λc=>isX 2 (h1 1 c k B))=true:=by kernel_rfl
theorem w2 (k B:D):q4U 10 0 (λc=>isX 3 (h1 2 c k B))=true:=by kernel_rfl
theorem w3 (k B:D):q4U 10 0 (λc=>isX 4 (h1 3 c k B))=true:=by kernel_rfl
theorem w4 (c:Nat) (k B:D):isX 5 (h1 4 c k B)=true:=by kernel_rfl
theorem w5 (c:Nat) (B v:D):isX 6 (h1 5 c (kln v) B)=true:=by kernel_rfl
theorem w6 (k:D):q4U 10 0 (λc=>isX 7 (h1 6 c k (bak k)))=true:=by kernel_rfl
theorem w7 (k:D):q4U 10 0 (λc=>isX 8 (h1 7 c k (bak k)))=true:=by kernel_rfl
theorem half1 {w c:Nat} (hw:w < 8) (hc:c < 1000) (v:D):j3a [.sh (.int (w:Int)),.sh (.int (c:Int)),.sh (kln v),.sh brd,.sh (bak (kln v))]=.exc (w+1):=by
 apply q3o
 match w,hw with
 | 0,_=>exact q1v (w0 _ _) hc
 | 1,_=>exact q1v (w1 _ _) hc
 | 2,_=>exact q1v (w2 _ _) hc
 | 3,_=>exact q1v (w3 _ _) hc
 | 4,_=>exact w4 _ _ _
 | 5,_=>exact w5 _ _ _
 | 6,_=>exact q1v (w6 _) hc
 | 7,_=>exact q1v (w7 _) hc
theorem q3x {n:Int} (h:n.natAbs < 2 ^ 200):n.natAbs.log2 < 1920:=by
 by_cases h0:n.natAbs=0
 ·rw [h0];decide
 ·rw [Nat.log2_lt h0]
  exact Nat.lt_of_lt_of_le h (Nat.pow_le_pow_right (by decide) (by decide))
theorem chkn (n lo hi:Int) (hn:n.natAbs.log2 < 1920) (hl:lo.natAbs.log2 < 1920) (hh:hi.natAbs.log2 < 1920):F_2 [.sh (.int n),.sh (.int lo),.sh (.int hi)]=if lo<=n/\n<=hi then .ok (.sh .non) else .exc 4:=by
 have l1:Str.length " does not lie from "<=200000:=by decide
 have l2:Str.length " to "<=200000:=by decide
 by_cases h1:lo<=n
 ·by_cases h2:n<=hi
  ·simp [F_2,q9P,h1,h2]
  ·simp [F_2,q9P,j0I,h1,h2,hn,hl,hh,l1,l2]
 ·simp [F_2,q9P,j0I,h1,hn,hl,hh,l1,l2]
def ods:D:=.lst [odr 1 90]
abbrev t71 (w c:D) (k B p:D):Out Rv:=fnF 7 q0S [.sh w,.sh c,.sh k,.sh brd,.sh B,.sh ods,.sh p]
theorem chk4 (n:Int) (h:2<=n) (h2:n < 5000):F_4 [.sh (.int n),.sh (.int 1)]=.exc 11:=by
 have l1:Str.length "no batch "<=200000:=by decide
 have l2:Str.length " among "<=200000:=by decide
 have q1:1<=n:=by omega
 have q2:¬n<=1:=by omega
 have q3:=q3x (n:=n) (by have:(5000:Nat) < 2 ^ 200:=by decide
                         omega)
 have q4:Nat.log2 1 < 1920:=by decide
 simp [F_4,j7y,j3H,q1,q2,q3,q4,l1,l2]
theorem run1 (p:Int) (h:0<=p):j25 [.sh (.int p),.sh (.lst [.int 20]),.sh (.int 1)]=.ok (.sh (.ins 24 [.int p,.tup [.int 20],.int 1])):=by
 obtain ⟨b1,b2⟩:=q8a (is:=[p,1,20]) (by simp)
 have e:q48 [.lst [.int p,.int 1,.int 20]]=.ok (.int (q1P false [p,1,20])):=q9t (is:=[p,1,20]) (by simp)
 generalize q1P false [p,1,20]=m at *
 have hm:¬m < 0:=by
  simp only [List.mem_cons,List.not_mem_nil,or_false] at b1
  omega
 simp [j25,j0k,q9W,q9U,q93,e,hm]
theorem j68:F_5 [.sh (.str "rye"),.sh (.int 1),.sh (.int 90)]=.ok (.sh (odr 1 90)):=by kernel_rfl
theorem f71 (w:D) (c:Int) (k B:D):j2y [.sh w,.sh (.int c),.sh k,.sh brd,.sh B]=t71 w (.int c) k B (pln (c % 70)):=by
 have r:=run1 (c % 70) (by omega)
 have o:=j68
 rw [j2y]
 unfold t71 ods pln
 generalize odr 1 90=oo at *
 have e:q4P [.sh w,.sh (.int c),.sh k,.sh brd,.sh B,.no,.no]=q0S [.sh w,.sh (.int c),.sh k,.sh brd,.sh B,.sh (.lst [oo]),.sh (.lst [.ins 24 [.int (c % 70),.tup [.int 20],.int 1]])]:=by
  generalize hG:q0S=G
  simp [q4P,q8e,o,r,hG]
 simp only [fnF]
 exact congrArg (λz=>match z with | .nx _=>Out.ok (Rv.sh .non) | .rt r=>.ok r | .exc c _=>.exc c | _=>.bad) e
def K' (w:Bool):D:=kln (rm w.toNat)
theorem w8 (w:Bool) (q:Bool):isX 9 (F_9 [.sh (bak (K' w)),.sh (.lst [odr (60-q.toNat) 90,odr 60 90,odr 60 90])])=true:=by
 cases w<;>cases q<;>kernel_rfl
theorem w9 (w:Bool) (c:Int) (p:D):isX 10 (t71 (.int 9) (.int c) (K' w) (bak (K' w)) p)=true:=by
 cases w<;>kernel_rfl
def w02:Out Rv->Bool
 | .ok _=>true
 | _=>false
theorem j1K {o:Out Rv} (h:w02 o=true):∃d,o=.ok d:=by
 cases o with
 | ok d=>exact ⟨d,rfl⟩
 | _=>cases h
theorem e33 (w:Bool) (p:Int):j5g [.sh (bak (K' w)),.sh ods,.sh (pln p)]=.ok (.sh (.lst [.ins 19 [.int 1,.int 1,.int 1]])):=by
 cases w<;>kernel_rfl
theorem e35 (w:Bool) (p:Int):w02 (j6b [.sh (bak (K' w)),.sh ods,.sh (pln p)])=true:=by
 cases w<;>kernel_rfl
theorem w10 (w:Bool) (c:Int) (h:0<=c) (h2:c < 1000) (p:Int):t71 (.int 10) (.int c) (K' w) (bak (K' w)) (pln p)=.exc 11:=by
 have e1:=e33 w p
 have e2:=chk4 (2+c) (by omega) (by omega)
 unfold t71
 generalize K' w=k at *
 generalize ods=o at *
 generalize pln p=pp at *
 generalize bak k=B at *
 have e:q0S [.sh (.int 10),.sh (.int c),.sh k,.sh brd,.sh B,.sh o,.sh pp]=.exc 11 [.sh (.int 10),.sh (.int c),.sh k,.sh brd,.sh B,.sh o,.sh pp]:=by
  simp [q0S,q1D,q1C,j0E,j71,j0b,e1,e2]
 exact q4i _ rfl e
theorem w11 (w:Bool) (c:Int) (h:0<=c) (h2:c < 1000) (p:Int):t71 (.int 11) (.int c) (K' w) (bak (K' w)) (pln p)=.exc 12:=by
 obtain ⟨d,e1⟩:=j1K (e35 w p)
 have l1:Str.length "no oven "<=200000:=by decide
 have l2:Str.length " among "<=200000:=by decide
 have q1:1<=2+c:=by omega
 have q2:¬2+c<=1:=by omega
 have q3:=q3x (n:=2+c) (by have:(5000:Nat) < 2 ^ 200:=by decide
                           omega)
 have q4:Nat.log2 1 < 1920:=by decide
 unfold t71
 generalize ods=o at *
 generalize pln p=pp at *
 have e:q0S [.sh (.int 11),.sh (.int c),.sh (K' w),.sh brd,.sh (bak (K' w)),.sh o,.sh pp]=.exc 12 [.sh (.int 11),.sh (.int c),.sh (K' w),.sh brd,.sh (bak (K' w)),.sh o,.sh pp]:=by
  generalize K' w=k at *
  unfold bak at *
  simp [q0S,q1D,q1C,q1I,j0g,j3G,q7l,q7d,q8v,j0r,e1,q1,q2,q3,q4,l1,l2]
 exact q4i _ rfl e
theorem w12 (c:Int) (h:0<=c) (h2:c < 1000) (k B p:D):t71 (.int 12) (.int c) k B p=.exc 13:=by
 have l1:Str.length "no order "<=200000:=by decide
 have l2:Str.length " among "<=200000:=by decide
 have q1:1<=1+c:=by omega
 have q2:¬1+c<=0:=by omega
 have q3:=q3x (n:=1+c) (by have:(5000:Nat) < 2 ^ 200:=by decide
                           omega)
 have q4:Nat.log2 0 < 1920:=by decide
 have e62:j9Z [.sh B]=.ok (.sh (.ins 26 [B,.lst []])):=by kernel_rfl
 unfold t71
 generalize ods=o at *
 have e:q0S [.sh (.int 12),.sh (.int c),.sh k,.sh brd,.sh B,.sh o,.sh p]=.exc 13 [.sh (.int 12),.sh (.int c),.sh k,.sh brd,.sh B,.sh o,.sh p]:=by
  simp [q0S,q1D,q1C,q1I,q2a,j0q,e62,w0f,j0y,j0i,j0a,q1,q2,q3,q4,l1,l2]
 exact q4i _ rfl e
def prt (b:Int):D:=.ins 25 [.int 1,.ins 21 [.str "bake",.int 20,.int 20,.str "oven",.int 100],.int b,.int (b+20),.int 1,.int 1]
def dor:D:=.tup [.int 90,.str "door",.int 1]
theorem p35 (w:Bool) (p:Int):j6b [.sh (bak (K' w)),.sh ods,.sh (pln p)]=.ok (.fr [prt p]):=by
 cases w<;>kernel_rfl
def isE:Out Rv->Bool
 | .ok (.fr [])=>true
 | _=>false
theorem q72 {o:Out Rv} (h:isE o=true):o=.ok (.fr []):=by
 unfold isE at h
 split at h
 ·rfl
 ·cases h
def w0R:Out Rv->Bool
 | .ok (.fr [.tup [.int i,.str s,.int j]])=>decide (i=90) && (decide (s="door") && decide (j=1))
 | _=>false
theorem j07 {o:Out Rv} (h:w0R o=true):o=.ok (.fr [dor]):=by
 unfold w0R at h
 split at h
 ·simp only [Bool.and_eq_true,decide_eq_true_eq] at h
  obtain ⟨rfl,rfl,rfl⟩:=h
  rfl
 ·cases h
abbrev bg (c:Nat):Int:=((71+c:Nat):Int)
theorem x41 (w:Bool):q4U 10 0 (λc=>w0R (w0I [.sh (bak (K' w)),.sh ods,.sh (pln (bg c))]))=true:=by
 cases w<;>kernel_rfl
theorem x42:q4U 10 0 (λc=>isE (j9m [.sh (.lst [prt (bg c)])]))=true:=by kernel_rfl
theorem x44 (w:Bool):q4U 10 0 (λc=>isE (j9v [.sh (bak (K' w)),.sh (.lst [prt (bg c)])]))=true:=by
 cases w<;>kernel_rfl
theorem x45 (w:Bool):q4U 10 0 (λc=>isE (j9l [.sh (bak (K' w)),.sh (.lst [prt (bg c)])]))=true:=by
 cases w<;>kernel_rfl
theorem f40 (w:Bool) {c:Nat} (h:c < 1000):j21 [.sh (bak (K' w)),.sh ods,.sh (pln (bg c))]=.ok (.sh dor):=by
 have a1:=p35 w (bg c)
 have a2:=j07 (q1v (x41 w) h)
 have a3:=q72 (q1v x42 h)
 have a4:=q72 (q1v (x44 w) h)
 have a5:=q72 (q1v (x45 w) h)
 have a6:j9b [.sh dor]=.ok (.sh (.tup [.int 90,.int 0,.int 1])):=by kernel_rfl
 generalize bak (K' w)=B at *
 generalize ods=o at *
 generalize pln (bg c)=pp at *
 generalize prt (bg c)=pt at *
 generalize dor=dd at *
 have s1:q5x [.sh B,.sh o,.sh pp,.sh (.lst [pt]),.ow [dd]]=.rt (.sh dd):=by simp [q5x,a6]
 have s2:q5r [.sh B,.sh o,.sh pp,.sh (.lst [pt]),.ow [dd]]=.rt (.sh dd):=by
  generalize hG:q5x=G at *
  clear a6
  simp [q5r,a4,a5,s1,hG]
 have s3:q5I [.sh B,.sh o,.sh pp,.sh (.lst [pt]),.no]=.rt (.sh dd):=by
  clear s1
  generalize hG:q5r=G at *
  clear a6
  simp [q5I,a2,a3,s2,hG]
 have s4:q7v [.sh B,.sh o,.sh pp,.no,.no]=.rt (.sh dd):=by
  clear s1 s2
  generalize hG:q5I=G at *
  clear a6
  simp [q7v,a1,s3,hG]
 rw [j21];exact j02 _ rfl s4
theorem w13 (w:Bool) {c:Nat} (h:c < 1000) (p:D):t71 (.int 13) (.int (c:Int)) (K' w) (bak (K' w)) p=.exc 14:=by
 have r:=run1 (71+(c:Int)) (by omega)
 have a1:=p35 w (bg c)
 have a2:=f40 w h
 have e0:(71+(c:Int))=bg c:=by show _=((71+c:Nat):Int);omega
 rw [e0] at r
 have pe:D.lst [.ins 24 [.int (bg c),.tup [.int 20],.int 1]]=pln (bg c):=rfl
 unfold t71
 generalize ods=o at *
 generalize prt (bg c)=pt at *
 have nd:dor=.tup [.int 90,.str "door",.int 1]:=rfl
 have e:q0S [.sh (.int 13),.sh (.int (c:Int)),.sh (K' w),.sh brd,.sh (bak (K' w)),.sh o,.sh p]=.exc 14 [.sh (.int 13),.sh (.int (c:Int)),.sh (K' w),.sh brd,.sh (bak (K' w)),.sh o,.sh p]:=by
  generalize K' w=k at *
  generalize bg c=b at *
  generalize pln b=pp at *
  unfold bak at *
  simp [q0S,q1D,q1C,q1I,q2a,q2o,j0e,j3G,q7l,q7d,q8v,j0F,q9Z,e0,r,pe,a1,a2,nd]
 exact q4i _ rfl e
theorem x14 (v:D):(List.range 99).all (λq=>isX 15 (j8U [.sh (kln v),.sh (.lst [.int (299-(q:Int))])]))=true:=by kernel_rfl
theorem w14 (v:D) (c:Int) (B p:D):t71 (.int 14) (.int c) (kln v) B p=.exc 15:=by
 obtain ⟨q,hq⟩:∃q:Nat,c % 99=(q:Int):=⟨(c % 99).toNat,by omega⟩
 have a:=q3o (q3s (x14 v) (c:=q) (by omega))
 unfold t71
 generalize ods=o at *
 have e:q0S [.sh (.int 14),.sh (.int c),.sh (kln v),.sh brd,.sh B,.sh o,.sh p]=.exc 15 [.sh (.int 14),.sh (.int c),.sh (kln v),.sh brd,.sh B,.sh o,.sh p]:=by
  generalize kln v=k at *
  simp [q0S,q1D,q1C,q1I,q2a,q2o,q2N,q9Y,hq,a]
 exact q4i _ rfl e
def wide (w:Bool) (q:Nat):Out Rv:=(j1J [.sh (.int (121+(q:Int))),.sh (.int 1),.sh (.int 1),.sh (.lst [K' w]),.sh (.lst [brd])]).bind λr=>j75 [.sh r.d,.sh ods,.sh (.int 1)]
theorem x15 (w:Bool):(List.range 600).all (λq=>isX 16 (wide w q))=true:=by cases w<;>kernel_rfl
theorem w15 (w:Bool) (c:Int) (p:D):t71 (.int 15) (.int c) (K' w) (bak (K' w)) p=.exc 16:=by
 obtain ⟨q,hq⟩:∃q:Nat,c % 600=(q:Int):=⟨(c % 600).toNat,by omega⟩
 have a:=q3o (q3s (x15 w) (c:=q) (by omega))
 unfold wide at a
 unfold t71
 generalize ods=o at *
 generalize bak (K' w)=B at *
 generalize K' w=k at *
 have e:q0S [.sh (.int 15),.sh (.int c),.sh k,.sh brd,.sh B,.sh o,.sh p]=.exc 16 [.sh (.int 15),.sh (.int c),.sh k,.sh brd,.sh B,.sh o,.sh p]:=by
  cases e15:j1J [.sh (.int (121+(q:Int))),.sh (.int 1),.sh (.int 1),.sh (.lst [k]),.sh (.lst [brd])] with
  | ok r=>
   rw [e15] at a
   have a:j75 [.sh r.d,.sh o,.sh (.int 1)]=.exc 16:=a
   cases r<;>(simp at a;simp [q0S,q1D,q1C,q1I,q2a,q2o,q2N,q3Z,q7H,hq,e15,a])
  | exc k=>rw [e15] at a;simp at a;simp [q0S,q1D,q1C,q1I,q2a,q2o,q2N,q3Z,q7H,hq,e15,a]
  | bad=>rw [e15] at a;cases a
 exact q4i _ rfl e
theorem x16 (w:Bool):(List.range 20).all (λq=>isX 17 (j9E [.sh (bak (K' w)),.sh (.lst [odr 1 (q:Int)])]))=true:=by cases w<;>kernel_rfl
theorem q5i (l d:Int) (h:1<=l/\l<=60):F_5 [.sh (.str "rye"),.sh (.int l),.sh (.int d)]=.ok (.sh (odr l d)):=by
 have c1:=chkn l 1 60 (q3x (by have:(60:Nat) < 2 ^ 200:=by decide
                               omega)) (by decide) (by decide)
 rw [if_pos h] at c1
 simp [F_5,j7i,j3g,j6m,j39,c1,odr]
theorem w16 (w:Bool) (c:Int) (p:D):t71 (.int 16) (.int c) (K' w) (bak (K' w)) p=.exc 17:=by
 obtain ⟨q,hq⟩:∃q:Nat,c % 20=(q:Int):=⟨(c % 20).toNat,by omega⟩
 have a:=q3o (q3s (x16 w) (c:=q) (by omega))
 have b:=q5i 1 (q:Int) (by decide)
 unfold t71
 generalize ods=o at *
 generalize bak (K' w)=B at *
 generalize K' w=k at *
 generalize odr 1 (q:Int)=oo at *
 have e:q0S [.sh (.int 16),.sh (.int c),.sh k,.sh brd,.sh B,.sh o,.sh p]=.exc 17 [.sh (.int 16),.sh (.int c),.sh k,.sh brd,.sh B,.sh o,.sh p]:=by
  simp [q0S,q1D,q1C,q1I,q2a,q2o,q2N,q3Z,q7a,q96,hq,a,b]
 exact q4i _ rfl e
theorem v8 (w:Bool) (c:Int) (p:D):t71 (.int 8) (.int c) (K' w) (bak (K' w)) p=.exc 9:=by
 have b0:=q5i 60 90 (by decide)
 obtain ⟨q,hq⟩:∃q:Bool,c % 2=(q.toNat:Int):=by
  rcases (by omega:c % 2=0∨c % 2=1) with h | h
  ·exact ⟨false,h⟩
  ·exact ⟨true,h⟩
 have b1:=q5i (60-(q.toNat:Int)) 90 (by cases q<;>decide)
 have a:=q3o (w8 w q)
 unfold t71
 generalize ods=o at *
 generalize bak (K' w)=B at *
 generalize K' w=k at *
 generalize odr (60-(q.toNat:Int)) 90=o1 at *
 generalize odr 60 90=o2 at *
 have e:q0S [.sh (.int 8),.sh (.int c),.sh k,.sh brd,.sh B,.sh o,.sh p]=.exc 9 [.sh (.int 8),.sh (.int c),.sh k,.sh brd,.sh B,.sh o,.sh p]:=by
  simp [q0S,j0c,hq,a,b0,b1]
 exact q4i _ rfl e
theorem half2 {w c:Nat} (hw:w < 17) (h8:8<=w) (hc:c < 1000) (r:Bool):j2y [.sh (.int (w:Int)),.sh (.int (c:Int)),.sh (K' r),.sh brd,.sh (bak (K' r))]=.exc (w+1):=by
 rw [f71]
 rcases (by omega:w=8∨w=9∨w=10∨w=11∨w=12∨w=13∨w=14∨w=15∨w=16) with rfl | rfl | rfl | rfl | rfl | rfl | rfl | rfl | rfl
 ·exact v8 _ _ _
 ·exact q3o (w9 r _ _)
 ·exact w10 _ _ (by omega) (by omega) _
 ·exact w11 _ _ (by omega) (by omega) _
 ·exact w12 _ (by omega) (by omega) _ _ _
 ·exact w13 _ hc _
 ·exact w14 _ _ _ _
 ·exact w15 _ _ _
 ·exact w16 _ _ _
theorem at_ (ns:List Int) (k:Nat):q8B [.sh (.lst (ns.map D.int)),.sh (.int k)]=.ok (.sh (.int (ns.getD k 0))):=by
 by_cases h:k < ns.length
 ·have e:atI (ns.map D.int) (k:Int)=some (.int ns[k]):=j0T (by simp [h])
  simp [q8B,q8q,q7e,q6L,h,e]
 ·simp [q8B,q8q,q7e,q6L,h]
theorem is_ (i j:Int):j7H [.sh (.int i),.sh (.int j)]=.ok (.sh (.bl (decide (i=j)))):=by simp [j7H,j0s]
def isN:Out Rv->Bool
 | .ok (.sh .non)=>true
 | _=>false
def isC:Out Rv->Bool
 | .ok (.sh (.lst [.ins c [.int _,.int _,.int i]]))=>Nat.beq c 19 && decide (i=5)
 | .ok (.fr [.ins c [.int _,.int _,.int i]])=>Nat.beq c 19 && decide (i=5)
 | _=>false
theorem x9 (w:Bool):(List.range 101).all (λq=>isN (F_9 [.sh (bak (K' w)),.sh (.lst [odr 5 (q:Int)])]))=true:=by cases w<;>kernel_rfl
theorem x11 (w:Bool):(List.range 101).all (λq=>isC (j2w [.sh (bak (K' w)),.sh (.lst [odr 5 (q:Int)])]))=true:=by cases w<;>kernel_rfl
theorem j3c {o:Out Rv} (h:isN o=true):o=.ok (.sh .non):=by
 unfold isN at h
 split at h
 ·rfl
 ·cases h
theorem j4w {o:Out Rv} (h:isC o=true):∃x y,o.bind (λr=>.ok r.d)=.ok (.lst [.ins 19 [.int x,.int y,.int 5]]):=by
 unfold isC at h
 split at h
 ·rw [Bool.and_eq_true,decide_eq_true_eq] at h
  obtain ⟨h1,rfl⟩:=h
  rw [Nat.eq_of_beq_eq_true h1]
  exact ⟨_,_,rfl⟩
 ·rw [Bool.and_eq_true,decide_eq_true_eq] at h
  obtain ⟨h1,rfl⟩:=h
  rw [Nat.eq_of_beq_eq_true h1]
  exact ⟨_,_,rfl⟩
 ·cases h
theorem j1q (w:Bool):j7Z [.sh (.int (5+(w.toNat:Int))),.sh (.int 40),.sh (.int 100)]=.ok (.sh (K' w)):=by cases w<;>kernel_rfl
theorem j2I:(j2v [.sh (.str "bake"),.sh (.int 20),.sh (.int 20),.sh (.str "oven"),.sh (.int 100)]).bind (λr=>j2x [.sh (.str "rye"),.sh (.lst [r.d])])=.ok (.sh brd):=by kernel_rfl
theorem j4s (w:Bool):j1J [.sh (.int 100),.sh (.int 1),.sh (.int 1),.sh (.lst [K' w]),.sh (.lst [brd])]=.ok (.sh (bak (K' w))):=by cases w<;>kernel_rfl
theorem law_true (ns:List Int) (_:ns.length<=63):j4n [.sh (.lst (ns.map D.int))]=.ok (.sh (.bl true)):=by
 have t0:=at_ ns 0
 have t1:=at_ ns 1
 have t2:=at_ ns 2
 generalize D.lst (ns.map D.int)=nn at *
 generalize ns.getD 0 0=n0 at *
 generalize ns.getD 1 0=n1 at *
 generalize ns.getD 2 0=n2 at *
 obtain ⟨w,hw⟩:∃w:Nat,n0 % 17=(w:Int):=⟨(n0 % 17).toNat,by omega⟩
 obtain ⟨c,hc⟩:∃c:Nat,n1 % 1000=(c:Int):=⟨(n1 % 1000).toNat,by omega⟩
 obtain ⟨r,hr⟩:∃r:Bool,n2 % 2=(r.toNat:Int):=by
  rcases (by omega:n2 % 2=0∨n2 % 2=1) with h | h
  ·exact ⟨false,h⟩
  ·exact ⟨true,h⟩
 have w17:w < 17:=by omega
 have c1000:c < 1000:=by omega
 obtain ⟨q,hq⟩:∃q:Nat,(c:Int) % 101=(q:Int):=⟨c % 101,by omega⟩
 have hf:=f72 w17 c (K' r) brd (bak (K' r)) (by
  by_cases h8:w < 8
  ·rw [if_pos h8];exact half1 h8 c1000 _
  ·rw [if_neg h8];exact half2 w17 (by omega) c1000 r)
 have y9:=j3c (q3s (x9 r) (c:=q) (by omega))
 obtain ⟨x,y,y11⟩:=j4w (q3s (x11 r) (c:=q) (by omega))
 have yo:=q5i 5 (q:Int) (by decide)
 have yk:=j1q r
 have yb:=j4s r
 have yr:=j2I
 generalize bak (K' r)=B at *
 generalize K' r=k at *
 generalize brd=b at *
 generalize odr 5 (q:Int)=oo at *
 have e1:q5C [.sh nn,.sh (.int (w:Int)),.sh (.int (c:Int)),.sh k,.sh b,.sh B,.sh (.lst [.int (w:Int)]),.sh (.lst [oo]),.sh (.lst [.ins 19 [.int x,.int y,.int 5]])]=.rt (.sh (.bl true)):=by
  have i5:=is_ 5 5
  clear hf y9 y11 yo yk yb yr t0 t1 t2
  have a0:atI [D.ins 19 [.int x,.int y,.int 5]] 0=some (.ins 19 [.int x,.int y,.int 5]):=rfl
  have lk:List.lookup 19 [(18,1),(19,2),(25,4)]=some 2:=by decide
  simp [q5C,i5,a0,lk]
 have e2:q5J [.sh nn,.sh (.int (w:Int)),.sh (.int (c:Int)),.sh k,.sh b,.sh B,.sh (.lst [.int (w:Int)]),.sh (.lst [oo]),.no]=.rt (.sh (.bl true)):=by
  generalize hG:q5C=G at *
  cases e11:j2w [.sh B,.sh (.lst [oo])] with
  | ok z=>
   rw [e11] at y11
   have y11:z.d=_:=Out.ok.inj y11
   cases z<;>(simp at y11;simp [q5J,e11,y11,hG,e1])
  | exc z=>rw [e11] at y11;cases y11
  | bad=>rw [e11] at y11;cases y11
 have e3:q5q [.sh nn,.sh (.int (w:Int)),.sh (.int (c:Int)),.sh k,.sh b,.sh B,.sh (.lst [.int (w:Int)]),.sh (.lst [oo]),.no]=.rt (.sh (.bl true)):=by
  generalize hG:q5J=G at *
  simp [q5q,y9,e2,hG]
 have e4:q5T [.sh nn,.sh (.int (w:Int)),.sh (.int (c:Int)),.sh k,.sh b,.sh B,.sh (.lst [.int (w:Int)]),.no,.no]=.rt (.sh (.bl true)):=by
  generalize hG:q5q=G at *
  simp [q5T,hq,yo,e3,hG]
 have e5:q5M [.sh nn,.sh (.int (w:Int)),.sh (.int (c:Int)),.sh k,.sh b,.sh B,.sh (.lst [.int (w:Int)]),.no,.no]=.rt (.sh (.bl true)):=by
  generalize hG:q5T=G at *
  have a0:atI [D.int (w:Int)] 0=some (.int (w:Int)):=rfl
  simp [q5M,e4,hG,a0]
 have e6:q5G [.sh nn,.sh (.int (w:Int)),.sh (.int (c:Int)),.sh k,.sh b,.sh B,.no,.no,.no]=.rt (.sh (.bl true)):=by
  generalize hG:q5M=G at *
  simp [q5G,hf,e5,hG]
 have e7:q5p [.sh nn,.sh (.int (w:Int)),.sh (.int (c:Int)),.sh k,.sh b,.no,.no,.no,.no]=.rt (.sh (.bl true)):=by
  generalize hG:q5G=G at *
  simp [q5p,yb,e6,hG]
 have e8:q5X [.sh nn,.sh (.int (w:Int)),.sh (.int (c:Int)),.sh k,.no,.no,.no,.no,.no]=.rt (.sh (.bl true)):=by
  generalize hG:q5p=G at *
  cases e18:j2v [.sh (.str "bake"),.sh (.int 20),.sh (.int 20),.sh (.str "oven"),.sh (.int 100)] with
  | ok z=>
   rw [e18] at yr
   have yr:j2x [.sh (.str "rye"),.sh (.lst [z.d])]=.ok (.sh b):=yr
   cases z<;>(simp at yr;simp [q5X,e18,yr,e7,hG])
  | exc z=>rw [e18] at yr;cases yr
  | bad=>rw [e18] at yr;cases yr
 have e9:q5j [.sh nn,.sh (.int (w:Int)),.sh (.int (c:Int)),.no,.no,.no,.no,.no,.no]=.rt (.sh (.bl true)):=by
  generalize hG:q5X=G at *
  have t2:q8B [.sh nn,.sh (.int 2)]=.ok (.sh (.int n2)):=t2
  simp [q5j,t2,hr,yk,e8,hG]
 have e10:q3w [.sh nn,.sh (.int (w:Int)),.no,.no,.no,.no,.no,.no,.no]=.rt (.sh (.bl true)):=by
  generalize hG:q5j=G at *
  have t1:q8B [.sh nn,.sh (.int 1)]=.ok (.sh (.int n1)):=t1
  simp [q3w,t1,hc,e9,hG]
 have e11:q42 [.sh nn,.no,.no,.no,.no,.no,.no,.no,.no]=.rt (.sh (.bl true)):=by
  generalize hG:q3w=G at *
  have t0:q8B [.sh nn,.sh (.int 0)]=.ok (.sh (.int n0)):=t0
  simp [q42,t0,hw,e10,hG]
 rw [j4n];exact j02 _ rfl e11
end Lw
namespace Lw
open PySem PySem.W L2 L3
theorem q06 {K:Frag} {f c:Addr} {q:Str} {a:Option (Option Value)} {d:FuncData} (h:q04 K f c q a=q03 f d):K.lookup f=some (fo d)/\codeIn K (.ref c) q=true/\keepIn K (.ref f)=true/\isFn K (.ref f)=true/\a=some (some (.ref f)):=by
 unfold q04 q03 at h
 simpa only [Prod.mk.injEq] using h
theorem q8U {K:Frag} {C:Addr} {n:Str} {fs:List Str} (h:q6U K C n fs=q7j C fs):nI K n=some (some (.ref C))/\plainGet K C Str.empty=true/\hasDictIn K C=true/\plainOver K C=true/\makesIn K C=true/\keepIn K (.ref C)=true/\findIn K (.ref C) "__setattr__" = some (some (.builtin "object.__setattr__"))/\∀(i:Nat) (x:Str),fs[i]?=some x->findIn K (.ref C) x=some none:=by
 unfold q6U q7j at h
 simp only [Prod.mk.injEq,List.cons.injEq,and_true] at h
 obtain ⟨h1,⟨h2,h3,h4,h5,h6⟩,h7,h8⟩:=h
 refine ⟨h1,h2,h3,h4,h5,h6,h7,λi x e=>?_⟩
 have:=congrArg (·[i]?) h8
 simp only [List.getElem?_map,e,Option.map_some,Option.some.injEq] at this
 exact this
theorem q32 {K:Frag} {C:Addr} {n:Str} (h:q3t K C n=q3k C):nI K n=some (some (.ref C))/\excIn K C [.type "ValueError",.type "Exception",.type "BaseException",.type "object"] "ValueError.__new__" = true:=by
 unfold q3t q3k at h
 simpa only [Prod.mk.injEq] using h
theorem j9B {K:Frag} {L:List Addr} {n:Nat} (hn:(L.take n).length=n) (e:(L.take n).map (q9Q K (L.take n))=(List.range n).map (q8Q n)) {c:Nat} (h:c < n):q9Q K (L.take n) (L.getD c 0)=q8Q n c:=by
 refine Hd.row e c ?_ ?_
 ·rw [List.getElem?_map,List.getElem?_take_of_lt h,List.getD_eq_getElem?_getD,List.getElem?_eq_getElem (by rw [List.length_take] at hn;omega)];rfl
 ·rw [List.getElem?_map,List.getElem?_range h];rfl
theorem iIx {K:Frag} {ex:List Addr} {C:Addr} {n c:Nat} (h:q9Q K ex C=q8Q n c):q9m K C:=by
 unfold q9Q q8Q at h
 simp only [Prod.mk.injEq,List.cons.injEq,and_true] at h
 obtain ⟨⟨h1,h2,h3,h4⟩,⟨h5,h6,h7,h8⟩,h9⟩:=h
 exact ⟨h1,h2,h3,h4,h5,h6,h7⟩
theorem iKt {K:Frag} {L:List Addr} {C:Addr} {n c j:Nat} (hn:(L.take n).length=n) (h:q9Q K (L.take n) C=q8Q n c) (hj:j < n):kitOne K (.ref C) (.ref (L.getD j 0))=some (c==j || j==0):=by
 unfold q9Q q8Q at h
 refine Hd.row (Prod.mk.inj (Prod.mk.inj h).2).2 j ?_ ?_
 ·rw [List.getElem?_map,List.getElem?_take_of_lt hj,List.getD_eq_getElem?_getD,List.getElem?_eq_getElem (by rw [List.length_take] at hn;omega)];rfl
 ·rw [List.getElem?_map,List.getElem?_range hj];rfl
theorem iKv {K:Frag} {ex:List Addr} {C:Addr} {n c:Nat} (h:q9Q K ex C=q8Q n c):kitOne K (.ref C) (.type "ValueError")=some true:=by
 unfold q9Q q8Q at h
 simp only [Prod.mk.injEq,List.cons.injEq,and_true] at h
 exact h.2.1.2.2.2
theorem j0Z {l:OpenLaw} {w:World} {K:Frag} {h:Heap} {mg:Str->Option Value} {fa:Addr} (X:K.In h) (G:h.Ns mainGlobals mg) (hfa:mg "law" = some (.ref fa)) (e:q5c K=j1n)
 : ∃fd:FuncData,(∀(s:Shared) (v:Value),BindsTo s fd ⟨[v],[]⟩ [("_law_script",v)])/\∃T:Tb,∀base:Heap,K.In base->base.Ns mainGlobals mg->FnOk l.prog w K mg base (CXE T l.prog w) 13 fa fd ["_law_script"] (spD T K 1 j4n):=by
 obtain ⟨eF,e⟩:=Prod.mk.inj (e:(hLF K,hLG K,hLC K,hLE K,hZ.map (λx=>nI K x),hLI K,hLV K,hLB K,hLO K,hLX K)=(hRF,hRG,hRC,hRE,hZ.map (λ_=>(some none:Option (Option Value))),hRI,hRV,hRB,hRO,hRX))
 obtain ⟨eG,e⟩:=Prod.mk.inj e
 obtain ⟨eC,e⟩:=Prod.mk.inj e
 obtain ⟨eE,e⟩:=Prod.mk.inj e
 obtain ⟨eZ,e⟩:=Prod.mk.inj e
 obtain ⟨eI,e⟩:=Prod.mk.inj e
 obtain ⟨eV,e⟩:=Prod.mk.inj e
 obtain ⟨eB,e⟩:=Prod.mk.inj e
 obtain ⟨eO,e⟩:=Prod.mk.inj e
 obtain ⟨l1,c1,k1,i1,a1⟩:=q06 (Hd.row eF 0 rfl rfl)
 obtain ⟨l2,c2,k2,i2,a2⟩:=q06 (Hd.row eF 1 rfl rfl)
 obtain ⟨l3,c3,k3,i3,a3⟩:=q06 (Hd.row eF 2 rfl rfl)
 obtain ⟨l4,c4,k4,i4,a4⟩:=q06 (Hd.row eF 3 rfl rfl)
 obtain ⟨l5,c5,k5,i5,a5⟩:=q06 (Hd.row eF 4 rfl rfl)
 obtain ⟨l6,c6,k6,i6,a6⟩:=q06 (Hd.row eF 5 rfl rfl)
 obtain ⟨l7,c7,k7,i7,a7⟩:=q06 (Hd.row eF 6 rfl rfl)
 obtain ⟨l8,c8,k8,i8,a8⟩:=q06 (Hd.row eF 7 rfl rfl)
 obtain ⟨l9,c9,k9,i9,a9⟩:=q06 (Hd.row eF 8 rfl rfl)
 obtain ⟨l10,c10,k10,i10,a10⟩:=q06 (Hd.row eF 9 rfl rfl)
 obtain ⟨l11,c11,k11,i11,a11⟩:=q06 (Hd.row eF 10 rfl rfl)
 obtain ⟨l13,c13,k13,i13,a13⟩:=q06 (Hd.row eF 11 rfl rfl)
 obtain ⟨l14,c14,k14,i14,a14⟩:=q06 (Hd.row eF 12 rfl rfl)
 obtain ⟨l15,c15,k15,i15,a15⟩:=q06 (Hd.row eF 13 rfl rfl)
 obtain ⟨l16,c16,k16,i16,a16⟩:=q06 (Hd.row eF 14 rfl rfl)
 obtain ⟨l17,c17,k17,i17,a17⟩:=q06 (Hd.row eF 15 rfl rfl)
 obtain ⟨l18,c18,k18,i18,a18⟩:=q06 (Hd.row eF 16 rfl rfl)
 obtain ⟨l19,c19,k19,i19,a19⟩:=q06 (Hd.row eF 17 rfl rfl)
 obtain ⟨l22,c22,k22,i22,a22⟩:=q06 (Hd.row eF 18 rfl rfl)
 obtain ⟨l23,c23,k23,i23,a23⟩:=q06 (Hd.row eF 19 rfl rfl)
 obtain ⟨l24,c24,k24,i24,a24⟩:=q06 (Hd.row eF 20 rfl rfl)
 obtain ⟨l25,c25,k25,i25,a25⟩:=q06 (Hd.row eF 21 rfl rfl)
 obtain ⟨l27,c27,k27,i27,a27⟩:=q06 (Hd.row eF 22 rfl rfl)
 obtain ⟨l28,c28,k28,i28,a28⟩:=q06 (Hd.row eF 23 rfl rfl)
 obtain ⟨l29,c29,k29,i29,a29⟩:=q06 (Hd.row eF 24 rfl rfl)
 obtain ⟨l30,c30,k30,i30,a30⟩:=q06 (Hd.row eF 25 rfl rfl)
 obtain ⟨l31,c31,k31,i31,a31⟩:=q06 (Hd.row eF 26 rfl rfl)
 obtain ⟨l32,c32,k32,i32,a32⟩:=q06 (Hd.row eF 27 rfl rfl)
 obtain ⟨l33,c33,k33,i33,a33⟩:=q06 (Hd.row eF 28 rfl rfl)
 obtain ⟨l34,c34,k34,i34,a34⟩:=q06 (Hd.row eF 29 rfl rfl)
 obtain ⟨l35,c35,k35,i35,a35⟩:=q06 (Hd.row eF 30 rfl rfl)
 obtain ⟨l36,c36,k36,i36,a36⟩:=q06 (Hd.row eF 31 rfl rfl)
 obtain ⟨l37,c37,k37,i37,a37⟩:=q06 (Hd.row eG 0 rfl rfl)
 obtain ⟨l38,c38,k38,i38,a38⟩:=q06 (Hd.row eG 1 rfl rfl)
 obtain ⟨l39,c39,k39,i39,a39⟩:=q06 (Hd.row eG 2 rfl rfl)
 obtain ⟨l40,c40,k40,i40,a40⟩:=q06 (Hd.row eG 3 rfl rfl)
 obtain ⟨l41,c41,k41,i41,a41⟩:=q06 (Hd.row eG 4 rfl rfl)
 obtain ⟨l42,c42,k42,i42,a42⟩:=q06 (Hd.row eG 5 rfl rfl)
 obtain ⟨l43,c43,k43,i43,a43⟩:=q06 (Hd.row eG 6 rfl rfl)
 obtain ⟨l44,c44,k44,i44,a44⟩:=q06 (Hd.row eG 7 rfl rfl)
 obtain ⟨l45,c45,k45,i45,a45⟩:=q06 (Hd.row eG 8 rfl rfl)
 obtain ⟨l46,c46,k46,i46,a46⟩:=q06 (Hd.row eG 9 rfl rfl)
 obtain ⟨l47,c47,k47,i47,a47⟩:=q06 (Hd.row eG 10 rfl rfl)
 obtain ⟨l48,c48,k48,i48,a48⟩:=q06 (Hd.row eG 11 rfl rfl)
 obtain ⟨l50,c50,k50,i50,a50⟩:=q06 (Hd.row eG 12 rfl rfl)
 obtain ⟨l51,c51,k51,i51,a51⟩:=q06 (Hd.row eG 13 rfl rfl)
 obtain ⟨l52,c52,k52,i52,a52⟩:=q06 (Hd.row eG 14 rfl rfl)
 obtain ⟨l53,c53,k53,i53,a53⟩:=q06 (Hd.row eG 15 rfl rfl)
 obtain ⟨l54,c54,k54,i54,a54⟩:=q06 (Hd.row eG 16 rfl rfl)
 obtain ⟨l55,c55,k55,i55,a55⟩:=q06 (Hd.row eG 17 rfl rfl)
 obtain ⟨l56,c56,k56,i56,a56⟩:=q06 (Hd.row eG 18 rfl rfl)
 obtain ⟨l57,c57,k57,i57,a57⟩:=q06 (Hd.row eG 19 rfl rfl)
 obtain ⟨l58,c58,k58,i58,a58⟩:=q06 (Hd.row eG 20 rfl rfl)
 obtain ⟨l59,c59,k59,i59,a59⟩:=q06 (Hd.row eG 21 rfl rfl)
 obtain ⟨l61,c61,k61,i61,a61⟩:=q06 (Hd.row eG 22 rfl rfl)
 obtain ⟨l62,c62,k62,i62,a62⟩:=q06 (Hd.row eG 23 rfl rfl)
 obtain ⟨l64,c64,k64,i64,a64⟩:=q06 (Hd.row eG 24 rfl rfl)
 obtain ⟨l67,c67,k67,i67,a67⟩:=q06 (Hd.row eG 25 rfl rfl)
 obtain ⟨l68,c68,k68,i68,a68⟩:=q06 (Hd.row eG 26 rfl rfl)
 obtain ⟨l69,c69,k69,i69,a69⟩:=q06 (Hd.row eG 27 rfl rfl)
 obtain ⟨l70,c70,k70,i70,a70⟩:=q06 (Hd.row eG 28 rfl rfl)
 obtain ⟨l71,c71,k71,i71,a71⟩:=q06 (Hd.row eG 29 rfl rfl)
 obtain ⟨l72,c72,k72,i72,a72⟩:=q06 (Hd.row eG 30 rfl rfl)
 obtain ⟨l73,c73,k73,i73,a73⟩:=q06 (Hd.row eG 31 rfl rfl)
 obtain ⟨aC18,pg18,hd18,po18,mk18,kc18,sa18,nf18⟩:=q8U (Hd.row eC 0 rfl rfl)
 have na18_bread:=nf18 0 _ rfl
 have na18_loaves:=nf18 1 _ rfl
 have na18_due:=nf18 2 _ rfl
 obtain ⟨aC19,pg19,hd19,po19,mk19,kc19,sa19,nf19⟩:=q8U (Hd.row eC 1 rfl rfl)
 have na19_order:=nf19 0 _ rfl
 have na19_first:=nf19 1 _ rfl
 have na19_loaves:=nf19 2 _ rfl
 obtain ⟨aC20,pg20,hd20,po20,mk20,kc20,sa20,nf20⟩:=q8U (Hd.row eC 2 rfl rfl)
 have na20_night:=nf20 0 _ rfl
 have na20_hands:=nf20 1 _ rfl
 have na20_benches:=nf20 2 _ rfl
 have na20_ovens:=nf20 3 _ rfl
 have na20_breads:=nf20 4 _ rfl
 obtain ⟨aC21,pg21,hd21,po21,mk21,kc21,sa21,nf21⟩:=q8U (Hd.row eC 3 rfl rfl)
 have na21_name:=nf21 0 _ rfl
 have na21_least:=nf21 1 _ rfl
 have na21_most:=nf21 2 _ rfl
 have na21_want:=nf21 3 _ rfl
 have na21_heat:=nf21 4 _ rfl
 obtain ⟨aC22,pg22,hd22,po22,mk22,kc22,sa22,nf22⟩:=q8U (Hd.row eC 4 rfl rfl)
 have na22_name:=nf22 0 _ rfl
 have na22_stages:=nf22 1 _ rfl
 obtain ⟨aC23,pg23,hd23,po23,mk23,kc23,sa23,nf23⟩:=q8U (Hd.row eC 5 rfl rfl)
 have na23_room:=nf23 0 _ rfl
 have na23_rate:=nf23 1 _ rfl
 have na23_heat:=nf23 2 _ rfl
 obtain ⟨aC24,pg24,hd24,po24,mk24,kc24,sa24,nf24⟩:=q8U (Hd.row eC 6 rfl rfl)
 have na24_begin:=nf24 0 _ rfl
 have na24_lengths:=nf24 1 _ rfl
 have na24_oven:=nf24 2 _ rfl
 obtain ⟨aC25,pg25,hd25,po25,mk25,kc25,sa25,nf25⟩:=q8U (Hd.row eC 7 rfl rfl)
 have na25_batch:=nf25 0 _ rfl
 have na25_stage:=nf25 1 _ rfl
 have na25_begin:=nf25 2 _ rfl
 have na25_until:=nf25 3 _ rfl
 have na25_loaves:=nf25 4 _ rfl
 have na25_oven:=nf25 5 _ rfl
 obtain ⟨aC26,pg26,hd26,po26,mk26,kc26,sa26,nf26⟩:=q8U (Hd.row eC 8 rfl rfl)
 have na26_bakery:=nf26 0 _ rfl
 have na26_orders:=nf26 1 _ rfl
 obtain ⟨aC0,xc0⟩:=q32 (Hd.row eE 0 rfl rfl)
 obtain ⟨aC1,xc1⟩:=q32 (Hd.row eE 1 rfl rfl)
 obtain ⟨aC2,xc2⟩:=q32 (Hd.row eE 2 rfl rfl)
 obtain ⟨aC3,xc3⟩:=q32 (Hd.row eE 3 rfl rfl)
 obtain ⟨aC4,xc4⟩:=q32 (Hd.row eE 4 rfl rfl)
 obtain ⟨aC5,xc5⟩:=q32 (Hd.row eE 5 rfl rfl)
 obtain ⟨aC6,xc6⟩:=q32 (Hd.row eE 6 rfl rfl)
 obtain ⟨aC7,xc7⟩:=q32 (Hd.row eE 7 rfl rfl)
 obtain ⟨aC8,xc8⟩:=q32 (Hd.row eE 8 rfl rfl)
 obtain ⟨aC9,xc9⟩:=q32 (Hd.row eE 9 rfl rfl)
 obtain ⟨aC10,xc10⟩:=q32 (Hd.row eE 10 rfl rfl)
 obtain ⟨aC11,xc11⟩:=q32 (Hd.row eE 11 rfl rfl)
 obtain ⟨aC12,xc12⟩:=q32 (Hd.row eE 12 rfl rfl)
 obtain ⟨aC13,xc13⟩:=q32 (Hd.row eE 13 rfl rfl)
 obtain ⟨aC14,xc14⟩:=q32 (Hd.row eE 14 rfl rfl)
 obtain ⟨aC15,xc15⟩:=q32 (Hd.row eE 15 rfl rfl)
 obtain ⟨aC16,xc16⟩:=q32 (Hd.row eE 16 rfl rfl)
 obtain ⟨aC17,xc17⟩:=q32 (Hd.row eE 17 rfl rfl)
 have z_ValueError:=Hd.row eZ 0 rfl rfl
 have z_abs:=Hd.row eZ 1 rfl rfl
 have z_all:=Hd.row eZ 2 rfl rfl
 have z_any:=Hd.row eZ 3 rfl rfl
 have z_bool:=Hd.row eZ 4 rfl rfl
 have z_enumerate:=Hd.row eZ 5 rfl rfl
 have z_int:=Hd.row eZ 6 rfl rfl
 have z_isinstance:=Hd.row eZ 7 rfl rfl
 have z_len:=Hd.row eZ 8 rfl rfl
 have z_list:=Hd.row eZ 9 rfl rfl
 have z_max:=Hd.row eZ 10 rfl rfl
 have z_min:=Hd.row eZ 11 rfl rfl
 have z_range:=Hd.row eZ 12 rfl rfl
 have z_reversed:=Hd.row eZ 13 rfl rfl
 have z_set:=Hd.row eZ 14 rfl rfl
 have z_sorted:=Hd.row eZ 15 rfl rfl
 have z_str:=Hd.row eZ 16 rfl rfl
 have z_sum:=Hd.row eZ 17 rfl rfl
 have z_tuple:=Hd.row eZ 18 rfl rfl
 have z_zip:=Hd.row eZ 19 rfl rfl
 have cc_FASTEST:=Hd.row eV 0 rfl rfl
 have cc_FAULTS:=Hd.row eV 1 rfl rfl
 have cc_HOTTEST:=Hd.row eV 2 rfl rfl
 have cc_LETTERS:=Hd.row eV 3 rfl rfl
 have cc_LONGEST_NAME:=Hd.row eV 4 rfl rfl
 have cc_MOST_BATCHES:=Hd.row eV 5 rfl rfl
 have cc_MOST_BENCHES:=Hd.row eV 6 rfl rfl
 have cc_MOST_BREADS:=Hd.row eV 7 rfl rfl
 have cc_MOST_HANDS:=Hd.row eV 8 rfl rfl
 have cc_MOST_LOAVES:=Hd.row eV 9 rfl rfl
 have cc_MOST_ORDERS:=Hd.row eV 10 rfl rfl
 have cc_MOST_OVENS:=Hd.row eV 11 rfl rfl
 have cc_MOST_PLANNED:=Hd.row eV 12 rfl rfl
 have cc_MOST_ROOM:=Hd.row eV 13 rfl rfl
 have cc_MOST_STAGES:=Hd.row eV 14 rfl rfl
 have cc_MOST_STEPPED:=Hd.row eV 15 rfl rfl
 have cc_MOST_WAYS:=Hd.row eV 16 rfl rfl
 have cc_NIGHT:=Hd.row eV 17 rfl rfl
 have cc_NOTHING_BAKES:=Hd.row eV 18 rfl rfl
 have cc_STEP:=Hd.row eV 19 rfl rfl
 have cc_WANTS:=Hd.row eV 20 rfl rfl
 have cc_WIDEST:=Hd.row eV 21 rfl rfl
 have dk18:=Hd.row eO 0 rfl rfl
 have dk28:=Hd.row eO 1 rfl rfl
 have ct_FAULTS:=Hd.row eO 2 rfl rfl
 have ct_WANTS:=Hd.row eO 3 rfl rfl
 have exm0_0:=Hd.row e 0 rfl rfl
 have exm1_0:=Hd.row e 1 rfl rfl
 have exm2_0:=Hd.row e 2 rfl rfl
 have exm3_0:=Hd.row e 3 rfl rfl
 have exm4_0:=Hd.row e 4 rfl rfl
 have exm5_0:=Hd.row e 5 rfl rfl
 have exm6_0:=Hd.row e 6 rfl rfl
 have exm7_0:=Hd.row e 7 rfl rfl
 have exm8_0:=Hd.row e 8 rfl rfl
 have exm9_0:=Hd.row e 9 rfl rfl
 have exm10_0:=Hd.row e 10 rfl rfl
 have exm11_0:=Hd.row e 11 rfl rfl
 have exm12_0:=Hd.row e 12 rfl rfl
 have exm13_0:=Hd.row e 13 rfl rfl
 have exm14_0:=Hd.row e 14 rfl rfl
 have exm15_0:=Hd.row e 15 rfl rfl
 have exm16_0:=Hd.row e 16 rfl rfl
 have exm17_0:=Hd.row e 17 rfl rfl
 have e:=hfa.symm.trans (mg_of X G a73)
 cases e
 have F1:=q0r (st:=s_1) l1 c1 k1
 have F2:=q0r (st:=s_2) l2 c2 k2
 have F3:=q0r (st:=s_3) l3 c3 k3
 have F4:=q0r (st:=s_4) l4 c4 k4
 have F5:=q0r (st:=s_5) l5 c5 k5
 have F6:=q0r (st:=s_6) l6 c6 k6
 have F7:=q0r (st:=s_7) l7 c7 k7
 have F8:=q0r (st:=s_8) l8 c8 k8
 have F9:=q0r (st:=s_9) l9 c9 k9
 have F10:=q0r (st:=j7F) l10 c10 k10
 have F11:=q0r (st:=j8G) l11 c11 k11
 have F13:=q0r (st:=j8i) l13 c13 k13
 have F14:=q0r (st:=j8d) l14 c14 k14
 have F15:=q0r (st:=j7J) l15 c15 k15
 have F16:=q0r (st:=j8E) l16 c16 k16
 have F17:=q0r (st:=j8z) l17 c17 k17
 have F18:=q67 (st:=j8a) l18 c18 k18
 have F19:=q0r (st:=j8p) l19 c19 k19
 have F22:=q0r (st:=j8k) l22 c22 k22
 have F23:=q0r (st:=j8C) l23 c23 k23
 have F24:=q0r (st:=j7Y) l24 c24 k24
 have F25:=q0r (st:=j8n) l25 c25 k25
 have F27:=q0r (st:=j8h) l27 c27 k27
 have F28:=q67 (st:=j8e) l28 c28 k28
 have F29:=q0r (st:=j8I) l29 c29 k29
 have F30:=q0r (st:=j7T) l30 c30 k30
 have F31:=q0r (st:=j8u) l31 c31 k31
 have F32:=q0r (st:=j8w) l32 c32 k32
 have F33:=q0r (st:=j8b) l33 c33 k33
 have F34:=q0r (st:=j7G) l34 c34 k34
 have F35:=q0r (st:=j77) l35 c35 k35
 have F36:=q0r (st:=j8K) l36 c36 k36
 have F37:=q0r (st:=j8s) l37 c37 k37
 have F38:=q0r (st:=j8c) l38 c38 k38
 have F39:=q0r (st:=j8g) l39 c39 k39
 have F40:=q0r (st:=j7S) l40 c40 k40
 have F41:=q0r (st:=j7D) l41 c41 k41
 have F42:=q0r (st:=j8B) l42 c42 k42
 have F43:=q0r (st:=j8M) l43 c43 k43
 have F44:=q0r (st:=j8t) l44 c44 k44
 have F45:=q0r (st:=j8F) l45 c45 k45
 have F46:=q0r (st:=j8m) l46 c46 k46
 have F47:=q0r (st:=j8x) l47 c47 k47
 have F48:=q0r (st:=j7C) l48 c48 k48
 have F50:=q0r (st:=j8L) l50 c50 k50
 have F51:=q0r (st:=j8o) l51 c51 k51
 have F52:=q0r (st:=j73) l52 c52 k52
 have F53:=q0r (st:=j8q) l53 c53 k53
 have F54:=q0r (st:=j70) l54 c54 k54
 have F55:=q0r (st:=j7L) l55 c55 k55
 have F56:=q0r (st:=j7P) l56 c56 k56
 have F57:=q0r (st:=j7N) l57 c57 k57
 have F58:=q0r (st:=j8j) l58 c58 k58
 have F59:=q0r (st:=j7R) l59 c59 k59
 have F61:=q0r (st:=j72) l61 c61 k61
 have F62:=q0r (st:=j79) l62 c62 k62
 have F64:=q0r (st:=j7M) l64 c64 k64
 have F67:=q0r (st:=j8r) l67 c67 k67
 have F68:=q0r (st:=j7V) l68 c68 k68
 have F69:=q0r (st:=j7W) l69 c69 k69
 have F70:=q0r (st:=j8y) l70 c70 k70
 have F71:=q0r (st:=j7U) l71 c71 k71
 have F72:=q0r (st:=j78) l72 c72 k72
 have F73:=q0r (st:=j8J) l73 c73 k73
 refine ⟨q5s,λs v=>.of_eq rfl,⟨λi=>([31,44,56,68,80,92,104,116,128,140,152,164,176,188,200,212,224,236,281,302,380,410,450,471,535,556,790]:List Addr).getD i 0,λa=>if a==281 then (["bread","loaves","due"]:List Str) else if a==302 then (["order","first","loaves"]:List Str) else if a==380 then (["night","hands","benches","ovens","breads"]:List Str) else if a==410 then (["name","least","most","want","heat"]:List Str) else if a==450 then (["name","stages"]:List Str) else if a==471 then (["room","rate","heat"]:List Str) else if a==535 then (["begin","lengths","oven"]:List Str) else if a==556 then (["batch","stage","begin","until","loaves","oven"]:List Str) else if a==790 then (["bakery","orders"]:List Str) else [],none⟩,λbase _ _=>w0P (fa:=λi=>([841,243,250,257,264,278,299,311,318,325,332,339,841,351,358,370,377,391,407,428,841,841,447,468,482,489,841,503,518,525,532,553,567,574,581,588,593,598,603,611,618,625,632,637,644,649,654,661,668,841,680,687,692,697,702,709,716,721,726,733,841,745,759,841,773,841,841,801,808,813,820,827,834,841]:List Addr).getD i 0) (fd:=λi=>([q5s,d_1,d_2,d_3,d_4,d_5,d_6,d_7,d_8,d_9,w2u,w1y,q5s,w2e,w1c,w0Z,w1X,w2g,w2d,w1S,q5s,q5s,w1a,w1U,w2A,w01,q5s,w2h,w04,w2m,w2i,w1N,w1l,w05,w2r,w1m,w1f,w2o,w0X,w2a,w2v,w2c,w1v,w08,w03,w1L,w06,w1i,w1J,q5s,w1P,w2b,w1t,w2w,w1Z,w1E,w1r,w1M,w1q,w2t,q5s,w2z,w1D,q5s,w1K,q5s,q5s,w1Y,w1A,w0V,w1s,w07,w2n,q5s]:List FuncData).getD i q5s) ?_⟩
 exact {
  me:=rfl
  F1:=F1
  b1:=F1.binds λ_ _ _ _ _ _ us hl=>match us,hl with | [_],_=>rfl
  m1:=mg_of X G a1
  F2:=F2
  b2:=F2.binds λ_ _ _ _ _ _ us hl=>match us,hl with | [_,_,_],_=>rfl
  m2:=mg_of X G a2
  F3:=F3
  b3:=F3.binds λ_ _ _ _ _ _ us hl=>match us,hl with | [_,_,_],_=>rfl
  m3:=mg_of X G a3
  F4:=F4
  b4:=F4.binds λ_ _ _ _ _ _ us hl=>match us,hl with | [_,_],_=>rfl
  m4:=mg_of X G a4
  F5:=F5
  b5:=F5.binds λ_ _ _ _ _ _ us hl=>match us,hl with | [_,_,_,_],_=>rfl
  F6:=F6
  b6:=F6.binds λ_ _ _ _ _ _ us hl=>match us,hl with | [_,_,_,_],_=>rfl
  F7:=F7
  b7:=F7.binds λ_ _ _ _ _ _ us hl=>match us,hl with | [_],_=>rfl
  m7:=mg_of X G a7
  F8:=F8
  b8:=F8.binds λ_ _ _ _ _ _ us hl=>match us,hl with | [_,_],_=>rfl
  m8:=mg_of X G a8
  F9:=F9
  b9:=F9.binds λ_ _ _ _ _ _ us hl=>match us,hl with | [_,_],_=>rfl
  m9:=mg_of X G a9
  F10:=F10
  b10:=F10.binds λ_ _ _ _ _ _ us hl=>match us,hl with | [_,_],_=>rfl
  m10:=mg_of X G a10
  F11:=F11
  b11:=F11.binds λ_ _ _ _ _ _ us hl=>match us,hl with | [_,_],_=>rfl
  m11:=mg_of X G a11
  F13:=F13
  b13:=F13.binds λ_ _ _ _ _ _ us hl=>match us,hl with | [_],_=>rfl
  m13:=mg_of X G a13
  F14:=F14
  b14:=F14.binds λ_ _ _ _ _ _ us hl=>match us,hl with | [_],_=>rfl
  m14:=mg_of X G a14
  F15:=F15
  b15:=F15.binds λ_ _ _ _ _ _ us hl=>match us,hl with | [_,_,_,_,_,_],_=>rfl
  F16:=F16
  b16:=F16.binds λ_ _ _ _ _ _ us hl=>match us,hl with | [_,_],_=>rfl
  mt16:=⟨a16,i16,k16⟩
  F17:=F17
  b17:=F17.binds λ_ _ _ _ _ _ us hl=>match us,hl with | [_],_=>rfl
  m17:=mg_of X G a17
  F18:=F18
  b18:=q2t rfl dk18 6 rfl λus hl=>match us,hl with | [_,_,_,_,_,_],_=>⟨_,rfl,rfl⟩
  bd18:=⟨_,q2t rfl dk18 5 rfl λus hl=>match us,hl with | [_,_,_,_,_],_=>⟨_,rfl,rfl⟩⟩
  F19:=F19
  b19:=F19.binds λ_ _ _ _ _ _ us hl=>match us,hl with | [_,_,_],_=>rfl
  F22:=F22
  b22:=F22.binds λ_ _ _ _ _ _ us hl=>match us,hl with | [_],_=>rfl
  mt22:=⟨a22,i22,k22⟩
  F23:=F23
  b23:=F23.binds λ_ _ _ _ _ _ us hl=>match us,hl with | [_,_,_,_],_=>rfl
  F24:=F24
  b24:=F24.binds λ_ _ _ _ _ _ us hl=>match us,hl with | [_,_,_],_=>rfl
  m24:=mg_of X G a24
  F25:=F25
  b25:=F25.binds λ_ _ _ _ _ _ us hl=>match us,hl with | [_],_=>rfl
  m25:=mg_of X G a25
  F27:=F27
  b27:=F27.binds λ_ _ _ _ _ _ us hl=>match us,hl with | [_,_],_=>rfl
  m27:=mg_of X G a27
  F28:=F28
  b28:=q2t rfl dk28 4 rfl λus hl=>match us,hl with | [_,_,_,_],_=>⟨_,rfl,rfl⟩
  F29:=F29
  b29:=F29.binds λ_ _ _ _ _ _ us hl=>match us,hl with | [_],_=>rfl
  mt29:=⟨a29,i29,k29⟩
  F30:=F30
  b30:=F30.binds λ_ _ _ _ _ _ us hl=>match us,hl with | [_],_=>rfl
  mt30:=⟨a30,i30,k30⟩
  F31:=F31
  b31:=F31.binds λ_ _ _ _ _ _ us hl=>match us,hl with | [_,_,_,_,_,_,_],_=>rfl
  F32:=F32
  b32:=F32.binds λ_ _ _ _ _ _ us hl=>match us,hl with | [_,_,_],_=>rfl
  m32:=mg_of X G a32
  F33:=F33
  b33:=F33.binds λ_ _ _ _ _ _ us hl=>match us,hl with | [_,_,_],_=>rfl
  m33:=mg_of X G a33
  F34:=F34
  b34:=F34.binds λ_ _ _ _ _ _ us hl=>match us,hl with | [_,_,_],_=>rfl
  m34:=mg_of X G a34
  F35:=F35
  b35:=F35.binds λ_ _ _ _ _ _ us hl=>match us,hl with | [_,_,_],_=>rfl
  m35:=mg_of X G a35
  F36:=F36
  b36:=F36.binds λ_ _ _ _ _ _ us hl=>match us,hl with | [_,_],_=>rfl
  m36:=mg_of X G a36
  F37:=F37
  b37:=F37.binds λ_ _ _ _ _ _ us hl=>match us,hl with | [_,_],_=>rfl
  m37:=mg_of X G a37
  F38:=F38
  b38:=F38.binds λ_ _ _ _ _ _ us hl=>match us,hl with | [_,_],_=>rfl
  m38:=mg_of X G a38
  F39:=F39
  b39:=F39.binds λ_ _ _ _ _ _ us hl=>match us,hl with | [_],_=>rfl
  m39:=mg_of X G a39
  F40:=F40
  b40:=F40.binds λ_ _ _ _ _ _ us hl=>match us,hl with | [_,_,_],_=>rfl
  m40:=mg_of X G a40
  F41:=F41
  b41:=F41.binds λ_ _ _ _ _ _ us hl=>match us,hl with | [_,_,_],_=>rfl
  m41:=mg_of X G a41
  F42:=F42
  b42:=F42.binds λ_ _ _ _ _ _ us hl=>match us,hl with | [_],_=>rfl
  m42:=mg_of X G a42
  F43:=F43
  b43:=F43.binds λ_ _ _ _ _ _ us hl=>match us,hl with | [_],_=>rfl
  m43:=mg_of X G a43
  F44:=F44
  b44:=F44.binds λ_ _ _ _ _ _ us hl=>match us,hl with | [_,_],_=>rfl
  m44:=mg_of X G a44
  F45:=F45
  b45:=F45.binds λ_ _ _ _ _ _ us hl=>match us,hl with | [_,_],_=>rfl
  m45:=mg_of X G a45
  F46:=F46
  b46:=F46.binds λ_ _ _ _ _ _ us hl=>match us,hl with | [_,_,_],_=>rfl
  m46:=mg_of X G a46
  F47:=F47
  b47:=F47.binds λ_ _ _ _ _ _ us hl=>match us,hl with | [_,_,_,_,_],_=>rfl
  m47:=mg_of X G a47
  F48:=F48
  b48:=F48.binds λ_ _ _ _ _ _ us hl=>match us,hl with | [_,_,_,_],_=>rfl
  m48:=mg_of X G a48
  F50:=F50
  b50:=F50.binds λ_ _ _ _ _ _ us hl=>match us,hl with | [_,_],_=>rfl
  m50:=mg_of X G a50
  F51:=F51
  b51:=F51.binds λ_ _ _ _ _ _ us hl=>match us,hl with | [_,_],_=>rfl
  m51:=mg_of X G a51
  F52:=F52
  b52:=F52.binds λ_ _ _ _ _ _ us hl=>match us,hl with | [_,_],_=>rfl
  m52:=mg_of X G a52
  F53:=F53
  b53:=F53.binds λ_ _ _ _ _ _ us hl=>match us,hl with | [_,_,_],_=>rfl
  m53:=mg_of X G a53
  F54:=F54
  b54:=F54.binds λ_ _ _ _ _ _ us hl=>match us,hl with | [_,_,_],_=>rfl
  m54:=mg_of X G a54
  F55:=F55
  b55:=F55.binds λ_ _ _ _ _ _ us hl=>match us,hl with | [_,_,_],_=>rfl
  m55:=mg_of X G a55
  F56:=F56
  b56:=F56.binds λ_ _ _ _ _ _ us hl=>match us,hl with | [_,_],_=>rfl
  m56:=mg_of X G a56
  F57:=F57
  b57:=F57.binds λ_ _ _ _ _ _ us hl=>match us,hl with | [_],_=>rfl
  m57:=mg_of X G a57
  F58:=F58
  b58:=F58.binds λ_ _ _ _ _ _ us hl=>match us,hl with | [_,_,_],_=>rfl
  m58:=mg_of X G a58
  F59:=F59
  b59:=F59.binds λ_ _ _ _ _ _ us hl=>match us,hl with | [_],_=>rfl
  m59:=mg_of X G a59
  F61:=F61
  b61:=F61.binds λ_ _ _ _ _ _ us hl=>match us,hl with | [_,_],_=>rfl
  m61:=mg_of X G a61
  F62:=F62
  b62:=F62.binds λ_ _ _ _ _ _ us hl=>match us,hl with | [_,_],_=>rfl
  F64:=F64
  b64:=F64.binds λ_ _ _ _ _ _ us hl=>match us,hl with | [_,_],_=>rfl
  mt64:=⟨a64,i64,k64⟩
  F67:=F67
  b67:=F67.binds λ_ _ _ _ _ _ us hl=>match us,hl with | [_,_],_=>rfl
  m67:=mg_of X G a67
  F68:=F68
  b68:=F68.binds λ_ _ _ _ _ _ us hl=>match us,hl with | [_,_],_=>rfl
  m68:=mg_of X G a68
  F69:=F69
  b69:=F69.binds λ_ _ _ _ _ _ us hl=>match us,hl with | [_],_=>rfl
  m69:=mg_of X G a69
  F70:=F70
  b70:=F70.binds λ_ _ _ _ _ _ us hl=>match us,hl with | [_,_,_,_,_],_=>rfl
  m70:=mg_of X G a70
  F71:=F71
  b71:=F71.binds λ_ _ _ _ _ _ us hl=>match us,hl with | [_,_,_,_,_],_=>rfl
  m71:=mg_of X G a71
  F72:=F72
  b72:=F72.binds λ_ _ _ _ _ _ us hl=>match us,hl with | [_,_,_,_,_],_=>rfl
  m72:=mg_of X G a72
  F73:=F73
  b73:=F73.binds λ_ _ _ _ _ _ us hl=>match us,hl with | [_],_=>rfl
  m73:=mg_of X G a73
  mC0:=mg_of X G aC0
  xc0:=xc0
  mC1:=mg_of X G aC1
  xc1:=xc1
  mC2:=mg_of X G aC2
  xc2:=xc2
  mC3:=mg_of X G aC3
  xc3:=xc3
  mC4:=mg_of X G aC4
  xc4:=xc4
  mC5:=mg_of X G aC5
  xc5:=xc5
  mC6:=mg_of X G aC6
  xc6:=xc6
  mC7:=mg_of X G aC7
  xc7:=xc7
  mC8:=mg_of X G aC8
  xc8:=xc8
  mC9:=mg_of X G aC9
  xc9:=xc9
  mC10:=mg_of X G aC10
  xc10:=xc10
  mC11:=mg_of X G aC11
  xc11:=xc11
  mC12:=mg_of X G aC12
  xc12:=xc12
  mC13:=mg_of X G aC13
  xc13:=xc13
  mC14:=mg_of X G aC14
  xc14:=xc14
  mC15:=mg_of X G aC15
  xc15:=xc15
  mC16:=mg_of X G aC16
  xc16:=xc16
  mC17:=mg_of X G aC17
  xc17:=xc17
  mC18:=mg_of X G aC18
  cC18:=⟨pg18,hd18,po18,sa18⟩
  mk18:=⟨mk18,a5,i5,kc18⟩
  fl18:=rfl
  na18_bread:=na18_bread
  na18_loaves:=na18_loaves
  na18_due:=na18_due
  mC19:=mg_of X G aC19
  cC19:=⟨pg19,hd19,po19,sa19⟩
  mk19:=⟨mk19,a6,i6,kc19⟩
  fl19:=rfl
  na19_order:=na19_order
  na19_first:=na19_first
  na19_loaves:=na19_loaves
  mC20:=mg_of X G aC20
  cC20:=⟨pg20,hd20,po20,sa20⟩
  mk20:=⟨mk20,a15,i15,kc20⟩
  fl20:=rfl
  na20_night:=na20_night
  na20_hands:=na20_hands
  na20_benches:=na20_benches
  na20_ovens:=na20_ovens
  na20_breads:=na20_breads
  mC21:=mg_of X G aC21
  cC21:=⟨pg21,hd21,po21,sa21⟩
  mk21:=⟨mk21,a18,i18,kc21⟩
  fl21:=rfl
  na21_name:=na21_name
  na21_least:=na21_least
  na21_most:=na21_most
  na21_want:=na21_want
  na21_heat:=na21_heat
  mC22:=mg_of X G aC22
  cC22:=⟨pg22,hd22,po22,sa22⟩
  mk22:=⟨mk22,a19,i19,kc22⟩
  fl22:=rfl
  na22_name:=na22_name
  na22_stages:=na22_stages
  mC23:=mg_of X G aC23
  cC23:=⟨pg23,hd23,po23,sa23⟩
  mk23:=⟨mk23,a23,i23,kc23⟩
  fl23:=rfl
  na23_room:=na23_room
  na23_rate:=na23_rate
  na23_heat:=na23_heat
  mC24:=mg_of X G aC24
  cC24:=⟨pg24,hd24,po24,sa24⟩
  mk24:=⟨mk24,a28,i28,kc24⟩
  fl24:=rfl
  na24_begin:=na24_begin
  na24_lengths:=na24_lengths
  na24_oven:=na24_oven
  mC25:=mg_of X G aC25
  cC25:=⟨pg25,hd25,po25,sa25⟩
  mk25:=⟨mk25,a31,i31,kc25⟩
  fl25:=rfl
  na25_batch:=na25_batch
  na25_stage:=na25_stage
  na25_begin:=na25_begin
  na25_until:=na25_until
  na25_loaves:=na25_loaves
  na25_oven:=na25_oven
  mC26:=mg_of X G aC26
  cC26:=⟨pg26,hd26,po26,sa26⟩
  mk26:=⟨mk26,a62,i62,kc26⟩
  fl26:=rfl
  na26_bakery:=na26_bakery
  na26_orders:=na26_orders
  exm0_0:=exm0_0
  exm1_0:=exm1_0
  exm2_0:=exm2_0
  exm3_0:=exm3_0
  exm4_0:=exm4_0
  exm5_0:=exm5_0
  exm6_0:=exm6_0
  exm7_0:=exm7_0
  exm8_0:=exm8_0
  exm9_0:=exm9_0
  exm10_0:=exm10_0
  exm11_0:=exm11_0
  exm12_0:=exm12_0
  exm13_0:=exm13_0
  exm14_0:=exm14_0
  exm15_0:=exm15_0
  exm16_0:=exm16_0
  exm17_0:=exm17_0
  c_FASTEST:=⟨_,mg_of X G cc_FASTEST⟩
  c_FAULTS:=q7E (mg_of X G cc_FAULTS) ct_FAULTS (by show (7:Nat)<=1000000;decide) (vcS (vcS (vcS (vcS (vcS (vcS (vcS .nil))))))) rfl
  c_HOTTEST:=⟨_,mg_of X G cc_HOTTEST⟩
  c_LETTERS:=⟨_,mg_of X G cc_LETTERS⟩
  c_LONGEST_NAME:=⟨_,mg_of X G cc_LONGEST_NAME⟩
  c_MOST_BATCHES:=⟨_,mg_of X G cc_MOST_BATCHES⟩
  c_MOST_BENCHES:=⟨_,mg_of X G cc_MOST_BENCHES⟩
  c_MOST_BREADS:=⟨_,mg_of X G cc_MOST_BREADS⟩
  c_MOST_HANDS:=⟨_,mg_of X G cc_MOST_HANDS⟩
  c_MOST_LOAVES:=⟨_,mg_of X G cc_MOST_LOAVES⟩
  c_MOST_ORDERS:=⟨_,mg_of X G cc_MOST_ORDERS⟩
  c_MOST_OVENS:=⟨_,mg_of X G cc_MOST_OVENS⟩
  c_MOST_PLANNED:=⟨_,mg_of X G cc_MOST_PLANNED⟩
  c_MOST_ROOM:=⟨_,mg_of X G cc_MOST_ROOM⟩
  c_MOST_STAGES:=⟨_,mg_of X G cc_MOST_STAGES⟩
  c_MOST_STEPPED:=⟨_,mg_of X G cc_MOST_STEPPED⟩
  c_MOST_WAYS:=⟨_,mg_of X G cc_MOST_WAYS⟩
  c_NIGHT:=⟨_,mg_of X G cc_NIGHT⟩
  c_NOTHING_BAKES:=⟨_,mg_of X G cc_NOTHING_BAKES⟩
  c_STEP:=⟨_,mg_of X G cc_STEP⟩
  c_WANTS:=q8X (mg_of X G cc_WANTS) ct_WANTS (by show (4:Nat)<=1000000;decide) (vcS (vcS (vcS (vcS .nil)))) rfl
  c_WIDEST:=⟨_,mg_of X G cc_WIDEST⟩
  n_ValueError:=mg_none_of X G z_ValueError
  n_abs:=mg_none_of X G z_abs
  n_all:=mg_none_of X G z_all
  n_any:=mg_none_of X G z_any
  n_bool:=mg_none_of X G z_bool
  n_enumerate:=mg_none_of X G z_enumerate
  n_int:=mg_none_of X G z_int
  n_isinstance:=mg_none_of X G z_isinstance
  n_len:=mg_none_of X G z_len
  n_list:=mg_none_of X G z_list
  n_max:=mg_none_of X G z_max
  n_min:=mg_none_of X G z_min
  n_range:=mg_none_of X G z_range
  n_reversed:=mg_none_of X G z_reversed
  n_set:=mg_none_of X G z_set
  n_sorted:=mg_none_of X G z_sorted
  n_str:=mg_none_of X G z_str
  n_sum:=mg_none_of X G z_sum
  n_tuple:=mg_none_of X G z_tuple
  n_zip:=mg_none_of X G z_zip
  ix:=λc h=>iIx (j9B (L:=j2t) rfl eI h)
  kt:=λc j h q=>iKt (L:=j2t) rfl (j9B (L:=j2t) rfl eI h) q
  kv:=λc h=>iKv (j9B (L:=j2t) rfl eI h)
 }
end Lw
open PySem PySem.W PyProof.Rows
set_option maxRecDepth 100000 in
set_option maxHeartbeats 0 in
theorem PySem.Challenge.cw_doughhours_k26_each_refusal_apart_holds : PySem.Challenge.rw_doughhours_k26_each_refusal_apart.Holds := by
 w_on;refine holds_law Lw.j6s λsaid=>?_
 refine holds_open (q:=Lw.vw) (loose:=[]) (Xt:=Lw.Xv) (XP:=XL Lw.vw []) (Yf:=λs=>Lw.q5c (L3.Hd.kOf Lw.hAs s.heap)) (Ya:=λ_=>Lw.j1n) (YP:=λ_ h=>L3.Hd.says Lw.q5c Lw.j1n h) (N:=17730) Lw.q6P (λw s e=>L3.Hd.says_of Lw.hAs s e) (λw h h' a b=>L3.Hd.says_keeps a b) (λs e=>xl_of s (Bool.and_eq_true_iff.mp e).1) XL.keeps (by rfl) (by rfl) (by rfl) (λs e=>recFacts_of (Bool.and_eq_true_iff.mp e).2) (by rfl) (by first | assumption | decide +kernel) (by decide +kernel) ⟨rfl,rfl,rfl,rfl,rfl,by decide +kernel⟩ ?hw ?hc
 case hw=>w_witness2
 refine L3.j37 (l:=PySem.Challenge.rw_doughhours_k26_each_refusal_apart) (k:=13) (x:="_law_script") (F:=Lw.j4n) rfl rfl ⟨rfl,by decide,by decide,rfl⟩ ?F Lw.law_true
 intro w mg fa h Y G hmg
 obtain ⟨K,KX,e⟩:=Y
 exact ⟨K,KX,Lw.j0Z KX G hmg e⟩
end
