import PyProof.Rows.All
import Wide.All
import OpenK.KCall
import OpenK.KWalk
import OpenK.KOwn
import Open.Pieces
import KE.KTryMore
import KE.KIsAll
import KE.KItem
import KE.KRevIter
import KE.KRevSl
import KE.KxBytes
import Wide.FinOn
import PyProof.EqAt
import PyProof.EqKinds
import PyProof.TupleCall
import PyProof.ExcArgsOwn
import PyProof.DictRoadsH
import PyProof.TupleKey
import PyProof.AttrMissHeap
import KE.KDictOf
import PySem.Challenge.RW_doughhours_k17_stand
local macro_rules | `(tactic| walk_at "v0") => `(tactic| (first | exact Or.inl rfl | exact Or.inr (Or.inl rfl) | exact Or.inr (Or.inr rfl)))
local macro_rules | `(tactic| walk_at "v1") => `(tactic| (first | exact Or.inr (by decide) | exact Or.inl (by assumption)))
local macro_rules | `(tactic| walk_at "v2") => `(tactic| (first | exact .inl rfl | exact .inr rfl | assumption))
local macro_rules | `(tactic| walk_at "v3") => `(tactic| (first | exact Or.inl rfl | exact Or.inr rfl))
set_option Elab.async false
set_option linter.all false
set_option maxRecDepth 100000
set_option maxHeartbeats 4000000
namespace L2
open PySem PySem.Spec PyProof.Rows
noncomputable def q1F (s:Stmt) (j:Nat):Stmt:=match s with
 | .ClassDef _ _ _ body _ _ _ _ _ _ _=>body.getD j (.Pass ⟨0,0,0,0⟩)
 | _=>.Pass ⟨0,0,0,0⟩
noncomputable def q1E (s:Stmt):Arguments:=match s with
 | .FunctionDef _ a _ _ _ _ _ _ _ _=>a
 | _=>{ posonlyargs:=[],args:=[],vararg:=none,kwonlyargs:=[],kw_defaults:=[],kwarg:=none,defaults:=[] }
noncomputable def q1l (s:Stmt):List Stmt:=match s with
 | .FunctionDef _ _ b _ _ _ _ _ _ _=>b
 | _=>[]
noncomputable def q0l (s:Stmt):Scope:=match s with
 | .FunctionDef _ _ _ _ _ _ sc _ _ _=>sc
 | _=>{ kind:=.function,names:=[],isGenerator:=false,isCoroutine:=false }
end L2
set_option autoImplicit false
namespace L3
open PySem
namespace Tp
open PySem.W
structure TS where
 t:BT
 n:Nat
 k:Nat
 md:Value
 ns:List DictEntry
 cl:List Value
noncomputable def marks (k:Nat):List Str->List Value
 | []=>[]
 | x::l=>.str x k::marks (k+1) l
noncomputable def j4g (l:List Value):Obj:=⟨.type "tuple",none,.seq ⟨l⟩ 0,#[]⟩
noncomputable def fldO (c:Value) (l:List Value):Obj:=⟨c,none,.fields ⟨l⟩,#[]⟩
noncomputable def dicO (l:List DictEntry) (e:Nat):Obj:=⟨.type "dict",none,.dict ⟨l⟩ e,#[]⟩
noncomputable def file:Str:="/claim/cut.py"
noncomputable def j6h (n k:Nat) (name qual:Str) (line argc fl:Nat) (isF:Bool) (tab:List Value) (loc:Option (List Str×List Str)) (tpl:Option FuncData):List Obj×Nat×Nat:=
 let a:=match loc with
  | some (x,y)=>([j4g (marks (k+3) x),j4g (marks (k+3+x.length) y)],k+3+x.length+y.length,n+4,Value.ref (n+2),Value.ref (n+3))
  | none=>([],k+3,n+2,Value.none,Value.none)
 let b:=match tpl with
  | some f=>([Obj.mk .none none (.func f) #[]],a.2.2.1+1,Value.ref a.2.2.1)
  | none=>([],a.2.2.1,Value.none)
 (j4g []::fldO .none tab::a.1++b.1++[fldO (.type "code") [.str name k,.str qual (k+1),.str file (k+2),.int line 0,.int argc 0,.int 0 0,.int 0 0,.int fl 0,.ref n,.bool isF,.int 181 0,.ref (n+1),.none,a.2.2.2.1,a.2.2.2.2,b.2.2,.int a.2.1 0,.int line 0,.str file (a.2.1+1)]],a.2.1+2,b.2.1)
noncomputable def q57 (k:Nat):Expr->Value
 | .Constant (.int i) _ _=>.int i k
 | .Constant (.str x) _ _=>.str x k
 | .Constant (.bool b) _ _=>.bool b
 | _=>.none
noncomputable def consts (k:Nat):List Expr->List Value
 | []=>[]
 | e::l=>q57 k e::consts (k+1) l
noncomputable def w0p (n k:Nat) (md:Value) (pre:Str) (name:Str) (p:Arguments) (body:List Stmt) (sc:Scope) (pos:Pos):List Obj×Nat×Nat×List Value:=
 let d:=p.defaults.length
 let n1:=match d with | 0=>n | _=>n+1
 let qual:=pre++name
 let c:=j6h n1 (k+d) name qual pos.line p.args.length 3 true [] (localNames p sc (.stmts body)) (some { name,qualname:=qual,params:=p,body:=.stmts body,scope:=sc,globals:=builtinsNs,closure:=[],defaults:=.none,kwdefaults:=.none })
 ((match d with | 0=>[] | _=>[j4g (consts k p.defaults)])++c.1++[⟨.type "function",none,.func { name,qualname:=qual,params:=p,body:=.stmts body,scope:=sc,globals:=mainNs,closure:=[],defaults:=match d with | 0=>.none | _=>.ref n,kwdefaults:=.none,pyModule:=md,code:=.ref c.2.2 },#[]⟩],
  c.2.1,c.2.2+2,[.int pos.line 0,.int pos.col 0,.ref c.2.2])
noncomputable def ent (P:Params) (x:Str) (k:Nat) (v:Value):DictEntry:=⟨PyData.keyHash P x,.str x k,v⟩
noncomputable def j7V (P:Params) (md:Value) (pre:Str):Nat->Nat->List Stmt->List Obj×Nat×Nat×List Value×List DictEntry
 | n,k,.FunctionDef name p body _ _ _ sc _ _ pos::l=>
  let a:=w0p n k md pre name p body sc pos
  let r:=j7V P md pre a.2.2.1 (a.2.1+1) l
  (a.1++r.1,r.2.1,r.2.2.1,a.2.2.2++r.2.2.2.1,ent P name a.2.1 (.ref (a.2.2.1-1))::r.2.2.2.2)
 | n,k,_=>([],k,n,[],[])
noncomputable def lookN (x:Str):List DictEntry->Option Value
 | []=>none
 | e::l=>match e.key.isStr x with
  | true=>some e.val
  | false=>lookN x l
noncomputable def j2Q (s:TS):List Expr->Option (Value×Bool×List Value)
 | [.Name x _]=>match lookN x s.ns with
  | some (.ref a)=>match s.t.get a with
   | some ⟨_,_,.cls c,_⟩=>some (.ref a,true,c.mro)
   | _=>none
  | _=>some (.type "ValueError",false,[.type "ValueError",.type "Exception",.type "BaseException",.type "object"])
 | _=>none
noncomputable def q6S:BT->Nat->List Obj->BT
 | t,_,[]=>t
 | t,n,o::l=>q6S (t.ins n o) (n+1) l
noncomputable def j6P (P:Params) (s:TS) (name:Str) (bases:List Expr) (body:List Stmt) (st:List Str) (pos:Pos):List Obj×Nat×Value×List Value:=
 let n:=s.n
 let k:=s.k
 let b:=j2Q s bases
 let exc:=b.isSome
 let f:=j7V P s.md (name++Str.ofString ".") (n+7) (k+12) body
 let k1:=f.2.1
 let n1:=f.2.2.1
 let c:=j6h (n+3) (k+2) name name pos.line 0 0 false f.2.2.2.1 none none
 let m:=ent P "__module__" (k+7) s.md
 let line:=ent P "__firstlineno__" (k+11) (.int pos.line (k+10))
 let sa:=ent P "__static_attributes__" (k1+st.length) (.ref n1)
 let k2:=k1+st.length+1
 let T:=n1+2
 let dd:=match exc with
  | true=>(([]:List Obj),([]:List DictEntry),k2,n1+3)
  | false=>([fldO (.type "getset_descriptor") [.str "__dict__" k2,.ref T,.builtin "function.__dict__",.builtin "function.__dict__#set"]],[ent P "__dict__" (k2+1) (.ref (n1+3))],k2+2,n1+4)
 let own:=match b with | some (_,o,_)=>o | none=>false
 let ww:=match own with
  | true=>(([]:List Obj),([]:List DictEntry),dd.2.2.1)
  | false=>([fldO (.type "getset_descriptor") [.str "__weakref__" dd.2.2.1,.ref T,.builtin "ExceptionGroup.__weakref__",.none]],[ent P "__weakref__" (dd.2.2.1+1) (.ref dd.2.2.2)],dd.2.2.1+2)
 let k3:=ww.2.2
 let bv:=match b with | some (v,_,_)=>[v] | none=>[]
 let mro:=match b with | some (_,_,r)=>r | none=>[.type "object"]
 ([j4g bv,fldO (.type "builtin_function_or_method") [.builtin "type.__prepare__",.type "type"],dicO ([m,ent P "__qualname__" (k+9) (.str name (k+8)),line]++f.2.2.2.2++[sa]) (4+f.2.2.2.2.length)]++c.1
  ++ [⟨.type "frame",none,.plain,#[some (.ref (n+5)),some (.ref 3),some (.ref (n+2)),none,some s.md,none,some (.ref 0)]⟩]++f.1
  ++ [j4g (marks k1 st),dicO ([m,line]++f.2.2.2.2++[sa]++dd.2.1++ww.2.1++[ent P "__doc__" k3 .none]) (2+dd.1.length+ww.1.length),
   ⟨.type "type",none,.cls { name,bases:=(match bv with | []=>[.type "object"] | _=>bv),mro:=.ref T::mro,ns:=n1+1,qualname:=name },#[match bv with | []=>none | _=>some (.ref n),none,some (.str name k),some (.str name (k+8)),some (.builtin (match exc with | true=>"ValueError.__new__" | false=>"object.__new__")),some (.bool true)]⟩]
  ++ dd.1++ww.1++[fldO (.type "super") [.ref T,.ref T,.ref T],fldO (.type "builtin_function_or_method") [.builtin "object.__init_subclass__",.ref T]],
  k3+2,.ref T,[.int pos.line 0,.int pos.col 0,.ref (n+5)])
noncomputable def j5X (v:Value):Obj->Obj
 | ⟨c,d,.cls k,z⟩=>⟨c,d,.cls { k with subclasses:=k.subclasses++[v] },z⟩
 | o=>o
noncomputable def w0D (P:Params) (x:Str) (k:Nat) (v:Value):List DictEntry->List DictEntry
 | []=>[ent P x k v]
 | e::l=>match e.key.isStr x with
  | true=>⟨e.hash,e.key,v⟩::l
  | false=>e::w0D P x k v l
noncomputable def step (P:Params) (s:TS):Stmt->TS
 | .FunctionDef name p body _ _ _ sc _ _ pos=>
  let a:=w0p s.n s.k s.md Str.empty name p body sc pos
  { s with t:=q6S s.t s.n a.1,n:=a.2.2.1,k:=a.2.1+1,ns:=s.ns++[ent P name a.2.1 (.ref (a.2.2.1-1))],cl:=s.cl++a.2.2.2 }
 | .ClassDef name bases _ body _ _ _ _ _ st pos=>
  let a:=j6P P s name bases body st pos
  { s with t:=(match j2Q s bases with | some (.ref b,_,_)=>(q6S s.t s.n a.1).set b (j5X a.2.2.1) | _=>q6S s.t s.n a.1),n:=s.n+a.1.length,k:=a.2.1+1,ns:=s.ns++[ent P name a.2.1 a.2.2.1],cl:=s.cl++a.2.2.2 }
 | .Assign [.Name x _] (.Tuple es _ _) _=>{ s with t:=s.t.ins s.n (j4g (consts s.k es)),n:=s.n+1,k:=s.k+es.length+1,ns:=s.ns++[ent P x (s.k+es.length) (.ref s.n)] }
 | .Assign [.Name x _] (.UnaryOp _ (.Constant (.int i) _ _) _) _=>{ s with k:=s.k+3,ns:=s.ns++[ent P x (s.k+2) (.int (-i) (s.k+1))] }
 | .Assign [.Name x _] e _=>match x==Str.ofString "__name__" with
  | true=>{ s with k:=s.k+2,md:=q57 s.k e,ns:=w0D P x (s.k+1) (q57 s.k e) s.ns }
  | false=>{ s with k:=s.k+2,ns:=s.ns++[ent P x (s.k+1) (q57 s.k e)] }
 | _=>s
end Tp
end L3
namespace L3
open PySem
namespace Hd
open PyProof.Rows
open PySem.W
noncomputable def w0Q:List Obj->Nat->BT->BT
 | [],_,t=>t
 | o::l,n,t=>w0Q l (n+1) (t.ins n o)
noncomputable def toT (s:Shared):SharedT:=⟨w0Q s.heap.objs.toList 0 .nil,s.heap.objs.size,s.heap.life,s.gens,s.drawn,s.toks,s.os⟩
noncomputable def s0 (w:World) (os:OsState):Shared:=⟨boot_heap w.params,Array.mk [],boot_drawn,boot_toks,os⟩
noncomputable def pre (p:Program) (w:World) (os:OsState) (k0:Nat):Option (Shared×Thread):=topGo treeTable p w 11 (some (.ref 6)) k0 (s0 w os) (topStub p)
noncomputable def sa (p:Program) (w:World) (os:OsState) (k0:Nat):Shared:=match pre p w os k0 with
 | some (s,_)=>s
 | none=>s0 w os
noncomputable def env (p:Program):Env:={ scope:=p.main.scope,locals:=mainNs,globals:=mainNs,cells:=[],code:=.ref 13,frame:=some 14 }
noncomputable def cd (p:Program):Code:=.body (behindTheImports p) (env p)
noncomputable def z0:Pos:=⟨0,0,0,0⟩
noncomputable def blk (p:Program) (w:World) (os:OsState) (k0 kb:Nat):Option (Flow×Shared×Code×Pos):=segRun treeTable p w 11 (some (.ref 6)) 1 kb (sa p w os k0) (blockOf (behindTheImports p) (env p) (cd p) z0 [topFrame z0])
noncomputable def tb (p:Program) (w:World) (os:OsState) (k0 kb:Nat):SharedT:=match blk p w os k0 kb with
 | some (_,s,_,_)=>toT s
 | none=>toT (s0 w os)
noncomputable def ini (b:SharedT):Tp.TS:=
 let ns:=match b.tree.get 3 with
  | some ⟨_,_,.dict es _,_⟩=>es.toList
  | _=>[]
 ⟨b.tree,b.n,b.toks,match Tp.lookN "__name__" ns with | some v=>v | none=>.none,ns,[]⟩
noncomputable def sh (os:OsState) (b:SharedT) (s:Tp.TS):SharedT:=⟨(s.t.ins 3 (Tp.dicO s.ns s.ns.length)).ins 12 (Tp.fldO .none s.cl),s.n,b.life,b.gens,b.drawn,s.k,os⟩
noncomputable def stt (p:Program) (w:World) (os:OsState) (k0 kb j:Nat):SharedT:=sh os (tb p w os k0 kb) (((behindTheImports p).take j).foldl (Tp.step w.params) (ini (tb p w os k0 kb)))
noncomputable def run1 (p:Program) (w:World) (n:Nat) (s:SharedT) (l:List Stmt) (pos:Pos):Option (Flow×SharedT×Code×Pos):=PySem.W.Fast.tw10110043849684766642 PySem.W.Fast.tw14364793385576792824 p w 11 (some (.ref 6)) 1 n s (piecesOf l (env p) (cd p) pos [topFrame z0])
noncomputable def Ch (p:Program) (k0 kb j m n:Nat) (pa pz:Pos):Prop:=∀(w:World) (os:OsState),run1 p w n (stt p w os k0 kb j) (((behindTheImports p).drop j).take m) pa=some (.next,stt p w os k0 kb (j+m),cd p,pz)
theorem j4w {p:Program} {w:World} {n:Nat} {s:SharedT} {l:List Stmt} {pos:Pos}:segRunT treeTable p w 11 (some (.ref 6)) 1 n s (piecesOf l (env p) (cd p) pos [topFrame z0])=run1 p w n s l pos:=by
 unfold run1
 rw [PySem.W.Fast.te10110043849684766642,PySem.W.Fast.te14364793385576792824]
noncomputable def To (p:Program) (k0 kb j N:Nat) (pa:Pos) (J:Nat):Prop:=∀(w:World) (os:OsState),topRun treeTable p w 11 (some (.ref 6)) N (stt p w os k0 kb j).abs (restOf ((behindTheImports p).drop j) (env p) (cd p) pa [topFrame z0])=some (stt p w os k0 kb J).abs
theorem To.of {p:Program} {k0 kb j m n N J:Nat} {pa pz:Pos} (h:Ch p k0 kb j m n pa pz) (t:To p k0 kb (j+m) N pz J):To p k0 kb j (n+N) pa J:=λw os=>by
 have h3:=segRun_of (j4w.trans (h w os))
 have:=piece_app (rest:=(behindTheImports p).drop (j+m)) h3 (t w os)
 rwa [<-List.drop_drop,List.take_append_drop] at this
theorem To.fin {p:Program} {k0 kb J:Nat} {pz:Pos} (h:(behindTheImports p).drop J=[]):To p k0 kb J 4 pz J:=λw os=>by
 rw [h]
 exact piece_nil rfl
noncomputable def E1 (p:Program) (k0:Nat):Prop:=∀(w:World) (os:OsState),(pre p w os k0).map Prod.snd=some ⟨denote treeTable (cd p),cd p,z0,[topFrame z0]⟩
noncomputable def E2 (p:Program) (k0 kb:Nat):Prop:=∀(w:World) (os:OsState),blk p w os k0 kb=some (.next,(tb p w os k0 kb).abs,cd p,z0)
noncomputable def lkA (p q:Program) (Xt:Shared->Bool) (w:World) (s:Shared):List Bool:=
 [staticsOk (importedModules p.main.body) (boot_heap w.params) s.heap,namesBound p s.heap,gensDone s,laidKept (boot_heap w.params) s.heap,s.heap.isNs mainGlobals && s.heap.isNs builtinsNs && tablesOk q s.heap,Xt s && (s.gens.size==0)]
noncomputable def lk3 (p q:Program) (loose:List Str) (s:Shared):Bool:=s.heap.keysOk (looseW q loose) ((PyProof.Rows.recsOf q).map (·.name)) ((litsOf q).map (·.1)) ((clssOf q (looseW q loose)).map (·.name)) && s.heap.accountedOkI (importedModules p.main.body)
noncomputable def sfn (p:Program) (w:World) (os:OsState) (k0 kb J:Nat):Shared:=(stt p w os k0 kb J).abs
noncomputable def E3 (p q:Program) (Xt:Shared->Bool) (k0 kb J:Nat):Prop:=∀(w:World) (os:OsState),lkA p q Xt w (sfn p w os k0 kb J)=[true,true,true,true,true,true]
noncomputable def E4 {α:Type} (p:Program) (Yf:World->Shared->α) (Ya:World->α) (k0 kb J:Nat):Prop:=∀(w:World) (os:OsState),Yf w (sfn p w os k0 kb J)=Ya w
theorem left_whole {p q:Program} {loose:List Str} {Xt:Shared->Bool} {α β γ:Type} {Yf:Shared->α×β×γ} {Ya:World->α×β×γ} {N k0 kb kp J:Nat}
 (e:opening p=plainProg p.main.scope.names) (hN:Nat.ble 600 N=true) (f:∀s,fenceModules? p s=some s) (le:Nat.ble (k0+(kb+kp)) N=true)
 (size:∀w:World,((boot_heap w.params).isNs mainGlobals && (Array.mk []:Array GenState).size==0,(boot_heap w.params).objs.size,(boot_heap w.params).nsMap mainGlobals "__annotations__")=(true,11,some (.ref 6)))
 (e1:E1 p k0) (e2:E2 p k0 kb) (ei:∀(w:World) (os:OsState),stt p w os k0 kb 0=tb p w os k0 kb) (et:To p k0 kb 0 kp z0 J) (e3:E3 p q Xt k0 kb J)
 (e5:E4 p (λ_ s=>PyProof.Rows.seen ((PyProof.Rows.recsOf q).map (·.name)) (ownsOf q) [] { s with gens:=#[] }) (λ_=>PyProof.Rows.expectedOf q) k0 kb J)
 (e6:E4 p (λ_ s=>(s.heap.bltView,tabsOk q s,pinSeenD q (drecsOf q) s)) (λ_=>(bltViewBooted,true,pinGoodD (drecsOf q))) k0 kb J)
 (e7:E4 p (λ_ s=>lk3 p q loose s) (λ_=>true) k0 kb J)
 (e8:E4 p (λ_ s=>(plainSeenE q (looseW q loose) s,plainSeenD q loose s,wideSeen q s,clsSeenW q loose s)) (λ_=>(plainGoodE q (looseW q loose),plainGoodD q loose,wideGood q,clsGoodW q loose)) k0 kb J)
 (e4:E4 p (λ_ s=>(Yf s).1) (λw=>(Ya w).1) k0 kb J) (e9:E4 p (λ_ s=>(Yf s).2.1) (λw=>(Ya w).2.1) k0 kb J) (e10:E4 p (λ_ s=>(Yf s).2.2) (λw=>(Ya w).2.2) k0 kb J):LeftO p q loose Xt Yf Ya N:=λw=>by
 obtain ⟨⟨h,gs,d,k,os⟩,ho,e'⟩:=Option.map_eq_some_iff.mp (boot_open (N:=N) e hN f w)
 obtain ⟨rfl,rfl,rfl,rfl⟩:h=boot_heap w.params/\gs=Array.mk []/\d=boot_drawn/\k=boot_toks:=by simpa using e'
 obtain ⟨z1,z2,z3⟩:_/\_/\_:=by simpa only [Prod.mk.injEq] using size w
 have hA:=e3 w os
 generalize hsf:sfn p w os k0 kb J=sf at hA
 simp only [lkA,List.cons.injEq,and_true] at hA
 obtain ⟨a1,a2,a3,a4,a5,a6⟩:=hA
 have one:∀{β:Type} {Y:World->Shared->β} {v:World->β},E4 p Y v k0 kb J->Y w sf=v w:=λ{β Y v} h4=>by
  have h4:=h4 w os
  rw [hsf] at h4
  exact h4
 have l1:(staticsOk (importedModules p.main.body) (boot_heap w.params) sf.heap && namesBound p sf.heap && gensDone sf && laidKept (boot_heap w.params) sf.heap)=true:=by
  rw [a1,a2,a3,a4];rfl
 have b5:=one e5
 have b6:(sf.heap.bltView,tabsOk q sf,pinSeenD q (drecsOf q) sf)=(bltViewBooted,true,pinGoodD (drecsOf q)):=one e6
 have b7:lk3 p q loose sf=true:=one e7
 have b8:(plainSeenE q (looseW q loose) sf,plainSeenD q loose sf,wideSeen q sf,clsSeenW q loose sf)=(plainGoodE q (looseW q loose),plainGoodD q loose,wideGood q,clsGoodW q loose):=one e8
 have l2:openSeen q loose (importedModules p.main.body) Xt true sf=openGood q loose:=by
  obtain ⟨b61,b62⟩:=Prod.mk.inj b6
  obtain ⟨b62,b63⟩:=Prod.mk.inj b62
  obtain ⟨b81,b82⟩:=Prod.mk.inj b8
  obtain ⟨b82,b83⟩:=Prod.mk.inj b82
  obtain ⟨b83,b84⟩:=Prod.mk.inj b83
  obtain ⟨b71,b72⟩:=Bool.and_eq_true_iff.mp b7
  obtain ⟨a5,a53⟩:=Bool.and_eq_true_iff.mp a5
  obtain ⟨a51,a52⟩:=Bool.and_eq_true_iff.mp a5
  obtain ⟨a61,a62⟩:=Bool.and_eq_true_iff.mp a6
  unfold openSeen openGood
  rw [b71,b72,a51,a52,a53,a61,b61,b62,b63,b81,b82,b83,b84]
  refine Prod.ext b5 (Prod.ext rfl (Prod.ext ?_ rfl))
  simpa using a62
 have l3:Yf sf=Ya w:=Prod.ext (one e4) (Prod.ext (one e9) (one e10))
 obtain ⟨⟨s1,t1⟩,h1,ht⟩:=Option.map_eq_some_iff.mp (e1 w os)
 have ht':t1=_:=ht
 subst ht'
 have hsa:sa p w os k0=s1:=by unfold sa;rw [h1]
 have h2:=e2 w os
 unfold blk at h2
 rw [hsa] at h2
 have r1:topRun treeTable p w 11 (some (.ref 6)) kp (tb p w os k0 kb).abs (restOf (behindTheImports p) (env p) (cd p) z0 [topFrame z0])=some sf:=by
  have:=et w os
  rw [ei w os] at this
  exact this.trans (congrArg some hsf)
 have r:topRun treeTable p w 11 (some (.ref 6)) (k0+(kb+kp)) ⟨boot_heap w.params,Array.mk [],boot_drawn,boot_toks,os⟩ (topStub p)=some sf:=
  go_top h1 (piece_block h2 r1)
 have r:=topRun_mono (N-(k0+(kb+kp))) _ _ _ _ r
 rw [show k0+(kb+kp)+(N-(k0+(kb+kp)))=N by have:=Nat.le_of_ble_eq_true le;omega] at r
 have t:topFrom treeTable p w N ⟨boot_heap w.params,Array.mk [],boot_drawn,boot_toks,os⟩=some sf:=by
  unfold topFrom
  dsimp only
  rw [z1,z2,z3,r]
  show (match staticsOk (importedModules p.main.body) (boot_heap w.params) sf.heap && namesBound p sf.heap && gensDone sf && laidKept (boot_heap w.params) sf.heap with | true=>_ | false=>_)=_
  rw [l1]
 unfold openEnds
 rw [ho]
 show (topFrom treeTable p w N _).map _=_
 rw [t]
 exact congrArg some (Prod.ext l2 l3)
noncomputable def kOf (as:List Addr) (h:Heap):Frag:=as.filterMap λa=>(h.get? a).map λo=>(a,o)
theorem j63 (as:List Addr) (h:Heap):(kOf as h).In h:=by
 intro a o e
 induction as with
 | nil=>cases e
 | cons b l ih=>
  unfold kOf at e
  rw [List.filterMap_cons] at e
  cases hb:h.get? b with
  | none=>rw [hb] at e;exact ih e
  | some ob=>
   rw [hb] at e
   dsimp only [Option.map_some] at e
   rw [List.lookup_cons] at e
   by_cases q:(a==b)=true
   ·rw [q] at e
    cases e
    rw [beq_iff_eq.mp q]
    exact hb
   ·rw [Bool.eq_false_iff.mpr q] at e
    exact ih e
noncomputable def says {α:Type} (look:Frag->α) (v:α) (h:Heap):Prop:=∃K:Frag,K.In h/\look K=v
theorem says_of {α:Type} {look:Frag->α} {v:α} (as:List Addr) (s:Shared) (e:look (kOf as s.heap)=v):says look v s.heap:=⟨_,j63 as s.heap,e⟩
theorem says_keeps {α:Type} {look:Frag->α} {v:α} {h h':Heap} (e:says look v h) (k:∀b o,h.get? b=some o->h'.get? b=some o):says look v h':=by
 obtain ⟨K,i,e⟩:=e
 exact ⟨K,λa o q=>k _ _ (i a o q),e⟩
theorem row {α:Type} {l m:List α} (h:l=m) (i:Nat) {a b:α} (ha:l[i]?=some a) (hb:m[i]?=some b):a=b:=by
 subst h
 rw [ha] at hb
 exact Option.some.inj hb
end Hd
end L3
namespace Lw
open PySem L2
noncomputable def top (i:Nat):Stmt:=PySem.Challenge.pw_doughhours_k17_stand.main.body.getD i (.Pass ⟨0,0,0,0⟩)
noncomputable abbrev s_1:Stmt:=top 16
noncomputable abbrev s_2:Stmt:=top 17
noncomputable abbrev s_3:Stmt:=top 18
noncomputable abbrev s_4:Stmt:=q1F (top 23) 0
noncomputable abbrev s_5:Stmt:=q1F (top 24) 0
noncomputable abbrev s_6:Stmt:=top 25
noncomputable abbrev s_7:Stmt:=top 26
noncomputable abbrev s_8:Stmt:=top 27
noncomputable abbrev s_9:Stmt:=top 28
noncomputable abbrev j8f:Stmt:=top 29
noncomputable abbrev j8l:Stmt:=q1F (top 31) 0
noncomputable abbrev j8G:Stmt:=q1F (top 31) 1
noncomputable abbrev j8X:Stmt:=top 32
noncomputable abbrev j8O:Stmt:=top 33
noncomputable abbrev j8E:Stmt:=top 34
noncomputable abbrev j8Z:Stmt:=top 35
noncomputable abbrev j74:Stmt:=q1F (top 42) 0
noncomputable abbrev j79:Stmt:=q1F (top 42) 1
noncomputable abbrev j8j:Stmt:=top 43
noncomputable abbrev j8s:Stmt:=q1F (top 47) 0
noncomputable abbrev j8R:Stmt:=q1F (top 48) 0
noncomputable abbrev j8u:Stmt:=q1F (top 48) 3
noncomputable abbrev j8W:Stmt:=q1F (top 52) 0
noncomputable abbrev j77:Stmt:=top 54
noncomputable abbrev j8y:Stmt:=top 55
noncomputable abbrev j8S:Stmt:=top 56
noncomputable abbrev j8a:Stmt:=top 57
noncomputable abbrev j8e:Stmt:=top 58
noncomputable abbrev j8K:Stmt:=top 59
noncomputable abbrev j78:Stmt:=top 60
noncomputable abbrev j8d:Stmt:=top 61
noncomputable abbrev j8x:Stmt:=top 62
noncomputable abbrev j8U:Stmt:=top 63
noncomputable abbrev j8z:Stmt:=top 64
noncomputable abbrev j8L:Stmt:=top 65
noncomputable abbrev j8Y:Stmt:=top 66
noncomputable abbrev j8k:Stmt:=top 67
noncomputable abbrev j8p:Stmt:=top 68
noncomputable abbrev j8v:Stmt:=top 69
noncomputable abbrev j8r:Stmt:=top 70
noncomputable abbrev j8H:Stmt:=top 71
noncomputable abbrev j8c:Stmt:=top 72
end Lw
namespace Lw
open PySem PySem.W PyProof.Rows L2 L3
noncomputable def hAs:List Addr:=[2,3,15,17,18,20,21,22,29,30,31,32,35,42,43,44,47,54,55,56,59,66,67,68,71,78,79,80,83,90,91,92,95,102,103,104,107,114,115,116,119,126,127,128,131,138,139,140,143,146,147,148,150,151,153,154,155,157,158,160,161,169,171,172,174,175,176,177,178,179,180,190,192,193,195,196,197,198,199,200,201,204,207,208,209,211,212,214,215,216,218,219,221,222,223,225,226,228,229,230,232,233,235,236,244,245,247,248,250,251,252,254,255,257,258,259,261,262,264,265,266,267,268,269,270,273,275,276,278,279,280,282,283,285,286,287,289,290,292,293,294,296,297,299,300,308,311,312,313,315,316,318,319,320,321,322,323,324,327,329,330,332,333,334,342,343,345,346,348,349,350,351,352,353,354,364,366,367,369,370,371,373,374,376,377,378,380,381,383,384,385,388,389,390,391,392,393,394,404,406,407,409,410,411,412,413,414,415,418,420,421,423,424,425,427,428,430,431,432,434,435,437,438,439,442,443,444,446,447,449,450,451,453,454,456,457,458,461,462,463,466,467,468,470,471,473,474,475,477,478,480,481,482,485,486,487,490,491,492,495,496,497,500,501,502,504,505,507,508,509,511,512,514,515,516,518,519,521,522,523,525,526,528,529,530,533,534]
noncomputable abbrev nI (K:Frag) (x:Str):=nsIn K mainGlobals x
noncomputable abbrev mFd (n q:Str) (s:Stmt) (d m:Value) (c:Addr):FuncData:=fnOf n q (q1E s) (q1l s) (q0l s) d .none .none m none (.ref c) .none
noncomputable abbrev fo (d:FuncData):Obj:=⟨.type "function",none,.func d,#[]⟩
noncomputable def q1y (K:Frag) (f c:Addr) (q:Str) (a:Option (Option Value)):=(K.lookup f,codeIn K (.ref c) q,keepIn K (.ref f),isFn K (.ref f),a)
noncomputable def q1B (f:Addr) (d:FuncData):Option Obj×Bool×Bool×Bool×Option (Option Value):=(some (fo d),true,true,true,some (some (.ref f)))
noncomputable abbrev p_0:Value:=Value.str "doughhours.checks" 358
noncomputable abbrev p_1:Value:=Value.str "doughhours.orders" 390
noncomputable abbrev p_2:Value:=Value.str "doughhours.plans" 509
noncomputable abbrev p_3:Value:=Value.str "doughhours.bakery" 604
noncomputable abbrev p_4:Value:=Value.str "doughhours.breads" 661
noncomputable abbrev p_5:Value:=Value.str "doughhours.ovens" 759
noncomputable abbrev p_6:Value:=Value.str "law_doughhours_k17_stand" 798
noncomputable abbrev d_1:FuncData:=mFd "check_name" "check_name" s_1 .none p_0 146
noncomputable abbrev d_2:FuncData:=mFd "check_number" "check_number" s_2 .none p_0 153
noncomputable abbrev d_3:FuncData:=mFd "check_count" "check_count" s_3 .none p_0 160
noncomputable abbrev d_4:FuncData:=mFd "__init__" "Order.__init__" s_4 .none p_1 174
noncomputable abbrev d_5:FuncData:=mFd "__init__" "Batch.__init__" s_5 .none p_1 195
noncomputable abbrev d_6:FuncData:=mFd "greatest" "greatest" s_6 .none p_1 207
noncomputable abbrev d_7:FuncData:=mFd "check_due" "check_due" s_7 .none p_1 214
noncomputable abbrev d_8:FuncData:=mFd "accept" "accept" s_8 .none p_1 221
noncomputable abbrev d_9:FuncData:=mFd "batches_of" "batches_of" s_9 .none p_1 228
noncomputable abbrev w0H:FuncData:=mFd "cut" "cut" j8f .none p_1 235
noncomputable abbrev w02:FuncData:=mFd "__init__" "Run.__init__" j8l (.ref 244) p_2 250
noncomputable abbrev w0W:FuncData:=mFd "end" "Run.end" j8G .none p_2 257
noncomputable abbrev w0G:FuncData:=mFd "check_run" "check_run" j8X .none p_2 278
noncomputable abbrev w0X:FuncData:=mFd "fitted" "fitted" j8O .none p_2 285
noncomputable abbrev w0z:FuncData:=mFd "bread_in" "bread_in" j8E .none p_2 292
noncomputable abbrev w0B:FuncData:=mFd "stand" "stand" j8Z .none p_2 299
noncomputable abbrev w0O:FuncData:=mFd "__init__" "Bakery.__init__" j74 .none p_3 311
noncomputable abbrev w0u:FuncData:=mFd "bread_of" "Bakery.bread_of" j79 .none p_3 318
noncomputable abbrev w0x:FuncData:=mFd "check_names_apart" "check_names_apart" j8j .none p_3 332
noncomputable abbrev w0M:FuncData:=mFd "__init__" "Stage.__init__" j8s (.ref 342) p_4 348
noncomputable abbrev w0U:FuncData:=mFd "__init__" "Bread.__init__" j8R .none p_4 369
noncomputable abbrev w03:FuncData:=mFd "bakes" "Bread.bakes" j8u .none p_4 388
noncomputable abbrev w0Y:FuncData:=mFd "__init__" "Oven.__init__" j8W .none p_5 409
noncomputable abbrev w0F:FuncData:=mFd "_law_pick" "_law_pick" j77 .none p_6 423
noncomputable abbrev w00:FuncData:=mFd "_law_is" "_law_is" j8y .none p_6 430
noncomputable abbrev w0E:FuncData:=mFd "_law_row" "_law_row" j8S .none p_6 437
noncomputable abbrev w01:FuncData:=mFd "_law_names" "_law_names" j8a .none p_6 442
noncomputable abbrev w0Z:FuncData:=mFd "_law_wide_kilns" "_law_wide_kilns" j8e .none p_6 449
noncomputable abbrev w0K:FuncData:=mFd "_law_wide_kinds" "_law_wide_kinds" j8K .none p_6 456
noncomputable abbrev w0J:FuncData:=mFd "_law_wide_scene" "_law_wide_scene" j78 .none p_6 461
noncomputable abbrev w0S:FuncData:=mFd "_law_oven_of" "_law_oven_of" j8d .none p_6 466
noncomputable abbrev w0r:FuncData:=mFd "_law_wide_run" "_law_wide_run" j8x .none p_6 473
noncomputable abbrev w0T:FuncData:=mFd "_law_wide_plan" "_law_wide_plan" j8U .none p_6 480
noncomputable abbrev w0R:FuncData:=mFd "_law_batches" "_law_batches" j8z .none p_6 485
noncomputable abbrev w0N:FuncData:=mFd "_law_bakery" "_law_bakery" j8L .none p_6 490
noncomputable abbrev w0P:FuncData:=mFd "_law_orders" "_law_orders" j8Y .none p_6 495
noncomputable abbrev w0w:FuncData:=mFd "_law_runs" "_law_runs" j8k .none p_6 500
noncomputable abbrev w04:FuncData:=mFd "_law_runs_stayed" "_law_runs_stayed" j8p .none p_6 507
noncomputable abbrev w0y:FuncData:=mFd "_law_stayed" "_law_stayed" j8v .none p_6 514
noncomputable abbrev w0s:FuncData:=mFd "_law_later" "_law_later" j8r .none p_6 521
noncomputable abbrev w0v:FuncData:=mFd "_law_due" "_law_due" j8H .none p_6 528
noncomputable abbrev j28:FuncData:=mFd "law" "law" j8c .none p_6 533
noncomputable def j1E (K:Frag) (C:Addr) (n:Str) (fs:List Str):=(nI K n,[plainGet K C Str.empty,hasDictIn K C,plainOver K C,makesIn K C,keepIn K (.ref C)],findIn K (.ref C) "__setattr__",fs.map λx=>findIn K (.ref C) x)
noncomputable def j0U (C:Addr) (fs:List Str):Option (Option Value)×List Bool×Option (Option Value)×List (Option (Option Value)):=(some (some (.ref C)),[true,true,true,true,true],some (some (.builtin "object.__setattr__")),fs.map λ_=>some none)
noncomputable def q7C (K:Frag) (C:Addr) (n:Str):=(nI K n,excIn K C [.type "ValueError",.type "Exception",.type "BaseException",.type "object"] "ValueError.__new__")
noncomputable def q7y (C:Addr):Option (Option Value)×Bool:=(some (some (.ref C)),true)
noncomputable def hLF (K:Frag):=
 [q1y K 147 146 "check_name" (nI K "check_name"),
 q1y K 154 153 "check_number" (nI K "check_number"),
 q1y K 161 160 "check_count" (nI K "check_count"),
 q1y K 175 174 "Order.__init__" (findIn K (.ref 178) "__init__"),
 q1y K 196 195 "Batch.__init__" (findIn K (.ref 199) "__init__"),
 q1y K 208 207 "greatest" (nI K "greatest"),
 q1y K 215 214 "check_due" (nI K "check_due"),
 q1y K 222 221 "accept" (nI K "accept"),
 q1y K 229 228 "batches_of" (nI K "batches_of"),
 q1y K 236 235 "cut" (nI K "cut"),
 q1y K 251 250 "Run.__init__" (findIn K (.ref 268) "__init__"),
 q1y K 258 257 "Run.end" (findIn K (.ref 268) "end"),
 q1y K 279 278 "check_run" (nI K "check_run"),
 q1y K 286 285 "fitted" (nI K "fitted"),
 q1y K 293 292 "bread_in" (nI K "bread_in"),
 q1y K 300 299 "stand" (nI K "stand"),
 q1y K 312 311 "Bakery.__init__" (findIn K (.ref 322) "__init__"),
 q1y K 319 318 "Bakery.bread_of" (findIn K (.ref 322) "bread_of"),
 q1y K 333 332 "check_names_apart" (nI K "check_names_apart"),
 q1y K 349 348 "Stage.__init__" (findIn K (.ref 352) "__init__"),
 q1y K 370 369 "Bread.__init__" (findIn K (.ref 392) "__init__")]
noncomputable def hRF:=
 [q1B 147 d_1,
 q1B 154 d_2,
 q1B 161 d_3,
 q1B 175 d_4,
 q1B 196 d_5,
 q1B 208 d_6,
 q1B 215 d_7,
 q1B 222 d_8,
 q1B 229 d_9,
 q1B 236 w0H,
 q1B 251 w02,
 q1B 258 w0W,
 q1B 279 w0G,
 q1B 286 w0X,
 q1B 293 w0z,
 q1B 300 w0B,
 q1B 312 w0O,
 q1B 319 w0u,
 q1B 333 w0x,
 q1B 349 w0M,
 q1B 370 w0U]
noncomputable def hLG (K:Frag):=
 [q1y K 389 388 "Bread.bakes" (findIn K (.ref 392) "bakes"),
 q1y K 410 409 "Oven.__init__" (findIn K (.ref 413) "__init__"),
 q1y K 424 423 "_law_pick" (nI K "_law_pick"),
 q1y K 431 430 "_law_is" (nI K "_law_is"),
 q1y K 438 437 "_law_row" (nI K "_law_row"),
 q1y K 443 442 "_law_names" (nI K "_law_names"),
 q1y K 450 449 "_law_wide_kilns" (nI K "_law_wide_kilns"),
 q1y K 457 456 "_law_wide_kinds" (nI K "_law_wide_kinds"),
 q1y K 462 461 "_law_wide_scene" (nI K "_law_wide_scene"),
 q1y K 467 466 "_law_oven_of" (nI K "_law_oven_of"),
 q1y K 474 473 "_law_wide_run" (nI K "_law_wide_run"),
 q1y K 481 480 "_law_wide_plan" (nI K "_law_wide_plan"),
 q1y K 486 485 "_law_batches" (nI K "_law_batches"),
 q1y K 491 490 "_law_bakery" (nI K "_law_bakery"),
 q1y K 496 495 "_law_orders" (nI K "_law_orders"),
 q1y K 501 500 "_law_runs" (nI K "_law_runs"),
 q1y K 508 507 "_law_runs_stayed" (nI K "_law_runs_stayed"),
 q1y K 515 514 "_law_stayed" (nI K "_law_stayed"),
 q1y K 522 521 "_law_later" (nI K "_law_later"),
 q1y K 529 528 "_law_due" (nI K "_law_due"),
 q1y K 534 533 "law" (nI K "law")]
noncomputable def hRG:=
 [q1B 389 w03,
 q1B 410 w0Y,
 q1B 424 w0F,
 q1B 431 w00,
 q1B 438 w0E,
 q1B 443 w01,
 q1B 450 w0Z,
 q1B 457 w0K,
 q1B 462 w0J,
 q1B 467 w0S,
 q1B 474 w0r,
 q1B 481 w0T,
 q1B 486 w0R,
 q1B 491 w0N,
 q1B 496 w0P,
 q1B 501 w0w,
 q1B 508 w04,
 q1B 515 w0y,
 q1B 522 w0s,
 q1B 529 w0v,
 q1B 534 j28]
noncomputable def hLC (K:Frag):=
 [j1E K 178 "Order" ["bread","loaves","due"],
 j1E K 199 "Batch" ["order","first","loaves"],
 j1E K 268 "Run" ["begin","lengths","oven"],
 j1E K 322 "Bakery" ["night","hands","benches","ovens","breads"],
 j1E K 352 "Stage" ["name","least","most","want","heat"],
 j1E K 392 "Bread" ["name","stages"],
 j1E K 413 "Oven" ["room","rate","heat"]]
noncomputable def hRC:=
 [j0U 178 ["bread","loaves","due"],
 j0U 199 ["order","first","loaves"],
 j0U 268 ["begin","lengths","oven"],
 j0U 322 ["night","hands","benches","ovens","breads"],
 j0U 352 ["name","least","most","want","heat"],
 j0U 392 ["name","stages"],
 j0U 413 ["room","rate","heat"]]
noncomputable def hLE (K:Frag):=
 [q7C K 31 "DoughError",
 q7C K 44 "BadName",
 q7C K 56 "BadWant",
 q7C K 68 "BadNumber",
 q7C K 80 "BadCount",
 q7C K 92 "TwiceNamed",
 q7C K 104 "NoBread",
 q7C K 116 "BeyondNight",
 q7C K 128 "TooMany",
 q7C K 140 "BadPlan"]
noncomputable def hRE:=
 [q7y 31,
 q7y 44,
 q7y 56,
 q7y 68,
 q7y 80,
 q7y 92,
 q7y 104,
 q7y 116,
 q7y 128,
 q7y 140]
noncomputable def hZ:List Str:=["all","any","bool","enumerate","int","isinstance","len","list","max","min","range","set","sum","tuple","zip"]
noncomputable def hLV (K:Frag):List (Option (Option Value)):=
 [nsIn K mainGlobals "FASTEST",
 nsIn K mainGlobals "HOTTEST",
 nsIn K mainGlobals "LETTERS",
 nsIn K mainGlobals "LONGEST_NAME",
 nsIn K mainGlobals "MOST_BATCHES",
 nsIn K mainGlobals "MOST_BENCHES",
 nsIn K mainGlobals "MOST_BREADS",
 nsIn K mainGlobals "MOST_HANDS",
 nsIn K mainGlobals "MOST_LOAVES",
 nsIn K mainGlobals "MOST_ORDERS",
 nsIn K mainGlobals "MOST_OVENS",
 nsIn K mainGlobals "MOST_ROOM",
 nsIn K mainGlobals "MOST_STAGES",
 nsIn K mainGlobals "NIGHT",
 nsIn K mainGlobals "WANTS"]
noncomputable def hRV:List (Option (Option Value)):=
 [some (some (.int 300 763)),some (some (.int 300 364)),some (some (.str "abcdefghijklmnopqrstuvwxyz" 360)),some (some (.int 12 362)),some (some (.int 24 396)),some (some (.int 6 608)),some (some (.int 8 612)),some (some (.int 6 606)),some (some (.int 60 392)),some (some (.int 12 394)),some (some (.int 3 610)),some (some (.int 30 761)),some (some (.int 6 668)),some (some (.int 720 602)),some (some (.ref 334))]
noncomputable def hLB (K:Frag):List Bool:=
 []
noncomputable def hRB:List Bool:=
 []
noncomputable def hLO (K:Frag):List (Option Obj):=
 [K.lookup 244,
 K.lookup 342,
 K.lookup 334]
noncomputable def hRO:List (Option Obj):=
 [some ⟨(Value.type "tuple"),(none),.seq #[.int 0 523] 0,(#[])⟩,some ⟨(Value.type "tuple"),(none),.seq #[.int 0 682] 0,(#[])⟩,some ⟨.type "tuple",(none),.seq #[(.str "nothing" 663),(.str "hands" 664),(.str "bench" 665),(.str "oven" 666)] 0,(#[])⟩]
noncomputable def hLX (K:Frag):List (Option Bool):=
 []
noncomputable def hRX:List (Option Bool):=
 []
noncomputable def hLI (K:Frag):List Bool:=[]
noncomputable def hRI:List Bool:=[]
noncomputable def q5p (K:Frag):=(hLF K,hLG K,hLC K,hLE K,hZ.map (λx=>nI K x),hLI K,hLV K,hLB K,hLO K,hLX K)
noncomputable def j5k:=(hRF,hRG,hRC,hRE,hZ.map (λ_=>(some none:Option (Option Value))),hRI,hRV,hRB,hRO,hRX)
noncomputable def vw:Program:={ PySem.Challenge.pw_doughhours_k17_stand with main:={ (PySem.Challenge.pw_doughhours_k17_stand).main with body:=[0,2,3,4,5,6,7,8,9,10,11,13,14,15,16,17,18,20,21,22,23,24,25,26,27,28,29,31,32,33,34,35,36,38,39,40,41,42,43,45,46,47,48,50,51,52,54,55,56,57,58,59,60,61,62,63,64,65,66,67,68,69,70,71,72].map top } }
noncomputable abbrev Xv (s:Shared):Bool:=xlAt vw [] s && recOk (RowW.records (OpenRow.toRowW (OpenLaw.row PySem.Challenge.rw_doughhours_k17_stand))) s
theorem bA {a b:Bool} (h:a=true) (k:b=true):(a && b)=true:=by rw [h,k];rfl
theorem j7l:looksOpen PySem.Challenge.pw_doughhours_k17_stand=true:=by
 unfold looksOpen
 refine bA (bA (bA (bA (bA ?_ ?_) ?_) ?_) ?_) ?_<;>decide +kernel
theorem j7q:PySem.Challenge.rw_doughhours_k17_stand.row.wellSaid=true:=by
 unfold OpenRow.wellSaid OpenRow.partSaid
 rw [show looksOpen PySem.Challenge.rw_doughhours_k17_stand.row.prog=true from j7l]
 kernel_rfl
theorem j7w:PySem.Challenge.rw_doughhours_k17_stand.wellSaid=true:=by
 unfold OpenLaw.wellSaid
 rw [j7q]
 kernel_rfl
theorem j7C:Hd.E1 PySem.Challenge.pw_doughhours_k17_stand 12:=λw os=>by kernel_rfl
theorem j7A:Hd.E2 PySem.Challenge.pw_doughhours_k17_stand 12 2:=λw os=>by kernel_rfl
theorem w1o:Hd.Ch PySem.Challenge.pw_doughhours_k17_stand 12 2 0 8 1307 ⟨0,0,0,0⟩ ⟨15,0,16,8⟩:=λw os=>by kernel_rfl
theorem w1U:Hd.Ch PySem.Challenge.pw_doughhours_k17_stand 12 2 8 16 1264 ⟨15,0,16,8⟩ ⟨42,0,48,22⟩:=λw os=>by kernel_rfl
theorem w1z:Hd.Ch PySem.Challenge.pw_doughhours_k17_stand 12 2 24 23 1212 ⟨42,0,48,22⟩ ⟨147,0,147,11⟩:=λw os=>by kernel_rfl
theorem w1F:Hd.Ch PySem.Challenge.pw_doughhours_k17_stand 12 2 47 26 1427 ⟨147,0,147,11⟩ ⟨333,0,359,115⟩:=λw os=>by kernel_rfl
theorem j5O:Hd.E3 PySem.Challenge.pw_doughhours_k17_stand vw Xv 12 2 73:=λw os=>by kernel_rfl
theorem j7F:Hd.E4 PySem.Challenge.pw_doughhours_k17_stand (λ_ s=>PyProof.Rows.seen ((PyProof.Rows.recsOf vw).map (·.name)) (ownsOf vw) [] { s with gens:=#[] }) (λ_=>PyProof.Rows.expectedOf vw) 12 2 73:=λw os=>by kernel_rfl
theorem j6z:Hd.E4 PySem.Challenge.pw_doughhours_k17_stand (λ_ s=>(s.heap.bltView,tabsOk vw s,pinSeenD vw (drecsOf vw) s)) (λ_=>(bltViewBooted,true,pinGoodD (drecsOf vw))) 12 2 73:=λw os=>by kernel_rfl
theorem j6O:Hd.E4 PySem.Challenge.pw_doughhours_k17_stand (λ_ s=>Hd.lk3 PySem.Challenge.pw_doughhours_k17_stand vw [] s) (λ_=>true) 12 2 73:=λw os=>by kernel_rfl
theorem j7k:Hd.E4 PySem.Challenge.pw_doughhours_k17_stand (λ_ s=>(plainSeenE vw (looseW vw []) s,plainSeenD vw [] s,wideSeen vw s,clsSeenW vw [] s)) (λ_=>(plainGoodE vw (looseW vw []),plainGoodD vw [],wideGood vw,clsGoodW vw [])) 12 2 73:=λw os=>by kernel_rfl
theorem j5Q:Hd.E4 PySem.Challenge.pw_doughhours_k17_stand (λ_ s=>(q5p (Hd.kOf hAs s.heap)).1) (λ_=>j5k.1) 12 2 73:=λw os=>by kernel_rfl
theorem j5N:Hd.E4 PySem.Challenge.pw_doughhours_k17_stand (λ_ s=>(q5p (Hd.kOf hAs s.heap)).2.1) (λ_=>j5k.2.1) 12 2 73:=λw os=>by kernel_rfl
theorem j3W:Hd.E4 PySem.Challenge.pw_doughhours_k17_stand (λ_ s=>(q5p (Hd.kOf hAs s.heap)).2.2) (λ_=>j5k.2.2) 12 2 73:=λw os=>by kernel_rfl
theorem w1C:Hd.To PySem.Challenge.pw_doughhours_k17_stand 12 2 73 4 ⟨333,0,359,115⟩ 73:=Hd.To.fin (by kernel_rfl)
theorem w1p:Hd.To PySem.Challenge.pw_doughhours_k17_stand 12 2 47 1431 ⟨147,0,147,11⟩ 73:=Hd.To.of (j:=47) (m:=26) (n:=1427) (N:=4) w1F w1C
theorem w1e:Hd.To PySem.Challenge.pw_doughhours_k17_stand 12 2 24 2643 ⟨42,0,48,22⟩ 73:=Hd.To.of (j:=24) (m:=23) (n:=1212) (N:=1431) w1z w1p
theorem w1W:Hd.To PySem.Challenge.pw_doughhours_k17_stand 12 2 8 3907 ⟨15,0,16,8⟩ 73:=Hd.To.of (j:=8) (m:=16) (n:=1264) (N:=2643) w1U w1e
theorem w1c:Hd.To PySem.Challenge.pw_doughhours_k17_stand 12 2 0 5214 ⟨0,0,0,0⟩ 73:=Hd.To.of (j:=0) (m:=8) (n:=1307) (N:=3907) w1o w1W
theorem q7P:LeftO (OpenLaw.row PySem.Challenge.rw_doughhours_k17_stand).prog vw [] Xv (λs=>q5p (Hd.kOf hAs s.heap)) (λ_=>j5k) 11428:=
 Hd.left_whole (p:=PySem.Challenge.pw_doughhours_k17_stand) (kp:=5214) (by kernel_rfl) (by decide) (λs=>by kernel_rfl) (by decide) (λw=>by kernel_rfl) j7C j7A (λw os=>by kernel_rfl) w1c j5O j7F j6z j6O j7k j5Q j5N j3W
end Lw
namespace L2
open PySem PySem.Spec PyProof.Rows
noncomputable abbrev Key:=Sum Int Str
noncomputable def j7i:Key->Value->Bool
 | .inl k,v=>Value.isInt k v
 | .inr x,v=>Value.isStrOf x v
noncomputable def w1D (w:World):Key->Int
 | .inl k=>hashInt k
 | .inr x=>hashStr w x
theorem q0X:∀{k:Key} {v:Value},j7i k v=true->(∃i t,k=Sum.inl i/\v=Value.int i t)∨(∃x t,k=Sum.inr x/\v=Value.str x t)
 | .inl i,v,h=>by
  obtain ⟨t,e⟩:=Value.isInt_shape (k:=i) (v:=v) h
  exact .inl ⟨i,t,rfl,e⟩
 | .inr x,v,h=>by
  obtain ⟨t,e⟩:=Value.isStrOf_shape (x:=x) (v:=v) h
  exact .inr ⟨x,t,rfl,e⟩
theorem j7z (a b:Int):decide ((Sum.inl a:Key)=Sum.inl b)=(a==b):=by
 by_cases e:a=b
 ·subst e;simp
 ·have h:¬(Sum.inl a:Key)=Sum.inl b:=λq=>e (Sum.inl.inj q)
  rw [decide_eq_false h]
  exact (beq_eq_false_iff_ne.mpr e).symm
theorem j70 (a b:Str):decide ((Sum.inr a:Key)=Sum.inr b)=decide (a=b):=by
 by_cases e:a=b
 ·subst e;simp
 ·have h:¬(Sum.inr a:Key)=Sum.inr b:=λq=>e (Sum.inr.inj q)
  rw [decide_eq_false h,decide_eq_false e]
theorem j6j (a:Int) (b:Str):decide ((Sum.inl a:Key)=Sum.inr b)=false:=decide_eq_false (λq=>nomatch q)
theorem j7r (a:Str) (b:Int):decide ((Sum.inr a:Key)=Sum.inl b)=false:=decide_eq_false (λq=>nomatch q)
noncomputable def q5u (prog:Program) (w:World):PySem.KeyKind prog w Key where
 is:=j7i
 hash:=w1D w
 inj:=λv a b ha hb=>by
  rcases q0X ha with ⟨i,t,rfl,rfl⟩ | ⟨x,t,rfl,rfl⟩
  ·rcases q0X hb with ⟨j,u,rfl,e⟩ | ⟨y,u,rfl,e⟩
   ·injection e with e1 _;rw [e1]
   ·exact nomatch e
  ·rcases q0X hb with ⟨j,u,rfl,e⟩ | ⟨y,u,rfl,e⟩
   ·exact nomatch e
   ·injection e with e1 _;rw [e1]
 byValue:=λk v h=>by
  rcases q0X h with ⟨i,t,rfl,rfl⟩ | ⟨x,t,rfl,rfl⟩<;>rfl
 pyHash:=λhv h=>by
  rcases q0X hv with ⟨i,t,rfl,rfl⟩ | ⟨x,t,rfl,rfl⟩
  ·exact wpAny_pyHash_int h
  ·exact wpAny_pyHash_str h
 eqBool:=λhu hv h=>by
  rcases q0X hu with ⟨i,t,rfl,rfl⟩ | ⟨x,t,rfl,rfl⟩
  ·rcases q0X hv with ⟨j,u,rfl,rfl⟩ | ⟨y,u,rfl,rfl⟩
   ·rw [j7z] at h;exact wpAny_eqBool_int h
   ·rw [j6j] at h;exact SeqAt.EqAt.int_str i t y u _ _ _ _ h
  ·rcases q0X hv with ⟨j,u,rfl,rfl⟩ | ⟨y,u,rfl,rfl⟩
   ·rw [j7r] at h;exact SeqAt.EqAt.str_int x t j u _ _ _ _ h
   ·rw [j70] at h;exact wpAny_eqBool_str h
 «strs»:=λk x t v h=>by
  rcases q0X h with ⟨i,u,rfl,e⟩ | ⟨y,u,rfl,e⟩
  ·exact nomatch e
  ·injection e with e1 _
   subst e1
   cases v<;>rfl
inductive V where
 | non | bl (b:Bool) | int (i:Int) | str (x:Str) | byt (b:Array UInt8) | flt (b:UInt64) | ref (a:Addr) | ty (n:String)
 deriving DecidableEq
noncomputable def RelV:V->Value->Prop
 | .non,u=>u=Value.none
 | .bl b,u=>u=Value.bool b
 | .int i,u=>∃t,u=Value.int i t
 | .str x,u=>∃t,u=Value.str x t
 | .byt b,u=>∃t,u=Value.bytes b t
 | .flt b,u=>∃t,u=Value.float b t
 | .ref a,u=>u=Value.ref a
 | .ty n,u=>u=Value.type n
noncomputable abbrev Vals:List V->List Value->Prop:=Paired RelV
theorem Vals.length {xs:List V} {us:List Value} (r:Vals xs us):xs.length=us.length:=Paired.length r
theorem Vals.get:∀{xs:List V} {us:List Value} {i:Nat} {x:V},Vals xs us->xs[i]?=some x->∃u,us[i]?=some u/\RelV x u
 | _,_,_,_,.nil,e=>by simp at e
 | _,_,0,_,.cons r _,e=>by simp at e;subst e;exact ⟨_,rfl,r⟩
 | _,_,i+1,x,.cons _ t,e=>by
  obtain ⟨u,h1,h2⟩:=Vals.get (i:=i) (x:=x) t (by simpa using e)
  exact ⟨u,by simpa using h1,h2⟩
theorem Vals.set {x:V} {u:Value} (r:RelV x u):∀{xs:List V} {us:List Value} (i:Nat),Vals xs us->Vals (xs.set i x) (us.set i u)
 | _,_,_,.nil=>.nil
 | _,_,0,.cons _ t=>.cons r t
 | _,_,i+1,.cons q t=>.cons q (Vals.set r i t)
theorem Vals.append:∀{xs ys:List V} {us ws:List Value},Vals xs us->Vals ys ws->Vals (xs++ys) (us++ws)
 | _,_,_,_,.nil,s=>s
 | _,_,_,_,.cons r t,s=>.cons r (Vals.append t s)
noncomputable def RelO:Option V->Option Value->Prop
 | some v,some u=>RelV v u
 | none,none=>True
 | _,_=>False
noncomputable def KV {κ:Type}:List (κ×V)->List (κ×Value)->Prop:=Paired λ(p:κ×V) (q:κ×Value)=>p.1=q.1/\RelV p.2 q.2
noncomputable def kV:Key->V
 | .inl i=>.int i
 | .inr x=>.str x
inductive HO where
 | lst (xs:List V)
 | tup (xs:List V)
 | dK (kvs:List (Key×V)) | dT (kvs:List (List Key×V))
 | set (S:Int->Bool) (n:Nat)
 | ins (C dx:Addr) (fs:List (Str×V))
 | own (x:Addr)
 | xd (fs:List (Str×V))
 | met (f x:Addr)
 | rng (lo hi:Int)
 | frz (o:Obj) (u:HO)
 | tbl (ps:Array Value)
 | ext (φ:Heap->Prop)
noncomputable abbrev Hp:=Addr->Option HO
noncomputable def upd (H:Hp) (a:Addr) (o:HO):Hp:=λb=>if b=a then some o else H b
theorem q0w {H:Hp} {a:Addr} {o:HO}:upd H a o a=some o:=by unfold upd;rw [if_pos rfl]
theorem q0j {H:Hp} {a b:Addr} {o:HO} (h:b≠a):upd H a o b=H b:=by unfold upd;rw [if_neg h]
theorem q1O {H:Hp} {a b:Addr} {o:HO} (h:H a=some o) (h':H b=none):a≠b:=by
 intro e;subst e;rw [h] at h';cases h'
section
variable (P:Program) (w:World)
noncomputable def ObjOk (H:Hp) (h:Heap) (a:Addr):HO->Prop
 | .lst xs=>xs.length<=sizeLine/\∃(its:List Value) (n:Nat),Vals xs its/\h.get? a=some { cls:=.type "list",data:=.seq its.toArray n }
 | .tup xs=>xs.length<=sizeLine/\∃its:List Value,Vals xs its/\IsTup h a its.toArray
 | .dK kvs=>kvs.length<=sizeLine/\(a==sysModules)=false/\∃vs,KV kvs vs/\h.DictOf (q5u P w) a vs
 | .dT kvs=>kvs.length<=sizeLine/\(a==sysModules)=false/\∃xs:List (List Key×Addr×Value),
  Paired (λ(p:List Key×V) (q:List Key×Addr×Value)=>p.1=q.1/\H q.2.1=some (.tup (p.1.map kV))/\RelV p.2 q.2.2) kvs xs /\
  ∃o es ep,h.get? a=some o/\o.ExactDict/\o.data=.dict es ep/\es.toList=xs.map (entryOfKey (tupleKind (q5u P w)))/\(xs.map (·.1)).Nodup
 | .set S n=>h.SetOf (intKind P w) a S n
 | .ins C dx fs=>H dx=some (.own a)/\fs.length<=1000/\dx≠a/\h.get? a=some (PySem.W.instObj C dx) /\
  ∃mA,h.Ns1 dx mA/\(∀f,RelO (fs.lookup f) (mA f))/\PySem.Within mA (fs.map (·.1))
 | .own _=>∃o,h.get? a=some o
 | .xd fs=>∃mA,h.Ns1 a mA/\∀f,RelO (fs.lookup f) (mA f)
 | .rng lo hi=>∃t u v,h.get? a=some { cls:=.type "range",data:=.fields #[.int lo t,.int hi u,.int 1 v] }
 | .frz o u=>h.get? a=some o/\ObjOk H h a u
 | .tbl ps=>h.get? a=some { cls:=.none,data:=.fields ps }
 | .met f x=>h.get? a=some (PySem.W.methodObj (.ref f) (.ref x))
 | .ext φ=>φ h/\(∃o,h.get? a=some o)/\∀h1 h2:Heap,φ h1->(∀o,h1.get? a=some o->h2.get? a=some o)->φ h2
noncomputable def HOk (H:Hp) (h:Heap):Prop:=∀a o,H a=some o->ObjOk P w H h a o
end
section
variable {P:Program} {w:World} {H H':Hp} {h h':Heap} {a:Addr} {o:HO}
theorem ObjOk.lt (x:ObjOk P w H h a o):a < h.objs.size:=by
 cases o with
 | lst xs=>obtain ⟨_,_,_,_,e⟩:=x;exact Heap.lt_size e
 | tup xs=>obtain ⟨_,_,_,p⟩:=x;exact p.lt
 | dK kvs=>obtain ⟨_,_,_,_,o,_,_,e,_⟩:=x;exact Heap.lt_size e
 | dT kvs=>obtain ⟨_,_,_,_,o,_,_,e,_⟩:=x;exact Heap.lt_size e
 | set S n=>obtain ⟨o,_,_,_,e,_⟩:=x;exact Heap.lt_size e
 | ins C dx fs=>obtain ⟨_,_,_,e,_⟩:=x;exact Heap.lt_size e
 | own y=>obtain ⟨_,e⟩:=x;exact Heap.lt_size e
 | xd fs=>obtain ⟨_,⟨_,_,_,e,_⟩,_⟩:=x;exact Heap.lt_size e
 | rng lo hi=>obtain ⟨_,_,_,e⟩:=x;exact Heap.lt_size e
 | frz ob u=>obtain ⟨e,_⟩:=x;exact Heap.lt_size e
 | tbl ps=>exact Heap.lt_size (show h.get? a=some _ from x)
 | met f y=>exact Heap.lt_size (show h.get? a=some _ from x)
 | ext φ=>obtain ⟨_,⟨_,e⟩,_⟩:=x;exact Heap.lt_size e
theorem Paired.mapP {α β:Type} {F G:α->β->Prop}:∀{l₁:List α} {l₂:List β},Paired F l₁ l₂->(∀a b,F a b->G a b)->Paired G l₁ l₂
 | _,_,.nil,_=>.nil
 | _,_,.cons r t,f=>.cons (f _ _ r) (Paired.mapP t f)
theorem ObjOk.stay (x:ObjOk P w H h a o) (k:∀b u,(b=a∨H b=some (.own a))->h.get? b=some u->h'.get? b=some u)
 (ho:∀b,H b=some (.own a)->H' b=some (.own a)) (ht:∀b xs,H b=some (.tup xs)->H' b=some (.tup xs)):ObjOk P w H' h' a o:=by
 induction o with
 | lst xs=>obtain ⟨z,its,n,r,e⟩:=x;exact ⟨z,its,n,r,k _ _ (.inl rfl) e⟩
 | tup xs=>obtain ⟨z,its,r,ob,e,c⟩:=x;exact ⟨z,its,r,ob,k _ _ (.inl rfl) e,c⟩
 | dK kvs=>obtain ⟨z,y,vs,r,ob,es,ep,e,c⟩:=x;exact ⟨z,y,vs,r,ob,es,ep,k _ _ (.inl rfl) e,c⟩
 | dT kvs=>
  obtain ⟨z,y,xs,r,ob,es,ep,e,c⟩:=x
  exact ⟨z,y,xs,Paired.mapP r λp q z=>⟨z.1,ht _ _ z.2.1,z.2.2⟩,ob,es,ep,k _ _ (.inl rfl) e,c⟩
 | set S n=>obtain ⟨ob,es,ep,t,e,c⟩:=x;exact ⟨ob,es,ep,t,k _ _ (.inl rfl) e,c⟩
 | ins C dx fs=>
  obtain ⟨d,z,ne,e,mA,⟨od,es,ep,e2,c⟩,r⟩:=x
  exact ⟨ho _ d,z,ne,k _ _ (.inl rfl) e,mA,⟨od,es,ep,k _ _ (.inr d) e2,c⟩,r⟩
 | own y=>obtain ⟨ob,e⟩:=x;exact ⟨ob,k _ _ (.inl rfl) e⟩
 | xd fs=>obtain ⟨mA,⟨od,es,ep,e,c⟩,r⟩:=x;exact ⟨mA,⟨od,es,ep,k _ _ (.inl rfl) e,c⟩,r⟩
 | rng lo hi=>obtain ⟨t,u,v,e⟩:=x;exact ⟨t,u,v,k _ _ (.inl rfl) e⟩
 | frz ob u ih=>obtain ⟨e,q⟩:=x;exact ⟨k _ _ (.inl rfl) e,ih q⟩
 | tbl ps=>
  have e:h.get? a=some { cls:=.none,data:=.fields ps }:=x
  show h'.get? a=some { cls:=.none,data:=.fields ps }
  exact k a _ (.inl rfl) e
 | met f y=>
  have e:h.get? a=some (PySem.W.methodObj (.ref f) (.ref y)):=x
  show h'.get? a=some (PySem.W.methodObj (.ref f) (.ref y))
  exact k a _ (.inl rfl) e
 | ext φ=>obtain ⟨p,⟨o,e⟩,st⟩:=x;exact ⟨st _ _ p λo q=>k _ _ (.inl rfl) q,⟨o,k _ _ (.inl rfl) e⟩,st⟩
theorem HOk.lt (x:HOk P w H h) (e:H a=some o):a < h.objs.size:=(x a o e).lt
theorem HOk.fresh (x:HOk P w H h) (e:h.objs.size<=a):H a=none:=by
 cases q:H a with
 | none=>rfl
 | some u=>exact absurd (Nat.lt_of_lt_of_le (x.lt q) e) (Nat.lt_irrefl _)
theorem HOk.kept (x:HOk P w H h) (k:∀b u,h.get? b=some u->h'.get? b=some u):HOk P w H h':=λa o e=>
 (x a o e).stay (λb u _ q=>k b u q) (λ_ q=>q) λ_ _ q=>q
theorem HOk.laid (x:HOk P w H h) (k:∀b u,h.get? b=some u->h'.get? b=some u) (hp:h.objs.size<=a) (new:ObjOk P w (upd H a o) h' a o):HOk P w (upd H a o) h':=λb u e=>by
 have hn:=x.fresh hp
 by_cases hb:b=a
 ·subst hb;rw [q0w] at e;cases e;exact new
 ·rw [q0j hb] at e
  exact (x b u e).stay (λc v _ q=>k c v q) (λc q=>by rw [q0j (q1O q hn)];exact q) λc xs q=>by rw [q0j (q1O q hn)];exact q
end
noncomputable def Rd (H:Hp) (a:Addr) (u:HO):Prop:=H a=some u∨∃o,H a=some (.frz o u)
theorem Rd.ok {P:Program} {w:World} {H:Hp} {h:Heap} {a:Addr} {u:HO} (r:Rd H a u) (x:HOk P w H h):ObjOk P w H h a u:=by
 rcases r with r | ⟨o,r⟩
 ·exact x a u r
 ·obtain ⟨_,q⟩:=x a _ r
  exact q
noncomputable def Mut:Option HO->Prop
 | some (.lst _)=>True
 | some (.dK _)=>True
 | some (.dT _)=>True
 | some (.set _ _)=>True
 | some (.ins _ _ _)=>True
 | some (.ext _)=>True
 | _=>False
section
variable {P:Program} {w:World} {H:Hp} {h h':Heap} {x e:Addr} {o':HO}
theorem HOk.write (ok:HOk P w H h) (mu:Mut (H x)) (he:e=x∨H e=some (.own x)) (k:∀b u,b≠e->h.get? b=some u->h'.get? b=some u) (heo:∃u,h'.get? e=some u)
 (new:ObjOk P w (upd H x o') h' x o'):HOk P w (upd H x o') h':=λb u q=>by
 have nown:∀c y,H c=some (.own y)->c≠x:=λc y r z=>by subst z;rw [r] at mu;exact mu
 have ntup:∀c xs,H c=some (.tup xs)->c≠x:=λc xs r z=>by subst z;rw [r] at mu;exact mu
 by_cases hb:b=x
 ·subst hb;rw [q0w] at q;cases q;exact new
 ·rw [q0j hb] at q
  by_cases hbe:b=e
  ·have q':H b=some (.own x):=by
    rcases he with z | z
    ·exact absurd (hbe.trans z) hb
    ·rw [hbe];exact z
   rw [q] at q';cases q'
   obtain ⟨v,hv⟩:=heo
   exact ⟨v,by rw [hbe];exact hv⟩
  ·refine (ok b u q).stay (λc v hc r=>k c v ?_ r) (λc r=>by rw [q0j (nown c b r)];exact r) λc xs r=>by rw [q0j (ntup c xs r)];exact r
   rcases hc with rfl | hc
   ·exact hbe
   ·rintro rfl
    rcases he with z | z
    ·exact nown c b hc z
    ·rw [hc] at z;cases z;exact hb rfl
end
structure Un (fs ex:List Addr) (H H':Hp) (h h':Heap):Prop where
 keep:∀b o,h.get? b=some o->H b=none->b∉fs->b∉ex->h'.get? b=some o
 slot:∀b o,h.get? b=some o->H b=none->b∈fs->b∉ex->∃sl,h'.get? b=some { o with slots:=sl }
 free:∀b o,h.get? b=some o->H b=none->b∉ex->H' b=none
 there:∀b o,h.get? b=some o->b∉ex->∃o',h'.get? b=some o'
 tups:∀b xs,H b=some (.tup xs)->H' b=some (.tup xs)
 frzs:∀b o u,H b=some (.frz o u)->H' b=some (.frz o u)
 tbls:∀b ps,H b=some (.tbl ps)->∃more,H' b=some (.tbl (ps++more))
section
variable {fs fs' ex ex':List Addr} {H H1 H2:Hp} {h h1 h2 h':Heap} {a x e:Addr} {o:HO}
theorem Un.any (u:Un fs ex H H1 h h1) {b:Addr} {ob:Obj} (q:h.get? b=some ob) (n:H b=none) (hx:b∉ex):∃sl,h1.get? b=some { ob with slots:=sl }:=by
 by_cases hb:b∈fs
 ·exact u.slot b ob q n hb hx
 ·exact ⟨ob.slots,u.keep b ob q n hb hx⟩
theorem Un.kept (k:∀b u,h.get? b=some u->h'.get? b=some u):Un fs ex H H h h':=
 ⟨λb ob q _ _ _=>k b ob q,λb ob q _ _ _=>⟨ob.slots,k b ob q⟩,λ_ _ _ n _=>n,λb ob q _=>⟨ob,k b ob q⟩,λ_ _ q=>q,λ_ _ _ q=>q,λ_ ps q=>⟨#[],by rw [q];simp⟩⟩
theorem Un.refl:Un fs ex H H h h:=Un.kept λ_ _ q=>q
theorem Un.laid (k:∀b u,h.get? b=some u->h'.get? b=some u) (hp:h.objs.size<=a) (hn:H a=none):Un fs ex H (upd H a o) h h' where
 keep:=λb u q _ _ _=>k b u q
 slot:=λb u q _ _ _=>⟨u.slots,k b u q⟩
 free:=λb u q n _=>by rw [q0j (Nat.ne_of_lt (Nat.lt_of_lt_of_le (Heap.lt_size q) hp))];exact n
 there:=λb u q _=>⟨u,k b u q⟩
 tups:=λb xs q=>by rw [q0j (q1O q hn)];exact q
 frzs:=λb u xs q=>by rw [q0j (q1O q hn)];exact q
 tbls:=λb ps q=>⟨#[],by rw [q0j (q1O q hn),q];simp⟩
theorem Un.write (mu:Mut (H x)) (he:e=x∨H e=some (.own x)) (k:∀b u,b≠e->h.get? b=some u->h'.get? b=some u) (heo:∃u,h'.get? e=some u):Un fs ex H (upd H x o) h h':=by
 have hx:∀b,H b=none->b≠x:=λb n z=>by subst z;rw [n] at mu;exact mu
 have hb:∀b,H b=none->b≠e:=λb n z=>by
  subst z
  rcases he with r | r
  ·exact hx b n r
  ·rw [n] at r;cases r
 have hm:∀b u,H b=some u->¬Mut (some u)->b≠x:=λb u q nm z=>by subst z;rw [q] at mu;exact nm mu
 refine ⟨λb u q n _ _=>k b u (hb b n) q,λb u q n _ _=>⟨u.slots,k b u (hb b n) q⟩,λb u q n _=>by rw [q0j (hx b n)];exact n,λb u q _=>?_,
  λb xs q=>by rw [q0j (hm b _ q λz=>z)];exact q,λb u xs q=>by rw [q0j (hm b _ q λz=>z)];exact q,λb ps q=>⟨#[],by rw [q0j (hm b _ q λz=>z),q];simp⟩⟩
 by_cases hbe:b=e
 ·subst hbe;exact heo
 ·exact ⟨u,k b u hbe q⟩
end
noncomputable def trk (h:Heap) (H:Hp):List Addr:=(List.range h.objs.size).filter λa=>(H a).isSome
noncomputable def j1a (h:Heap) (H:Hp):Heap:=PySem.W.hideAll h (trk h H)
theorem q8F (h:Heap) (H:Hp):(j1a h H).objs.size=h.objs.size:=PySem.W.hideAll_size _ _
theorem j1i {h:Heap} {H:Hp} {b:Addr} {o:Obj} (e:h.get? b=some o) (n:H b=none):(j1a h H).get? b=some o:=
 PySem.W.hideAll_get _ e λhm=>by
  have q:(H b).isSome=true:=(List.mem_filter.mp hm).2
  rw [n] at q;simp at q
theorem j42 {h:Heap} {H:Hp} {b:Addr} {o:Obj} (e:(j1a h H).get? b=some o):h.get? b=some o/\H b=none:=by
 have e':h.get? b=some o:=PySem.W.of_hideAll (trk h H) e
 refine ⟨e',?_⟩
 cases q:H b with
 | none=>rfl
 | some x=>
  have hm:b∈trk h H:=List.mem_filter.mpr ⟨List.mem_range.mpr (Heap.lt_size e'),by simp [q]⟩
  have z:(j1a h H).get? b=none:=PySem.W.hideAll_none (trk h H) hm
  rw [z] at e;cases e
noncomputable def j4d (g h:Heap) (L:Addr):List (Addr×Obj):=(List.range h.objs.size).filterMap λa=>if a=L∨(g.get? a).isSome=true then none else (h.get? a).map λo=>(a,o)
noncomputable def rest (g h:Heap) (L d:Addr):List (Addr×Obj):=(j4d g h L).filter λp=>decide (p.1≠d)
structure Mod (K:PySem.W.Frag) (mg:Str->Option Value) (base:Heap):Prop where
 kin:K.In base
 glob:base.Ns mainGlobals mg
 blt:∃mb,base.Ns builtinsNs mb/\∀x:Str,x≠"__name__"->mb x=bootBuiltins x
 nolimit:base.NoLimit
structure Cx where
 prog:Program
 w:World
 K:PySem.W.Frag
 mg:Str->Option Value
 base:Heap
 A:Around
 N:List Str
 s₀:Shared
 H₀:Hp
 env:Env
 outer:List Env
 stack:List Env
 ex:List Addr
 fn:Str->Bool
 calm:Bool
 pn:List (Addr×Obj)
 xe:Value->Shared->Prop
noncomputable def frs (l:List Env):List Addr:=l.filterMap (·.frame)
noncomputable abbrev Cx.fs (X:Cx):List Addr:=frs X.outer
noncomputable def Vis (sc:Scope) (x:Str):Prop:=sc.names.lookup x=some .local∨sc.names.lookup x=some .cell∨sc.names.lookup x=some .free
noncomputable def Loc (sc:Scope) (x:Str):Prop:=sc.names.lookup x=some .local∨sc.names.lookup x=some .cell
noncomputable def Look (env:Env) (h:Heap) (m:Str->Option Value) (x:Str) (u:Value):Prop:=
 (env.kindOf x=some .local/\m x=some u)∨((env.kindOf x=some .cell∨env.kindOf x=some .free)/\∃c,env.cells.lookup x=some c/\h.IsCell c (some u))
structure Cx.Ok (X:Cx):Prop where
 mod:Mod X.K X.mg X.base
 kind:X.env.scope.kind=.function
 glob:X.env.globals=mainGlobals
 blt:X.env.builtins=builtinsNs
 above:X.s₀.heap.objs.size<=X.env.locals
 inj:∀x y c,X.env.cells.lookup x=some c->X.env.cells.lookup y=some c->x=y
 has:∀x,(X.env.kindOf x=some .cell∨X.env.kindOf x=some .free)->∃c,X.env.cells.lookup x=some c
 cab:∀x c,X.fn x=true->X.env.cells.lookup x=some c->X.s₀.heap.objs.size<=c
 hd:X.calm=true->X.A.handled=none
 frames:X.A.frames=some X.stack
 stk:X.stack=X.outer∨(X.stack=X.env::X.outer/\X.env.frame=some X.env.locals)
 exf:∀b∈X.ex,b≠X.env.locals/\∀x c,X.env.cells.lookup x=some c->c≠b
 bs:∀b o,X.base.get? b=some o->X.s₀.heap.get? b=some o/\X.H₀ b=none
 bsz:X.base.objs.size<=X.s₀.heap.objs.size
 noex:∀b o,X.base.get? b=some o->b∉X.ex
 exfs:∀b∈X.ex,b∉X.fs
 funs:X.s₀.heap.FunFrames X.base X.outer
 frf:∀b∈X.fs,X.H₀ b=none
structure Inv (X:Cx) (pins:List (Addr×Obj)) (σ:List (Option V)) (H:Hp) (s:Shared):Prop where
 ok:X.Ok
 os:s.os=X.s₀.os
 bare:AllBare s.gens
 base:Un X.fs X.ex X.H₀ H X.s₀.heap s.heap
 loc:∃m,s.heap.Ns X.env.locals m/\∀(i:Nat) (x:Str) (v:V),X.N[i]?=some x->σ[i]?=some (some v)->Vis X.env.scope x->∃u,RelV v u/\Look X.env s.heap m x u
 cell:∀x c,X.env.cells.lookup x=some c->∃v,s.heap.IsCell c v
 free:H X.env.locals=none
 freeC:∀x c,X.env.cells.lookup x=some c->H c=none
 pin:∀p∈X.pn++pins,s.heap.get? p.1=some p.2/\H p.1=none/\p.1≠X.env.locals/\p.1∉X.fs/\∀v,p.2.data≠.cell v
 hok:HOk X.prog X.w H s.heap
 len:σ.length=X.N.length
section
variable {X:Cx} {pins:List (Addr×Obj)} {σ:List (Option V)} {H H':Hp} {s:Shared} {h':Heap}
theorem Cx.Ok.nofr (ok:X.Ok) {b:Addr} {o:Obj} (e:X.base.get? b=some o):b∉X.fs:=λhb=>by
 have:=(ok.funs.mem hb).1
 rw [e] at this;cases this
theorem Inv.bs (I:Inv X pins σ H s):∀b o,X.base.get? b=some o->s.heap.get? b=some o/\H b=none:=λb o e=>
 ⟨I.base.keep b o (I.ok.bs b o e).1 (I.ok.bs b o e).2 (I.ok.nofr e) (I.ok.noex b o e),I.base.free b o (I.ok.bs b o e).1 (I.ok.bs b o e).2 (I.ok.noex b o e)⟩
theorem Inv.bk (I:Inv X pins σ H s):∀b o,X.base.get? b=some o->s.heap.get? b=some o:=λb o e=>(I.bs b o e).1
theorem Inv.mod (I:Inv X pins σ H s):Mod X.K X.mg X.base:=I.ok.mod
theorem Inv.kIn (I:Inv X pins σ H s):X.K.In s.heap:=I.ok.mod.kin.keeps I.bk
theorem Inv.lt (I:Inv X pins σ H s):X.env.locals < s.heap.objs.size:=let ⟨_,hn,_⟩:=I.loc;hn.lt
theorem Inv.sz (I:Inv X pins σ H s):X.s₀.heap.objs.size<=s.heap.objs.size:=Nat.le_trans I.ok.above (Nat.le_of_lt I.lt)
theorem Inv.nofs (I:Inv X pins σ H s) {a:Addr} (h:s.heap.objs.size<=a):a∉X.fs:=λhb=>by
 obtain ⟨_,o,ho,_⟩:=I.ok.funs.mem hb
 exact absurd (Nat.lt_of_lt_of_le (Heap.lt_size ho) (Nat.le_trans I.sz h)) (Nat.lt_irrefl _)
theorem Inv.cne (I:Inv X pins σ H s):∀x c,X.env.cells.lookup x=some c->c≠X.env.locals:=λx c e z=>by
 obtain ⟨v,o,ho,hd⟩:=I.cell x c e
 obtain ⟨m,⟨o',es,ep,ho',hd',_⟩,_⟩:=I.loc
 rw [z,ho'] at ho;cases ho;rw [hd'] at hd;cases hd
theorem Inv.funs (I:Inv X pins σ H s):s.heap.FunFrames X.base X.outer:=by
 have all:∀(l:List Env),(∀b∈frs l,b∈X.fs)->X.s₀.heap.FunFrames X.base l->s.heap.FunFrames X.base l:=by
  intro l
  induction l with
  | nil=>intro _ _;trivial
  | cons env r ih=>
   intro hs hl
   obtain ⟨hk,⟨L,o,hf,hn,ho,hd⟩,hr⟩:=hl
   have hL:L∈X.fs:=hs L (by unfold frs;rw [List.filterMap_cons,hf];exact List.mem_cons_self)
   obtain ⟨sl,e⟩:=I.base.slot L o ho (I.ok.frf L hL) hL λz=>I.ok.exfs L z hL
   exact ⟨hk,⟨L,_,hf,hn,e,hd⟩,ih (λb hb=>hs b (by unfold frs;rw [List.filterMap_cons,hf];exact List.mem_cons_of_mem _ hb)) hr⟩
 exact all X.outer (λ_ hb=>hb) I.ok.funs
theorem Inv.stack (I:Inv X pins σ H s):s.heap.FunFrames X.base X.stack:=by
 rcases I.ok.stk with e | ⟨e,hf⟩
 ·rw [e];exact I.funs
 ·rw [e]
  obtain ⟨m,hn,_⟩:=I.loc
  refine .cons (by rw [I.ok.kind];decide) hf hn ?_ I.funs
  exact Heap.get?_none_of_le (Nat.le_trans I.ok.bsz I.ok.above)
theorem Inv.stkSub (I:Inv X pins σ H s):∀b∈frs X.stack,b∈X.env.locals::X.fs:=λb hb=>by
 rcases I.ok.stk with e | ⟨e,hf⟩
 ·rw [e] at hb;exact List.mem_cons_of_mem _ hb
 ·rw [e] at hb
  unfold frs at hb
  rw [List.filterMap_cons,hf] at hb
  exact hb
theorem Inv.stkFree (I:Inv X pins σ H s):∀b∈frs X.stack,H b=none:=λb hb=>by
 rcases List.mem_cons.mp (I.stkSub b hb) with e | hb
 ·rw [e];exact I.free
 ·obtain ⟨_,o,ho,_⟩:=I.ok.funs.mem hb
  exact I.base.free b o ho (I.ok.frf b hb) λz=>I.ok.exfs b z hb
theorem Inv.step {g':Array GenState} {t':Nat} {d':Drawn} {ch:List Addr} (I:Inv X pins σ H s)
 (hch:∀b∈ch,(b∈X.ex∨X.s₀.heap.objs.size<=b)/\b≠X.env.locals/\(∀x c,X.env.cells.lookup x=some c->c≠b)/\∀p∈X.pn++pins,p.1≠b)
 (keep:∀b o,b≠X.env.locals->b∉X.fs->b∉ch->s.heap.get? b=some o->H b=none->h'.get? b=some o)
 (slot:∀b o,b≠X.env.locals->b∈X.fs->b∉ch->s.heap.get? b=some o->H b=none->∃sl,h'.get? b=some { o with slots:=sl }) (free:∀b o,b∉ch->s.heap.get? b=some o->H b=none->H' b=none)
 (there:∀b o,b∉ch->s.heap.get? b=some o->∃o',h'.get? b=some o')
 (tups:∀b xs,H b=some (.tup xs)->H' b=some (.tup xs)) (frzs:∀b o u,H b=some (.frz o u)->H' b=some (.frz o u)) (tbls:∀b ps,H b=some (.tbl ps)->∃more,H' b=some (.tbl (ps++more)))
 (ns:∀m,s.heap.Ns X.env.locals m->h'.Ns X.env.locals m) (hok:HOk X.prog X.w H' h') (hg:AllBare g') :
 Inv X pins σ H' { s with heap:=h',gens:=g',drawn:=d',toks:=t' }:=by
 have neL:∀b o,X.s₀.heap.get? b=some o->b≠X.env.locals:=λb o e=>Nat.ne_of_lt (Nat.lt_of_lt_of_le (Heap.lt_size e) I.ok.above)
 have neC:∀b o,X.s₀.heap.get? b=some o->b∉X.ex->b∉ch:=λb o e hx hb=>by
  rcases (hch b hb).1 with z | z
  ·exact hx z
  ·exact absurd (Nat.lt_of_lt_of_le (Heap.lt_size e) z) (Nat.lt_irrefl _)
 have cellK:∀x c,X.env.cells.lookup x=some c->∀v,s.heap.IsCell c v->h'.IsCell c v:=λx c e v ⟨o,ho,hd⟩=>by
  have nch:c∉ch:=λz=>(hch c z).2.2.1 x c e rfl
  by_cases hc:c∈X.fs
  ·obtain ⟨sl,q⟩:=slot c o (I.cne x c e) hc nch ho (I.freeC x c e)
   exact ⟨_,q,hd⟩
  ·exact ⟨o,keep c o (I.cne x c e) hc nch ho (I.freeC x c e),hd⟩
 refine ⟨I.ok,I.os,hg,⟨λb o e n hb hx=>?_,λb o e n hb hx=>?_,λb o e n hx=>?_,λb o e hx=>?_,λb xs e=>tups b xs (I.base.tups b xs e),λb o xs e=>frzs b o xs (I.base.frzs b o xs e),λb ps e=>?_⟩,?_,λx c e=>?_,?_,λx c e=>?_,λp hp=>?_,hok,I.len⟩
 ·exact keep b o (neL b o e) hb (neC b o e hx) (I.base.keep b o e n hb hx) (I.base.free b o e n hx)
 ·obtain ⟨sl,e1⟩:=I.base.slot b o e n hb hx
  obtain ⟨sl',e2⟩:=slot b _ (neL b o e) hb (neC b o e hx) e1 (I.base.free b o e n hx)
  exact ⟨sl',e2⟩
 ·obtain ⟨o',e1⟩:=I.base.there b o e hx
  exact free b o' (neC b o e hx) e1 (I.base.free b o e n hx)
 ·obtain ⟨o',e1⟩:=I.base.there b o e hx
  exact there b o' (neC b o e hx) e1
 ·obtain ⟨m1,e1⟩:=I.base.tbls b ps e
  obtain ⟨m2,e2⟩:=tbls b _ e1
  exact ⟨m1++m2,by rw [e2,Array.append_assoc]⟩
 ·obtain ⟨m,hn,hl⟩:=I.loc
  refine ⟨m,ns m hn,λi x v e1 e2 e3=>?_⟩
  obtain ⟨u,r,l⟩:=hl i x v e1 e2 e3
  refine ⟨u,r,?_⟩
  rcases l with l | ⟨k,c,e,z⟩
  ·exact .inl l
  ·exact .inr ⟨k,c,e,cellK x c e _ z⟩
 ·obtain ⟨v,z⟩:=I.cell x c e
  exact ⟨v,cellK x c e v z⟩
 ·obtain ⟨m,⟨o,_,_,ho,_⟩,_⟩:=I.loc
  exact free _ o (λz=>(hch _ z).2.1 rfl) ho I.free
 ·obtain ⟨v,o,ho,hd⟩:=I.cell x c e
  exact free c o (λz=>(hch c z).2.2.1 x c e rfl) ho (I.freeC x c e)
 ·obtain ⟨e,n,ne,nf,d⟩:=I.pin p hp
  have nch:p.1∉ch:=λz=>(hch p.1 z).2.2.2 p hp rfl
  exact ⟨keep p.1 p.2 ne nf nch e n,free p.1 p.2 nch e n,ne,nf,d⟩
theorem Inv.un {t':Nat} (I:Inv X pins σ H s) (u:Un X.fs [] H H' s.heap h') (hok:HOk X.prog X.w H' h'):Inv X pins σ H' { s with heap:=h',toks:=t' }:=by
 obtain ⟨m,⟨o,es,ep,ho,r⟩,_⟩:=id I.loc
 obtain ⟨sl,hL⟩:=u.any ho I.free (by simp)
 exact I.step (g':=s.gens) (d':=s.drawn) (ch:=[]) (λ_ z=>nomatch z) (λb o _ hb _ e n=>u.keep b o e n hb (by simp)) (λb o _ hb _ e n=>u.slot b o e n hb (by simp)) (λb o _ e n=>u.free b o e n (by simp)) (λb o _ e=>u.there b o e (by simp)) u.tups u.frzs u.tbls (λm' hm=>by
  obtain ⟨o',es',ep',ho',r'⟩:=hm
  rw [ho] at ho';cases ho'
  exact ⟨_,es',ep',hL,r'⟩) hok I.bare
theorem Inv.call {g':Array GenState} {t':Nat} {d':Drawn} {ch:List Addr} (I:Inv X pins σ H s) (u:Un (frs X.stack) ch H H' s.heap h') (hok:HOk X.prog X.w H' h') (hg:AllBare g')
 (hch:∀b∈ch,(b∈X.ex∨X.s₀.heap.objs.size<=b)/\b≠X.env.locals/\(∀x c,X.env.cells.lookup x=some c->c≠b)/\∀p∈X.pn++pins,p.1≠b) :
 Inv X pins σ H' { s with heap:=h',gens:=g',drawn:=d',toks:=t' }:=by
 obtain ⟨m,⟨o,es,ep,ho,r⟩,_⟩:=id I.loc
 obtain ⟨sl,hL⟩:=u.any ho I.free λz=>(hch _ z).2.1 rfl
 exact I.step (ch:=ch) hch (λb o hL hb hc e n=>u.keep b o e n (λz=>(List.mem_cons.mp (I.stkSub b z)).elim hL hb) hc) (λb o _ _ hc e n=>u.any e n hc) (λb o hc e n=>u.free b o e n hc) (λb o hc e=>u.there b o e hc) u.tups u.frzs u.tbls (λm' hm=>by
  obtain ⟨o',es',ep',ho',r'⟩:=hm
  rw [ho] at ho';cases ho'
  exact ⟨_,es',ep',hL,r'⟩) hok hg
theorem Inv.turned {t':Nat} {it:Addr} (I:Inv X pins σ H s) (k:∀b o,b≠it->s.heap.get? b=some o->h'.get? b=some o) (hn:H it=none) (hL:it≠X.env.locals)
 (h1:it∈X.ex∨X.s₀.heap.objs.size<=it) (h2:∀x c,X.env.cells.lookup x=some c->c≠it) (h3:∀p∈X.pn++pins,p.1≠it):Inv X pins σ H { s with heap:=h',toks:=t' }:=by
 have nit:∀b u,H b=some u->b≠it:=λb u e z=>by rw [z,hn] at e;cases e
 refine I.step (g':=s.gens) (d':=s.drawn) (ch:=[it]) (λb hb=>?_) (λb o _ _ hc e _=>k b o (λz=>hc (by simp [z])) e) (λb o _ _ hc e _=>⟨o.slots,k b o (λz=>hc (by simp [z])) e⟩) (λ_ _ _ _ n=>n)
  (λb o hc e=>⟨o,k b o (λz=>hc (by simp [z])) e⟩) (λ_ _ e=>e) (λ_ _ _ e=>e) (λb ps e=>⟨#[],by rw [e];simp⟩) (λm hm=>?_) (λb u e=>?_) I.bare
 ·have e:b=it:=by simpa using hb
  subst e
  exact ⟨h1,hL,h2,h3⟩
 ·obtain ⟨o,es,ep,ho,r⟩:=hm
  exact ⟨o,es,ep,k _ o (Ne.symm hL) ho,r⟩
 ·refine (I.hok b u e).stay (λc v hc q=>k c v ?_ q) (λ_ q=>q) λ_ _ q=>q
  rcases hc with z | z
  ·rw [z];exact nit b u e
  ·exact nit c _ z
theorem Inv.tok (I:Inv X pins σ H s) (t:Nat):Inv X pins σ H { s with toks:=t }:=I.un (h':=s.heap) (t':=t) Un.refl I.hok
theorem Inv.kept {t':Nat} (I:Inv X pins σ H s) (k:∀b u,s.heap.get? b=some u->h'.get? b=some u):Inv X pins σ H { s with heap:=h',toks:=t' }:=I.un (Un.kept k) (I.hok.kept k)
theorem Inv.laid {a:Addr} {o:HO} {t':Nat} (I:Inv X pins σ H s) (k:∀b u,s.heap.get? b=some u->h'.get? b=some u) (hp:s.heap.objs.size<=a) (new:ObjOk X.prog X.w (upd H a o) h' a o) :
 Inv X pins σ (upd H a o) { s with heap:=h',toks:=t' }:=I.un (Un.laid k hp (I.hok.fresh hp)) (I.hok.laid k hp new)
theorem Inv.write {x e:Addr} {o:HO} {t':Nat} (I:Inv X pins σ H s) (mu:Mut (H x)) (he:e=x∨H e=some (.own x)) (k:∀b u,b≠e->s.heap.get? b=some u->h'.get? b=some u) (heo:∃u,h'.get? e=some u)
 (new:ObjOk X.prog X.w (upd H x o) h' x o):Inv X pins σ (upd H x o) { s with heap:=h',toks:=t' }:=I.un (Un.write mu he k heo) (I.hok.write mu he k heo new)
theorem Inv.pins_of {pins':List (Addr×Obj)} (I:Inv X pins σ H s) (h:∀p∈pins',s.heap.get? p.1=some p.2/\H p.1=none/\p.1≠X.env.locals/\p.1∉X.fs/\∀v,p.2.data≠.cell v):Inv X pins' σ H s:=
 ⟨I.ok,I.os,I.bare,I.base,I.loc,I.cell,I.free,I.freeC,λp hp=>(List.mem_append.mp hp).elim (λz=>I.pin p (List.mem_append_left _ z)) (h p),I.hok,I.len⟩
theorem q3L {N:List Str} (hN:N.Nodup) {i j:Nat} {x:Str} (a:N[i]?=some x) (b:N[j]?=some x):i=j:=by
 obtain ⟨h1,e1⟩:=List.getElem?_eq_some_iff.mp a
 obtain ⟨h2,e2⟩:=List.getElem?_eq_some_iff.mp b
 exact (List.getElem_inj hN).mp (e1.trans e2.symm)
theorem q8v {M:Model} {A:Around} {E:Value->Shared->Prop} {i:Nat} {x:Str} {v:V} {u:Value} {Q:Unit->Shared->Prop} (I:Inv X pins σ H s) (hN:X.N.Nodup) (hi:X.N[i]?=some x) (hx:Loc X.env.scope x) (r:RelV v u)
 (h:∀s',Inv X pins (σ.set i (some v)) H s'->(∃a,Heap.SameBut a s.heap s'.heap/\(a=X.env.locals∨X.env.cells.lookup x=some a))->Q () s') (hf:X.fn x=true∨X.env.scope.names.lookup x=some .local:=by walk_at "v2"):wpAny M A (storeName X.env x u) Q E s:=by
 obtain ⟨m,hn,hl⟩:=id I.loc
 have hcls:(X.env.scope.kind==.class || (X.env.scope.kind==.module && X.env.locals != X.env.globals))=false:=by rw [I.ok.kind];rfl
 have hiσ:i < σ.length:=by rw [I.len];exact (List.getElem?_eq_some_iff.mp hi).1
 have cne:=I.cne
 have tracked:∀{a:Addr} {h':Heap},(∃o,s.heap.get? a=some o/\H a=none)->Heap.SameBut a s.heap h'->HOk X.prog X.w H h':=λ{a h'} ha hs b ob e=>by
  obtain ⟨_,_,hfree⟩:=ha
  refine (I.hok b ob e).stay (λc w' hc q=>(hs.2 c ?_).trans q) (λ_ q=>q) λ_ _ q=>q
  rintro rfl
  rcases hc with rfl | hc
  ·rw [hfree] at e;cases e
  ·rw [hfree] at hc;cases hc
 rcases hx with hk | hk
 ·refine wpAny_storeName_local hk hn (λh' hn' hs=>?_) hcls
  obtain ⟨oL,_,_,hoL,_⟩:=id hn
  refine h _ ⟨I.ok,I.os,I.bare,⟨λb o e n hb hx=>?_,λb o e n hb hx=>?_,I.base.free,λb o e hx=>?_,I.base.tups,I.base.frzs,I.base.tbls⟩,⟨_,hn',λj y v' e1 e2 e3=>?_⟩,λy c e=>?_,I.free,I.freeC,λp hp=>?_,tracked ⟨oL,hoL,I.free⟩ hs,by simpa using I.len⟩ ⟨_,hs,.inl rfl⟩
  ·exact (hs.2 b (Nat.ne_of_lt (Nat.lt_of_lt_of_le (Heap.lt_size e) I.ok.above))).trans (I.base.keep b o e n hb hx)
  ·obtain ⟨sl,e1⟩:=I.base.slot b o e n hb hx
   exact ⟨sl,(hs.2 b (Nat.ne_of_lt (Nat.lt_of_lt_of_le (Heap.lt_size e) I.ok.above))).trans e1⟩
  ·obtain ⟨o',e1⟩:=I.base.there b o e hx
   exact ⟨o',(hs.2 b (Nat.ne_of_lt (Nat.lt_of_lt_of_le (Heap.lt_size e) I.ok.above))).trans e1⟩
  ·by_cases hj:j=i
   ·subst hj
    rw [hi] at e1;cases e1
    rw [List.getElem?_set_self hiσ] at e2
    cases e2
    exact ⟨u,r,.inl ⟨hk,by simp⟩⟩
   ·rw [List.getElem?_set_ne (Ne.symm hj)] at e2
    obtain ⟨u',r',q⟩:=hl j y v' e1 e2 e3
    refine ⟨u',r',?_⟩
    rcases q with ⟨k,e⟩ | ⟨k,c,e,z⟩
    ·refine .inl ⟨k,?_⟩
     have:y≠x:=λe=>hj (q3L hN e1 (e ▸ hi))
     simp [this,e]
    ·exact .inr ⟨k,c,e,z.sameBut hs (cne y c e)⟩
  ·obtain ⟨w',z⟩:=I.cell y c e
   exact ⟨w',z.sameBut hs (cne y c e)⟩
  ·obtain ⟨e,n,ne,nf,d⟩:=I.pin p hp
   exact ⟨(hs.2 p.1 ne).trans e,n,ne,nf,d⟩
 ·have hfn:X.fn x=true:=by
   rcases hf with z | z
   ·exact z
   ·rw [z] at hk;cases hk
  obtain ⟨c,hc⟩:=I.ok.has x (.inl hk)
  obtain ⟨w',z⟩:=I.cell x c hc
  refine wpAny_storeName_cell I.ok.kind hk hc z (λh' hc' hs=>?_)
  obtain ⟨oc,hoc,hocd⟩:=id z
  refine h { s with heap:=h' } ⟨I.ok,I.os,I.bare,⟨λb o e n hb hx=>?_,λb o e n hb hx=>?_,I.base.free,λb o e hx=>?_,I.base.tups,I.base.frzs,I.base.tbls⟩,⟨m,hn.sameBut hs (Ne.symm (cne x c hc)),λj y v' e1 e2 e3=>?_⟩,λy c' e=>?_,I.free,I.freeC,λp hp=>?_,tracked ⟨oc,hoc,I.freeC x c hc⟩ hs,by simpa using I.len⟩ ⟨c,hs,.inr hc⟩
  ·exact (hs.2 b (Nat.ne_of_lt (Nat.lt_of_lt_of_le (Heap.lt_size e) (I.ok.cab x c hfn hc)))).trans (I.base.keep b o e n hb hx)
  ·obtain ⟨sl,e1⟩:=I.base.slot b o e n hb hx
   exact ⟨sl,(hs.2 b (Nat.ne_of_lt (Nat.lt_of_lt_of_le (Heap.lt_size e) (I.ok.cab x c hfn hc)))).trans e1⟩
  ·obtain ⟨o',e1⟩:=I.base.there b o e hx
   exact ⟨o',(hs.2 b (Nat.ne_of_lt (Nat.lt_of_lt_of_le (Heap.lt_size e) (I.ok.cab x c hfn hc)))).trans e1⟩
  ·by_cases hj:j=i
   ·subst hj
    rw [hi] at e1;cases e1
    rw [List.getElem?_set_self hiσ] at e2
    cases e2
    exact ⟨u,r,.inr ⟨.inl hk,c,hc,hc'⟩⟩
   ·rw [List.getElem?_set_ne (Ne.symm hj)] at e2
    obtain ⟨u',r',q⟩:=hl j y v' e1 e2 e3
    refine ⟨u',r',?_⟩
    rcases q with q | ⟨k,c',e,z'⟩
    ·exact .inl q
    ·refine .inr ⟨k,c',e,z'.sameBut hs ?_⟩
     rintro rfl
     exact hj (q3L hN e1 (I.ok.inj _ _ _ e hc ▸ hi))
  ·by_cases hcc:c'=c
   ·subst hcc;exact ⟨_,hc'⟩
   ·obtain ⟨w2,z2⟩:=I.cell y c' e
    exact ⟨w2,z2.sameBut hs hcc⟩
  ·obtain ⟨e,n,ne,nf,d⟩:=I.pin p hp
   refine ⟨(hs.2 p.1 ?_).trans e,n,ne,nf,d⟩
   intro q
   rw [q,hoc] at e
   have q':oc=p.2:=Option.some.inj e
   exact d w' (by rw [<-q'];exact hocd)
theorem q6b {M:Model} {A:Around} {E:Value->Shared->Prop} {i:Nat} {x:Str} {v:V} {u:Value} {Q:Unit->Shared->Prop} (I:Inv X pins σ H s) (hN:X.N.Nodup) (hi:X.N[i]?=some x) (hx:Loc X.env.scope x) (r:RelV v u)
 (h:∀s',Inv X pins (σ.set i (some v)) H s'->Q () s') (hf:X.fn x=true∨X.env.scope.names.lookup x=some .local:=by walk_at "v2"):wpAny M A (storeName X.env x u) Q E s:=
 q8v I hN hi hx r (λs' I' _=>h s' I') hf
theorem Inv.call' {s':Shared} {ch:List Addr} (I:Inv X pins σ H s) (ho:s'.os=s.os) (u:Un (frs X.stack) ch H H' s.heap s'.heap) (hok:HOk X.prog X.w H' s'.heap) (hg:AllBare s'.gens)
 (hch:∀b∈ch,(b∈X.ex∨X.s₀.heap.objs.size<=b)/\b≠X.env.locals/\(∀x c,X.env.cells.lookup x=some c->c≠b)/\∀p∈X.pn++pins,p.1≠b):Inv X pins σ H' s':=by
 obtain ⟨h',g',d',t',o'⟩:=s'
 have e:o'=s.os:=ho
 subst e
 exact I.call (g':=g') (t':=t') (d':=d') u hok hg hch
end
noncomputable abbrev XK:=Value->Option Addr->Hp->Prop
noncomputable abbrev St:=List (Option V)
noncomputable abbrev VK:=V->Hp->Prop
noncomputable abbrev TE:=St->Hp->VK->Prop
noncomputable abbrev TT:=St->Hp->(Bool->Hp->Prop)->Prop
noncomputable abbrev TA:=St->Hp->(List V->Hp->Prop)->Prop
structure Ends where
 nx:St->Hp->Prop
 rt:VK
 bk:St->Hp->Prop:=λ_ _=>False
 ct:St->Hp->Prop:=λ_ _=>False
noncomputable abbrev TS:=Ends->St->Hp->Prop
noncomputable def EP (X:Cx) (pins:List (Addr×Obj)) (σ:St) (Q:VK) (u:Value) (s':Shared):Prop:=∃v H',Inv X pins σ H' s'/\RelV v u/\Q v H'
noncomputable def TP (X:Cx) (pins:List (Addr×Obj)) (σ:St) (Q:Bool->Hp->Prop) (b:Bool) (s':Shared):Prop:=∃H',Inv X pins σ H' s'/\Q b H'
noncomputable def AP (X:Cx) (pins:List (Addr×Obj)) (σ:St) (Q:List V->Hp->Prop) (us:List Value) (s':Shared):Prop:=∃vs H',Inv X pins σ H' s'/\Vals vs us/\Q vs H'
noncomputable def SP (X:Cx) (pins:List (Addr×Obj)) (D:Ends) (f:Flow) (s':Shared):Prop:=
 match f with
 | .next=>∃σ' H',Inv X pins σ' H' s'/\D.nx σ' H'
 | .brk=>∃σ' H',Inv X pins σ' H' s'/\D.bk σ' H'
 | .cont=>∃σ' H',Inv X pins σ' H' s'/\D.ct σ' H'
 | .ret u=>∃v σ' H',Inv X pins σ' H' s'/\RelV v u/\D.rt v H'
noncomputable def PE (X:Cx) (e:Expr) (t:TE):Prop:=
 ∀(pins:List (Addr×Obj)) (s:Shared) (σ:St) (H:Hp) (Q:VK),Inv X pins σ H s->t σ H Q->wpAny (model X.prog X.w) X.A (eval e X.env) (EP X pins σ Q) X.xe s
noncomputable def PT (X:Cx) (e:Expr) (t:TT):Prop:=
 ∀(pins:List (Addr×Obj)) (s:Shared) (σ:St) (H:Hp) (Q:Bool->Hp->Prop),Inv X pins σ H s->t σ H Q->wpAny (model X.prog X.w) X.A (isTrue e X.env (eval e X.env)) (TP X pins σ Q) X.xe s
noncomputable def PW (X:Cx) (e:Expr) (t:TT):Prop:=
 ∀(whole:Sem Value) (pins:List (Addr×Obj)) (s:Shared) (σ:St) (H:Hp) (Q:Bool->Hp->Prop),Inv X pins σ H s->t σ H Q->wpAny (model X.prog X.w) X.A (isTrue e X.env whole) (TP X pins σ Q) X.xe s
theorem PW.pt {X:Cx} {e:Expr} {t:TT} (h:PW X e t):PT X e t:=h _
noncomputable def PA (X:Cx) (es:List Expr) (t:TA):Prop:=
 ∀(pos:Pos) (pins:List (Addr×Obj)) (s:Shared) (σ:St) (H:Hp) (Q:List V->Hp->Prop),Inv X pins σ H s->t σ H Q->wpAny (model X.prog X.w) X.A (spliced (backTo pos (starEach es X.env))) (AP X pins σ Q) X.xe s
noncomputable def PS (X:Cx) (st:Stmt) (t:TS):Prop:=
 ∀(pins:List (Addr×Obj)) (s:Shared) (σ:St) (H:Hp) (D:Ends),Inv X pins σ H s->t D σ H->wpAny (model X.prog X.w) X.A (exec st X.env) (SP X pins D) X.xe s
noncomputable def PSs (X:Cx) (st:List Stmt) (t:TS):Prop:=
 ∀(pins:List (Addr×Obj)) (s:Shared) (σ:St) (H:Hp) (D:Ends),Inv X pins σ H s->t D σ H->wpAny (model X.prog X.w) X.A (execs st X.env) (SP X pins D) X.xe s
theorem thn {α:Type} {t:Sem α} {Q Q':α->Shared->Prop} {M:Model} {A:Around} {E:Value->Shared->Prop} {s:Shared} (h:wpAny M A t Q E s) (hQ:∀a s,Q a s->Q' a s):wpAny M A t Q' E s:=wpAny_mono h hQ λ_ _ x=>x
section
variable {X:Cx}
noncomputable def w1s (i:Nat):TE:=fun σ H Q=>∃v,σ[i]?=some (some v)/\Q v H
noncomputable def tC (v:V):TE:=λ_ H Q=>Q v H
theorem q2i {i:Nat} {x:Str} {pos:Pos} (hN:X.N[i]?=some x) (hv:Vis X.env.scope x) (hd:(x==("__debug__" : Str))=false:=by decide) (hcd:(x==("__classdict__" : Str))=false:=by decide):PE X (.Name x pos) (w1s i):=by
 intro pins s σ H Q I h
 obtain ⟨v,e,h⟩:=h
 obtain ⟨m,hn,hl⟩:=I.loc
 obtain ⟨u,r,l⟩:=hl i x v hN e hv
 have fin:EP X pins σ Q u s:=⟨v,H,I,r,h⟩
 rcases l with ⟨hk,hm⟩ | ⟨hk,c,hc,hcell⟩
 ·exact wpAny_Name (wpAny_loadName_local I.ok.kind hk hn hm fin) hd
 ·rcases hk with hk | hk
  ·exact wpAny_Name (wpAny_loadName_cell I.ok.kind hk hc hcell fin) hd
  ·exact wpAny_Name (wpAny_loadName_free I.ok.kind hk hc hcell fin hcd) hd
theorem j7b {i j pos}:PE X (.Constant (.int i) j pos) (tC (.int i)):=λ_ _ _ H _ I h=>wpAny_Constant_int ⟨.int i,H,I.tok _,⟨_,rfl⟩,h⟩
theorem j92 {b j pos}:PE X (.Constant (.bool b) j pos) (tC (.bl b)):=λ_ _ _ H _ I h=>Constant_bool ⟨.bl b,H,I,rfl,h⟩
theorem j7M {j pos}:PE X (.Constant .none j pos) (tC .non):=λ_ _ _ H _ I h=>Constant_none ⟨.non,H,I,rfl,h⟩
theorem j6M {x j pos}:PE X (.Constant (.str x) j pos) (tC (.str x)):=λ_ _ _ H _ I h=>Calls.Constant_str ⟨.str x,H,I.tok _,⟨_,rfl⟩,h⟩
noncomputable def Gl (X:Cx) (x:Str):Prop:=X.env.kindOf x=some .globalImplicit
theorem q3R {E:Value->Shared->Prop} {pins:List (Addr×Obj)} {s:Shared} {σ:St} {H:Hp} {x:Str} {u:Value} {pos:Pos} {Q:Value->Shared->Prop} (I:Inv X pins σ H s) (hg:Gl X x) (hm:X.mg x=some u) (h:Q u s)
 (hd:(x==("__debug__" : Str))=false:=by decide):wpAny (model X.prog X.w) X.A (eval (.Name x pos) X.env) Q E s:=
 Calls.Name_function_global I.ok.kind hg (Calls.loadGlobal_global (by rw [I.ok.glob];exact I.mod.glob.keeps I.bk) hm h) hd
theorem q2v {E:Value->Shared->Prop} {pins:List (Addr×Obj)} {s:Shared} {σ:St} {H:Hp} {x:Str} {u:Value} {pos:Pos} {Q:Value->Shared->Prop} (I:Inv X pins σ H s) (hg:Gl X x) (hm:X.mg x=none) (hv:bootBuiltins x=some u) (h:Q u s)
 (hn:x≠"__name__":=by decide) (hd:(x==("__debug__" : Str))=false:=by decide):wpAny (model X.prog X.w) X.A (eval (.Name x pos) X.env) Q E s:=by
 obtain ⟨mb,h1,h2⟩:=I.mod.blt
 exact Calls.Name_function_global I.ok.kind hg (Calls.loadGlobal_builtin (by rw [I.ok.glob];exact I.mod.glob.keeps I.bk) hm (by rw [I.ok.blt];exact h1.keeps I.bk) ((h2 x hn).trans hv) h) hd
theorem j3R {x:Str} {v:V} {u:Value} {pos:Pos} (hg:Gl X x) (hm:X.mg x=some u) (r:RelV v u) (hd:(x==("__debug__" : Str))=false:=by decide):PE X (.Name x pos) (tC v):=
 λ_ _ _ H _ I h=>q3R I hg hm ⟨v,H,I,r,h⟩ hd
theorem q8i {x:Str} {v:V} {u:Value} {pos:Pos} (hg:Gl X x) (hm:X.mg x=none) (hv:bootBuiltins x=some u) (r:RelV v u) (hn:x≠"__name__":=by decide) (hd:(x==("__debug__" : Str))=false:=by decide):PE X (.Name x pos) (tC v):=
 λ_ _ _ H _ I h=>q2v I hg hm hv ⟨v,H,I,r,h⟩ hn hd
variable {a b:Expr} {ta tb:TE} {pos:Pos}
variable {tA tB':TT} {rest:List Expr}
noncomputable def w1S (t u:TT):TT:=fun σ H Q=>t σ H λc H1=>if c=true then u σ H1 Q else Q false H1
noncomputable def tOr (t u:TT):TT:=fun σ H Q=>t σ H λc H1=>if c=true then Q true H1 else u σ H1 Q
noncomputable def w05 (t:TT):TT:=fun σ H Q=>t σ H λc H1=>Q (!c) H1
theorem j4b (ha:PT X a tA):PW X (.BoolOp .And [a] pos) tA:=by
 intro wh pins s σ H Q I h
 refine isTrue_and (thn (ha pins s σ H Q I h) λc s1 e=>?_)
 cases c with
 | true=>exact isTrue_and_nil e
 | false=>exact e
theorem j66 (ha:PT X a tA):PW X (.BoolOp .Or [a] pos) tA:=by
 intro wh pins s σ H Q I h
 refine isTrue_or (thn (ha pins s σ H Q I h) λc s1 e=>?_)
 cases c with
 | false=>exact isTrue_or_nil e
 | true=>exact e
theorem j5J (ha:PT X a tA) (hb:PW X (.BoolOp .And (b::rest) pos) tB'):PW X (.BoolOp .And (a::b::rest) pos) (w1S tA tB'):=by
 intro wh pins s σ H Q I h
 refine isTrue_and (thn (ha pins s σ H _ I h) λc s1 ⟨H1,I1,q1⟩=>?_)
 cases c with
 | true=>exact hb wh pins s1 σ H1 Q I1 q1
 | false=>exact ⟨H1,I1,q1⟩
theorem j89 (ha:PT X a tA) (hb:PW X (.BoolOp .Or (b::rest) pos) tB'):PW X (.BoolOp .Or (a::b::rest) pos) (tOr tA tB'):=by
 intro wh pins s σ H Q I h
 refine isTrue_or (thn (ha pins s σ H _ I h) λc s1 ⟨H1,I1,q1⟩=>?_)
 cases c with
 | true=>exact ⟨H1,I1,q1⟩
 | false=>exact hb wh pins s1 σ H1 Q I1 q1
theorem j6J (ha:PT X a tA):PT X (.UnaryOp .Not a pos) (w05 tA):=by
 intro pins s σ H Q I h
 exact isTrue_not (ha pins s σ H (λc H1=>Q (!c) H1) I h)
noncomputable def j97 (ta tb:TE):TE:=fun σ H Q=>ta σ H λx H1=>∃c,x=.bl c/\if c=true then tb σ H1 Q else Q (.bl false) H1
noncomputable def j9K (ta:TE):TE:=fun σ H Q=>ta σ H λx H1=>∃c,x=.bl c/\Q (.bl (!c)) H1
theorem j7f {op} {t:TE} (h:PE X a t):PE X (.BoolOp op [a] pos) t:=λpins s σ H Q I hw=>BoolOp_one (h pins s σ H Q I hw)
theorem j7x (ha:PE X a ta) (hb:PE X (.BoolOp .And (b::rest) pos) tb):PE X (.BoolOp .And (a::b::rest) pos) (j97 ta tb):=by
 intro pins s σ H Q I h
 refine BoolOp_and (thn (ha pins s σ H _ I h) λv s1 ⟨x,H1,I1,r1,q1⟩=>?_)
 obtain ⟨c,rfl,q1⟩:=q1
 cases r1
 refine wpAny_truthy_bool ?_
 cases c with
 | true=>exact hb pins s1 σ H1 Q I1 q1
 | false=>exact ⟨.bl false,H1,I1,rfl,q1⟩
theorem j7W (ha:PE X a ta):PE X (.UnaryOp .Not a pos) (j9K ta):=by
 intro pins s σ H Q I h
 refine UnaryOp_ (thn (ha pins s σ H _ I h) λv s1 ⟨x,H1,I1,r1,q1⟩=>?_)
 obtain ⟨c,rfl,q1⟩:=q1
 cases r1
 exact not_of (wpAny_truthy_bool ⟨.bl (!c),H1,I1,rfl,q1⟩)
end
noncomputable def SqL (K:PySem.W.Frag) (H:Hp) (a:Addr) (xs:List V):Prop:=
 Rd H a (.lst xs) ∨
  ∃(o:Obj) (its:Array Value) (n:Nat),K.lookup a=some o/\o.cls=.type "list"/\o.dict=none/\o.data=.seq its n/\its.size<=sizeLine/\Vals xs its.toList
noncomputable def SqT (K:PySem.W.Frag) (H:Hp) (a:Addr) (xs:List V):Prop:=
 Rd H a (.tup xs) ∨
  ∃(o:Obj) (its:Array Value) (n:Nat),K.lookup a=some o/\o.cls=.type "tuple"/\o.data=.seq its n/\its.size<=sizeLine/\Vals xs its.toList
noncomputable def w1x:Value->Option V
 | .none=>some .non
 | .bool b=>some (.bl b)
 | .int i _=>some (.int i)
 | .str x _=>some (.str x)
 | .bytes b _=>some (.byt b)
 | .float b _=>some (.flt b)
 | .ref a=>some (.ref a)
 | .type n=>some (.ty n)
 | _=>none
theorem RelV.abs {x:V} {u:Value} (r:RelV x u):w1x u=some x:=by
 cases x with
 | non=>cases r;rfl
 | bl _=>cases r;rfl
 | int _=>obtain ⟨t,rfl⟩:=r;rfl
 | str _=>obtain ⟨t,rfl⟩:=r;rfl
 | byt _=>obtain ⟨t,rfl⟩:=r;rfl
 | flt _=>obtain ⟨t,rfl⟩:=r;rfl
 | ref _=>cases r;rfl
 | ty _=>cases r;rfl
theorem RelV.inj {x y:V} {u:Value} (r:RelV x u) (q:RelV y u):x=y:=Option.some.inj (r.abs.symm.trans q.abs)
theorem Vals.inj:∀{xs ys:List V} {us:List Value},Vals xs us->Vals ys us->xs=ys
 | _,_,_,.nil,.nil=>rfl
 | _,_,_,.cons r t,.cons r' t'=>by rw [r.inj r',Vals.inj t t']
section
variable {X:Cx} {pins:List (Addr×Obj)} {σ:St} {H:Hp} {s:Shared} {a:Addr} {xs ys:List V}
theorem SqL.of {K:PySem.W.Frag} (h:H a=some (.lst xs)):SqL K H a xs:=.inl (.inl h)
theorem SqT.of {K:PySem.W.Frag} (h:H a=some (.tup xs)):SqT K H a xs:=.inl (.inl h)
theorem Inv.list (I:Inv X pins σ H s) (h:SqL X.K H a xs):∃its:List Value,Vals xs its/\PlainL s.heap a its.toArray/\xs.length<=sizeLine:=by
 rcases h with h | ⟨o,its,n,hk,hc,hd,hs,hz,r⟩
 ·obtain ⟨z,its,n,r,e⟩:=h.ok I.hok
  exact ⟨its,r,⟨_,n,e,rfl,rfl,rfl⟩,z⟩
 ·refine ⟨its.toList,r,⟨o,n,I.kIn a o hk,hc,hd,by simpa using hs⟩,?_⟩
  have e:=r.length
  simp only [Array.length_toList] at e
  omega
theorem Inv.tuple (I:Inv X pins σ H s) (h:SqT X.K H a xs):∃its:List Value,Vals xs its/\IsTup s.heap a its.toArray/\xs.length<=sizeLine:=by
 rcases h with h | ⟨o,its,n,hk,hc,hs,hz,r⟩
 ·obtain ⟨z,its,r,p⟩:=h.ok I.hok
  exact ⟨its,r,p,z⟩
 ·refine ⟨its.toList,r,⟨o,I.kIn a o hk,hc,n,by simpa using hs⟩,?_⟩
  have e:=r.length
  simp only [Array.length_toList] at e
  omega
theorem Inv.list_inj (I:Inv X pins σ H s) (h:SqL X.K H a xs) (h':SqL X.K H a ys):xs=ys:=by
 obtain ⟨its,r,⟨o,n,e,_,_,d⟩,_⟩:=I.list h
 obtain ⟨its',r',⟨o',n',e',_,_,d'⟩,_⟩:=I.list h'
 rw [e] at e';cases e'
 rw [d] at d'
 injection d' with d1 _
 have:its=its':=by simpa using congrArg Array.toList d1
 subst this
 exact r.inj r'
theorem Inv.tuple_inj (I:Inv X pins σ H s) (h:SqT X.K H a xs) (h':SqT X.K H a ys):xs=ys:=by
 obtain ⟨its,r,⟨o,e,_,n,d⟩,_⟩:=I.tuple h
 obtain ⟨its',r',⟨o',e',_,n',d'⟩,_⟩:=I.tuple h'
 rw [e] at e';cases e'
 rw [d] at d'
 injection d' with d1 _
 have:its=its':=by simpa using congrArg Array.toList d1
 subst this
 exact r.inj r'
end
noncomputable abbrev Cx.wish (X:Cx) (E:Value->Shared->Prop):Cx:={ X with xe:=E }
theorem Cx.Ok.wish {X:Cx} (ok:X.Ok) (E:Value->Shared->Prop):(X.wish E).Ok:=
 ⟨ok.mod,ok.kind,ok.glob,ok.blt,ok.above,ok.inj,ok.has,ok.cab,ok.hd,ok.frames,ok.stk,ok.exf,ok.bs,ok.bsz,ok.noex,ok.exfs,ok.funs,ok.frf⟩
theorem Cx.Ok.unwish {X:Cx} {E:Value->Shared->Prop} (ok:(X.wish E).Ok):X.Ok:=
 ⟨ok.mod,ok.kind,ok.glob,ok.blt,ok.above,ok.inj,ok.has,ok.cab,ok.hd,ok.frames,ok.stk,ok.exf,ok.bs,ok.bsz,ok.noex,ok.exfs,ok.funs,ok.frf⟩
section
variable {X:Cx} {pins:List (Addr×Obj)} {σ:St} {H:Hp} {s:Shared} {E:Value->Shared->Prop}
theorem Inv.wish (I:Inv X pins σ H s) (E:Value->Shared->Prop):Inv (X.wish E) pins σ H s:=⟨I.ok.wish E,I.os,I.bare,I.base,I.loc,I.cell,I.free,I.freeC,I.pin,I.hok,I.len⟩
theorem Inv.unwish (I:Inv (X.wish E) pins σ H s):Inv X pins σ H s:=⟨I.ok.unwish,I.os,I.bare,I.base,I.loc,I.cell,I.free,I.freeC,I.pin,I.hok,I.len⟩
end
section
variable {X:Cx} {st:Stmt} {rest:List Stmt} {t u:TS} {e:Expr} {te:TE} {pos:Pos}
noncomputable def j9Z:TS:=λD σ H=>D.nx σ H
noncomputable def w1X (t u:TS):TS:=λD σ H=>t { D with nx:=u D } σ H
theorem j5t:PSs X [] j9Z:=λ_ _ σ H _ I h=>wpAny_execs_nil ⟨σ,H,I,h⟩
theorem j1J (h1:PS X st t) (h2:PSs X rest u):PSs X (st::rest) (w1X t u):=by
 intro pins s σ H D I h
 refine wpAny_execs_cons (thn (h1 pins s σ H { D with nx:=u D } I h) λf s1 q=>?_)
 cases f with
 | next=>
  obtain ⟨σ',H',I',q⟩:=q
  exact h2 pins s1 σ' H' D I' q
 | ret v=>exact q
 | brk=>exact q
 | cont=>exact q
theorem j4t (h1:PS X st t):PSs X [st] t:=by
 intro pins s σ H D I h
 refine wpAny_execs_cons (thn (h1 pins s σ H D I h) λf s1 q=>?_)
 cases f with
 | next=>exact wpAny_execs_nil q
 | ret v=>exact q
 | brk=>exact q
 | cont=>exact q
theorem Inv.quiet {pins:List (Addr×Obj)} {σ:St} {H:Hp} {s:Shared} (I:Inv X pins σ H s):interactive X.env=false:=by simp [interactive,I.ok.kind]
noncomputable def j9u (te:TE):TS:=λD σ H=>te σ H λ_ H1=>D.nx σ H1
theorem q8b (he:PE X e te) (hs:swapsWith e none pos.line X.env=pure false:=by rfl):PS X (.Expr e pos) (j9u te):=by
 intro pins s σ H D I h
 exact wpAny_Expr_any (thn (he pins s σ H _ I h) λv s1 ⟨x,H1,I1,r1,q1⟩=>⟨σ,H1,I1,q1⟩) I.quiet hs
noncomputable def w1d (te:TE):TS:=λD σ H=>te σ H D.rt
theorem j0n (he:PE X e te):PS X (.Return (some e) pos) (w1d te):=by
 intro pins s σ H D I h
 exact wpAny_Return_some (thn (he pins s σ H _ I h) λv s1 ⟨x,H1,I1,r1,q1⟩=>⟨x,σ,H1,I1,r1,q1⟩)
noncomputable def w1K (c:TT) (t u:TS):TS:=λD σ H=>c σ H λb H1=>if b=true then t D σ H1 else u D σ H1
theorem j9D {c:Expr} {a b:List Stmt} {tc:TT} (hc:PT X c tc) (ha:PSs X a t) (hb:PSs X b u):PS X (.If c a b pos) (w1K tc t u):=by
 intro pins s σ H D I h
 refine wpAny_If (thn (hc pins s σ H _ I h) λd s1 ⟨H1,I1,q1⟩=>?_)
 cases d with
 | true=>exact ha pins s1 σ H1 D I1 q1
 | false=>exact hb pins s1 σ H1 D I1 q1
end
noncomputable abbrev TG:=V->St->Hp->(St->Hp->Prop)->Prop
noncomputable abbrev TGs:=List V->St->Hp->(St->Hp->Prop)->Prop
noncomputable def PG (X:Cx) (target:Expr) (t:TG):Prop:=
 ∀(pins:List (Addr×Obj)) (s:Shared) (σ:St) (H:Hp) (v:V) (u:Value) (Q:St->Hp->Prop),Inv X pins σ H s->RelV v u->t v σ H Q ->
  wpAny (model X.prog X.w) X.A (assign target X.env u) (λ_ s'=>∃σ' H',Inv X pins σ' H' s'/\Q σ' H') X.xe s
noncomputable def PGs (X:Cx) (ts:List Expr) (t:TGs):Prop:=
 ∀(pins:List (Addr×Obj)) (s:Shared) (σ:St) (H:Hp) (vs:List V) (us:List Value) (Q:St->Hp->Prop),Inv X pins σ H s->Vals vs us->t vs σ H Q ->
  wpAny (model X.prog X.w) X.A (assignInOrder ((assignEach ts X.env).map (·.2)) us) (λ_ s'=>∃σ' H',Inv X pins σ' H' s'/\Q σ' H') X.xe s
noncomputable abbrev j5L:=V->V->V->Hp->(Hp->Prop)->Prop
noncomputable def j9a (X:Cx) (t:j5L):Prop:=
 ∀(pins:List (Addr×Obj)) (s:Shared) (σ:St) (H:Hp) (o i v:V) (ov iv u:Value) (Q:Hp->Prop),Inv X pins σ H s->RelV o ov->RelV i iv->RelV v u->t o i v H Q ->
  wpAny (model X.prog X.w) X.A (setItem ov iv u) (λ_ s'=>∃H',Inv X pins σ H' s'/\Q H') X.xe s
noncomputable abbrev TIp:=V->V->Hp->VK->Prop
noncomputable def PIp (X:Cx) (op:Operator) (t:TIp):Prop:=
 ∀(pins:List (Addr×Obj)) (s:Shared) (σ:St) (H:Hp) (x y:V) (v u:Value) (Q:VK),Inv X pins σ H s->RelV x v->RelV y u->t x y H Q ->
  wpAny (model X.prog X.w) X.A (inplaceOp op v u) (EP X pins σ Q) X.xe s
section
variable {X:Cx} {pos:Pos}
noncomputable def j48 (i:Nat):TG:=λv σ H Q=>Q (σ.set i (some v)) H
theorem q38 {i:Nat} {x:Str} (hN:X.N.Nodup) (hi:X.N[i]?=some x) (hx:Loc X.env.scope x) (hf:X.fn x=true∨X.env.scope.names.lookup x=some .local:=by walk_at "v2"):PG X (.Name x pos) (j48 i):=by
 intro pins s σ H v u Q I r h
 exact wpAny_assign_Name (q6b I hN hi hx r (λs' I'=>⟨_,H,I',h⟩) hf)
noncomputable def w1q:TGs:=λvs σ H Q=>vs=[]/\Q σ H
noncomputable def j9A (t:TG) (u:TGs):TGs:=λvs σ H Q=>∃v r,vs=v::r/\t v σ H fun σ' H'=>u r σ' H' Q
theorem j4n:PGs X [] w1q:=by
 intro pins s σ H vs us Q I r h
 obtain ⟨e,h⟩:=h
 subst e
 cases r
 exact assignInOrder_nil ⟨σ,H,I,h⟩
theorem j0B {e:Expr} {es:List Expr} {t:TG} {u:TGs} (h1:PG X e t) (h2:PGs X es u)
 (hs:(assignEach (e::es) X.env).map (·.2)=assign e X.env::(assignEach es X.env).map (·.2):=by rfl):PGs X (e::es) (j9A t u):=by
 intro pins s σ H vs us Q I r h
 obtain ⟨v,vr,e1,h⟩:=h
 subst e1
 cases r with
 | cons r rr=>
  rw [hs]
  refine assignInOrder_cons (thn (h1 pins s σ H _ _ _ I r h) λ_ s1 ⟨σ1,H1,I1,q1⟩=>?_)
  exact h2 pins s1 σ1 H1 _ _ Q I1 rr q1
noncomputable def w09 (K:PySem.W.Frag) (n:Nat) (t:TGs):TG:=λv σ H Q=>∃a xs,v=.ref a/\SqT K H a xs/\xs.length=n/\t xs σ H Q
theorem j7E {es:List Expr} {k:Nat} {t:TGs} {n:Nat} (hc:X.calm=true) (h:PGs X es t)
 (hn:(assignEach es X.env).length=n:=by rfl) (hst:(assignEach es X.env).findIdx? (·.1)=none:=by rfl):PG X (.Tuple es k pos) (w09 X.K n t):=by
 intro pins s σ H v u Q I r hw
 obtain ⟨a,xs,e1,hq,hl,hw⟩:=hw
 subst e1
 cases r
 obtain ⟨its,rv,ht,hz⟩:=I.tuple hq
 refine assign_Tuple_tuple (I.ok.hd hc) ht (by simp [hn,<-hl,rv.length]) hst λh' hx=>?_
 have I1:Inv X pins σ H { s with heap:=h' }:=I.kept (t':=s.toks) λb o e=>hx b o (Nat.ne_of_lt (Heap.lt_size e)) e
 exact h pins _ σ H xs _ Q I1 (by simpa using rv) hw
noncomputable def w06 (to ti:TE) (t:j5L):TG:=λv σ H Q=>to σ H λo H1=>ti σ H1 λi H2=>t o i v H2 λH3=>Q σ H3
theorem j5R {o i:Expr} {to ti:TE} {t:j5L} (ho:PE X o to) (hi:PE X i ti) (hs:j9a X t)
 (ha:∀v,assign (.Subscript o i pos) X.env v=(do
  let ov <-holding [v] (eval o X.env)
  let iv <-holding [v,ov] (eval i X.env)
  standAt pos
  holding [v,ov,iv] (setItem ov iv v)
  release [v,ov,iv] []):=by intro _;rfl):PG X (.Subscript o i pos) (w06 to ti t):=by
 intro pins s σ H v u Q I r h
 rw [ha]
 refine wpAny_bind (wpAny_holding (thn (ho pins s σ H _ I h) λov s1 ⟨x,H1,I1,r1,q1⟩=>?_))
 refine wpAny_bind (wpAny_holding (thn (hi pins s1 σ H1 _ I1 q1) λiv s2 ⟨y,H2,I2,r2,q2⟩=>?_))
 refine wpAny_bind (wpAny_standAt (wpAny_bind (wpAny_holding (thn (hs pins s2 σ H2 x y v ov iv u _ I2 r1 r2 r q2) λ_ s3 ⟨H3,I3,q3⟩=>?_))))
 exact wpAny_release ⟨σ,H3,I3,q3⟩
noncomputable def j82 (te:TE) (g:TG):TS:=λD σ H=>te σ H λx H1=>g x σ H1 D.nx
theorem j2e {tg e:Expr} {te:TE} {g:TG} (he:PE X e te) (hg:PG X tg g) (hs:swapsWithSole [tg] e pos.line X.env=pure false:=by rfl) (hw:swappedStores [tg] e X.env=pure none:=by rfl)
 (h1:(assignEach [tg] X.env).map (·.2)=[assign tg X.env]:=by rfl):PS X (.Assign [tg] e pos) (j82 te g):=by
 intro pins s σ H D I h
 refine wpAny_Assign_stores (thn (he pins s σ H _ I h) λv s1 ⟨x,H1,I1,r1,q1⟩=>?_) hs hw
 rw [h1]
 exact thn (hg pins s1 σ H1 x v _ I1 r1 q1) λ_ s2 q=>q
theorem j2J {i:Nat} {x:Str} {e:Expr} {te:TE} {pos':Pos} (hN:X.N.Nodup) (hi:X.N[i]?=some x) (hx:Loc X.env.scope x) (he:PE X e te) (hs:swapsWith e (some (.Name x pos')) pos.line X.env=pure false:=by rfl) (hf:X.fn x=true∨X.env.scope.names.lookup x=some .local:=by walk_at "v2") :
 PS X (.Assign [.Name x pos'] e pos) (j82 te (j48 i)):=by
 intro pins s σ H D I h
 refine wpAny_Assign_Name (thn (he pins s σ H _ I h) λv s1 ⟨y,H1,I1,r1,q1⟩=>?_) hs
 exact q6b I1 hN hi hx r1 (λs2 I2=>⟨_,H1,I2,q1⟩) hf
noncomputable def j83 (to ti te:TE) (tget:V->V->Hp->VK->Prop) (tip:TIp) (tset:j5L):TS:=λD σ H=>to σ H λo H1=>ti σ H1 λi H2=>tget o i H2 λx H3=>te σ H3 λy H4=>tip x y H4 λz H5=>tset o i z H5 λH6=>D.nx σ H6
noncomputable def w0C (X:Cx) (t:V->V->Hp->VK->Prop):Prop:=
 ∀(pins:List (Addr×Obj)) (s:Shared) (σ:St) (H:Hp) (o i:V) (ov iv:Value) (Q:VK),Inv X pins σ H s->RelV o ov->RelV i iv->t o i H Q ->
  wpAny (model X.prog X.w) X.A (getItem ov iv) (EP X pins σ Q) X.xe s
theorem j4m {o i e:Expr} {to ti te:TE} {tget:V->V->Hp->VK->Prop} {tip:TIp} {tset:j5L} {op:Operator} {tpos:Pos} (ho:PE X o to) (hi:PE X i ti) (hg:w0C X tget) (he:PE X e te) (hp:PIp X op tip) (hs:j9a X tset)
 (ha:∀ov iv new,augStore i ov iv new=(do holding [new,ov,iv] (setItem ov iv new);release [new,ov,iv] [];pure .next):=by intros;rfl):PS X (.AugAssign (.Subscript o i tpos) op e pos) (j83 to ti te tget tip tset):=by
 intro pins s σ H D I h
 refine wpAny_AugAssign_SubscriptAny (thn (ho pins s σ H _ I h) λov s1 ⟨x1,H1,I1,r1,q1⟩=>?_) ha
 refine thn (hi pins s1 σ H1 _ I1 q1) λiv s2 ⟨x2,H2,I2,r2,q2⟩=>?_
 refine thn (hg pins s2 σ H2 x1 x2 ov iv _ I2 r1 r2 q2) λold s3 ⟨x3,H3,I3,r3,q3⟩=>?_
 refine thn (he pins s3 σ H3 _ I3 q3) λv s4 ⟨x4,H4,I4,r4,q4⟩=>?_
 refine thn (hp pins s4 σ H4 x3 x4 old v _ I4 r3 r4 q4) λnew s5 ⟨x5,H5,I5,r5,q5⟩=>?_
 exact thn (hs pins s5 σ H5 x1 x2 x5 ov iv new _ I5 r1 r2 r5 q5) λ_ s6 ⟨H6,I6,q6⟩=>⟨σ,H6,I6,q6⟩
noncomputable def ipI (f:Int->Int->Int):TIp:=λx y H Q=>∃i j,x=.int i/\y=.int j/\Q (.int (f i j)) H
theorem j52:PIp X .Add (ipI λi j=>i+j):=by
 intro pins s σ H x y v u Q I r1 r2 h
 obtain ⟨i,j,e1,e2,q⟩:=h
 subst e1;subst e2
 obtain ⟨t,rfl⟩:=r1
 obtain ⟨t',rfl⟩:=r2
 exact iadd_int ⟨.int _,H,I.tok _,⟨_,rfl⟩,q⟩
end
section
variable {X:Cx} {pos:Pos}
noncomputable def j7X (c:TT) (tb:TS):TS:=λD σ H=>∃W:Nat->St->Hp->Prop,(∃m,W m σ H)/\∀m σ H,W m σ H ->
 c σ H λb H1=>if b=true then ∃N:St->Hp->Prop,(∀σ' H',N σ' H'->∃m',m' < m/\W m' σ' H')/\tb { D with nx:=N,ct:=N,bk:=D.nx } σ H1 else D.nx σ H1
theorem j0L {c:Expr} {body:List Stmt} {tc:TT} {tb:TS} (hp:PassesOwn (model X.prog X.w) X.A X.env X.xe) (hc:PT X c tc) (hb:PSs X body tb):PS X (.While c body [] pos) (j7X tc tb):=by
 intro pins s σ H D I h
 obtain ⟨W,⟨m0,w0⟩,turn⟩:=h
 refine wpAny_While (codeAny_whileLoop (λn s'=>∃σ' H',Inv X pins σ' H' s'/\W n σ' H') ?_ m0 ⟨σ,H,I,w0⟩)
 rintro n s1 ⟨σ1,H1,I1,w1⟩
 refine wpAny_passesOwn hp (thn (hc pins s1 σ1 H1 _ I1 (turn n σ1 H1 w1)) λb s2 ⟨H2,I2,q2⟩=>?_)
 cases b with
 | true=>
  obtain ⟨N,hN,q2⟩:=q2
  rw [if_pos rfl]
  refine wpAny_passesOwn hp (thn (hb pins s2 σ1 H2 _ I2 q2) λf s3 q3=>?_)
  cases f with
  | next=>
   obtain ⟨σ3,H3,I3,n3⟩:=q3
   obtain ⟨m',hm,w3⟩:=hN σ3 H3 n3
   exact ⟨m',hm,σ3,H3,I3,w3⟩
  | cont=>
   obtain ⟨σ3,H3,I3,n3⟩:=q3
   obtain ⟨m',hm,w3⟩:=hN σ3 H3 n3
   exact ⟨m',hm,σ3,H3,I3,w3⟩
  | brk=>exact q3
  | ret v=>exact q3
 | false=>
  rw [if_neg Bool.false_ne_true]
  exact wpAny_execs_nil ⟨σ1,H2,I2,q2⟩
end
structure It where
 go:Nat->Hp->Prop
 yld:Nat->Hp->V->Hp->Prop
 stop:Nat->Hp->Prop
noncomputable def q4N (X:Cx) (pins:List (Addr×Obj)) (H:Hp) (b:Addr):Prop:=
 H b=none/\b≠X.env.locals/\b∉X.fs/\(b∈X.ex∨X.s₀.heap.objs.size<=b)/\(∀x c,X.env.cells.lookup x=some c->c≠b)/\∀p∈X.pn++pins,p.1≠b
theorem Inv.fpOk {X:Cx} {pins:List (Addr×Obj)} {σ:St} {H H':Hp} {s:Shared} {b:Addr} (I:Inv X pins σ H s) (hb:s.heap.objs.size<=b) (hn:H' b=none):q4N X pins H' b:=by
 refine ⟨hn,Nat.ne_of_gt (Nat.lt_of_lt_of_le I.lt hb),I.nofs hb,.inr (Nat.le_trans I.sz hb),λx c e z=>?_,λp hp z=>?_⟩
 ·obtain ⟨v,q⟩:=I.cell x c e
  exact absurd (Nat.lt_of_lt_of_le q.lt (by rw [z];exact hb)) (Nat.lt_irrefl _)
 ·exact absurd (Nat.lt_of_lt_of_le (Heap.lt_size (I.pin p hp).1) (by rw [z];exact hb)) (Nat.lt_irrefl _)
structure j9f (Cp:Cx->Prop) (P:Program) (w:World) (K:PySem.W.Frag) (tg:Expr) (J:It) (fp:List Addr) (it:Addr) (tn:Nat->Heap->Prop):Prop where
 mem:it∈fp
 obj:∀i h,tn i h->∀b∈fp,∃o,h.get? b=some o/\∀v,o.data≠.cell v
 keep:∀i h h',tn i h->(∀b∈fp,∀o,h.get? b=some o->h'.get? b=some o)->tn i h'
 item:∀(X:Cx),X.prog=P->X.w=w->X.K=K->Cp X->∀(i:Nat) (pins:List (Addr×Obj)) (s:Shared) (σ:St) (H:Hp) (E:Value->Shared->Prop),Inv X pins σ H s->(∀b∈fp,q4N X pins H b)->tn i s.heap->J.go i H ->
  wpAny (model P w) X.A (pyNext (.ref it)) (λr s1=>∃u,r=some u /\
   wpAny (model P w) X.A (letOwnedTupleGo tg (.ref it) u) (λ_ s2=>∃x H',Inv X pins σ H' s2/\RelV x u/\J.yld i H x H'/\tn (i+1) s2.heap/\∀b∈fp,H' b=none) E s1) E s
 done:∀(X:Cx),X.prog=P->X.w=w->X.K=K->Cp X->∀(i:Nat) (pins:List (Addr×Obj)) (s:Shared) (σ:St) (H:Hp) (E:Value->Shared->Prop),Inv X pins σ H s->(∀b∈fp,q4N X pins H b)->tn i s.heap->J.stop i H ->
  wpAny (model P w) X.A (pyNext (.ref it)) (λr s1=>r=none/\Inv X pins σ H s1) E s
 self:∀(A:Around) (i:Nat) (s:Shared) (Q:Value->Shared->Prop) (E:Value->Shared->Prop),tn i s.heap->Q (.ref it) s->wpAny (model P w) A (pyIter (.ref it)) Q E s
noncomputable abbrev Turn (P:Program) (w:World) (K:PySem.W.Frag) (tg:Expr) (J:It) (fp:List Addr) (it:Addr) (tn:Nat->Heap->Prop):Prop:=j9f (λX=>X.calm=true) P w K tg J fp it tn
noncomputable abbrev TI:=St->Hp->(It->Hp->Prop)->Prop
noncomputable def PIE (X:Cx) (pins:List (Addr×Obj)) (σ:St) (tg:Expr) (R:It->Hp->Prop) (itv:Value) (s2:Shared):Prop:=
 ∃(it:Addr) (fp:List Addr) (tn:Nat->Heap->Prop) (J:It) (H':Hp),itv=.ref it/\Inv X pins σ H' s2/\Turn X.prog X.w X.K tg J fp it tn/\tn 0 s2.heap/\(∀b∈fp,q4N X pins H' b)/\R J H'
noncomputable def PI (X:Cx) (tg iter:Expr) (wi:TI):Prop:=
 ∀(pins:List (Addr×Obj)) (s:Shared) (σ:St) (H:Hp) (R:It->Hp->Prop),Inv X pins σ H s->wi σ H R ->
  wpAny (model X.prog X.w) X.A (eval iter X.env) (λv s1=>wpAny (model X.prog X.w) X.A (pyIter v) (PIE X pins σ tg R) X.xe s1) X.xe s
theorem q70 {M:Model} {A:Around} {E:Value->Shared->Prop} {s:Shared} {tg:Expr} {it:Addr} {u:Value} {o:Obj} {n:String} {vs:Array Value} {Q:Unit->Shared->Prop} (ho:s.heap.get? it=some o) (hc:o.cls=.type n) (hd:o.data=.fields vs)
 (hn:["enumerate","zip","dict_itemiterator","dict_reverseitemiterator","odict_iterator","itertools.zip_longest","itertools.pairwise"].contains n=false) (hQ:Q () s):wpAny M A (letOwnedTupleGo tg (.ref it) u) Q E s:=by
 unfold letOwnedTupleGo
 cases tg<;>first
  | exact wpAny_pure hQ
  | (cases u<;>first
   | exact wpAny_pure hQ
   | (refine wpAny_bind (wpAny_load ho ?_)
      rw [hc,hd]
      show wpAny M A (if (["enumerate","zip","dict_itemiterator","dict_reverseitemiterator","odict_iterator","itertools.zip_longest","itertools.pairwise"].contains n && vs[0]?==some (rawInt _))=true then _ else _) Q E s
      rw [if_neg (by intro h;rw [hn,Bool.false_and] at h;cases h)]
      exact wpAny_pure hQ))
noncomputable def Itl (K:PySem.W.Frag) (a:Addr):It:=
 ⟨λi H=>∃xs x,SqL K H a xs/\xs[i]?=some x,λi H x H'=>H'=H/\∀xs,SqL K H a xs->xs[i]?=some x,λi H=>∃xs,SqL K H a xs/\xs.length<=i⟩
noncomputable def Itt (K:PySem.W.Frag) (a:Addr):It:=
 ⟨λi H=>∃xs x,SqT K H a xs/\xs[i]?=some x,λi H x H'=>H'=H/\∀xs,SqT K H a xs->xs[i]?=some x,λi H=>∃xs,SqT K H a xs/\xs.length<=i⟩
noncomputable def Itr (lo:Int) (n:Nat):It:=⟨λi _=>i < n,λi H x H'=>H'=H/\x=.int (lo+i),λi _=>n<=i⟩
theorem j0a {P:Program} {w:World} {K:PySem.W.Frag} {tg:Expr} (a it:Addr):Turn P w K tg (Itl K a) [it] it (λi h=>h.IsListIter it a i) where
 mem:=by simp
 obj:=λi h st b hb=>by
  have e:b=it:=by simpa using hb
  subst e
  obtain ⟨o,e,c,d⟩:=st
  exact ⟨o,e,λv z=>by rw [d] at z;cases z⟩
 keep:=λi h h' st k=>st.at λo e=>k it (by simp) o e
 item:=by
  intro X hP hw hK hc i pins s σ H E I hf st hg
  subst hP hw hK
  obtain ⟨xs,x,hq,hx⟩:=hg
  obtain ⟨its,rv,p,hz⟩:=I.list hq
  obtain ⟨u,hu,ru⟩:=rv.get hx
  obtain ⟨f0,f1,f2,f3,f4,f5⟩:=hf it (by simp)
  refine wpAny_pyNext_list_item st p.isList (x:=u) (by simpa using hu) λh' st' sb=>?_
  have I1:Inv X pins σ H { s with heap:=h' }:=I.turned (t':=s.toks) (λb o hb e=>(sb.2 b hb).trans e) f0 f1 f3 f4 f5
  obtain ⟨o,e,c,d⟩:=id st'
  exact ⟨u,rfl,q70 (s:={ s with heap:=h' }) e c d (by decide) ⟨x,H,I1,ru,⟨rfl,λys hy=>by rw [I.list_inj hy hq];exact hx⟩,st',λb hb=>(hf b hb).1⟩⟩
 done:=by
  intro X hP hw hK hc i pins s σ H E I hf st hg
  subst hP hw hK
  obtain ⟨xs,hq,hx⟩:=hg
  obtain ⟨its,rv,p,hz⟩:=I.list hq
  obtain ⟨f0,f1,f2,f3,f4,f5⟩:=hf it (by simp)
  have hl:=rv.length
  exact wpAny_pyNext_list_end (I.ok.hd hc) st p.isList (by simp;omega) λh' eb=>⟨rfl,I.turned (t':=s.toks) (λb o hb e=>eb b o hb e) f0 f1 f3 f4 f5⟩
 self:=λ_ _ _ _ _ st h=>wpAny_pyIter_listiter st h
theorem q6Z {P:Program} {w:World} {K:PySem.W.Frag} {tg:Expr} (a it:Addr):Turn P w K tg (Itt K a) [it] it (λi h=>h.IsTupleIter it a i) where
 mem:=by simp
 obj:=λi h st b hb=>by
  have e:b=it:=by simpa using hb
  subst e
  obtain ⟨o,e,c,d⟩:=st
  exact ⟨o,e,λv z=>by rw [d] at z;cases z⟩
 keep:=λi h h' st k=>st.at λo e=>k it (by simp) o e
 item:=by
  intro X hP hw hK hc i pins s σ H E I hf st hg
  subst hP hw hK
  obtain ⟨xs,x,hq,hx⟩:=hg
  obtain ⟨its,rv,p,hz⟩:=I.tuple hq
  obtain ⟨u,hu,ru⟩:=rv.get hx
  obtain ⟨f0,f1,f2,f3,f4,f5⟩:=hf it (by simp)
  refine wpAny_pyNext_tuple_item st (show s.heap.IsTuple a its.toArray from p) (x:=u) (by simpa using hu) λh' st' sb=>?_
  have I1:Inv X pins σ H { s with heap:=h' }:=I.turned (t':=s.toks) (λb o hb e=>(sb.2 b hb).trans e) f0 f1 f3 f4 f5
  obtain ⟨o,e,c,d⟩:=id st'
  exact ⟨u,rfl,q70 (s:={ s with heap:=h' }) e c d (by decide) ⟨x,H,I1,ru,⟨rfl,λys hy=>by rw [I.tuple_inj hy hq];exact hx⟩,st',λb hb=>(hf b hb).1⟩⟩
 done:=by
  intro X hP hw hK hc i pins s σ H E I hf st hg
  subst hP hw hK
  obtain ⟨xs,hq,hx⟩:=hg
  obtain ⟨its,rv,p,hz⟩:=I.tuple hq
  obtain ⟨f0,f1,f2,f3,f4,f5⟩:=hf it (by simp)
  have hl:=rv.length
  exact wpAny_pyNext_tuple_end (I.ok.hd hc) st (show s.heap.IsTuple a its.toArray from p) (by simp;omega) λh' eb=>⟨rfl,I.turned (t':=s.toks) (λb o hb e=>eb b o hb e) f0 f1 f3 f4 f5⟩
 self:=λ_ _ _ _ _ st h=>wpAny_pyIter_tupleiter st h
theorem q7h {P:Program} {w:World} {K:PySem.W.Frag} {tg:Expr} (it:Addr) (lo:Int) (n:Nat):Turn P w K tg (Itr lo n) [it] it (λi h=>IsRangeIter h it (lo+(i:Nat)*1) ((n:Int)-(i:Nat)) 1) where
 mem:=by simp
 obj:=λi h st b hb=>by
  have e:b=it:=by simpa using hb
  subst e
  exact ⟨_,st,λv z=>by
   have z':Data.fields _=Data.cell v:=z
   cases z'⟩
 keep:=λi h h' st k=>k it (by simp) _ st
 item:=by
  intro X hP hw hK hc i pins s σ H E I hf st hg
  subst hP hw hK
  obtain ⟨f0,f1,f2,f3,f4,f5⟩:=hf it (by simp)
  have W:=Walks.range (prog:=X.prog) (w:=X.w) (I.ok.hd hc) it lo 1 n
  refine W.item i s _ _ hg st λv h' tk hv st' kk=>?_
  obtain ⟨t,rfl⟩:=hv
  have I1:Inv X pins σ H { s with heap:=h',toks:=tk }:=I.turned (λb o hb e=>kk b o (by simpa using hb) e) f0 f1 f3 f4 f5
  refine ⟨_,rfl,q70 (s:={ s with heap:=h',toks:=tk }) (n:="range_iterator") st' rfl rfl (by decide) ⟨.int (lo+i),H,I1,⟨t,?_⟩,⟨rfl,rfl⟩,st',λb hb=>(hf b hb).1⟩⟩
  rw [Int.mul_one]
 done:=by
  intro X hP hw hK hc i pins s σ H E I hf st hg
  subst hP hw hK
  obtain ⟨f0,f1,f2,f3,f4,f5⟩:=hf it (by simp)
  exact wpAny_pyNext_range_end (I.ok.hd hc) st (by have:n<=i:=hg;omega) λh' eb=>⟨rfl,I.turned (t':=s.toks) (λb o hb e=>eb b o hb e) f0 f1 f3 f4 f5⟩
 self:=λ_ _ _ _ _ st h=>wpAny_pyIter_rangeiter st h
section
variable {X:Cx} {tg:Expr}
noncomputable def j9Y (K:PySem.W.Frag) (tl:TE):TI:=fun σ H R=>tl σ H λx H1=>∃a,x=.ref a/\(∃xs,SqL K H1 a xs)/\R (Itl K a) H1
noncomputable def w1I (K:PySem.W.Frag) (tl:TE):TI:=fun σ H R=>tl σ H λx H1=>∃a,x=.ref a/\(∃xs,SqT K H1 a xs)/\R (Itt K a) H1
theorem j4a {l:Expr} {tl:TE} (hl:PE X l tl):PI X tg l (j9Y X.K tl):=by
 intro pins s σ H R I h
 refine thn (hl pins s σ H _ I h) λv s1 ⟨x,H1,I1,r1,q1⟩=>?_
 obtain ⟨a,e,⟨xs,hq⟩,q⟩:=q1
 subst e
 cases r1
 obtain ⟨its,rv,p,hz⟩:=I1.list hq
 refine wpAny_pyIter_list p.isList ?_
 refine ⟨s1.heap.objs.size,[s1.heap.objs.size],_,_,H1,rfl,I1.kept (t':=s1.toks) λb o e=>Heap.get?_push_of_some _ e,j0a a _,⟨_,Heap.get?_push_size _ rfl,rfl,rfl⟩,λb hb=>?_,q⟩
 have e:b=s1.heap.objs.size:=by simpa using hb
 subst e
 exact I1.fpOk (Nat.le_refl _) (I1.hok.fresh (Nat.le_refl _))
theorem j6K {l:Expr} {tl:TE} (hl:PE X l tl):PI X tg l (w1I X.K tl):=by
 intro pins s σ H R I h
 refine thn (hl pins s σ H _ I h) λv s1 ⟨x,H1,I1,r1,q1⟩=>?_
 obtain ⟨a,e,⟨xs,hq⟩,q⟩:=q1
 subst e
 cases r1
 obtain ⟨its,rv,p,hz⟩:=I1.tuple hq
 refine wpAny_pyIter_tuple (show s1.heap.IsTuple a its.toArray from p) ?_
 refine ⟨s1.heap.objs.size,[s1.heap.objs.size],_,_,H1,rfl,I1.kept (t':=s1.toks) λb o e=>Heap.get?_push_of_some _ e,q6Z a _,⟨_,Heap.get?_push_size _ rfl,rfl,rfl⟩,λb hb=>?_,q⟩
 have e:b=s1.heap.objs.size:=by simpa using hb
 subst e
 exact I1.fpOk (Nat.le_refl _) (I1.hok.fresh (Nat.le_refl _))
theorem j1v {pins:List (Addr×Obj)} {σ:St} {H:Hp} {s:Shared} {R:It->Hp->Prop} {E:Value->Shared->Prop} {lo hi:Int} {t u v:Tok} {tk:Nat} (I:Inv X pins σ H s) (h1:-(2 ^ 62)<=lo) (h2:lo < 2 ^ 62) (h3:-(2 ^ 62)<=hi) (h4:hi < 2 ^ 62)
 (q:R (Itr lo (hi-lo).toNat) H):wpAny (model X.prog X.w) X.A (pyIter (.ref s.heap.objs.size)) (PIE X pins σ tg R) E { s with heap:=s.heap.push { cls:=.type "range",data:=.fields #[.int lo t,.int hi u,.int 1 v] },toks:=tk }:=by
 refine wpAny_pyIter_range (IsRange.new ..) (small_one h1 h2 h3 h4) ?_
 have I1:Inv X pins σ H { s with heap:=s.heap.push { cls:=.type "range",data:=.fields #[.int lo t,.int hi u,.int 1 v] },toks:=tk }:=I.kept λb o e=>Heap.get?_push_of_some _ e
 refine ⟨(s.heap.push { cls:=.type "range",data:=.fields #[.int lo t,.int hi u,.int 1 v] }).objs.size,[(s.heap.push { cls:=.type "range",data:=.fields #[.int lo t,.int hi u,.int 1 v] }).objs.size],_,_,H,rfl,
  I1.kept (t':=tk) λb o e=>Heap.get?_push_of_some _ e,q7h _ lo (hi-lo).toNat,?_,λb hb=>?_,q⟩
 ·have e1:lo+((0:Nat):Int)*1=lo:=by simp
  have e2:(((hi-lo).toNat:Nat):Int)-((0:Nat):Int)=Builtin.Range.rangeSize lo hi 1:=by rw [rangeSize_one];split<;>omega
  show IsRangeIter _ _ (lo+((0:Nat):Int)*1) ((((hi-lo).toNat:Nat):Int)-((0:Nat):Int)) 1
  rw [e1,e2]
  exact Heap.get?_push_size _ rfl
 ·have e:b=(s.heap.push { cls:=.type "range",data:=.fields #[.int lo t,.int hi u,.int 1 v] }).objs.size:=by simpa using hb
  subst e
  exact I1.fpOk (Nat.le_refl _) (I1.hok.fresh (Nat.le_refl _))
noncomputable def j9x (ta:TA):TI:=fun σ H R=>ta σ H λvs H1=>∃j:Int,vs=[.int j]/\-(2 ^ 62)<=j/\j < 2 ^ 62/\R (Itr 0 j.toNat) H1
theorem q99 {a:Expr} {ta:TA} {p pos:Pos} (hg:Gl X "range") (hm:X.mg "range" = none) (ha:PA X [a] ta) (hs:starEach [a] X.env=[(false,eval a X.env)]:=by rfl):PI X tg (.Call (.Name "range" p) [a] [] pos) (j9x ta):=by
 intro pins s σ H R I h
 refine Call_ (q2v I hg hm boot_range (PyProof.Rows.callWith_type1 (thn (ha pos pins s σ H _ I h) λus s1 ⟨vs,H1,I1,r1,q1⟩=>?_) hs rfl))
 obtain ⟨j,e,q1,q2,q⟩:=q1
 subst e
 cases r1 with
 | cons r rr=>
  cases rr
  obtain ⟨t,rfl⟩:=r
  exact call_range_1 (j1v I1 (by omega) (by omega) q1 q2 (by simpa using q))
noncomputable def w1L (wi:TI) (g:TG) (tb:TS):TS:=λD σ H=>wi σ H λJ H1=>∃W:Nat->Nat->St->Hp->Prop,(∃m,W 0 m σ H1)/\∀i m σ H,W i m σ H ->
 (J.stop i H/\D.nx σ H)∨(J.go i H/\∃N:St->Hp->Prop,(∀σ' H',N σ' H'->∃m',m' < m/\W (i+1) m' σ' H')/\∀x H',J.yld i H x H'->g x σ H' fun σ2 H2=>tb { D with nx:=N,ct:=N,bk:=D.nx } σ2 H2)
noncomputable def q5L (fp:List Addr) (h:Heap):List (Addr×Obj):=fp.filterMap λb=>(h.get? b).map λo=>(b,o)
theorem q1r {fp:List Addr} {h:Heap} {b:Addr} {o:Obj} (hb:b∈fp) (e:h.get? b=some o):(b,o)∈q5L fp h:=List.mem_filterMap.mpr ⟨b,hb,by rw [e];rfl⟩
theorem q9E {fp:List Addr} {h:Heap} {p:Addr×Obj} (hp:p∈q5L fp h):p.1∈fp/\h.get? p.1=some p.2:=by
 obtain ⟨b,hb,e⟩:=List.mem_filterMap.mp hp
 cases q:h.get? b with
 | none=>rw [q] at e;cases e
 | some o=>
  rw [q] at e
  have e':(b,o)=p:=Option.some.inj e
  subst e'
  exact ⟨hb,q⟩
theorem Inv.pinned {pins:List (Addr×Obj)} {σ:St} {H:Hp} {s:Shared} {fp:List Addr} (I:Inv X pins σ H s) (hf:∀b∈fp,q4N X pins H b) (ho:∀b∈fp,∃o,s.heap.get? b=some o/\∀v,o.data≠.cell v):Inv X (pins++q5L fp s.heap) σ H s:=
 I.pins_of λp hp=>(List.mem_append.mp hp).elim (λz=>I.pin p (List.mem_append_right _ z)) λz=>by
  obtain ⟨hb,e⟩:=q9E z
  obtain ⟨f0,f1,f2,_⟩:=hf p.1 hb
  obtain ⟨o,e',d⟩:=ho p.1 hb
  rw [e] at e';cases e'
  exact ⟨e,f0,f1,f2,d⟩
theorem Inv.unpinned {pins pl:List (Addr×Obj)} {σ:St} {H:Hp} {s:Shared} (I:Inv X (pins++pl) σ H s):Inv X pins σ H s:=I.pins_of λp hp=>I.pin p (List.mem_append_right _ (List.mem_append_left _ hp))
theorem j7D {iter:Expr} {body:List Stmt} {wi:TI} {g:TG} {tb:TS} {pos:Pos} (hp:PassesOwn (model X.prog X.w) X.A X.env X.xe) (hc:X.calm=true) (hi:PI X tg iter wi) (hg:PG X tg g) (hb:PSs X body tb)
 (hs:∀x,foldedSetIterable iter X.env x=pure x:=by intro _;rfl):PS X (.For tg iter body [] pos) (w1L wi g tb):=by
 intro pins s σ H D I h
 refine wpAny_For (thn (hi pins s σ H _ I h) λv s1 h1=>thn h1 λitv s2 h2=>?_) hs
 obtain ⟨it,fp,tn,J,H2,e,I2,T,st2,f2,W,⟨m0,w0⟩,turn⟩:=h2
 subst e
 have stat:∀{H':Hp},(∀b∈fp,H' b=none)->∀b∈fp,q4N X pins H' b:=λhn b hb=>⟨hn b hb,(f2 b hb).2⟩
 refine codeAny_forLoop_any (λn s'=>∃i σ' H',Inv X pins σ' H' s'/\tn i s'.heap/\(∀b∈fp,H' b=none)/\W i n σ' H') ?_ m0 ⟨0,σ,H2,I2,st2,λb hb=>(f2 b hb).1,w0⟩
 rintro n s3 ⟨i,σ3,H3,I3,st3,fr3,w3⟩
 rcases turn i n σ3 H3 w3 with ⟨stop,qn⟩ | ⟨go,N,hN,step⟩
 ·refine wpAny_passesOwn hp (thn (T.done X rfl rfl rfl hc i pins s3 σ3 H3 X.xe I3 (stat fr3) st3 stop) λr s4 ⟨hr,I4⟩=>?_)
  subst hr
  exact wpAny_execs_nil ⟨σ3,H3,I4,qn⟩
 ·refine wpAny_passesOwn hp (thn (T.item X rfl rfl rfl hc i pins s3 σ3 H3 X.xe I3 (stat fr3) st3 go) λr s4 ⟨u,hr,h4⟩=>?_)
  subst hr
  refine wpAny_passesOwn hp (thn h4 λ_ s5 ⟨x,H5,I5,r5,y5,st5,fr5⟩=>?_)
  have I5':=I5.pinned (stat fr5) (T.obj _ _ st5)
  refine wpAny_passesOwn hp (thn (hg _ s5 σ3 H5 x u _ I5' r5 (step x H5 y5)) λ_ s6 ⟨σ6,H6,I6,q6⟩=>?_)
  refine wpAny_passesOwn hp (thn (hb _ s6 σ6 H6 _ I6 q6) λf s7 q7=>?_)
  have again:∀{σ7:St} {H7:Hp},Inv X (pins++q5L fp s5.heap) σ7 H7 s7->N σ7 H7->∃m,m < n/\∃i σ' H',Inv X pins σ' H' s7/\tn i s7.heap/\(∀b∈fp,H' b=none)/\W i m σ' H':=λ{σ7 H7} I7 n7=>by
   obtain ⟨m',hm,w7⟩:=hN σ7 H7 n7
   refine ⟨m',hm,i+1,σ7,H7,I7.unpinned,T.keep _ _ _ st5 λb hb o e=>(I7.pin (b,o) (List.mem_append_right _ (List.mem_append_right _ (q1r hb e)))).1,λb hb=>?_,w7⟩
   obtain ⟨o,e,d⟩:=T.obj _ _ st5 b hb
   exact (I7.pin (b,o) (List.mem_append_right _ (List.mem_append_right _ (q1r hb e)))).2.1
  cases f with
  | next=>obtain ⟨σ7,H7,I7,n7⟩:=q7;exact again I7 n7
  | cont=>obtain ⟨σ7,H7,I7,n7⟩:=q7;exact again I7 n7
  | brk=>obtain ⟨σ7,H7,I7,q7⟩:=q7;exact ⟨σ7,H7,I7.unpinned,q7⟩
  | ret v=>obtain ⟨x7,σ7,H7,I7,r7,q7⟩:=q7;exact ⟨x7,σ7,H7,I7.unpinned,r7,q7⟩
end
noncomputable abbrev R2:=V->V->Hp->VK->Prop
noncomputable def OpR (X:Cx) (f:Value->Value->Sem Value) (r:R2):Prop:=
 ∀(pins:List (Addr×Obj)) (s:Shared) (σ:St) (H:Hp) (x y:V) (v u:Value) (Q:VK),Inv X pins σ H s->RelV x v->RelV y u->r x y H Q ->
  wpAny (model X.prog X.w) X.A (f v u) (EP X pins σ Q) X.xe s
noncomputable def q1V (X:Cx) (f:Value) (r:List V->Hp->VK->Prop):Prop:=
 ∀(pins:List (Addr×Obj)) (s:Shared) (σ:St) (H:Hp) (xs:List V) (us:List Value) (Q:VK),Inv X pins σ H s->Vals xs us->r xs H Q ->
  wpAny (model X.prog X.w) X.A (call f us) (EP X pins σ Q) X.xe s
noncomputable def w1g (X:Cx) (r:V->Hp->(Bool->Hp->Prop)->Prop):Prop:=
 ∀(pins:List (Addr×Obj)) (s:Shared) (σ:St) (H:Hp) (x:V) (v:Value) (Q:Bool->Hp->Prop),Inv X pins σ H s->RelV x v->r x H Q ->
  wpAny (model X.prog X.w) X.A (truthy v) (TP X pins σ Q) X.xe s
noncomputable def tOp (r:R2) (ta tb:TE):TE:=fun σ H Q=>ta σ H λx H1=>tb σ H1 λy H2=>r x y H2 Q
noncomputable def rI (C:Int->Int->Prop) (g:Int->Int->V):R2:=λx y H Q=>∃i j,x=.int i/\y=.int j/\C i j/\Q (g i j) H
noncomputable def rI0 (g:Int->Int->V):R2:=λx y H Q=>∃i j,x=.int i/\y=.int j/\Q (g i j) H
section
variable {X:Cx} {a b c:Expr} {ta tb tc:TE} {pos:Pos}
theorem w0i (ha:PE X a ta) (hb:PE X b tb) {pins:List (Addr×Obj)} {s:Shared} {σ:St} {H:Hp} {R:V->V->Hp->Prop} (I:Inv X pins σ H s)
 (h:ta σ H λx H1=>tb σ H1 λy H2=>R x y H2) {Q:Value->Shared->Prop} {f:Value->Value->Sem Value}
 (hf:∀v u s2 x y H2,Inv X pins σ H2 s2->RelV x v->RelV y u->R x y H2->wpAny (model X.prog X.w) X.A (f v u) Q X.xe s2) :
 wpAny (model X.prog X.w) X.A (eval a X.env) (λv s₁=>wpAny (model X.prog X.w) X.A (eval b X.env) (λu s₂=>wpAny (model X.prog X.w) X.A (f v u) Q X.xe s₂) X.xe s₁) X.xe s:=by
 refine thn (ha pins s σ H _ I h) λv s1 ⟨x,H1,I1,r1,q1⟩=>?_
 refine thn (hb pins s1 σ H1 _ I1 q1) λu s2 ⟨y,H2,I2,r2,q2⟩=>?_
 exact hf v u s2 x y H2 I2 r1 r2 q2
theorem j3V {op:Operator} {r:R2} (ho:OpR X (binaryOp op) r) (ha:PE X a ta) (hb:PE X b tb):PE X (.BinOp a op b pos) (tOp r ta tb):=by
 intro pins s σ H Q I h
 exact wpAny_BinOp (w0i ha hb I h λv u s2 x y H2 I2 rx ry q=>ho pins s2 σ H2 x y v u Q I2 rx ry q)
theorem opI {f:Value->Value->Sem Value} {C:Int->Int->Prop} {g:Int->Int->Int}
 (rule:∀(i j:Int) (t u:Tok) (s:Shared) (Q:Value->Shared->Prop) (E:Value->Shared->Prop),C i j->Q (.int (g i j) s.toks) { s with toks:=s.toks+1 }->wpAny (model X.prog X.w) X.A (f (.int i t) (.int j u)) Q E s) :
 OpR X f (rI C λi j=>.int (g i j)):=by
 intro pins s σ H x y v u Q I rx ry h
 obtain ⟨i,j,rfl,rfl,hc,q⟩:=h
 obtain ⟨t,rfl⟩:=rx
 obtain ⟨t',rfl⟩:=ry
 exact rule i j t t' s _ _ hc ⟨.int (g i j),H,I.tok _,⟨_,rfl⟩,q⟩
theorem w0o {f:Value->Value->Sem Value} {g:Int->Int->Int}
 (rule:∀(i j:Int) (t u:Tok) (s:Shared) (Q:Value->Shared->Prop) (E:Value->Shared->Prop),Q (.int (g i j) s.toks) { s with toks:=s.toks+1 }->wpAny (model X.prog X.w) X.A (f (.int i t) (.int j u)) Q E s) :
 OpR X f (rI0 λi j=>.int (g i j)):=by
 intro pins s σ H x y v u Q I rx ry h
 obtain ⟨i,j,rfl,rfl,q⟩:=h
 obtain ⟨t,rfl⟩:=rx
 obtain ⟨t',rfl⟩:=ry
 exact rule i j t t' s _ _ ⟨.int (g i j),H,I.tok _,⟨_,rfl⟩,q⟩
theorem w0b {f:Value->Value->Sem Value} {g:Int->Int->Bool}
 (rule:∀(i j:Int) (t u:Tok) (s:Shared) (Q:Value->Shared->Prop) (E:Value->Shared->Prop),Q (.bool (g i j)) s->wpAny (model X.prog X.w) X.A (f (.int i t) (.int j u)) Q E s) :
 OpR X f (rI0 λi j=>.bl (g i j)):=by
 intro pins s σ H x y v u Q I rx ry h
 obtain ⟨i,j,rfl,rfl,q⟩:=h
 obtain ⟨t,rfl⟩:=rx
 obtain ⟨t',rfl⟩:=ry
 exact rule i j t t' s _ _ ⟨.bl (g i j),H,I,rfl,q⟩
noncomputable def w1R (i j:Int):Prop:=0 < j/\j < 1073741824
noncomputable def w1B (i j:Int):Prop:=0<=j/\j<=1000000/\i.natAbs < 2 ^ 64
noncomputable def CMul (i j:Int):Prop:=(-(2 ^ 64) < i/\i < 2 ^ 64)∨(-(2 ^ 64) < j/\j < 2 ^ 64)
theorem CMul.ok {i j:Int} (h:CMul i j):IntMulOk i j:=by
 rcases h with ⟨h1,h2⟩ | ⟨h1,h2⟩
 ·exact .of_left (intBits_le_64 h1 h2)
 ·exact .of_right (intBits_le_64 h1 h2)
theorem j5M:OpR X (binaryOp .Add) (rI0 λi j=>.int (i+j)):=w0o λ_ _ _ _ _ _ _ q=>add_int q
theorem j6V:OpR X (binaryOp .Sub) (rI0 λi j=>.int (i-j)):=w0o λ_ _ _ _ _ _ _ q=>sub_int q
theorem j5S:OpR X (binaryOp .Mult) (rI CMul λi j=>.int (i*j)):=opI λ_ _ _ _ _ _ _ hc q=>mul_int q hc.ok
theorem j4H:OpR X (binaryOp .FloorDiv) (rI w1R λi j=>.int (i / j)):=opI λi j _ _ _ _ _ hc q=>by
 have h1:(0:Int) < j:=hc.1
 have h2:j < 1073741824:=hc.2
 exact floordiv_int (by omega) (by rw [Int.fdiv_eq_ediv_of_nonneg i (by omega)];exact q) (.inl (PyProof.noPylong_small (by omega)))
theorem j6r:OpR X (binaryOp .Mod) (rI (λ_ j=>0 < j) λi j=>.int (i % j)):=opI λi j _ _ _ _ _ hc q=>by
 have h1:(0:Int) < j:=hc
 exact mod_int' (by omega) (by rw [Int.fmod_eq_emod_of_nonneg i (by omega)];exact q)
theorem j71:OpR X (binaryOp .Pow) (rI w1B λi j=>.int (i ^ j.toNat)):=opI λ_ _ _ _ _ _ _ hc q=>pow_int_small hc.1 hc.2.1 hc.2.2 q
end
noncomputable def scal:V->V->Bool
 | .non,.non=>true | .non,.int _=>true | .int _,.non=>true | .non,.bl _=>true | .bl _,.non=>true | .non,.str _=>true | .str _,.non=>true
 | .int _,.int _=>true | .bl _,.bl _=>true | .str _,.str _=>true | .byt _,.byt _=>true
 | .int _,.str _=>true | .str _,.int _=>true | .bl _,.str _=>true | .str _,.bl _=>true
 | _,_=>false
noncomputable def rEq:R2:=λx y H Q=>scal x y=true/\Q (.bl (decide (x=y))) H
noncomputable def rNe:R2:=λx y H Q=>scal x y=true/\Q (.bl (!decide (x=y))) H
theorem q8I {i j:Int}:decide (V.int i=V.int j)=(i==j):=by
 rw [Bool.eq_iff_iff]
 simp
theorem j3j {i j:Bool}:decide (V.bl i=V.bl j)=(i==j):=by
 rw [Bool.eq_iff_iff]
 simp
theorem q7J {i j:Str}:decide (V.str i=V.str j)=(i==j):=by
 rw [Bool.eq_iff_iff]
 simp
theorem q9R {i j:Array UInt8}:decide (V.byt i=V.byt j)=(i.toList==j.toList):=by
 rw [Bool.eq_iff_iff]
 cases i
 cases j
 simp
section
variable {X:Cx} {a b c:Expr} {ta tb tc:TE} {pos:Pos}
theorem q0I {pins:List (Addr×Obj)} {σ:St} {H:Hp} {s:Shared} {Q:VK} {k k':Bool} (I:Inv X pins σ H s) (q:Q (.bl k) H) (e:k=k'):EP X pins σ Q (.bool k') s:=by
 subst e
 exact ⟨.bl k,H,I,rfl,q⟩
theorem j9e:OpR X (compareOp .Eq) rEq:=by
 intro pins s σ H x y v u Q I rx ry h
 obtain ⟨hs,q⟩:=h
 cases x with
 | non=>
  cases rx
  cases y with
  | non=>cases ry;exact PySem.EqNone.eq_none_none (q0I I q (by simp))
  | bl j=>cases ry;exact PySem.EqNone.eq_none_bool (q0I I q (by simp))
  | int j=>obtain ⟨t',rfl⟩:=ry;exact PySem.EqNone.eq_none_int (q0I I q (by simp))
  | str j=>obtain ⟨t',rfl⟩:=ry;exact PySem.EqNone.eq_none_str (q0I I q (by simp))
  | _=>exact absurd (show false=true from hs) Bool.false_ne_true
 | bl i=>
  cases rx
  cases y with
  | non=>cases ry;exact PySem.EqNone.eq_bool_none (q0I I q (by simp))
  | bl j=>cases ry;exact eq_bool (q0I I q j3j)
  | str j=>obtain ⟨t',rfl⟩:=ry;exact PySem.EqMixed.eq_bool_str (q0I I q (by simp))
  | _=>exact absurd (show false=true from hs) Bool.false_ne_true
 | int i=>
  obtain ⟨t,rfl⟩:=rx
  cases y with
  | non=>cases ry;exact PySem.EqNone.eq_int_none (q0I I q (by simp))
  | int j=>obtain ⟨t',rfl⟩:=ry;exact eq_int (q0I I q q8I)
  | str j=>obtain ⟨t',rfl⟩:=ry;exact PySem.EqMixed.eq_int_str (q0I I q (by simp))
  | _=>exact absurd (show false=true from hs) Bool.false_ne_true
 | str i=>
  obtain ⟨t,rfl⟩:=rx
  cases y with
  | non=>cases ry;exact PySem.EqNone.eq_str_none (q0I I q (by simp))
  | bl j=>cases ry;exact PySem.EqMixed.eq_str_bool (q0I I q (by simp))
  | int j=>obtain ⟨t',rfl⟩:=ry;exact PySem.EqMixed.eq_str_int (q0I I q (by simp))
  | str j=>obtain ⟨t',rfl⟩:=ry;exact eq_str (q0I I q q7J)
  | _=>exact absurd (show false=true from hs) Bool.false_ne_true
 | byt i=>
  obtain ⟨t,rfl⟩:=rx
  cases y with
  | byt j=>obtain ⟨t',rfl⟩:=ry;exact PySem.W.eq_bytes (q0I I q q9R)
  | _=>exact absurd (show false=true from hs) Bool.false_ne_true
 | _=>cases y<;>exact absurd (show false=true from hs) Bool.false_ne_true
theorem j9M:OpR X (compareOp .NotEq) rNe:=by
 intro pins s σ H x y v u Q I rx ry h
 obtain ⟨hs,q⟩:=h
 cases x with
 | non=>
  cases rx
  cases y with
  | non=>cases ry;exact PySem.EqNone.ne_none_none (q0I I q (by simp))
  | bl j=>cases ry;exact PySem.EqNone.ne_none_bool (q0I I q (by simp))
  | int j=>obtain ⟨t',rfl⟩:=ry;exact PySem.EqNone.ne_none_int (q0I I q (by simp))
  | str j=>obtain ⟨t',rfl⟩:=ry;exact PySem.EqNone.ne_none_str (q0I I q (by simp))
  | _=>exact absurd (show false=true from hs) Bool.false_ne_true
 | bl i=>
  cases rx
  cases y with
  | non=>cases ry;exact PySem.EqNone.ne_bool_none (q0I I q (by simp))
  | bl j=>cases ry;exact ne_bool (q0I I q (congrArg not j3j))
  | str j=>obtain ⟨t',rfl⟩:=ry;exact PySem.EqMixed.ne_bool_str (q0I I q (by simp))
  | _=>exact absurd (show false=true from hs) Bool.false_ne_true
 | int i=>
  obtain ⟨t,rfl⟩:=rx
  cases y with
  | non=>cases ry;exact PySem.EqNone.ne_int_none (q0I I q (by simp))
  | int j=>obtain ⟨t',rfl⟩:=ry;exact ne_int (q0I I q (congrArg not q8I))
  | str j=>obtain ⟨t',rfl⟩:=ry;exact PySem.EqMixed.ne_int_str (q0I I q (by simp))
  | _=>exact absurd (show false=true from hs) Bool.false_ne_true
 | str i=>
  obtain ⟨t,rfl⟩:=rx
  cases y with
  | non=>cases ry;exact PySem.EqNone.ne_str_none (q0I I q (by simp))
  | bl j=>cases ry;exact PySem.EqMixed.ne_str_bool (q0I I q (by simp))
  | int j=>obtain ⟨t',rfl⟩:=ry;exact PySem.EqMixed.ne_str_int (q0I I q (by simp))
  | str j=>obtain ⟨t',rfl⟩:=ry;exact ne_str (q0I I q (congrArg not q7J))
  | _=>exact absurd (show false=true from hs) Bool.false_ne_true
 | byt i=>
  obtain ⟨t,rfl⟩:=rx
  cases y with
  | byt j=>obtain ⟨t',rfl⟩:=ry;exact PySem.W.ne_bytes (q0I I q (congrArg not q9R))
  | _=>exact absurd (show false=true from hs) Bool.false_ne_true
 | _=>cases y<;>exact absurd (show false=true from hs) Bool.false_ne_true
theorem j9U:OpR X (compareOp .Lt) (rI0 λi j=>.bl (decide (i < j))):=w0b λ_ _ _ _ _ _ _ q=>lt_int q
theorem j91:OpR X (compareOp .LtE) (rI0 λi j=>.bl (decide (i<=j))):=w0b λ_ _ _ _ _ _ _ q=>le_int q
theorem j84:OpR X (compareOp .Gt) (rI0 λi j=>.bl (decide (j < i))):=w0b λ_ _ _ _ _ _ _ q=>gt_int q
theorem q9s:OpR X (compareOp .In) (λx y H Q=>∃i j,x=.str i/\y=.str j/\Q (.bl (!(Builtin.Str.occurrences j i 0 j.length 1).isEmpty)) H):=by
 intro pins s σ H x y v u Q I rx ry h
 obtain ⟨i,j,rfl,rfl,q⟩:=h
 obtain ⟨t,rfl⟩:=rx
 obtain ⟨t',rfl⟩:=ry
 exact in_str (q0I I q rfl)
theorem q4s:OpR X (compareOp .NotIn) (λx y H Q=>∃i j,x=.str i/\y=.str j/\Q (.bl (!(!(Builtin.Str.occurrences j i 0 j.length 1).isEmpty))) H):=by
 intro pins s σ H x y v u Q I rx ry h
 obtain ⟨i,j,rfl,rfl,q⟩:=h
 obtain ⟨t,rfl⟩:=rx
 obtain ⟨t',rfl⟩:=ry
 exact notIn_str (q0I I q rfl)
theorem OpR.or {f:Value->Value->Sem Value} {r r':R2} (h:OpR X f r) (h':OpR X f r'):OpR X f (λx y H Q=>r x y H Q∨r' x y H Q):=by
 intro pins s σ H x y v u Q I rx ry q
 rcases q with q | q
 ·exact h pins s σ H x y v u Q I rx ry q
 ·exact h' pins s σ H x y v u Q I rx ry q
theorem nomark (b:Expr) {op:CmpOp} (h:op≠.In:=by decide) (h2:op≠.NotIn:=by decide):behindInMarks op b=false:=by
 have e1:(op==CmpOp.In)=false:=by cases op<;>first | rfl | exact absurd rfl h
 have e2:(op==CmpOp.NotIn)=false:=by cases op<;>first | rfl | exact absurd rfl h2
 cases b<;>simp [behindInMarks,e1,e2]
theorem j3Q {op:CmpOp} {r:R2} (ho:OpR X (compareOp op) r) (ha:PE X a ta) (hb:PE X b tb) (hm:behindInMarks op b=false):PE X (.Compare a [op] [b] pos) (tOp r ta tb):=by
 intro pins s σ H Q I h
 exact wpAny_Compare1 (w0i ha hb I h λv u s2 x y H2 I2 rx ry q=>ho pins s2 σ H2 x y v u Q I2 rx ry q) hm
noncomputable def j6U (t:TE):TT:=fun σ H Q=>t σ H λx H'=>∃k,x=.bl k/\Q k H'
theorem j4N {op:CmpOp} {r:R2} (ho:OpR X (compareOp op) r) (ha:PE X a ta) (hb:PE X b tb) (hm:behindInMarks op b=false):PT X (.Compare a [op] [b] pos) (j6U (tOp r ta tb)):=by
 intro pins s σ H Q I h
 refine wpAny_isTrue_Compare1 (thn (ha pins s σ H _ I h) λv s1 ⟨x,H1,I1,r1,q1⟩=>thn (hb pins s1 σ H1 _ I1 q1) λu s2 ⟨y,H2,I2,r2,q2⟩=>
  thn (ho pins s2 σ H2 x y v u _ I2 r1 r2 q2) λc s3 ⟨z,H3,I3,r3,k,e,q3⟩=>?_) hm
 subst e
 cases r3
 exact wpAny_truthy_bool ⟨H3,I3,q3⟩
noncomputable def j3d (r r':R2) (ta tb tc:TE):TE:=fun σ H Q=>ta σ H λx H1=>tb σ H1 λy H2=>r x y H2 λz H3=>∃k,z=.bl k /\
 (if k=true then tc σ H3 λw' H4=>r' y w' H4 Q else Q (.bl false) H3)
theorem j1t {op op':CmpOp} {r r':R2} (ho:OpR X (compareOp op) r) (ho':OpR X (compareOp op') r') (ha:PE X a ta) (hb:PE X b tb) (hc:PE X c tc)
 (hm:lastMarks [op,op'] [b,c]=false:=by with_unfolding_all rfl):PT X (.Compare a [op,op'] [b,c] pos) (j6U (j3d r r' ta tb tc)):=by
 intro pins s σ H Q I h
 refine isTrue_chain (thn (ha pins s σ H _ I h) λv s1 ⟨x,H1,I1,r1,q1⟩=>test_link (thn (hb pins s1 σ H1 _ I1 q1) λu s2 ⟨y,H2,I2,r2,q2⟩=>
  thn (ho pins s2 σ H2 x y v u _ I2 r1 r2 q2) λd s3 ⟨z,H3,I3,r3,k,e,q3⟩=>?_)) hm
 subst e
 cases r3
 refine wpAny_truthy_bool ?_
 cases k with
 | false=>
  obtain ⟨k',e',q'⟩:=q3
  cases e'
  exact ite_ff ⟨H3,I3,q'⟩
 | true=>
  refine ite_tt (test_last (thn (hc pins s3 σ H3 _ I3 q3) λw' s4 ⟨z',H4,I4,r4,q4⟩=>thn (ho' pins s4 σ H4 y z' u w' _ I4 r2 r4 q4) λd' s5 ⟨z2,H5,I5,r5,k2,e2,q5⟩=>?_))
  subst e2
  cases r5
  exact wpAny_truthy_bool ⟨H5,I5,q5⟩
noncomputable def j9v (K:PySem.W.Frag) (x:V) (H:Hp) (k:Bool):Prop:=
 match x with
 | .non=>k=false
 | .bl b=>k=b
 | .int i=>k=(i != 0)
 | .str y=>y.length<=sizeLine/\k=((y.length:Int) != 0)
 | .byt y=>y.size<=sizeLine/\k=((y.size:Int) != 0)
 | .ref p=>(∃xs,SqL K H p xs/\k=!xs.isEmpty)∨(∃xs,SqT K H p xs/\k=!xs.isEmpty)∨∃kvs,H p=some (.dK kvs)/\k=!kvs.isEmpty
 | _=>False
theorem q7s {κ:Type} {kvs:List (κ×V)} {vs:List (κ×Value)} (r:KV kvs vs):(!vs.isEmpty)=!kvs.isEmpty:=by
 cases r<;>rfl
theorem q3A {xs:List V} {its:List Value} (r:Vals xs its):(!its.toArray.isEmpty)=!xs.isEmpty:=by
 cases r<;>simp
theorem line63:(sizeLine:Nat) < 2 ^ 63:=by rw [sizeLine_eq];decide
theorem j5G:w1g X (λx H Q=>∃k,j9v X.K x H k/\Q k H):=by
 intro pins s σ H x v Q I rx h
 obtain ⟨k,e,q⟩:=h
 have hl:=line63
 have hs:sizeLine=16777216:=sizeLine_eq
 cases x with
 | non=>
  cases rx
  have e':k=false:=e
  subst e'
  exact truthy_none ⟨H,I,q⟩
 | bl b=>
  cases rx
  have e':k=b:=e
  subst e'
  exact wpAny_truthy_bool ⟨H,I,q⟩
 | int i=>
  obtain ⟨t,rfl⟩:=rx
  have e':k=(i != 0):=e
  subst e'
  exact PySem.P.truthy_int ⟨H,I,q⟩
 | str y=>
  obtain ⟨t,rfl⟩:=rx
  obtain ⟨hy,e'⟩:y.length<=sizeLine/\k=((y.length:Int) != 0):=e
  subst e'
  exact PySem.P.truthy_str (by omega) ⟨H,I.tok _,q⟩
 | byt y=>
  obtain ⟨t,rfl⟩:=rx
  obtain ⟨hy,e'⟩:y.size<=sizeLine/\k=((y.size:Int) != 0):=e
  subst e'
  exact PySem.W.truthy_bytes (by omega) ⟨H,I.tok _,q⟩
 | ref p=>
  cases rx
  have e':(∃xs,SqL X.K H p xs/\k=!xs.isEmpty)∨(∃xs,SqT X.K H p xs/\k=!xs.isEmpty)∨∃kvs,H p=some (.dK kvs)/\k=!kvs.isEmpty:=e
  rcases e' with ⟨xs,hx,e'⟩ | ⟨xs,hx,e'⟩ | ⟨kvs,hx,e'⟩
  ·subst e'
   obtain ⟨its,r,pl,hz⟩:=I.list hx
   have hlen:=r.length
   exact wpAny_truthy_list pl.isList (by simp only [List.size_toArray];omega) ⟨H,I.tok _,by rw [q3A r];exact q⟩
  ·subst e'
   obtain ⟨its,r,pl,hz⟩:=I.tuple hx
   have hlen:=r.length
   exact truthy_tuple pl (by simp only [List.size_toArray];omega) ⟨H,I.tok _,by rw [q3A r];exact q⟩
  ·subst e'
   obtain ⟨hz,hS,vs,r,m⟩:kvs.length<=sizeLine/\(p==sysModules)=false/\∃vs,KV kvs vs/\s.heap.DictOf (q5u X.prog X.w) p vs:=I.hok p _ hx
   have hlen:kvs.length=vs.length:=Paired.length r
   exact wpAny_truthy_dict hS m (by omega) ⟨H,I.tok _,by rw [q7s r];exact q⟩
 | _=>exact (show False from e).elim
theorem j1x (ha:PE X a ta) (he:∀whole,isTrue a X.env whole=(do let v <-whole;standAt a.pos;holding [v] (truthy v))) :
 PT X a (fun σ H Q=>ta σ H λx H'=>∃k,j9v X.K x H' k/\Q k H'):=by
 intro pins s σ H Q I h
 exact isTrue_plain (thn (ha pins s σ H _ I h) λv s1 ⟨x,H1,I1,r1,q1⟩=>j5G pins s1 σ H1 x v Q I1 r1 q1) (he _)
theorem q7u:OpR X (binaryOp .Add) (λx y H Q=>∃i j,x=.str i/\y=.str j/\i.length+j.length<=sizeLine/\Q (.str (i++j)) H):=by
 intro pins s σ H x y v u Q I rx ry h
 obtain ⟨i,j,rfl,rfl,hz,q⟩:=h
 obtain ⟨t,rfl⟩:=rx
 obtain ⟨t',rfl⟩:=ry
 exact add_str (λt' tk=>⟨.str (i++j),H,I.tok _,⟨_,rfl⟩,q⟩) hz
theorem vals1 {x:V} {us:List Value} (r:Vals [x] us):∃u,us=[u]/\RelV x u:=by
 cases r with
 | cons r1 r2=>cases r2;exact ⟨_,rfl,r1⟩
theorem vals2 {x y:V} {us:List Value} (r:Vals [x,y] us):∃u w',us=[u,w']/\RelV x u/\RelV y w':=by
 cases r with
 | cons r1 r2=>
  cases r2 with
  | cons r3 r4=>cases r4;exact ⟨_,_,rfl,r1,r3⟩
theorem q9r (hc:X.calm=true):q1V X (.builtin "max") (λxs H Q=>∃i j,xs=[.int i,.int j]/\Q (.int (if j > i then j else i)) H):=by
 intro pins s σ H xs us Q I r h
 obtain ⟨i,j,rfl,q⟩:=h
 obtain ⟨u,w',rfl,⟨t,rfl⟩,⟨t',rfl⟩⟩:=vals2 r
 refine max_two_ints (I.ok.hd hc) λh' tk k=>⟨_,H,I.kept k,?_,q⟩
 by_cases hj:j > i
 ·rw [if_pos hj,if_pos hj];exact ⟨_,rfl⟩
 ·rw [if_neg hj,if_neg hj];exact ⟨_,rfl⟩
theorem q9S (hc:X.calm=true):q1V X (.builtin "min") (λxs H Q=>∃i j,xs=[.int i,.int j]/\Q (.int (if j < i then j else i)) H):=by
 intro pins s σ H xs us Q I r h
 obtain ⟨i,j,rfl,q⟩:=h
 obtain ⟨u,w',rfl,⟨t,rfl⟩,⟨t',rfl⟩⟩:=vals2 r
 refine min_two_ints (I.ok.hd hc) λh' tk k=>⟨_,H,I.kept k,?_,q⟩
 by_cases hj:j < i
 ·rw [if_pos hj,if_pos hj];exact ⟨_,rfl⟩
 ·rw [if_neg hj,if_neg hj];exact ⟨_,rfl⟩
theorem q9W:q1V X (.type "int") (λxs H Q=>(∃i,xs=[.int i]/\Q (.int i) H)∨∃k,xs=[.bl k]/\Q (.int (if k then 1 else 0)) H):=by
 intro pins s σ H xs us Q I r h
 rcases h with ⟨i,rfl,q⟩ | ⟨k,rfl,q⟩
 ·obtain ⟨u,rfl,t,rfl⟩:=vals1 r
  exact call_int_int ⟨.int i,H,I,⟨_,rfl⟩,q⟩
 ·obtain ⟨u,rfl,r1⟩:=vals1 r
  cases r1
  exact call_int_bool ⟨.int (if k then 1 else 0),H,I.tok _,⟨_,rfl⟩,q⟩
noncomputable def w1v (K:PySem.W.Frag) (x:V) (H:Hp) (n:Nat):Prop:=
 match x with
 | .str y=>y.length<=sizeLine/\n=y.length
 | .byt y=>y.size<=sizeLine/\n=y.size
 | .ref p=>(∃xs,SqL K H p xs/\n=xs.length)∨∃xs,SqT K H p xs/\n=xs.length
 | _=>False
theorem q5J:q1V X (.builtin "len") (λxs H Q=>∃x n,xs=[x]/\w1v X.K x H n/\Q (.int n) H):=by
 intro pins s σ H xs us Q I r h
 obtain ⟨x,n,rfl,e,q⟩:=h
 obtain ⟨u,rfl,rx⟩:=vals1 r
 have hl:=line63
 have hs:sizeLine=16777216:=sizeLine_eq
 cases x with
 | str y=>
  obtain ⟨t,rfl⟩:=rx
  obtain ⟨hy,e'⟩:y.length<=sizeLine/\n=y.length:=e
  subst e'
  exact len_str (by omega) ⟨.int _,H,I.tok _,⟨_,rfl⟩,q⟩
 | byt y=>
  obtain ⟨t,rfl⟩:=rx
  obtain ⟨hy,e'⟩:y.size<=sizeLine/\n=y.size:=e
  subst e'
  exact PySem.W.len_bytes (by omega) ⟨.int _,H,I.tok _,⟨_,rfl⟩,q⟩
 | ref p=>
  cases rx
  have e':(∃xs,SqL X.K H p xs/\n=xs.length)∨∃xs,SqT X.K H p xs/\n=xs.length:=e
  rcases e' with ⟨xs,hx,e'⟩ | ⟨xs,hx,e'⟩
  ·subst e'
   obtain ⟨its,r',pl,hz⟩:=I.list hx
   have hlen:=r'.length
   exact Calls.call_len_list pl.isList (by simp only [List.size_toArray];omega) ⟨.int xs.length,H,I.tok _,⟨_,by simp only [List.size_toArray];rw [hlen]⟩,q⟩
  ·subst e'
   obtain ⟨its,r',pl,hz⟩:=I.tuple hx
   have hlen:=r'.length
   exact len_tuple pl (by simp only [List.size_toArray];omega) ⟨.int xs.length,H,I.tok _,⟨_,by simp only [List.size_toArray];rw [hlen]⟩,q⟩
 | _=>exact (show False from e).elim
end
structure ObjM (h:Heap) (x dx C:Addr) (mA:Str->Option Value):Prop where
 obj:h.get? x=some (PySem.W.instObj C dx)
 ns:h.Ns1 dx mA
 ne:dx≠x
theorem q8f {h:Heap} {dx:Addr} {mA:Str->Option Value} (n:h.Ns1 dx mA):∃od,h.get? dx=some od/\∀name,PySem.W.lookIn name od=some (mA name):=by
 obtain ⟨o,es,ep,ho,hd,hk,_,hm⟩:=n
 refine ⟨o,ho,λname=>?_⟩
 have e:=hm name
 unfold nsFind findBy at e
 rw [<-Array.find?_toList] at e
 unfold PySem.W.lookIn
 rw [hd]
 dsimp only
 split
 ·rename_i y q
  rw [q] at e
  exact congrArg some e
 ·rename_i q
  rw [q] at e
  have a:es.toList.any (·.refKey)=false:=by
   rw [List.any_eq_false]
   intro y hy
   obtain ⟨z,t,hkey⟩:=hk y (Array.mem_toList_iff.mp hy)
   simp [DictEntry.refKey,hkey]
  have a':¬es.toList.any (·.refKey)=true:=by rw [a];exact Bool.false_ne_true
  rw [if_neg a']
  exact congrArg some e
theorem ObjM.look {h:Heap} {x dx C:Addr} {mA:Str->Option Value} (I:ObjM h x dx C mA):∃od,PySem.W.InstAt h x (PySem.W.instObj C dx) C (some od)/\∀name,PySem.W.lookIn name od=some (mA name):=
 let ⟨od,ho,hl⟩:=q8f I.ns
 ⟨od,⟨I.obj,rfl,rfl,ho⟩,hl⟩
section
variable {prog:Program} {w:World} {A:Around} {E:Value->Shared->Prop} {s:Shared} {K:PySem.W.Frag} {x dx C f:Addr} {mA:Str->Option Value} {name:Str} {v:Value}
theorem j40 {expr:Bool} {Q:Value->Shared->Prop} (X:K.In s.heap) (I:ObjM s.heap x dx C mA) (hg:PySem.W.plainGet K C name=true) (hh:PySem.W.hasDictIn K C=true)
 (ha:PySem.W.findIn K (.ref C) name=some none) (hv:mA name=some v) (hv':PySem.W.handedIn v=true) (h:Q v { s with toks:=s.toks+1 }) :
 wpAny (model prog w) A (getAttr (.ref x) name expr) Q E s:=by
 obtain ⟨od,J,hl⟩:=I.look
 exact PySem.W.get_value X J (PySem.W.plainGet_of hg).1 (PySem.W.findObj_own hh ha rfl (by rw [hl,hv])) hv' h
theorem j1f {pl:Sem Bool} {Q:Value×List Value->Shared->Prop} (X:K.In s.heap) (I:ObjM s.heap x dx C mA) (hg:PySem.W.plainGet K C name=true)
 (hf:PySem.W.findIn K (.ref C) name=some (some (.ref f))) (ht:PySem.W.isFn K (.ref f)=true) (hv:mA name=none) (h:Q (.ref f,[.ref x]) s) :
 wpAny (model prog w) A (getMethod (.ref x) name pl) Q E s:=by
 obtain ⟨od,J,hl⟩:=I.look
 exact PySem.W.method_fn X J (PySem.W.plainGet_of hg).1 (PySem.W.plainGet_of hg).2 hf (beq_iff_eq.mp ht) (by show (PySem.W.lookIn name od).map (·.isSome)=some false;rw [hl,hv];rfl) h
theorem j5q {ns:List Str} {Q:Unit->Shared->Prop} (X:K.In s.heap) (I:ObjM s.heap x dx C mA)
 (hs:PySem.W.findIn K (.ref C) "__setattr__" = some (some (.builtin "object.__setattr__"))) (hp:PySem.W.plainOver K C=true) (ht:PySem.W.takerIn K C name=some none) (hh:PySem.W.hasDictIn K C=true)
 (hw:PySem.Within mA ns) (hsz:ns.length<=sizeLine)
 (h:∀h',ObjM h' x dx C (λy=>if y=name then some v else mA y)->Heap.SameBut dx s.heap h'->Q () { s with heap:=h',toks:=s.toks+2 }) :
 wpAny (model prog w) A (setAttr (.ref x) name v) Q E s:=by
 obtain ⟨od,J,hl⟩:=I.look
 refine PySem.W.set_plain X J hs (PySem.W.osa_open (s:={ s with toks:=s.toks+1 }) (r:=none) X J hp ht λb=>?_)
 obtain ⟨cd,hc,hd'⟩:=PySem.W.any_some hh
 have hx:s.heap.get? x=some ⟨.ref C,some dx,.plain,#[]⟩:=I.obj
 refine wpAny_bind (wpAny_pure (wpAny_bind (wpAny_bind (wpAny_loadPart hx (wpAny_bind (PySem.W.Looks.here (s:={ s with toks:=s.toks+1 }) (PySem.W.looks_clsIn X hc) ?_))))))
 rw [hd']
 refine wpAny_pure (a:=some dx) (wpAny_bind (wpAny_pure (wpAny_bind ?_)))
 refine wpAny_nsSet1 (s:={ s with toks:=s.toks+1 }) I.ns λh' hn2 hs2=>?_
 obtain ⟨oD,esD,epD,hoD,hdD,hcD⟩:=hn2.count (PySem.Within.cons name v hw)
 refine wpAny_bind (wpAny_lookBehind hoD (by rw [hdD];exact pastItsLine_dict (Nat.le_trans hcD (by rw [List.length_cons];omega))) ?_)
 exact wpAny_pure (h _ ⟨(hs2.2 _ (Ne.symm I.ne)).trans I.obj,hn2,I.ne⟩ hs2)
theorem j06 {R:Result->Shared->Prop} {vs:List Value} {kw:List (Str×Value)} (X:K.In s.heap) (hm:PySem.W.makesIn K C=true)
 (hi:PySem.W.findIn K (.ref C) "__init__" = some (some (.ref f))) (hf:PySem.W.typeIn K (.ref f)=some (.type "function"))
 (h:codeAny (model prog w) (A.under (.builtin "type.__call__" ⟨.ref C::vs,kw⟩)) (.call (.ref f) ⟨.ref (s.heap.objs.size+1)::vs,kw⟩) (PySem.W.InitBack (s.heap.objs.size+1) R)
  { s with heap:=(s.heap.push PySem.W.emptyDict).push (PySem.W.instObj C s.heap.objs.size) }) :
 codeAny (model prog w) A (.call (.ref C) ⟨vs,kw⟩) R s:=by
 obtain ⟨hh,g,d,t,os⟩:=s
 exact PySem.W.make_core (PySem.W.makes_of X hm) (PySem.W.looks_findIn X hi) (λself=>PySem.W.bind_fn X self hf) (.inl rfl) h
end
noncomputable def q32 (f:Str) (v:V):List (Str×V)->List (Str×V)
 | []=>[(f,v)]
 | (g,x)::r=>if g=f then (g,v)::r else (g,x)::q32 f v r
theorem q24 (f g:Str) (v:V):∀fs:List (Str×V),(q32 f v fs).lookup g=if g=f then some v else fs.lookup g
 | []=>by
  show List.lookup g [(f,v)]=_
  by_cases h:g=f
  ·have hb:(g==f)=true:=beq_iff_eq.mpr h
   simp only [List.lookup,hb,if_pos h]
  ·have hb:(g==f)=false:=beq_eq_false_iff_ne.mpr h
   simp only [List.lookup,hb,if_neg h]
 | (k,x)::r=>by
  have ih:=q24 f g v r
  rw [show q32 f v ((k,x)::r)=(if k=f then (k,v)::r else (k,x)::q32 f v r) from rfl]
  by_cases hk:k=f
  ·rw [if_pos hk]
   by_cases h:g=k
   ·have hb:(g==k)=true:=beq_iff_eq.mpr h
    simp only [List.lookup,hb,if_pos (h.trans hk)]
   ·have hb:(g==k)=false:=beq_eq_false_iff_ne.mpr h
    simp only [List.lookup,hb,if_neg (λe:g=f=>h (e.trans hk.symm))]
  ·rw [if_neg hk]
   by_cases h:g=k
   ·have hb:(g==k)=true:=beq_iff_eq.mpr h
    simp only [List.lookup,hb,if_neg (λe:g=f=>hk (h.symm.trans e))]
   ·have hb:(g==k)=false:=beq_eq_false_iff_ne.mpr h
    simp only [List.lookup,hb]
    exact ih
theorem q26 (f:Str) (v:V):∀fs:List (Str×V),f∈(q32 f v fs).map (·.1)/\∀g,g∈fs.map (·.1)->g∈(q32 f v fs).map (·.1)
 | []=>⟨by simp [q32],λg h=>by simp at h⟩
 | (k,x)::r=>by
  obtain ⟨i1,i2⟩:=q26 f v r
  rw [show q32 f v ((k,x)::r)=(if k=f then (k,v)::r else (k,x)::q32 f v r) from rfl]
  by_cases hk:k=f
  ·rw [if_pos hk]
   subst hk
   exact ⟨by simp,λg h=>by simpa using h⟩
  ·rw [if_neg hk]
   refine ⟨?_,λg h=>?_⟩
   ·rw [List.map_cons]
    exact List.mem_cons_of_mem _ i1
   ·rw [List.map_cons] at h ⊢
    rcases List.mem_cons.mp h with e | e
    ·exact List.mem_cons.mpr (.inl e)
    ·exact List.mem_cons_of_mem _ (i2 g e)
theorem q21 (f:Str) (v:V):∀fs:List (Str×V),(q32 f v fs).length<=fs.length+1
 | []=>by simp [q32]
 | (k,x)::r=>by
  have ih:=q21 f v r
  rw [show q32 f v ((k,x)::r)=(if k=f then (k,v)::r else (k,x)::q32 f v r) from rfl]
  by_cases hk:k=f
  ·rw [if_pos hk,List.length_cons,List.length_cons];omega
  ·rw [if_neg hk,List.length_cons,List.length_cons];omega
theorem RelO.some_of {v:V} {o:Option Value} (r:RelO (some v) o):∃u,o=some u/\RelV v u:=by
 cases o with
 | none=>exact (show False from r).elim
 | some u=>exact ⟨u,rfl,r⟩
theorem RelO.none_of {o:Option Value} (r:RelO none o):o=none:=by
 cases o with
 | none=>rfl
 | some u=>exact (show False from r).elim
theorem q83 {v:V} {u:Value} (r:RelV v u):PySem.W.handedIn u=true:=by
 cases v with
 | non=>cases (show u=Value.none from r);rfl
 | bl b=>cases (show u=Value.bool b from r);rfl
 | int i=>obtain ⟨t,e⟩:=(show ∃t,u=Value.int i t from r);cases e;rfl
 | str x=>obtain ⟨t,e⟩:=(show ∃t,u=Value.str x t from r);cases e;rfl
 | byt b=>obtain ⟨t,e⟩:=(show ∃t,u=Value.bytes b t from r);cases e;rfl
 | flt b=>obtain ⟨t,e⟩:=(show ∃t,u=Value.float b t from r);cases e;rfl
 | ref a=>cases (show u=Value.ref a from r);rfl
 | ty n=>cases (show u=Value.type n from r);rfl
section
variable {P:Program} {w:World} {H H':Hp} {h h':Heap} {a C dx:Addr} {fs fs':List (Str×V)}
theorem q3E (hok:HOk P w H h) (e:H a=some (.ins C dx fs)):∃mA,ObjM h a dx C mA/\(∀f,RelO (fs.lookup f) (mA f))/\PySem.Within mA (fs.map (·.1))/\fs.length<=1000/\H dx=some (.own a):=by
 obtain ⟨d,z,ne,ob,mA,n,r,q⟩:=(show ObjOk P w H h a (.ins C dx fs) from hok a _ e)
 exact ⟨mA,⟨ob,n,ne⟩,r,q,z,d⟩
end
structure Cls (K:PySem.W.Frag) (C:Addr):Prop where
 pg:PySem.W.plainGet K C Str.empty=true
 hd:PySem.W.hasDictIn K C=true
 po:PySem.W.plainOver K C=true
 sa:PySem.W.findIn K (.ref C) "__setattr__" = some (some (.builtin "object.__setattr__"))
theorem Cls.get {K:PySem.W.Frag} {C:Addr} (c:Cls K C) (f:Str):PySem.W.plainGet K C f=true:=c.pg
noncomputable def NoAttr (K:PySem.W.Frag) (C:Addr) (f:Str):Prop:=PySem.W.findIn K (.ref C) f=some none
theorem NoAttr.taker {K:PySem.W.Frag} {C:Addr} {f:Str} (n:NoAttr K C f):PySem.W.takerIn K C f=some none:=by
 unfold PySem.W.takerIn
 rw [show PySem.W.findIn K (.ref C) f=some none from n]
 rfl
structure Meth (K:PySem.W.Frag) (C:Addr) (m:Str) (f:Addr):Prop where
 at_:PySem.W.findIn K (.ref C) m=some (some (.ref f))
 fn:PySem.W.isFn K (.ref f)=true
 kp:PySem.W.keepIn K (.ref f)=true
section
variable {X:Cx} {pins:List (Addr×Obj)} {σ:St} {H:Hp} {s:Shared} {a C dx:Addr} {fs:List (Str×V)} {f:Str} {v:V} {A:Around} {E:Value->Shared->Prop}
theorem q7r {b:Bool} {Q:Value->Shared->Prop} (I:Inv X pins σ H s) (e:H a=some (.ins C dx fs)) (c:Cls X.K C) (n:NoAttr X.K C f) (l:fs.lookup f=some v)
 (h:∀u s',Inv X pins σ H s'->RelV v u->Q u s'):wpAny (model X.prog X.w) A (getAttr (.ref a) f b) Q E s:=by
 obtain ⟨mA,O,r,_,_,_⟩:=q3E I.hok e
 obtain ⟨u,hu,ru⟩:=RelO.some_of (v:=v) (o:=mA f) (by rw [<-l];exact r f)
 exact j40 I.kIn O (c.get f) c.hd n hu (q83 ru) (h u _ (I.tok _) ru)
theorem q3z {m:Str} {g:Addr} {pl:Sem Bool} {Q:Value×List Value->Shared->Prop} (I:Inv X pins σ H s) (e:H a=some (.ins C dx fs)) (c:Cls X.K C) (k:Meth X.K C m g) (l:fs.lookup m=none)
 (h:Q (.ref g,[.ref a]) s):wpAny (model X.prog X.w) A (getMethod (.ref a) m pl) Q E s:=by
 obtain ⟨mA,O,r,_,_,_⟩:=q3E I.hok e
 have hn:mA m=none:=RelO.none_of (by rw [<-l];exact r m)
 exact j1f I.kIn O (c.get m) k.at_ k.fn hn h
theorem q7o {y:V} {u:Value} {Q:Unit->Shared->Prop} (I:Inv X pins σ H s) (e:H a=some (.ins C dx fs)) (c:Cls X.K C) (n:NoAttr X.K C f) (hl:fs.length < 1000) (ry:RelV y u)
 (h:∀s',Inv X pins σ (upd H a (.ins C dx (q32 f y fs))) s'->Q () s'):wpAny (model X.prog X.w) A (setAttr (.ref a) f u) Q E s:=by
 obtain ⟨mA,O,r,wi,_,ho⟩:=q3E I.hok e
 have hz:(fs.map (·.1)).length<=sizeLine:=by rw [List.length_map,sizeLine_eq];omega
 refine j5q I.kIn O c.sa c.po n.taker c.hd wi hz λh' O' sb=>h _ ?_
 have hd:∃o,h'.get? dx=some o:=let ⟨o,_,_,e',_⟩:=O'.ns;⟨o,e'⟩
 refine I.write (x:=a) (e:=dx) (by rw [e];exact True.intro) (.inr ho) (λb q hb z=>(sb.2 b hb).trans z) hd ?_
 refine ⟨by rw [q0j O.ne];exact ho,?_,O.ne,O'.obj,_,O'.ns,λg=>?_,λg hg=>?_⟩
 ·have:=q21 f y fs;omega
 ·show RelO ((q32 f y fs).lookup g) (if g=f then some u else mA g)
  rw [q24]
  by_cases q:g=f
  ·rw [if_pos q,if_pos q];exact ry
  ·rw [if_neg q,if_neg q];exact r g
 ·by_cases q:g=f
  ·rw [q];exact (q26 f y fs).1
  ·refine (q26 f y fs).2 g (wi g λz=>hg ?_)
   show (if g=f then some u else mA g)=none
   rw [if_neg q];exact z
theorem Inv.made (I:Inv X pins σ H s):Inv X pins σ (upd (upd H s.heap.objs.size (.own (s.heap.objs.size+1))) (s.heap.objs.size+1) (.ins C s.heap.objs.size []))
 { s with heap:=(s.heap.push PySem.W.emptyDict).push (PySem.W.instObj C s.heap.objs.size) }:=by
 have e1:(s.heap.push PySem.W.emptyDict).get? s.heap.objs.size=some PySem.W.emptyDict:=Heap.get?_push_size s.heap rfl
 have e2:((s.heap.push PySem.W.emptyDict).push (PySem.W.instObj C s.heap.objs.size)).get? (s.heap.objs.size+1)=some (PySem.W.instObj C s.heap.objs.size):=by
  have:=Heap.get?_push_size (s.heap.push PySem.W.emptyDict) (o:=PySem.W.instObj C s.heap.objs.size) rfl
  rwa [Heap.size_push] at this
 have e3:(s.heap.push PySem.W.emptyDict).Ns s.heap.objs.size (λ_=>none):=⟨PySem.W.emptyDict,#[],_,e1,rfl,(λe he=>absurd he (by simp)),λ_=>rfl⟩
 have I1:=I.laid (a:=s.heap.objs.size) (o:=.own (s.heap.objs.size+1)) (h':=s.heap.push PySem.W.emptyDict) (t':=s.toks) (λb u q=>Heap.get?_push_of_some _ q) (Nat.le_refl _) ⟨_,e1⟩
 refine I1.laid (a:=s.heap.objs.size+1) (o:=.ins C s.heap.objs.size []) (t':=s.toks) (λb u q=>Heap.get?_push_of_some _ q) (Nat.le_of_eq (Heap.size_push _ _)) ?_
 have ne:s.heap.objs.size≠s.heap.objs.size+1:=Nat.ne_of_lt (Nat.lt_succ_self _)
 refine ⟨by rw [q0j ne,q0w],Nat.zero_le _,ne,e2,λ_=>none,(Heap.Ns1.of_empty e3).at λo q=>Heap.get?_push_of_some _ q,λ_=>True.intro,λy hy=>absurd rfl hy⟩
theorem j5i {prog:Program} {w:World} {env:Env} {e:Expr} {f:Str} {pos:Pos} {s:Shared} {Q:Value->Shared->Prop} (hb:attributeBase e f env (eval e env)=eval e env)
 (h:wpAny (model prog w) A (eval e env) (λo s₁=>wpAny (model prog w) A (getAttr o f true) Q E s₁) E s):wpAny (model prog w) A (eval (.Attribute e f pos) env) Q E s:=
 Attribute_any_ h (by rw [arm_eval_Attribute,hb])
end
noncomputable def w1Q (K:PySem.W.Frag) (ta:TE) (f:Str):TE:=fun σ H Q=>ta σ H λx H1=>∃a C dx fs v,x=.ref a/\H1 a=some (.ins C dx fs)/\Cls K C/\NoAttr K C f/\fs.lookup f=some v/\Q v H1
noncomputable def w1H (K:PySem.W.Frag) (ta tv:TE) (f:Str):TS:=λD σ H=>tv σ H λy H1=>ta σ H1 λx H2=>∃a C dx fs,x=.ref a/\H2 a=some (.ins C dx fs)/\Cls K C/\NoAttr K C f/\fs.length < 1000 /\
 D.nx σ (upd H2 a (.ins C dx (q32 f y fs)))
section
variable {X:Cx} {o e value:Expr} {f:Str} {pos pos' tpos:Pos} {ta tv:TE}
theorem j6A (he:PE X e ta) (hb:attributeBase e f X.env (eval e X.env)=eval e X.env):PE X (.Attribute e f pos) (w1Q X.K ta f):=by
 intro pins s σ H Q I h
 refine j5i hb (thn (he pins s σ H _ I h) λu s1 ⟨x,H1,I1,rx,a,C,dx,fs,v,ex,ea,c,n,l,q⟩=>?_)
 subst ex
 obtain rfl:u=Value.ref a:=rx
 exact q7r I1 ea c n l λu' s2 I2 ru=>⟨v,H1,I2,ru,q⟩
theorem j6l (ha:PE X o ta) (hv:PE X value tv) (hs:swapsWith value (some (.Attribute o f pos')) pos.line X.env=pure false):PS X (.Assign [.Attribute o f pos'] value pos) (w1H X.K ta tv f):=by
 intro pins s σ H D I h
 refine plainObj_wpAny_Assign_Attribute (thn (hv pins s σ H _ I h) λu s1 ⟨y,H1,I1,ry,q⟩=>thn (ha pins s1 σ H1 _ I1 q) λov s2 ⟨x,H2,I2,rx,a,C,dx,fs,ex,ea,c,n,l,q2⟩=>?_) hs
 subst ex
 obtain rfl:ov=Value.ref a:=rx
 exact q7o I2 ea c n l ry λs3 I3=>⟨σ,_,I3,q2⟩
end
section
variable {X:Cx} {pins:List (Addr×Obj)} {σ:St} {H:Hp} {s:Shared} {A:Around} {E:Value->Shared->Prop} {Q:Value->Shared->Prop} {c:Value} {b:Bool}
inductive q7A (K:PySem.W.Frag) (H:Hp):V->Value->Prop where
 | non:q7A K H .non (.type "NoneType")
 | bl (x:Bool):q7A K H (.bl x) (.type "bool")
 | int (i:Int):q7A K H (.int i) (.type "int")
 | str (x:Str):q7A K H (.str x) (.type "str")
 | flt (x:UInt64):q7A K H (.flt x) (.type "float")
 | lst {a:Addr} {xs:List V} (e:H a=some (.lst xs)):q7A K H (.ref a) (.type "list")
 | frz {a:Addr} {o:Obj} {xs:List V} (e:H a=some (.frz o (.lst xs))):q7A K H (.ref a) (.type "list")
 | tup {a:Addr} {xs:List V} (e:H a=some (.tup xs)):q7A K H (.ref a) (.type "tuple")
 | dK {a:Addr} {kvs:List (Key×V)} (e:H a=some (.dK kvs)):q7A K H (.ref a) (.type "dict")
 | dT {a:Addr} {kvs:List (List Key×V)} (e:H a=some (.dT kvs)):q7A K H (.ref a) (.type "dict")
 | ins {a C dx:Addr} {fs:List (Str×V)} (e:H a=some (.ins C dx fs)) (cl:Cls K C) (ha:PySem.W.findIn K (.ref C) "__class__" = some (some (.builtin "object.__class__")))
  (hn:PySem.W.specialIn K (.builtin "object.__class__") "__get__" = some (some (.builtin "getset_descriptor.__get__"))) (htk:PySem.W.takesIn K (.builtin "object.__class__")=some true)
  (hm:PySem.W.mroIn K C (.type "object")=some true):q7A K H (.ref a) (.ref C)
theorem q15 {x:V} {u t:Value} (I:Inv X pins σ H s) (rx:RelV x u) (ty:q7A X.K H x t) (e:PySem.W.kitOne X.K t c=some b) (h:∀tk,Q (.bool b) { s with toks:=tk }) :
 wpAny (model X.prog X.w) A (call (.builtin "isinstance") [u,c]) Q E s:=by
 cases ty with
 | non=>cases (show u=Value.none from rx);exact PySem.W.kia_one PySem.W.kitx_none I.kIn True.intro e (λz=>nomatch z) h
 | bl y=>cases (show u=Value.bool y from rx);exact PySem.W.kia_one PySem.W.kitx_bool I.kIn True.intro e (λz=>nomatch z) h
 | int i=>obtain ⟨t,q⟩:=(show ∃t,u=Value.int i t from rx);cases q;exact PySem.W.kia_one PySem.W.kitx_int I.kIn True.intro e (λz=>nomatch z) h
 | str y=>obtain ⟨t,q⟩:=(show ∃t,u=Value.str y t from rx);cases q;exact PySem.W.kia_one PySem.W.kitx_str I.kIn True.intro e (λz=>nomatch z) h
 | flt y=>obtain ⟨t,q⟩:=(show ∃t,u=Value.float y t from rx);cases q;exact PySem.W.kia_one PySem.W.kitx_float I.kIn True.intro e (λz=>nomatch z) h
 | @lst a xs ea=>
  cases (show u=Value.ref a from rx)
  obtain ⟨_,_,n,_,h1⟩:=(show ObjOk X.prog X.w H s.heap a (.lst xs) from I.hok a _ ea)
  exact PySem.W.kia_one PySem.W.kitx_list I.kIn ⟨_,h1,rfl⟩ e (λz=>nomatch z) h
 | @frz a ob xs ea=>
  cases (show u=Value.ref a from rx)
  obtain ⟨_,_,_,n,_,h1⟩:=(show ObjOk X.prog X.w H s.heap a (.frz ob (.lst xs)) from I.hok a _ ea)
  exact PySem.W.kia_one PySem.W.kitx_list I.kIn ⟨_,h1,rfl⟩ e (λz=>nomatch z) h
 | @tup a xs ea=>
  cases (show u=Value.ref a from rx)
  obtain ⟨_,_,_,p⟩:=(show ObjOk X.prog X.w H s.heap a (.tup xs) from I.hok a _ ea)
  obtain ⟨o,h1,h2,_⟩:=p
  exact PySem.W.kia_one PySem.W.kitx_tuple I.kIn ⟨o,h1,h2⟩ e (λz=>nomatch z) h
 | @dK a kvs ea=>
  cases (show u=Value.ref a from rx)
  obtain ⟨_,_,vs,_,p⟩:=(show ObjOk X.prog X.w H s.heap a (.dK kvs) from I.hok a _ ea)
  obtain ⟨o,es,ep,h1,h2,_⟩:=p
  exact PySem.W.kia_one PySem.W.kitx_dict I.kIn ⟨o,h1,h2.1⟩ e (λz=>nomatch z) h
 | @dT a kvs ea=>
  cases (show u=Value.ref a from rx)
  obtain ⟨_,_,xs,_,o,es,ep,h1,h2,_⟩:=(show ObjOk X.prog X.w H s.heap a (.dT kvs) from I.hok a _ ea)
  exact PySem.W.kia_one PySem.W.kitx_dict I.kIn ⟨o,h1,h2.1⟩ e (λz=>nomatch z) h
 | @ins a C dx fs ea cl ha hn htk hm=>
  cases (show u=Value.ref a from rx)
  obtain ⟨mA,O,_⟩:=q3E I.hok ea
  obtain ⟨od,J,_⟩:=O.look
  exact PySem.W.kia_one (PySem.W.kitx_own (cl.get _) cl.hd ha hn htk hm) I.kIn J e (λz=>nomatch z) h
end
structure Room (k:Nat) (A:Around):Prop where
 hd:A.handled=none
 dp:A.depth+3*k+5 < recursionLimit
 un:A.units+16*k+200 < cLine
 gd:A.guards=some []
theorem Room.mono {j k:Nat} {A:Around} (r:Room k A) (h:j<=k):Room j A:=⟨r.hd,by have:=r.dp;omega,by have:=r.un;omega,r.gd⟩
theorem Room.deeper {k:Nat} {A:Around} (r:Room (k+1) A) (env:Env):Room k (A.deeper env):=
 ⟨r.hd,by have:=r.dp;show A.depth+1+3*k+5 < _;omega,by have:=r.un;show A.units+3+16*k+200 < _;omega,r.gd⟩
theorem q67 {A:Around} {C:Addr} {us:List Value} {kw:List (Str×Value)}:(A.under (.builtin "type.__call__" ⟨.ref C::us,kw⟩)).depth=A.depth+1:=by
 first | rfl | simp [Around.under,Code.weight,Code.isCreation,Code.isGuard,Code.isCaller,Code.frames,Code.isFrame,guardIds]
theorem q7m {A:Around} {C:Addr} {us:List Value} {kw:List (Str×Value)}:(A.under (.builtin "type.__call__" ⟨.ref C::us,kw⟩)).units=A.units+1:=by
 first | rfl | simp [Around.under,Code.cUnits,Code.frames,Code.isFrame]
theorem q48 {A:Around} {C:Addr} {us:List Value} {kw:List (Str×Value)}:(A.under (.builtin "type.__call__" ⟨.ref C::us,kw⟩)).guards=A.guards:=by
 first | rfl | simp [Around.under,Code.guards,Code.isGuard,guardIds,pushGuards]
theorem Room.make {k:Nat} {A:Around} (r:Room (k+1) A) (C:Addr) (us:List Value) (kw:List (Str×Value)):Room k (A.under (.builtin "type.__call__" ⟨.ref C::us,kw⟩)):=
 ⟨r.hd,by have:=r.dp;rw [q67];omega,by have:=r.un;rw [q7m];omega,by rw [q48];exact r.gd⟩
theorem Room.depth {k:Nat} {A:Around} (r:Room k A):A.depth < recursionLimit:=by have:=r.dp;omega
theorem Room.units0 {k:Nat} {A:Around} (r:Room k A):A.units < cLine:=by have:=r.un;omega
noncomputable def w1V:TA:=λ_ H Q=>Q [] H
noncomputable def w0l (ta:TE) (tr:TA):TA:=fun σ H Q=>ta σ H λx H1=>tr σ H1 λxs H2=>Q (x::xs) H2
section
variable {X:Cx} {e:Expr} {es:List Expr} {te:TE} {t:TA} {pos:Pos}
theorem q1p:PA X [] w1V:=λ_ _ _ _ H Q I h=>Calls.spliced_nil ⟨[],H,I,.nil,h⟩
theorem q0O (ha:PE X e te) (hr:PA X es t) (hs:starEach (e::es) X.env=(false,eval e X.env)::starEach es X.env:=by rfl):PA X (e::es) (w0l te t):=by
 intro pos pins s σ H Q I h
 rw [hs]
 show wpAny _ _ (spliced ((false,eval e X.env)::backTo pos (starEach es X.env))) _ _ s
 refine Calls.spliced_cons (thn (ha pins s σ H _ I h) λu s1 ⟨x,H1,I1,r1,q1⟩=>?_)
 exact thn (hr pos pins s1 σ H1 _ I1 q1) λus s2 ⟨xs,H2,I2,r2,q2⟩=>⟨x::xs,H2,I2,.cons r1 r2,q2⟩
noncomputable def w1A (t:TA):TE:=fun σ H Q=>t σ H λxs H1=>xs.length<=sizeLine/\∀p,H1 p=none->Q (.ref p) (upd H1 p (.tup xs))
noncomputable def w1G (t:TA):TE:=fun σ H Q=>t σ H λxs H1=>xs.length<=sizeLine/\∀p,H1 p=none->Q (.ref p) (upd H1 p (.lst xs))
theorem j7J {x1} (h:PA X es t):PE X (.Tuple es x1 pos) (w1A t):=by
 intro pins s σ H Q I hq
 refine wpAny_Tuple_spliced (thn (h pos pins s σ H _ I hq) λus s1 ⟨xs,H1,I1,r,z,q⟩=>⟨by rw [<-r.length];exact z,?_⟩)
 have hf:H1 s1.heap.objs.size=none:=I1.hok.fresh (Nat.le_refl _)
 refine ⟨.ref s1.heap.objs.size,upd H1 s1.heap.objs.size (.tup xs),I1.laid (t':=s1.toks) (λb u e=>Heap.get?_push_of_some _ e) (Nat.le_refl _) ?_,rfl,q _ hf⟩
 exact ⟨z,us,r,⟨_,Heap.get?_push_size _ rfl,rfl,_,rfl⟩⟩
theorem j6y (h:PA X es t):PE X (.List es pos) (w1G t):=by
 intro pins s σ H Q I hq
 refine wpAny_List_spliced (thn (h pos pins s σ H _ I hq) λus s1 ⟨xs,H1,I1,r,z,q⟩=>⟨by rw [<-r.length];exact z,?_⟩)
 have hf:H1 s1.heap.objs.size=none:=I1.hok.fresh (Nat.le_refl _)
 refine ⟨.ref s1.heap.objs.size,upd H1 s1.heap.objs.size (.lst xs),I1.laid (t':=s1.toks) (λb u e=>Heap.get?_push_of_some _ e) (Nat.le_refl _) ?_,rfl,q _ hf⟩
 exact ⟨z,us,0,r,Heap.get?_push_size _ rfl⟩
end
noncomputable abbrev Sp:=List V->Hp->VK->XK->Prop
noncomputable abbrev CXT:=List Env->Hp->Shared->XK->Value->Shared->Prop
structure Env0 (P:Program) (w:World) (K:PySem.W.Frag) (mg:Str->Option Value) (base:Heap) (A:Around) (outer:List Env) (s:Shared) (H:Hp):Prop where
 frames:A.frames=some outer
 mod:Mod K mg base
 bs:∀b o,base.get? b=some o->s.heap.get? b=some o/\H b=none
 bsz:base.objs.size<=s.heap.objs.size
 funs:s.heap.FunFrames base outer
 frf:∀b∈frs outer,H b=none
 hok:HOk P w H s.heap
 bare:AllBare s.gens
noncomputable def CE (outer:List Env) (P:Program) (w:World) (H:Hp) (s:Shared) (Q:VK) (u:Value) (s':Shared):Prop:=
 ∃v H',s'.os=s.os/\AllBare s'.gens/\Un (frs outer) [] H H' s.heap s'.heap/\HOk P w H' s'.heap/\RelV v u/\Q v H'
noncomputable def CR (CX:CXT) (outer:List Env) (P:Program) (w:World) (H:Hp) (s:Shared) (Q:VK) (E:XK) (r:Result) (s':Shared):Prop:=
 match r with
 | .ok (.ret u)=>CE outer P w H s Q u s'
 | .ok _=>False
 | .error e=>CX outer H s E e s'
structure q1f (P:Program) (w:World) (K:PySem.W.Frag) (mg:Str->Option Value) (base:Heap) (CX:CXT) (k:Nat) (f:Addr) (fd:FuncData) (ps:List Str) (sp:Sp):Prop where
 len:∀vs H Q E,sp vs H Q E->vs.length=ps.length
 run:∀(A:Around) (outer:List Env) (s:Shared) (H:Hp) (args:Args) (us:List Value) (vs:List V) (Q:VK) (E:XK),Room k A->Env0 P w K mg base A outer s H->BindsTo s fd args (ps.zip us)->Vals vs us->sp vs H Q E ->
  codeAny (model P w) A (.call (.ref f) args) (CR CX outer P w H s Q E) s
theorem Env0.make {P:Program} {w:World} {K:PySem.W.Frag} {mg:Str->Option Value} {base:Heap} {A:Around} {outer:List Env} {s:Shared} {H:Hp} (e:Env0 P w K mg base A outer s H) (C:Addr) (us:List Value) (kw:List (Str×Value)) :
 Env0 P w K mg base (A.under (.builtin "type.__call__" ⟨.ref C::us,kw⟩)) outer s H:=⟨by first | exact e.frames | (simpa [Around.under,Code.envs,Code.isFrame,pushEnvs] using e.frames),e.mod,e.bs,e.bsz,e.funs,e.frf,e.hok,e.bare⟩
section
variable {X:Cx} {pins:List (Addr×Obj)} {σ:St} {H:Hp} {s s':Shared}
theorem Inv.env0 (I:Inv X pins σ H s):Env0 X.prog X.w X.K X.mg X.base X.A X.stack s H:=
 ⟨I.ok.frames,I.ok.mod,I.bs,Nat.le_trans I.ok.bsz I.sz,I.stack,I.stkFree,I.hok,I.bare⟩
theorem Inv.after {Q:VK} {u:Value} (I:Inv X pins σ H s) (h:CE X.stack X.prog X.w H s Q u s'):EP X pins σ Q u s':=by
 obtain ⟨v,H',os,bare,un,hok,r,q⟩:=h
 obtain ⟨hh,g,d,t,os'⟩:=s'
 obtain rfl:os'=s.os:=os
 exact ⟨v,H',I.call (h':=hh) (g':=g) (d':=d) (t':=t) (ch:=[]) un hok bare (λb z=>absurd z (by simp)),r,q⟩
end
noncomputable def Binds (K:PySem.W.Frag) (fd:FuncData) (ps:List Str) (ds:List Value):Prop:=
 ∀(s:Shared) (us:List Value),K.In s.heap->(us++ds).length=ps.length->BindsTo s fd ⟨us,[]⟩ (ps.zip (us++ds))
theorem Binds.all {K:PySem.W.Frag} {fd:FuncData} {ps:List Str} (h:∀us:List Value,us.length=ps.length->bindArgs fd ⟨us,[]⟩=pure (ps.zip us)):Binds K fd ps []:=λs us _ hl=>by
 rw [List.append_nil] at hl ⊢
 exact .of_eq (h us hl)
section
variable {X:Cx} {CX:CXT} {k:Nat} {f C:Addr} {fd:FuncData} {ps:List Str} {sp:Sp} {dvs:List V} {ds:List Value} {E:XK} {x m:Str} {p pos apos:Pos} {e o:Expr} {es:List Expr} {ta:TE} {t:TA}
structure Mk (K:PySem.W.Frag) (C f:Addr):Prop where
 makes:PySem.W.makesIn K C=true
 init:PySem.W.findIn K (.ref C) "__init__" = some (some (.ref f))
 fn:PySem.W.isFn K (.ref f)=true
 kp:PySem.W.keepIn K (.ref C)=true
end
section
variable {X:Cx} {CX:CXT} {k:Nat} {f C:Addr} {fd:FuncData} {ps ks:List Str} {sp:Sp} {E:XK} {x m:Str} {p pos apos kpos:Pos} {e o:Expr} {es:List Expr} {kws:List Keyword} {te ta:TE} {t tk:TA} {nm:Option Str}
variable {g:List Value->List Value->List Value} {gV:List V->List V->List V}
end
structure q0q (N P:List Str) (sc:Scope):Prop where
 kind:sc.kind=.function
 co:sc.isCoroutine=false
 gen:sc.isGenerator=false
 nd:N.Nodup
 pre:N.take P.length=P
 par:∀x∈P,sc.names.lookup x=some .local∨sc.names.lookup x=some .cell
 nofree:∀y∈sc.names,y.2≠.free
theorem q4z {kindOf:Str->Option NameKind} {x:Str}:∀{binds:List (Str×Value)} {m:Str->Option Value},(∀v,(x,v)∉binds)->bindL kindOf binds m x=m x
 | [],_,_=>rfl
 | (n,v)::r,m,h=>by
  unfold bindL
  rw [q4z λw hw=>h w (List.mem_cons_of_mem _ hw)]
  split
  ·have:x≠n:=by rintro rfl;exact h v List.mem_cons_self
   simp [this]
  ·rfl
theorem q4m {kindOf:Str->Option NameKind} {x:Str}:∀{binds:List (Str×Value)} {m:Str->Option Value},(∀v,(x,v)∉binds)->bindC kindOf binds m x=m x
 | [],_,_=>rfl
 | (n,v)::r,m,h=>by
  unfold bindC
  rw [q4m λw hw=>h w (List.mem_cons_of_mem _ hw)]
  split
  ·rfl
  ·have:x≠n:=by rintro rfl;exact h v List.mem_cons_self
   simp [this]
theorem q4k {kindOf:Str->Option NameKind} {x:Str} {v:Value}:∀{P:List Str} {vs:List Value} {i:Nat} {m:Str->Option Value},P.Nodup->P[i]?=some x->vs[i]?=some v->kindOf x=some .local ->
 bindL kindOf (P.zip vs) m x=some v
 | [],_,_,_,_,h,_,_=>by simp at h
 | _::_,[],_,_,_,_,h,_=>by simp at h
 | p::P,w::vs,0,m,nd,h1,h2,hk=>by
  simp at h1 h2;subst h1;subst h2
  show bindL kindOf ((p,w)::P.zip vs) m p=_
  unfold bindL
  rw [q4z λv hv=>(List.nodup_cons.mp nd).1 (List.of_mem_zip hv).1,if_pos hk]
  simp
 | p::P,w::vs,i+1,m,nd,h1,h2,hk=>by
  show bindL kindOf ((p,w)::P.zip vs) m x=_
  unfold bindL
  exact q4k (i:=i) (List.nodup_cons.mp nd).2 (by simpa using h1) (by simpa using h2) hk
theorem q4W {kindOf:Str->Option NameKind} {x:Str} {v:Value}:∀{P:List Str} {vs:List Value} {i:Nat} {m:Str->Option Value},P.Nodup->P[i]?=some x->vs[i]?=some v->kindOf x≠some .local ->
 bindC kindOf (P.zip vs) m x=some v
 | [],_,_,_,_,h,_,_=>by simp at h
 | _::_,[],_,_,_,_,h,_=>by simp at h
 | p::P,w::vs,0,m,nd,h1,h2,hk=>by
  simp at h1 h2;subst h1;subst h2
  show bindC kindOf ((p,w)::P.zip vs) m p=_
  unfold bindC
  rw [q4m λv hv=>(List.nodup_cons.mp nd).1 (List.of_mem_zip hv).1,if_neg hk]
  simp
 | p::P,w::vs,i+1,m,nd,h1,h2,hk=>by
  show bindC kindOf ((p,w)::P.zip vs) m x=_
  unfold bindC
  exact q4W (i:=i) (List.nodup_cons.mp nd).2 (by simpa using h1) (by simpa using h2) hk
noncomputable def start (N:List Str) (vs:List V):St:=vs.map some++List.replicate (N.length-vs.length) none
noncomputable def j5w (CX:CXT) (P:Program) (w:World) (K:PySem.W.Frag) (mg:Str->Option Value) (base:Heap) (N:List Str) (qual:Str) (scope:Scope) (f:Addr) (cd:Value) (A:Around) (outer:List Env) (s:Shared) (H:Hp) (E:XK):Cx where
 prog:=P
 w:=w
 K:=K
 mg:=mg
 base:=base
 A:=A.deeper (envOfC qual scope s.heap.objs.size f cd)
 N:=N
 s₀:=s
 H₀:=H
 env:=envOfC qual scope s.heap.objs.size f cd
 outer:=outer
 stack:=envOfC qual scope s.heap.objs.size f cd::outer
 ex:=[]
 calm:=true
 fn:=λ_=>true
 pn:=[]
 xe:=λe s'=>wpAny (model P w) (A.deeper (envOfC qual scope s.heap.objs.size f cd)) (leaving (envOfC qual scope s.heap.objs.size f cd) e) (λ_ s''=>CX outer H s E e s'') (λe' s''=>CX outer H s E e' s'') s'
theorem q6K {sc:Scope} {n:Nat} {x:Str} (h:sc.names.lookup x=some .cell):∃c,(cellsFrom n sc.names []).lookup x=some c:=by
 have q:=PySem.W.cellsFrom_some sc.names n [] (.inl h)
 exact Option.isSome_iff_exists.mp q
theorem q8T (ca:Bool) {CX:CXT} {P:Program} {w:World} {K:PySem.W.Frag} {mg:Str->Option Value} {base:Heap} {N ps:List Str} {qual:Str} {scope:Scope} {f:Addr} {cd:Value} {A:Around} {outer:List Env} {s s1:Shared} {H:Hp} {E:XK} {us:List Value} {vs:List V}
 (S:q0q N ps scope) (hd:ca=true->A.handled=none) (e0:Env0 P w K mg base A outer s H) (hl:vs.length=ps.length) (r:Vals vs us)
 (x:InCallC s s.heap.objs.size (bindL (envOfC qual scope s.heap.objs.size f cd).kindOf (ps.zip us) λ_=>none) (cellsFrom (s.heap.objs.size+1) scope.names []) (bindC (envOfC qual scope s.heap.objs.size f cd).kindOf (ps.zip us) λ_=>none) s1) :
 Inv ({ j5w CX P w K mg base N qual scope f cd A outer s H E with calm:=ca }:Cx) [] (start N vs) H s1:=by
 have hpl:ps.length<=N.length:=by have:=congrArg List.length S.pre;rw [List.length_take] at this;omega
 obtain ⟨h1,tk,rfl,hk⟩:=x.done
 have noA:∀b:Addr,b∉({ j5w CX P w K mg base N qual scope f cd A outer s H E with calm:=ca }:Cx).ex:=λb z=>absurd (show b∈([]:List Addr) from z) (by simp)
 refine ⟨⟨e0.mod,S.kind,rfl,rfl,Nat.le_refl _,λy z c h1 h2=>?_,λy hy=>?_,λy c _ h=>?_,hd,Around.frames_deeper e0.frames,.inr ⟨rfl,rfl⟩,λb z=>absurd z (noA b),e0.bs,e0.bsz,λb _ _=>noA b,λb z=>absurd z (noA b),e0.funs,e0.frf⟩,
  rfl,e0.bare,Un.kept hk,⟨_,x.toInCall.ns,λi y v h1 h2 h3=>?_⟩,λy c h=>⟨_,x.cell y c h⟩,e0.hok.fresh (Nat.le_refl _),λy c h=>?_,λp hp=>absurd (show p∈([]:List (Addr×Obj)) from hp) (by simp),e0.hok.kept hk,?_⟩
 ·exact name_of_addr x.apart (PySem.mem_of_lookup h1) (PySem.mem_of_lookup h2)
 ·have hy:scope.names.lookup y=some .cell∨scope.names.lookup y=some .free:=hy
  rcases hy with hy | hy
  ·exact q6K hy
  ·exact absurd rfl (S.nofree _ (PySem.mem_of_lookup hy))
 ·exact Nat.le_of_lt (x.above y c (PySem.mem_of_lookup h))
 ·have hi:i < vs.length:=by
   unfold start at h2
   by_cases hi:i < vs.length
   ·exact hi
   ·rw [List.getElem?_append_right (by simpa using hi)] at h2
    rw [List.getElem?_replicate] at h2
    split at h2<;>cases h2
  have ha:vs[i]?=some v:=by
   unfold start at h2
   rw [List.getElem?_append_left (by simpa using hi),List.getElem?_map] at h2
   cases e:vs[i]? with
   | none=>rw [e] at h2;cases h2
   | some a=>rw [e] at h2;cases h2;rfl
  obtain ⟨u,hu,rv⟩:=r.get ha
  have hp:ps[i]?=some y:=by
   rw [<-S.pre,List.getElem?_take_of_lt (by omega)];exact h1
  have ndP:ps.Nodup:=by rw [<-S.pre];exact S.nd.sublist (List.take_sublist _ _)
  refine ⟨u,rv,?_⟩
  rcases S.par y (List.mem_of_getElem? hp) with k | k
  ·exact .inl ⟨k,q4k ndP hp hu k⟩
  ·obtain ⟨c,e⟩:=q6K (n:=s.heap.objs.size+1) k
   refine .inr ⟨.inl k,c,e,?_⟩
   have q:=x.cell y c e
   rw [q4W ndP hp hu (by show scope.names.lookup y≠_;rw [k];decide)] at q
   exact q
 ·exact e0.hok.fresh (Nat.le_of_lt (x.above y c (PySem.mem_of_lookup h)))
 ·unfold start
  show _=N.length
  rw [List.length_append,List.length_map,List.length_replicate]
  omega
theorem j6d {CX:CXT} {P:Program} {w:World} {K:PySem.W.Frag} {mg:Str->Option Value} {base:Heap} {k:Nat} {f:Addr} {name qual:Str} {params:Arguments} {body:List Stmt} {scope:Scope} {dV kV doc pm cdv ct oc:Value} {an od:Option Addr}
 {osl:Array (Option Value)} {N ps:List Str} {sp:Sp} (lk:K.lookup f=some ⟨oc,od,.func (PySem.W.fnOf name qual params body scope dV kV doc pm an cdv ct),osl⟩) (hcd:PySem.W.codeIn K cdv qual=true) (S:q0q N ps scope)
 (len:∀vs H Q E,sp vs H Q E->vs.length=ps.length)
 (hbody:∀(A:Around) (outer:List Env) (s:Shared) (H:Hp) (vs:List V) (Q:VK) (E:XK),Room k (A.deeper (envOfC qual scope s.heap.objs.size f cdv))->sp vs H Q E ->
  ∃t,PSs (j5w CX P w K mg base N qual scope f cdv A outer s H E) body t/\t { nx:=λ_ H'=>Q .non H',rt:=Q } (start N vs) H) :
 q1f P w K mg base CX (k+1) f (PySem.W.fnOf name qual params body scope dV kV doc pm an cdv ct) ps sp:=by
 refine ⟨len,λA outer s H args us vs Q E hr e0 hb r hsp=>?_⟩
 have hl:=len _ _ _ _ hsp
 have KX:K.In s.heap:=e0.mod.kin.keeps λb o e=>(e0.bs b o e).1
 have lim:s.heap.NoLimit:=e0.mod.nolimit.keeps λb o e=>(e0.bs b o e).1
 have hkind:∀y∈ps.zip us,scope.names.lookup y.1=some .local∨(scope.names.lookup y.1=some .cell/\((cellsFrom (s.heap.objs.size+1) scope.names []).lookup y.1).isSome=true):=λ⟨n,v⟩ hy=>by
  rcases S.par n (List.of_mem_zip hy).1 with q | q
  ·exact .inl q
  ·exact .inr ⟨q,PySem.W.cellsFrom_some _ _ _ (.inl q)⟩
 refine codeAny_call_function hr.depth (KX _ _ lk) rfl S.co S.gen rfl (PySem.W.codeRec_of KX hcd) (hb _ _ _ _ ?_)
 refine wpAny_newFunctionEnv_cells S.kind hkind λenv he s1 x=>?_
 subst he
 refine ⟨lim.keeps x.toInCall.keep,codeAny_func ?_⟩
 obtain ⟨t,ht,hq⟩:=hbody A outer s H vs Q E (hr.deeper _) hsp
 have I:Inv (j5w CX P w K mg base N qual scope f cdv A outer s H E) [] (start N vs) H s1:=q8T true S (λ_=>hr.hd) e0 hl r x
 refine wpAny_mono (ht [] s1 (start N vs) H _ I hq) (λfl s' hs=>?_) λe s' hs=>hs
 have fin:∀{σ':St} {H':Hp} {v:V} {u:Value},Inv (j5w CX P w K mg base N qual scope f cdv A outer s H E) [] σ' H' s'->RelV v u->Q v H'->CE outer P w H s Q u s':=
  λ{σ' H' v u} J rv q=>⟨v,H',J.os,J.bare,J.base,J.hok,rv,q⟩
 cases fl with
 | ret u=>
  obtain ⟨v,σ',H',J,rv,q⟩:=hs
  exact fin J rv q
 | next=>
  obtain ⟨σ',H',J,q⟩:=hs
  exact fin (v:=V.non) (u:=Value.none) J rfl q
 | brk=>
  obtain ⟨_,_,_,q⟩:=hs
  exact False.elim q
 | cont=>
  obtain ⟨_,_,_,q⟩:=hs
  exact False.elim q
section
variable {X:Cx} {x:Str} {p pos:Pos} {e:Expr} {es:List Expr} {t:TA} {id T:String} {r:List V->Hp->VK->Prop}
noncomputable def tCB (r:List V->Hp->VK->Prop) (t:TA):TE:=fun σ H Q=>t σ H λvs H1=>r vs H1 Q
theorem q3X (hc:q1V X (.builtin id) r) (hg:Gl X x) (hm:X.mg x=none) (hv:bootBuiltins x=some (.builtin id)) (ha:PA X (e::es) t) (hn:x≠"__name__":=by decide) (hdb:(x==("__debug__" : Str))=false:=by decide)
 (he:starEach (e::es) X.env=(false,eval e X.env)::starEach es X.env:=by rfl) (hpl:(backTo pos (starEach es X.env)).any (·.1)=false:=by rfl):PE X (.Call (.Name x p) (e::es) [] pos) (tCB r t):=by
 intro pins s σ H Q I h
 refine wpAny_Call_Name_kw (q2v I hg hm hv ?_ hn hdb)
 exact PyProof.Rows.callWith_builtin1 (thn (ha pos pins s σ H _ I h) λus s1 ⟨vs,H1,I1,r1,q1⟩=>hc pins s1 σ H1 vs us Q I1 r1 q1) he hpl
theorem q11 (hc:q1V X (.type T) r) (hg:Gl X x) (hm:X.mg x=none) (hv:bootBuiltins x=some (.type T)) (ha:PA X (e::es) t) (hn:x≠"__name__":=by decide) (hdb:(x==("__debug__" : Str))=false:=by decide)
 (he:starEach (e::es) X.env=(false,eval e X.env)::starEach es X.env:=by rfl) (hpl:(backTo pos (starEach es X.env)).any (·.1)=false:=by rfl):PE X (.Call (.Name x p) (e::es) [] pos) (tCB r t):=by
 intro pins s σ H Q I h
 refine wpAny_Call_Name_kw (q2v I hg hm hv ?_ hn hdb)
 exact PyProof.Rows.callWith_type1 (thn (ha pos pins s σ H _ I h) λus s1 ⟨vs,H1,I1,r1,q1⟩=>hc pins s1 σ H1 vs us Q I1 r1 q1) he hpl
end
end L2
namespace HT
open PySem PyProof.Rows
section
open PySem.SeqAt
open PySem.AutoSeq1 (wpAny_loadPart')
open PySem.MeetsSeq PySem.MeetsSeq2 PySem.MeetsSeq3
end
section
variable {prog:Program} {w:World} {A:Around} {E:Value->Shared->Prop} {s:Shared}
end
end HT
namespace L2
open PySem PySem.Spec PyProof.Rows
noncomputable abbrev TO:=St->Hp->(Option Int->Hp->Prop)->Prop
noncomputable def PO (X:Cx) (e:Option Expr) (t:TO):Prop:=
 ∀(pins:List (Addr×Obj)) (s:Shared) (σ:St) (H:Hp) (Q:Option Int->Hp->Prop),Inv X pins σ H s->t σ H Q ->
  wpAny (model X.prog X.w) X.A (evalPart e X.env) (λu s'=>∃o H',Inv X pins σ H' s'/\IsPart u o/\Q o H') X.xe s
noncomputable def j4C:TO:=λ_ H Q=>Q none H
noncomputable def j9l (t:TE):TO:=fun σ H Q=>t σ H λx H1=>∃i,x=.int i/\Q (some i) H1
section
variable {X:Cx} {e:Expr} {te:TE} {lo hi:Option Expr} {tl th:TO} {pos p2:Pos}
theorem j5r:PO X none j4C:=by
 intro pins s σ H Q I h
 rw [evalPart_none]
 exact wpAny_pure ⟨none,H,I,.none,h⟩
theorem j4f (h:PE X e te):PO X (some e) (j9l te):=by
 intro pins s σ H Q I hw
 rw [evalPart_some]
 refine thn (h pins s σ H _ I hw) λu s1 ⟨x,H1,I1,r1,q1⟩=>?_
 obtain ⟨i,rfl,q⟩:=q1
 obtain ⟨t,rfl⟩:=r1
 exact ⟨some i,H1,I1,.int i t,q⟩
noncomputable def SlR (X:Cx) (r:V->Option Int->Option Int->Hp->VK->Prop):Prop:=
 ∀(pins:List (Addr×Obj)) (s:Shared) (σ:St) (H:Hp) (x:V) (v vl vu:Value) (lo hi:Option Int) (sl:Addr) (Q:VK),Inv X pins σ H s->RelV x v->s.heap.IsSliceOf sl vl vu .none->IsPart vl lo->IsPart vu hi->r x lo hi H Q ->
  ∃T id,typeLookup (.type T) "__getitem__" = pure (some (.builtin id))/\s.TypeIs v T/\wpAny (model X.prog X.w) X.A (getItem v (.ref sl)) (EP X pins σ Q) X.xe s
noncomputable def tSl (r:V->Option Int->Option Int->Hp->VK->Prop) (te:TE) (tl th:TO):TE:=fun σ H Q=>te σ H λx H1=>tl σ H1 λl H2=>th σ H2 λu H3=>r x l u H3 Q
theorem j1s {r:V->Option Int->Option Int->Hp->VK->Prop} (hr:SlR X r) (he:PE X e te) (hl:PO X lo tl) (hu:PO X hi th):PE X (.Subscript e (.Slice lo hi none p2) pos) (tSl r te tl th):=by
 intro pins s σ H Q I h
 refine Subscript_ (thn (he pins s σ H _ I h) λv s1 ⟨x,H1,I1,r1,q1⟩=>?_)
 refine wpAny_Slice (thn (hl pins s1 σ H1 _ I1 q1) λvl s2 ⟨l,H2,I2,pl,q2⟩=>thn (hu pins s2 σ H2 _ I2 q2) λvu s3 ⟨u,H3,I3,pu,q3⟩=>?_)
 rw [evalPart_none]
 refine wpAny_pure ?_
 have I4:Inv X pins σ H3 { s3 with heap:=s3.heap.push { cls:=.type "slice",data:=.fields #[vl,vu,.none] } }:=I3.kept (t':=s3.toks) λb ob q=>Heap.get?_push_of_some _ q
 obtain ⟨T,id,hT,ht,hg⟩:=hr pins { s3 with heap:=s3.heap.push { cls:=.type "slice",data:=.fields #[vl,vu,.none] } } σ H3 x v vl vu l u s3.heap.objs.size Q I4 r1 (Heap.IsSliceOf.new ..) pl pu q3
 show wpAny (model X.prog X.w) X.A (subscriptTail e (.Slice lo hi none p2) v (.ref s3.heap.objs.size)) (EP X pins σ Q) X.xe { s3 with heap:=s3.heap.push { cls:=.type "slice",data:=.fields #[vl,vu,.none] } }
 exact tail_any (ops:=[.ref s3.heap.objs.size,v]) ht hT hg (by with_unfolding_all rfl)
end
noncomputable def ixN (n:Nat) (i:Int):Option Nat:=if 0<=i then (if i < n then some i.toNat else none) else if -(n:Int)<=i then some (i+n).toNat else none
noncomputable def atI {α:Type} (xs:List α) (i:Int):Option α:=(ixN xs.length i).bind λj=>xs[j]?
theorem q5B {n:Nat} {i:Int} {j:Nat} (h:ixN n i=some j):seqIndex? i n=some j/\j < n/\-(n:Int)<=i/\i < n:=by
 unfold ixN at h
 by_cases h0:0<=i
 ·rw [if_pos h0] at h
  by_cases h1:i < n
  ·rw [if_pos h1] at h
   have e:i.toNat=j:=Option.some.inj h
   exact ⟨by rw [seqIndex_of h0 h1,e],by omega,by omega,h1⟩
  ·rw [if_neg h1] at h;cases h
 ·rw [if_neg h0] at h
  by_cases h1:-(n:Int)<=i
  ·rw [if_pos h1] at h
   have e:(i+n).toNat=j:=Option.some.inj h
   exact ⟨by rw [seqIndex_neg (by omega) h1,e],by omega,h1,by omega⟩
  ·rw [if_neg h1] at h;cases h
theorem q3V {α:Type} {xs:List α} {i:Int} {v:α} (h:atI xs i=some v):∃j,seqIndex? i xs.length=some j/\xs[j]?=some v/\j < xs.length/\-(xs.length:Int)<=i/\i < xs.length:=by
 unfold atI at h
 cases e:ixN xs.length i with
 | none=>rw [e] at h;cases h
 | some j=>
  rw [e] at h
  obtain ⟨h1,h2,h3,h4⟩:=q5B e
  exact ⟨j,h1,h,h2,h3,h4⟩
theorem q0z {α:Type} {xs:List α} {j:Nat} {v:α} (h:xs[j]?=some v):atI xs (j:Int)=some v:=by
 have hj:j < xs.length:=(List.getElem?_eq_some_iff.mp h).1
 have e:ixN xs.length (j:Int)=some j:=by
  unfold ixN
  rw [if_pos (by omega),if_pos (by omega)];simp
 unfold atI;rw [e];exact h
noncomputable def q5k (b:Expr):Prop:=∀o i,subscripted b false o i=operate [o,i] (getItem o i)
noncomputable def IxR (X:Cx) (r:R2):Prop:=
 ∀(value slice:Expr) (pins:List (Addr×Obj)) (s:Shared) (σ:St) (H:Hp) (x y:V) (v u:Value) (Q:VK),Inv X pins σ H s->RelV x v->RelV y u->r x y H Q ->
  subscripted slice false v u=operate [v,u] (getItem v u)->wpAny (model X.prog X.w) X.A (subscriptTail value slice v u) (EP X pins σ Q) X.xe s
noncomputable def MtR (X:Cx) (id:String) (r:V->List V->Hp->VK->Prop):Prop:=
 ∀(pins:List (Addr×Obj)) (s:Shared) (σ:St) (H:Hp) (x:V) (xs:List V) (v:Value) (us:List Value) (Q:VK),Inv X pins σ H s->RelV x v->Vals xs us->r x xs H Q ->
  wpAny (model X.prog X.w) X.A (call (.builtin id) (v::us)) (EP X pins σ Q) X.xe s
section
variable {X:Cx} {a b:Expr} {ta tb:TE} {pos:Pos}
theorem IxR.or {r r':R2} (h:IxR X r) (h':IxR X r'):IxR X (λx y H Q=>r x y H Q∨r' x y H Q):=by
 intro value slice pins s σ H x y v u Q I rx ry q hs
 rcases q with q | q
 ·exact h value slice pins s σ H x y v u Q I rx ry q hs
 ·exact h' value slice pins s σ H x y v u Q I rx ry q hs
theorem j7Z {r:R2} (hr:IxR X r) (ha:PE X a ta) (hb:PE X b tb) (hs:q5k b):PE X (.Subscript a b pos) (tOp r ta tb):=by
 intro pins s σ H Q I h
 exact Subscript_ (w0i ha hb I h λv u s2 x y H2 I2 rx ry q=>hr a b pins s2 σ H2 x y v u Q I2 rx ry q (hs _ _))
noncomputable def w1i (K:PySem.W.Frag):R2:=λx y H Q=>∃p xs i v,x=.ref p/\y=.int i/\SqL K H p xs/\atI xs i=some v/\Q v H
noncomputable def w1w (K:PySem.W.Frag):R2:=λx y H Q=>∃p xs i v,x=.ref p/\y=.int i/\SqT K H p xs/\atI xs i=some v/\Q v H
noncomputable def w08:R2:=λx y H Q=>∃z i c,x=.str z/\y=.int i/\z.length<=sizeLine/\atI z.cps.toList i=some c/\Q (.str ⟨#[c]⟩) H
theorem q8m:IxR X (w1i X.K):=by
 intro value slice pins s σ H x y v u Q I rx ry h hs
 obtain ⟨p,xs,i,z,rfl,rfl,hq,he,q⟩:=h
 cases rx
 obtain ⟨t,rfl⟩:=ry
 obtain ⟨its,r,pl,hz⟩:=I.list hq
 obtain ⟨j,h1,h2,h3,h4,h5⟩:=q3V he
 obtain ⟨w,ew,rw'⟩:=r.get h2
 have hl:=r.length
 have hn:=line63
 have fin:EP X pins σ Q w s:=⟨z,H,I,rw',q⟩
 by_cases h0:0<=i
 ·have hj:i.toNat=j:=by
   rw [seqIndex_of h0 h5] at h1
   exact Option.some.inj h1
  exact item_listR pl.isList h0 (by omega) (by rw [hj];simpa using ew) fin hs
 ·have hj:(i+(its.toArray.size:Int)).toNat=j:=by
   rw [seqIndex_neg (by omega) h4] at h1
   rw [List.size_toArray,<-hl]
   exact Option.some.inj h1
  exact subscriptTail_builtinR (x:=w) pl.isList.typeIs slot_list_getitem.lookup
   (wpAny_getItem_list_neg (Q:=λr s'=>r=w/\EP X pins σ Q r s') pl.isList (by omega) (by rw [List.size_toArray]<;>omega) (by omega) (by rw [hj];simpa using ew) ⟨rfl,fin⟩) hs
theorem j7I:IxR X (w1w X.K):=by
 intro value slice pins s σ H x y v u Q I rx ry h hs
 obtain ⟨p,xs,i,z,rfl,rfl,hq,he,q⟩:=h
 cases rx
 obtain ⟨t,rfl⟩:=ry
 obtain ⟨its,r,pl,hz⟩:=I.tuple hq
 obtain ⟨j,h1,h2,h3,h4,h5⟩:=q3V he
 obtain ⟨w,ew,rw'⟩:=r.get h2
 have hl:=r.length
 have hn:=line63
 have fin:EP X pins σ Q w s:=⟨z,H,I,rw',q⟩
 exact subscriptTail_builtinR (x:=w) pl.typeIs slot_tuple_getitem.lookup
  (getItem_tuple (j:=j) (Q:=λr s'=>r=w/\EP X pins σ Q r s') pl (by omega) (by omega) (by rw [List.size_toArray,<-hl];exact h1) (by simpa using ew) ⟨rfl,fin⟩) hs
theorem j57:IxR X w08:=by
 intro value slice pins s σ H x y v u Q I rx ry h hs
 obtain ⟨z,i,c,rfl,rfl,hz,he,q⟩:=h
 obtain ⟨t,rfl⟩:=rx
 obtain ⟨t',rfl⟩:=ry
 obtain ⟨j,h1,h2,h3,h4,h5⟩:=q3V he
 have hl:z.cps.toList.length=z.length:=by simp [Str.length]
 rw [hl] at h1 h4 h5
 have hn:=line63
 exact tail_any (typeIs_str s z t) slot_str_getitem.lookup (getItem_str (c:=c) (by
  have e1:decide (i < -(2 ^ 63:Int))=false:=decide_eq_false (by omega)
  have e2:decide (i ≥ 2 ^ 63)=false:=decide_eq_false (by omega)
  rw [e1,e2,Bool.or_false]) (by rw [h1];simpa using h2) ⟨.str ⟨#[c]⟩,H,I.tok _,⟨_,rfl⟩,q⟩) hs
theorem q60 (its:List Value) (n j:Nat) (u:Value):Obj.mapSeq (·.setIfInBounds j u) { cls:=.type "list",data:=.seq its.toArray n }={ cls:=.type "list",data:=.seq (its.set j u).toArray n }:=by
 simp [Obj.mapSeq]
theorem Inv.lst {pins:List (Addr×Obj)} {σ:St} {H:Hp} {s:Shared} {p:Addr} {xs:List V} (I:Inv X pins σ H s) (h:H p=some (.lst xs)) :
 ∃(its:List Value) (n:Nat),Vals xs its/\s.heap.get? p=some { cls:=.type "list",data:=.seq its.toArray n }/\xs.length<=sizeLine:=by
 obtain ⟨z,its,n,r,e⟩:=I.hok p _ h
 exact ⟨its,n,r,e,z⟩
theorem Inv.lstUpd {pins:List (Addr×Obj)} {σ:St} {H:Hp} {s:Shared} {p:Addr} {xs ys:List V} {its its':List Value} {n n':Nat} {f:Obj->Obj} (I:Inv X pins σ H s) (h:H p=some (.lst xs))
 (ho:s.heap.get? p=some { cls:=.type "list",data:=.seq its.toArray n }) (hf:f { cls:=.type "list",data:=.seq its.toArray n }={ cls:=.type "list",data:=.seq its'.toArray n' }) (r:Vals ys its') (hz:ys.length<=sizeLine) (t:Nat) :
 Inv X pins σ (upd H p (.lst ys)) { s with heap:=s.heap.update p f,toks:=t }:=by
 have e:(s.heap.update p f).get? p=some { cls:=.type "list",data:=.seq its'.toArray n' }:=by
  rw [Heap.get?_update_self f ho (by rw [hf]<;>rfl),hf]
 refine I.write (x:=p) (e:=p) (by rw [h];trivial) (.inl rfl) (λb u hb q=>(Heap.get?_update_other _ _ (Ne.symm hb)).trans q) ⟨_,e⟩ ?_
 exact ⟨hz,its',n',r,e⟩
noncomputable def w0j:V->V->V->Hp->(Hp->Prop)->Prop:=λo i v H Q=>∃p xs k j,o=.ref p/\i=.int k/\H p=some (.lst xs)/\ixN xs.length k=some j/\Q (upd H p (.lst (xs.set j v)))
theorem q55:j9a X w0j:=by
 intro pins s σ H o i v ov iv u Q I ro ri rv h
 obtain ⟨p,xs,k,j,rfl,rfl,hp,hj,q⟩:=h
 cases ro
 obtain ⟨t,rfl⟩:=ri
 obtain ⟨its,n,r,ho,hz⟩:=I.lst hp
 obtain ⟨h1,h2,h3,h4⟩:=q5B hj
 have hl:=r.length
 have hn:=line63
 have I':Inv X pins σ (upd H p (.lst (xs.set j v))) { s with heap:=s.heap.update p (Obj.mapSeq (·.setIfInBounds j u)) }:=
  I.lstUpd hp ho (q60 its n j u) (r.set rv j) (by rw [List.length_set];exact hz) s.toks
 by_cases h0:0<=k
 ·have hk:k.toNat=j:=by
   rw [seqIndex_of h0 h4] at h1
   exact Option.some.inj h1
  exact PySem.W.ki_setAt ho h0 (by omega) (by rw [List.size_toArray,<-hl];exact h4) (by rw [hk];exact ⟨_,I',q⟩)
 ·have hk:(k+(its.toArray.size:Int)).toNat=j:=by
   rw [seqIndex_neg (by omega) h3] at h1
   rw [List.size_toArray,<-hl]
   exact Option.some.inj h1
  exact PySem.W.ki_setBack ho (by omega) (by rw [List.size_toArray,<-hl];exact h3) (by omega) (by rw [hk];exact ⟨_,I',q⟩)
noncomputable def q2q:V->Bool
 | .non=>true
 | .bl _=>true
 | .int _=>true
 | .str _=>true
 | _=>false
noncomputable def eqV:V->V->Bool
 | .non,.non=>true
 | .bl a,.bl b=>a==b
 | .bl a,.int b=>(if a then 1 else 0)==b
 | .int a,.bl b=>a==(if b then 1 else 0)
 | .int a,.int b=>a==b
 | .str a,.str b=>a==b
 | _,_=>false
theorem j6t {A:Around} {s:Shared} {y x:V} {u v:Value} (ry:RelV y u) (rx:RelV x v) (fy:q2q y=true) (fx:q2q x=true):SeqAt.EqAt A s u v (eqV y x):=by
 cases y with
 | non=>
  cases ry
  cases x with
  | non=>cases rx;exact SeqAt.EqAt.same _
  | bl b=>cases rx;exact SeqAt.EqAt.none_bool b
  | int b=>obtain ⟨t,rfl⟩:=rx;exact SeqAt.EqAt.none_int b t
  | str b=>obtain ⟨t,rfl⟩:=rx;exact SeqAt.EqAt.none_str b t
  | _=>exact absurd (show false=true from fx) Bool.false_ne_true
 | bl a=>
  cases ry
  cases x with
  | non=>cases rx;exact SeqAt.EqAt.bool_none a
  | bl b=>cases rx;exact SeqAt.EqAt.bool_bool a b
  | int b=>obtain ⟨t,rfl⟩:=rx;exact SeqAt.EqAt.bool_int a b t
  | str b=>obtain ⟨t,rfl⟩:=rx;exact SeqAt.EqAt.bool_str a b t
  | _=>exact absurd (show false=true from fx) Bool.false_ne_true
 | int a=>
  obtain ⟨t',rfl⟩:=ry
  cases x with
  | non=>cases rx;exact SeqAt.EqAt.int_none a t'
  | bl b=>cases rx;exact SeqAt.EqAt.int_bool a t' b
  | int b=>obtain ⟨t,rfl⟩:=rx;exact SeqAt.EqAt.int_int a t' b t
  | str b=>obtain ⟨t,rfl⟩:=rx;exact SeqAt.EqAt.int_str a t' b t
  | _=>exact absurd (show false=true from fx) Bool.false_ne_true
 | str a=>
  obtain ⟨t',rfl⟩:=ry
  cases x with
  | non=>cases rx;exact SeqAt.EqAt.str_none a t'
  | bl b=>cases rx;exact SeqAt.EqAt.str_bool a t' b
  | int b=>obtain ⟨t,rfl⟩:=rx;exact SeqAt.EqAt.str_int a t' b t
  | str b=>obtain ⟨t,rfl⟩:=rx;exact SeqAt.EqAt.str_str a t' b t
  | _=>exact absurd (show false=true from fx) Bool.false_ne_true
 | _=>exact absurd (show false=true from fy) Bool.false_ne_true
noncomputable def eqU (x:V) (u:Value):Bool:=match u with
 | .none=>eqV .non x
 | .bool b=>eqV (.bl b) x
 | .int i _=>eqV (.int i) x
 | .str z _=>eqV (.str z) x
 | _=>false
theorem q8A {x y:V} {u:Value} (r:RelV y u) (f:q2q y=true):eqU x u=eqV y x:=by
 cases y with
 | non=>cases r;rfl
 | bl b=>cases r;rfl
 | int i=>obtain ⟨t,rfl⟩:=r;rfl
 | str z=>obtain ⟨t,rfl⟩:=r;rfl
 | _=>exact absurd (show false=true from f) Bool.false_ne_true
theorem q2Z {x:V}:∀{xs:List V} {us:List Value},Vals xs us->xs.all q2q=true->us.any (eqU x)=xs.any λy=>eqV y x
 | _,_,.nil,_=>rfl
 | y::xs,u::us,.cons r t,f=>by
  rw [List.all_cons,Bool.and_eq_true] at f
  rw [List.any_cons,List.any_cons,q8A r f.1,q2Z t f.2]
theorem q2e {A:Around} {s:Shared} {x:V} {v:Value} (rx:RelV x v) (fx:q2q x=true):∀{xs:List V} {us:List Value},Vals xs us->xs.all q2q=true->∀u∈us,SeqAt.EqAt A s u v (eqU x u)
 | _,_,.nil,_=>λu hu=>by cases hu
 | y::xs,u::us,.cons r t,f=>λu' hu=>by
  rw [List.all_cons,Bool.and_eq_true] at f
  rcases List.mem_cons.mp hu with rfl | hu
  ·rw [q8A r f.1];exact j6t r rx f.1 fx
  ·exact q2e rx fx t f.2 u' hu
noncomputable def inV (x:V) (xs:List V):Bool:=xs.any λy=>eqV y x
noncomputable def rIn (K:PySem.W.Frag) (neg:Bool):R2:=λx y H Q=>∃p xs,y=.ref p/\(SqL K H p xs∨SqT K H p xs)/\q2q x=true/\xs.all q2q=true/\Q (.bl (if neg then !inV x xs else inV x xs)) H
theorem q8a:OpR X (compareOp .In) (rIn X.K false):=by
 intro pins s σ H x y v u Q I rx ry h
 obtain ⟨p,xs,rfl,hq,fx,fs,q⟩:=h
 cases ry
 rcases hq with hq | hq
 ·obtain ⟨its,r,pl,hz⟩:=I.list hq
  refine SeqAt.in_listAt (eqU x) pl.isList (λw hw=>q2e rx fx r fs w (by simpa using hw)) ⟨.bl _,H,I,rfl,?_⟩
  rw [show its.toArray.any (eqU x)=its.any (eqU x) by simp,q2Z r fs]
  exact q
 ·obtain ⟨its,r,pl,hz⟩:=I.tuple hq
  refine SeqAt.in_tupleAt (eqU x) pl (λw hw=>q2e rx fx r fs w (by simpa using hw)) ⟨.bl _,H,I,rfl,?_⟩
  rw [show its.toArray.any (eqU x)=its.any (eqU x) by simp,q2Z r fs]
  exact q
theorem q4S:OpR X (compareOp .NotIn) (rIn X.K true):=by
 intro pins s σ H x y v u Q I rx ry h
 obtain ⟨p,xs,rfl,hq,fx,fs,q⟩:=h
 cases ry
 rcases hq with hq | hq
 ·obtain ⟨its,r,pl,hz⟩:=I.list hq
  refine SeqAt.notIn_listAt (eqU x) pl.isList (λw hw=>q2e rx fx r fs w (by simpa using hw)) ⟨.bl _,H,I,rfl,?_⟩
  rw [show its.toArray.any (eqU x)=its.any (eqU x) by simp,q2Z r fs]
  exact q
 ·obtain ⟨its,r,pl,hz⟩:=I.tuple hq
  refine SeqAt.notIn_tupleAt (eqU x) pl (λw hw=>q2e rx fx r fs w (by simpa using hw)) ⟨.bl _,H,I,rfl,?_⟩
  rw [show its.toArray.any (eqU x)=its.any (eqU x) by simp,q2Z r fs]
  exact q
theorem q2K:q1V X (.type "list") (λxs H Q=>∃p ys,xs=[.ref p]/\(SqL X.K H p ys∨SqT X.K H p ys)/\∀l,H l=none->Q (.ref l) (upd H l (.lst ys))):=by
 intro pins s σ H xs us Q I r h
 obtain ⟨p,ys,rfl,hq,q⟩:=h
 obtain ⟨u,rfl,rx⟩:=vals1 r
 cases rx
 have fin:∀(its:List Value),Vals ys its->ys.length<=sizeLine->∀(h':Heap) (c':Nat),(∀b o',s.heap.get? b=some o'->h'.get? b=some o') ->
  h'.get? s.heap.objs.size=some { cls:=.type "list",dict:=none,data:=.seq its.toArray c',slots:=#[] }->EP X pins σ Q (.ref s.heap.objs.size) { s with heap:=h' }:=λits r' hz h' c' kp e=>
  ⟨.ref s.heap.objs.size,_,I.laid (t':=s.toks) kp (Nat.le_refl _) (show ObjOk X.prog X.w _ h' _ (.lst ys) from ⟨hz,its,c',r',e⟩),rfl,q _ (I.hok.fresh (Nat.le_refl _))⟩
 rcases hq with hq | hq
 ·obtain ⟨its,r',pl,hz⟩:=I.list hq
  have hlen:=r'.length
  obtain ⟨o,ho,hc,n,hd⟩:=pl.isList
  exact call_list_seq p (.inl rfl) ho hc hd (λh' c' kp e=>fin its r' hz h' c' kp e) (by simp only [List.size_toArray]<;>omega)
 ·obtain ⟨its,r',pl,hz⟩:=I.tuple hq
  have hlen:=r'.length
  obtain ⟨o,ho,hc,n,hd⟩:=pl
  exact call_list_seq p (.inr rfl) ho hc hd (λh' c' kp e=>fin its r' hz h' c' kp e) (by simp only [List.size_toArray]<;>omega)
theorem q3I:q1V X (.type "tuple") (λxs H Q=>∃p ys,xs=[.ref p]/\((SqL X.K H p ys/\∀l,H l=none->Q (.ref l) (upd H l (.tup ys)))∨(SqT X.K H p ys/\Q (.ref p) H))):=by
 intro pins s σ H xs us Q I r h
 obtain ⟨p,ys,rfl,h⟩:=h
 obtain ⟨u,rfl,rx⟩:=vals1 r
 cases rx
 rcases h with ⟨hq,q⟩ | ⟨hq,q⟩
 ·obtain ⟨its,r',pl,hz⟩:=I.list hq
  have hlen:=r'.length
  refine call_tuple_list pl.isList (λh' kp=>?_) (by simp only [List.size_toArray]<;>omega)
  have I1:Inv X pins σ H { s with heap:=h' }:=I.kept (t':=s.toks) kp
  have I2:Inv X pins σ (upd H h'.objs.size (.tup ys)) { s with heap:=h'.push { cls:=.type "tuple",data:=.seq its.toArray } }:=
   I1.laid (t':=s.toks) (λb o e=>Heap.get?_push_of_some _ e) (Nat.le_refl _) (show ObjOk X.prog X.w _ _ _ (.tup ys) from ⟨hz,its,r',IsTup.new _ _⟩)
  exact ⟨.ref h'.objs.size,_,I2,rfl,q _ (I1.hok.fresh (Nat.le_refl _))⟩
 ·obtain ⟨its,r',pl,hz⟩:=I.tuple hq
  exact call_tuple_same pl ⟨.ref p,H,I,rfl,q⟩
noncomputable def tyV (K:PySem.W.Frag) (T:String) (x:V) (H:Hp):Prop:=match x with
 | .str _=>T="str"
 | .int _=>T="int"
 | .ref p=>(T="list"/\∃xs,SqL K H p xs)∨(T="tuple"/\∃o,K.lookup p=some o/\o.cls=.type "tuple"/\o.dict=none) ∨
  (T="dict"/\((∃kvs,H p=some (.dK kvs))∨∃kvs,H p=some (.dT kvs)))∨(T="set"/\∃S n,H p=some (.set S n))
 | _=>False
theorem j6I {pins:List (Addr×Obj)} {σ:St} {H:Hp} {s:Shared} {T:String} {x:V} {v:Value} (I:Inv X pins σ H s) (r:RelV x v) (ty:tyV X.K T x H) :
 s.TypeIs v T/\∀a,v=.ref a->∃ob,s.heap.get? a=some ob/\ob.dict=none:=by
 cases x with
 | str z=>
  obtain ⟨t,rfl⟩:=r
  cases (show T="str" from ty)
  exact ⟨typeIs_str s z t,λ_ e=>nomatch e⟩
 | int i=>
  obtain ⟨t,rfl⟩:=r
  cases (show T="int" from ty)
  exact ⟨typeIs_int s i t,λ_ e=>nomatch e⟩
 | ref p=>
  cases r
  rcases ty with ⟨rfl,xs,hq⟩ | ⟨rfl,o,hk,hc,hd⟩ | ⟨rfl,hk⟩ | ⟨rfl,S,n,hk⟩
  ·obtain ⟨its,_,pl,_⟩:=I.list hq
   refine ⟨pl.isList.typeIs,λa e=>?_⟩
   cases e
   obtain ⟨o,n,e,c,hd,_⟩:=pl
   exact ⟨o,e,hd⟩
  ·refine ⟨⟨o,I.kIn p o hk,hc⟩,λa e=>?_⟩
   cases e
   exact ⟨o,I.kIn _ o hk,hd⟩
  ·have z:∃o,s.heap.get? p=some o/\o.ExactDict:=by
    rcases hk with ⟨kvs,hk⟩ | ⟨kvs,hk⟩
    ·obtain ⟨_,_,_,_,o,_,_,e,ex,_⟩:=I.hok p _ hk
     exact ⟨o,e,ex⟩
    ·obtain ⟨_,_,_,_,o,_,_,e,ex,_⟩:=I.hok p _ hk
     exact ⟨o,e,ex⟩
   obtain ⟨o,e,ex⟩:=z
   refine ⟨⟨o,e,ex.1⟩,λa e2=>?_⟩
   cases e2
   exact ⟨o,e,ex.2.1⟩
  ·obtain ⟨o,_,_,_,e,ex,_⟩:=I.hok p _ hk
   refine ⟨⟨o,e,ex.1⟩,λa e2=>?_⟩
   cases e2
   exact ⟨o,e,ex.2.1⟩
 | _=>exact False.elim ty
noncomputable def tBM (K:PySem.W.Frag) (T:String) (r:V->List V->Hp->VK->Prop) (to:TE) (t:TA):TE:=fun σ H Q=>to σ H λx H1=>tyV K T x H1/\t σ H1 λxs H2=>r x xs H2 Q
variable {o e:Expr} {es:List Expr} {to:TE} {t:TA} {name:Str} {apos cpos:Pos} {T id:String} {r:V->List V->Hp->VK->Prop}
theorem j4G (pa:PlainAttrs T) (slot:Slot T name id) (hty:typeOf (.builtin id)=pure (.type "method_descriptor")) (hm:MtR X id r) (ho:PE X o to) (ha:PA X (e::es) t)
 (hbase:attributeBase o name X.env (eval o X.env)=eval o X.env:=by rfl)
 (hfew:((backTo cpos (starEach (e::es) X.env)).all (λx=>!x.1) && (backToKw cpos (keywordEach [] X.env)).all (λx=>x.1.isSome)
  && decide ((e::es).length+([]:List Keyword).length+(if ([]:List Keyword).isEmpty then 0 else 1) < 30))=true:=by rfl)
 (hline:(apos.endLine==cpos.line)=true:=by rfl) (hs:starEach (e::es) X.env=(false,eval e X.env)::starEach es X.env:=by rfl) (hplain:(backTo cpos (starEach es X.env)).any (·.1)=false:=by rfl) :
 PE X (.Call (.Attribute o name apos) (e::es) [] cpos) (tBM X.K T r to t):=by
 intro pins s σ H Q I h
 refine wpAny_Call_method_late hbase hfew hline rfl (thn (ho pins s σ H _ I h) λv s1 ⟨x,H1,I1,r1,ty,q1⟩=>?_)
 obtain ⟨h1,h2⟩:=j6I I1 r1 ty
 refine ⟨T,id,pa,slot,hty,h1,h2,?_⟩
 have hA:=ha cpos pins s1 σ H1 _ I1 q1
 rw [hs] at hA ⊢
 refine Calls.callWith_builtin (by show (false || (backTo cpos (starEach es X.env)).any (·.1))=false;rw [hplain]<;>rfl) (Calls.evalArgs_plain ?_)
 exact thn hA λus s2 ⟨vs,H2,I2,r2,q2⟩=>hm pins s2 σ H2 x vs v us Q I2 r1 r2 q2
end
noncomputable def MtM (X:Cx) (id:String) (r:V->List V->Hp->VK->Prop):Prop:=
 ∀(pins:List (Addr×Obj)) (s:Shared) (σ:St) (H:Hp) (x:V) (xs:List V) (v:Value) (us:List Value) (Q:VK),Inv X pins σ H s->RelV x v->Vals xs us->r x xs H Q ->
  wpAny (model X.prog X.w) X.A (call (.builtin id) (v::us)) (EP X pins σ Q) X.xe s
theorem Vals.one:∀{x:V} {us:List Value},Vals [x] us->∃u,us=[u]/\RelV x u
 | _,_,.cons r .nil=>⟨_,rfl,r⟩
theorem Vals.two:∀{x y:V} {us:List Value},Vals [x,y] us->∃u v,us=[u,v]/\RelV x u/\RelV y v
 | _,_,_,.cons r (.cons q .nil)=>⟨_,_,rfl,r,q⟩
theorem Vals.rep {xs:List V} {us:List Value} (h:Vals xs us):∀k:Nat,Vals (List.replicate k xs).flatten (List.replicate k us).flatten
 | 0=>.nil
 | k+1=>by
  rw [List.replicate_succ,List.replicate_succ,List.flatten_cons,List.flatten_cons]
  exact Vals.append h (Vals.rep h k)
theorem q4T (its:List Value):∀(k:Nat) (acc:List Value),
 List.foldl (λx1 x2=>x1++x2) acc.toArray (List.replicate k its.toArray)=(acc++(List.replicate k its).flatten).toArray
 | 0,acc=>by simp
 | k+1,acc=>by
  have e:acc.toArray++its.toArray=(acc++its).toArray:=by simp
  have e2:(acc++its)++(List.replicate k its).flatten=acc++(List.replicate (k+1) its).flatten:=by
   rw [List.replicate_succ,List.flatten_cons,List.append_assoc]
  rw [<-e2,<-q4T its k (acc++its),<-e,List.replicate_succ,List.foldl_cons]
section
variable {X:Cx} {pins:List (Addr×Obj)} {σ:St} {H:Hp} {s:Shared} {l b:Addr} {xs ys zs:List V}
theorem Inv.lset {its its':List Value} {n:Nat} {f:Array Value->Array Value} {t':Nat} (I:Inv X pins σ H s) (hH:H l=some (.lst xs))
 (e:s.heap.get? l=some { cls:=.type "list",data:=.seq its.toArray n }) (hf:f its.toArray=its'.toArray) (hv:Vals ys its') (hz:ys.length<=sizeLine) :
 Inv X pins σ (upd H l (.lst ys)) { s with heap:=s.heap.update l (Obj.mapSeq f),toks:=t' }:=by
 have q:=PySem.IsL.update e f
 rw [hf] at q
 refine I.write (x:=l) (e:=l) (by rw [hH];exact trivial) (.inl rfl) (λb' u hb hu=>(Heap.get?_update_other s.heap (Obj.mapSeq f) (Ne.symm hb)).trans hu) ⟨_,q⟩ ?_
 exact ⟨hz,its',_,hv,q⟩
theorem Inv.lnew {its:List Value} {t':Nat} (I:Inv X pins σ H s) (hv:Vals ys its) (hz:ys.length<=sizeLine) :
 Inv X pins σ (upd H s.heap.objs.size (.lst ys)) { s with heap:=s.heap.push { cls:=.type "list",data:=.seq its.toArray },toks:=t' }:=
 I.laid (λ_ _ q=>Heap.get?_push_of_some _ q) (Nat.le_refl _) ⟨hz,its,0,hv,Heap.get?_push_size _ rfl⟩
theorem Inv.fresh (I:Inv X pins σ H s):H s.heap.objs.size=none:=I.hok.fresh (Nat.le_refl _)
theorem Inv.lstM (I:Inv X pins σ H s) (hH:H l=some (.lst xs)):xs.length<=sizeLine/\∃(its:List Value) (n:Nat),Vals xs its/\xs.length=its.length/\s.heap.get? l=some { cls:=.type "list",data:=.seq its.toArray n }:=by
 obtain ⟨z,its,n,r,e⟩:=I.hok l _ hH
 exact ⟨z,its,n,r,r.length,e⟩
theorem j1o {n:Nat} (h:n<=sizeLine):Builtin.List.listTooLong n=false:=by
 unfold Builtin.List.listTooLong
 exact decide_eq_false (by omega)
end
section
variable {X:Cx}
noncomputable def j39:V->List V->Hp->VK->Prop:=λx vs H Q=>∃l xs y,x=.ref l/\vs=[y]/\H l=some (.lst xs)/\xs.length < sizeLine/\Q .non (upd H l (.lst (xs++[y])))
theorem q4E:MtM X "list.append" j39:=by
 intro pins s σ H x vs v us Q I rx rv h
 obtain ⟨l,xs,y,rfl,rfl,hH,hz,q⟩:=h
 cases rx
 obtain ⟨u,rfl,ru⟩:=rv.one
 obtain ⟨z,its,n,r,hl,e⟩:=I.lstM hH
 refine call_meets F.slot_list_append ⟨_,e,rfl⟩ F.entry_list_append (F.args_list_append_2 _ _) (PySem.list_append l its.toArray n u (by rw [List.size_toArray];omega)) ⟨e,?_⟩
 refine ⟨.non,_,I.lset (its':=its++[u]) hH e (by simp) (r.append (.cons ru .nil)) ?_,rfl,q⟩
 rw [List.length_append,List.length_singleton]
 omega
noncomputable def w1E:R2:=λx y H Q=>∃l k xs,x=.ref l/\y=.int k/\H l=some (.lst xs)/\-(2 ^ 63)<=k/\k < 2 ^ 63/\xs.length*k.toNat<=sizeLine /\
 ∀p,H p=none->Q (.ref p) (upd H p (.lst (List.replicate k.toNat xs).flatten))
theorem j4U {α:Type} (xs:List α) (k:Nat):(List.replicate k xs).flatten.length=k*xs.length:=by
 induction k with
 | zero=>simp
 | succ k ih=>rw [List.replicate_succ,List.flatten_cons,List.length_append,ih,Nat.succ_mul,Nat.add_comm]
theorem j7P:OpR X (binaryOp .Mult) w1E:=by
 intro pins s σ H x y v u Q I rx ry h
 obtain ⟨l,k,xs,rfl,rfl,hH,h1,h2,hz,q⟩:=h
 cases rx
 obtain ⟨t,rfl⟩:=ry
 obtain ⟨z,its,n,r,hl,e⟩:=I.lstM hH
 have hlen:its.toArray.size*k.toNat<=sizeLine:=by rw [List.size_toArray,<-hl];exact hz
 have hcap:¬its.toArray.size*k.toNat > (2 ^ 63-1) / 8:=by
  have:(sizeLine:Nat)<=(2 ^ 63-1) / 8:=by decide
  omega
 have hfit:¬(!Builtin.List.listFitsIndex k)=true:=by
  rw [fitsIndex_both h1 h2]
  exact Bool.false_ne_true
 have hlong:¬Builtin.List.listTooLong (its.toArray.size*k.toNat)=true:=by
  rw [j1o hlen]
  exact Bool.false_ne_true
 have hnew:List.foldl (λx1 x2=>x1++x2) #[] (List.replicate (if its.toArray.isEmpty=true then 0 else k.toNat) its.toArray)=(List.replicate k.toNat its).flatten.toArray:=by
  have f0:∀m:Nat,List.foldl (λx1 x2=>x1++x2) #[] (List.replicate m its.toArray)=(List.replicate m its).flatten.toArray:=λm=>by
   have:=q4T its m []
   rw [List.nil_append] at this
   exact this
  rw [f0]
  cases its with
  | nil=>simp
  | cons a r'=>rw [if_neg (by simp)]
 refine wpAny_binaryOp_repeat_ref (T:="list") (U:="int") (by decide) ⟨_,e,rfl⟩ (λs'=>typeIs_int s' k t) noFill_list_mul F.fills_int_mul F.slot_int_rmul repeat_list F.slot_int_index.lookup
  (call_meets F.slot_int_rmul (typeIs_int s k t) F.entry_int_rmul (F.args_int_rmul_2 _ _) (int___rmul___int_list k t l its.toArray n)
   ⟨e,rfl,⟨_,e,rfl⟩,call_meets F.slot_list_mul ⟨_,e,rfl⟩ F.entry_list_mul (F.args_list_mul_2 _ _) (AutoListH.list___mul___list_int_3 l its.toArray n k t hfit hcap hlong) ⟨e,?_⟩⟩)
 rw [hnew]
 exact ⟨.ref _,_,I.lnew (t':=s.toks) (r.rep k.toNat) (by rw [j4U,Nat.mul_comm];exact hz),rfl,q _ I.fresh⟩
end
section
variable {prog:Program} {w:World} {A:Around} {E:Value->Shared->Prop} {s:Shared}
end
section
variable {X:Cx}
end
end L2
namespace Att
open PySem PySem.W PySem.Calls PyProof.Rows
theorem q2V {P:Params} {h:Heap}:∀(ns:List Int) (vs:List Value),WellAll P h vs (ns.map WData.int)->IntsAre vs ns:=by
 intro ns
 induction ns with
 | nil=>
  intro vs w
  rw [List.map_nil] at w
  cases w
  exact .nil
 | cons n ns ih=>
  intro vs w
  rw [List.map_cons] at w
  cases w with
  | cons a b=>
   cases a
   exact .cons _ _ (ih _ b)
theorem q72 {l:OpenLaw} {n:Nat} (hn:l.most=some n) {P:Params} {h:Heap} {args:List WData} {vals:List Value}
 (hpre:l.row.toRowW.claim.pre args=true) (hwl:WellAll P h vals args) :
 ∃a vs ns,vals=[Value.ref a]/\args=[WData.list (ns.map WData.int)]/\h.get? a=some { cls:=.type "list",data:=.seq vs.toArray }/\IntsAre vs ns/\ns.length<=n:=by
 have hsh:WShape.hasAll [] args [.list .int]=true:=(pre_splitW hpre).1
 have hc:l.pre.holds [] { args:=args }=true:=(pre_splitW hpre).2
 obtain ⟨d,r,rfl,h1,h2⟩:=hasAllW_cons hsh
 obtain rfl:=hasAllW_nil h2
 obtain ⟨xs,rfl,h3⟩:=hasW_list h1
 obtain ⟨ns,rfl⟩:=items_int h3
 have hlen:ns.length<=n:=by
  unfold OpenLaw.pre at hc
  have h4:(WTm.not (.lt (.lit (.int (n:Int))) (.len (.arg 0)))).holds [] { args:=[.list (ns.map .int)] }=true:=by
   have h4:=(holds_andW hc).1
   rw [hn] at h4
   exact h4
  have h5:=condW_of h4 (w_not (w_lt w_lit (w_len_list (w_arg rfl))))
  rw [List.length_map] at h5
  refine Nat.le_of_not_lt λq=>?_
  have q':(n:Int) < ((ns.length:Nat):Int):=by omega
  first
   | (rw [decide_eq_true q'] at h5;exact absurd h5 (by decide))
   | (simp at h5;omega)
 cases hwl with
 | cons w1 w2=>
  cases w2
  cases w1 with
  | list ho hall=>exact ⟨_,_,ns,rfl,rfl,ho,q2V ns _ hall,hlen⟩
theorem q8q (l:OpenLaw) (args:List WData):l.row.toRowW.claim.post args (.bool true) args=true:=
 postW_of (r:=l.row.toRowW) (X:=(true==true))
  (show WShape.has [] (.bool true) .bool=true by first | rfl | decide | simp [WShape.has,WShape.arms,WShape.armsAll])
  (show (WTm.eq .res (.lit (.bool true))).value [] { args:=args,res:=some (.bool true),after:=args }=some (.bool (true==true)) from w_eq_bool (w_res rfl) w_lit) rfl
theorem attach_call {l:OpenLaw} {n:Nat} {q:Program} {loose:List Str} {XP:(Str->Option Value)->Heap->Prop} {YP:World->Heap->Prop} {d:DefRec}
 (hn:l.most=some n) (hdf:d.params.defaults=[])
 (call:∀(w:World) (s₀ s₁:Shared) (mg mb:Str->Option Value) (fa:Addr) (o:Obj) (pm cd doc:Value) (a:Addr) (vs:List Value) (ns:List Int),
  Ground q loose [] XP w s₀ mg mb s₁.heap->YP w s₁.heap ->
  s₁.heap.get? fa=some o->o.data=.func (docDef d.name d.params d.body d.scope pm cd doc)->s₁.heap.CodeRec cd d.name->mg d.name=some (.ref fa) ->
  s₁.heap.get? a=some { cls:=.type "list",data:=.seq vs.toArray }->IntsAre vs ns->ns.length<=n->s₁.gens=#[] ->
  codeAny (model l.prog w) callerA (.call (.ref fa) ⟨[.ref a],[]⟩) (λr s'=>r=.ok (.ret (.bool true))/\OldK s₁.heap s'.heap/\s'.os=s₁.os/\AllBare s'.gens) s₁) :
 WalkO q loose XP YP l.row.toRowW d [] (λf vs=>PySem.call f vs):=by
 intro w s₀ s₁ mg mb G Y fa o pm cd doc dV kV ho hd hcd hD hmg hg args vals as hpre hlay hrd hwl hlo
 obtain rfl:dV=.none:=Dflts.none hD hdf
 obtain rfl:kV=.none:=Dflts.noKw hD
 obtain ⟨a,vs,ns,rfl,rfl,hobj,hints,hlen⟩:=q72 hn hpre hwl
 refine enter_call (codeAny_mono (call w s₀ s₁ mg mb fa o pm cd doc a vs ns G Y ho (fd_plain hd) hcd hmg hobj hints hlen hg) λr s' hq=>?_)
 obtain ⟨rfl,h2,h3,h4⟩:=hq
 exact ⟨.inl ⟨.bool true,.bool true,[],rfl,λ_=>rfl,.bool true,q8q l _,λ_=>⟨List.Pairwise.nil,λ_ hm=>(nomatch hm)⟩⟩,h2,h3,h4⟩
section
variable {prog:Program} {w:World} {A:Around} {E:Value->Shared->Prop} {s:Shared} {K:Frag}
end
end Att
namespace L2
open PySem PySem.Spec PyProof.Rows
theorem q1L:∀{vs:List Value} {ns:List Int},IntsAre vs ns->Vals (ns.map V.int) vs
 | _,_,.nil=>.nil
 | _,_,.cons n t h=>.cons ⟨t,rfl⟩ (q1L h)
noncomputable def Only (H:Hp):Prop:=∀b,H b=none∨∃o xs,H b=some (.frz o (.lst xs))
theorem j1C {P:Program} {w:World} {K:PySem.W.Frag} {mg mb:Str->Option Value} {CX:CXT} {k:Nat} {fa a:Addr} {fd:FuncData} {x:Str} {sp:Sp} {s₁:Shared} {vs:List Value} {ns:List Int}
 (KX:K.In s₁.heap) (hns:s₁.heap.Ns mainGlobals mg) (hb:s₁.heap.Ns builtinsNs mb) (hbb:∀x:Str,x≠"__name__"->mb x=bootBuiltins x) (hlim:s₁.heap.NoLimit) (hg:s₁.gens=#[])
 (ha:s₁.heap.get? a=some { cls:=.type "list",data:=.seq vs.toArray }) (hi:IntsAre vs ns) (hl:ns.length<=sizeLine) (hr:Room k callerA)
 (F:∀base:Heap,K.In base->base.Ns mainGlobals mg->q1f P w K mg base CX k fa fd [x] sp) (hbind:∀(s:Shared) (u:Value),BindsTo s fd ⟨[u],[]⟩ [(x,u)])
 (hsp:∀H:Hp,Only H->SqL K H a (ns.map V.int)->sp [.ref a] H (λv _=>v=.bl true) λ_ _ _=>False)
 (hCX:∀H e s',CX [] H s₁ (λ_ _ _=>False) e s'->False) :
 codeAny (model P w) callerA (.call (.ref fa) ⟨[.ref a],[]⟩) (λr s'=>r=.ok (.ret (.bool true))/\OldK s₁.heap s'.heap/\s'.os=s₁.os/\AllBare s'.gens) s₁:=by
 have rv:=q1L hi
 have lenV:=hi.length
 have core:∀H:Hp,Only H->SqL K H a (ns.map V.int)->HOk P w H s₁.heap->(∀b,H b≠none->b=a)->(H a≠none->K.lookup a=none) ->
  codeAny (model P w) callerA (.call (.ref fa) ⟨[.ref a],[]⟩) (λr s'=>r=.ok (.ret (.bool true))/\OldK s₁.heap s'.heap/\s'.os=s₁.os/\AllBare s'.gens) s₁:=by
  intro H hO hS hok hA hK
  have base_of:∀{b:Addr} {o:Obj},s₁.heap.get? b=some o->H b=none->(j1a s₁.heap H).get? b=some o:=λe n=>j1i e n
  have noA:∀{b:Addr} {o:Obj} {es:Array DictEntry} {ep:Nat},s₁.heap.get? b=some o->o.data=.dict es ep->H b=none:=λ{b o es ep} e d=>by
   cases q:H b with
   | none=>rfl
   | some u=>
    have e':b=a:=hA b (by rw [q];simp)
    subst e'
    rw [ha] at e;cases e
    have d':Data.seq vs.toArray _=Data.dict es ep:=d
    cases d'
  have nsK:∀{b:Addr} {m:Str->Option Value},s₁.heap.Ns b m->(j1a s₁.heap H).Ns b m:=λ{b m} ⟨o,es,ep,e,d,r⟩=>⟨o,es,ep,base_of e (noA e d),d,r⟩
  have hKb:K.In (j1a s₁.heap H):=λb o e=>base_of (KX b o e) (by
   cases q:H b with
   | none=>rfl
   | some u=>
    have e':b=a:=hA b (by rw [q];simp)
    subst e'
    rw [hK (by rw [q];simp)] at e;cases e)
  have hM:Mod K mg (j1a s₁.heap H):=⟨hKb,nsK hns,⟨mb,nsK hb,hbb⟩,let ⟨mc,h1,h2⟩:=hlim;⟨mc,nsK h1,h2⟩⟩
  have e0:Env0 P w K mg (j1a s₁.heap H) callerA [] s₁ H:=⟨rfl,hM,λb o e=>j42 e,Nat.le_of_eq (q8F _ _),trivial,λb hb=>absurd (show b∈([]:List Addr) from hb) (by simp),hok,.of_eq hg⟩
  refine codeAny_mono ((F _ hKb (nsK hns)).run callerA [] s₁ H ⟨[.ref a],[]⟩ [.ref a] [.ref a] _ _ hr e0 (hbind s₁ (.ref a)) (.cons rfl .nil) (hsp H hO hS)) λr s' h=>?_
  cases r with
  | error e=>exact (hCX H e s' h).elim
  | ok fl=>
   cases fl with
   | next=>exact False.elim h
   | brk=>exact False.elim h
   | cont=>exact False.elim h
   | ret u=>
    obtain ⟨v,H',os,bare,un,hok',r',q⟩:=h
    have q':v=.bl true:=q
    subst q'
    obtain rfl:u=Value.bool true:=r'
    refine ⟨rfl,OldK.of_keep λb o e=>?_,os,bare⟩
    cases q:H b with
    | none=>exact un.keep b o e q (by intro z;exact absurd (show b∈([]:List Addr) from z) (by simp)) (by simp)
    | some u=>
     rcases hO b with z | ⟨ob,xs,z⟩
     ·rw [q] at z;cases z
     ·have z2:=un.frzs b ob _ z
      obtain ⟨e1,_⟩:=hok b _ z
      obtain ⟨e2,_⟩:=hok' b _ z2
      rw [e] at e1;cases e1
      exact e2
 cases hk:K.lookup a with
 | some o=>
  have e:=KX a o hk
  rw [ha] at e
  cases e
  refine core (λ_=>none) (λ_=>.inl rfl) (.inr ⟨_,vs.toArray,_,hk,rfl,rfl,rfl,by rw [List.size_toArray,lenV];exact hl,by simpa using rv⟩) (λb u z=>by have z':(none:Option HO)=some u:=z;cases z') (λb z=>absurd rfl z) λz=>absurd rfl z
 | none=>
  refine core (λb=>if b=a then some (.frz { cls:=.type "list",data:=.seq vs.toArray } (.lst (ns.map V.int))) else none) (λb=>?_) (.inl (.inr ⟨{ cls:=.type "list",data:=.seq vs.toArray },if_pos rfl⟩)) (λb u z=>?_) (λb z=>?_) λ_=>hk
  ·by_cases hb:b=a
   ·exact .inr ⟨_,_,if_pos hb⟩
   ·exact .inl (if_neg hb)
  ·by_cases hb:b=a
   ·have z':=(if_pos hb).symm.trans z
    cases z'
    subst hb
    exact ⟨ha,by rw [List.length_map];exact hl,vs,_,rv,ha⟩
   ·have z':=(if_neg hb).symm.trans z
    cases z'
  ·by_cases hb:b=a
   ·exact hb
   ·exact absurd (if_neg hb) z
structure Fun (K:PySem.W.Frag) (x qual:Str) (st:Stmt) (f:Addr) (fd:FuncData):Prop where
 ex:∃(oc:Value) (od:Option Addr) (kV doc pm:Value) (an:Option Addr) (cdv ct:Value) (osl:Array (Option Value)),
  fd=PySem.W.fnOf x qual (q1E st) (q1l st) (q0l st) .none kV doc pm an cdv ct/\K.lookup f=some ⟨oc,od,.func fd,osl⟩/\PySem.W.codeIn K cdv qual=true
 kp:PySem.W.keepIn K (.ref f)=true
section
variable {P:Program} {w:World} {K:PySem.W.Frag} {mg:Str->Option Value} {base:Heap}
theorem Fun.binds {x qual:Str} {st:Stmt} {f:Addr} {fd:FuncData} {ps:List Str} (F:Fun K x qual st f fd)
 (h:∀(kV doc pm:Value) (an:Option Addr) (cdv ct:Value) (us:List Value),us.length=ps.length->bindArgs (PySem.W.fnOf x qual (q1E st) (q1l st) (q0l st) .none kV doc pm an cdv ct) ⟨us,[]⟩=pure (ps.zip us)):Binds K fd ps []:=by
 obtain ⟨oc,od,kV,doc,pm,an,cdv,ct,osl,rfl,lk,hcd⟩:=F.ex
 exact .all (h kV doc pm an cdv ct)
theorem q0A {x qual:Str} {st:Stmt} {f:Addr} {oc:Value} {od an:Option Addr} {osl:Array (Option Value)} {kV doc pm cdv ct:Value} (l:K.lookup f=some ⟨oc,od,.func (PySem.W.fnOf x qual (q1E st) (q1l st) (q0l st) .none kV doc pm an cdv ct),osl⟩)
 (c:PySem.W.codeIn K cdv qual=true) (k:PySem.W.keepIn K (.ref f)=true):Fun K x qual st f (PySem.W.fnOf x qual (q1E st) (q1l st) (q0l st) .none kV doc pm an cdv ct):=⟨⟨oc,od,kV,doc,pm,an,cdv,ct,osl,rfl,l,c⟩,k⟩
end
section
variable {X:Cx}
end
noncomputable def Same (H H':Hp):Prop:=∀b o,H b=some o->H' b=some o
theorem Same.refl (H:Hp):Same H H:=λ_ _ h=>h
theorem Same.trans {H H1 H2:Hp} (a:Same H H1) (b:Same H1 H2):Same H H2:=λc o h=>b c o (a c o h)
theorem Same.free {H H':Hp} (e:Same H H') {l:Addr} (h:H' l=Option.none):H l=Option.none:=by
 cases q:H l with
 | none=>rfl
 | some o=>
  rw [e l o q] at h
  cases h
theorem Same.seq {K:PySem.W.Frag} {H H':Hp} {a:Addr} {xs:List V} (e:Same H H') (h:SqL K H a xs):SqL K H' a xs:=by
 rcases h with (h | ⟨o,h⟩) | h
 ·exact .inl (.inl (e _ _ h))
 ·exact .inl (.inr ⟨o,e _ _ h⟩)
 ·exact .inr h
end L2
namespace L3
open PySem PySem.Spec PyProof.Rows L2
inductive Kp (J:Heap->Prop) {α:Type}:Sem α->Prop
 | pure (a:α):Kp J (.pure a)
 | raise (e:Value):Kp J (.raise e)
 | uns (x:String):Kp J (.unsupported x)
 | load {a:Addr} {q:Option Value} {k:Obj->Sem α}:(∀o,Kp J (k o))->Kp J (.load a q k)
 | upd {a:Addr} {q:Option Value} {f:Obj->Obj} {k:Unit->Sem α}:(∀h,J h->J (h.update a f))->Kp J (k ())->Kp J (.update a q f k)
 | alloc {o:Obj} {k:Addr->Sem α}:(∀a,Kp J (k a))->Kp J (.alloc o k)
 | stack {k:List (Code×Pos)->Sem α}:(∀l,Kp J (k l))->Kp J (.stack k)
 | rule {t:String} {k:Unit->Sem α}:Kp J (k ())->Kp J (.rule t k)
section
variable {J:Heap->Prop} {α β:Type}
theorem Kp.bind {m:Sem α} {f:α->Sem β} (h:Kp J m) (hf:∀a,Kp J (f a)):Kp J (m >>= f):=by
 show Kp J (m.bind f)
 induction h with
 | pure a=>exact hf a
 | raise e=>exact .raise e
 | uns x=>exact .uns x
 | load _ ih=>exact .load ih
 | upd h1 _ ih=>exact .upd h1 ih
 | alloc _ ih=>exact .alloc ih
 | stack _ ih=>exact .stack ih
 | rule _ ih=>exact .rule ih
theorem Kp.run {M:Model} {Γ:PySem.Ctx} {t:Sem α} {Q:α->Pos->Shared->Prop} {E:Value->Pos->Shared->Prop} (hp:∀h o,J h->J (h.push o)) (h:Kp J t) :
 ∀(p:Pos) (s:Shared),J s.heap->Sem.wp M Γ t Q E p s->Sem.wp M Γ t (λa p s=>Q a p s/\J s.heap) (λe p s=>E e p s/\J s.heap) p s:=by
 induction h with
 | pure a=>exact λp s j z=>⟨z,j⟩
 | raise e=>exact λp s j z=>⟨z,j⟩
 | uns x=>exact λp s j z=>z
 | load _ ih=>rintro p s j ⟨o,e,z⟩;exact ⟨o,e,ih o p s j z⟩
 | upd h1 _ ih=>rintro p s j ⟨e,z⟩;exact ⟨e,ih p _ (h1 _ j) z⟩
 | alloc _ ih=>exact λp s j z=>ih _ p _ (hp _ _ j) z
 | stack _ ih=>exact λp s j z=>ih _ p s j z
 | rule _ ih=>exact λp s j z=>ih p s j z
theorem Kp.any {M:Model} {A:Around} {t:Sem α} {Q:α->Shared->Prop} {E:Value->Shared->Prop} {s:Shared} (hp:∀h o,J h->J (h.push o)) (h:Kp J t) (j:J s.heap) (z:wpAny M A t Q E s) :
 wpAny M A t (λa s=>Q a s/\J s.heap) (λe s=>E e s/\J s.heap) s:=fun Γ p hΓ=>h.run hp p s j (z Γ p hΓ)
end
noncomputable def Nc (ea:Addr) (h:Heap):Prop:=∃(oe:Obj) (vs:Array Value),h.get? ea=some oe/\oe.data=.fields vs/\vs[2]?=some .none/\oe.dict=none
section
variable {ea:Addr}
theorem j1l {o:Obj} {vs:Array Value} (d:o.data=.fields vs):o.isFreed=false:=by
 obtain ⟨c,dd,da,sl⟩:=o
 have d:da=.fields vs:=d
 subst d
 rfl
theorem Nc.push (h:Heap) (o:Obj) (j:Nc ea h):Nc ea (h.push o):=by
 obtain ⟨oe,vs,e,d,z⟩:=j
 exact ⟨oe,vs,Heap.get?_push_of_some _ e,d,z⟩
theorem Nc.upd {b:Addr} {f:Obj->Obj} (hf:∀o vs,o.data=.fields vs->vs[2]?=some .none->∃ws,(f o).data=.fields ws/\ws[2]?=some .none/\(f o).dict=o.dict) (h:Heap) (j:Nc ea h):Nc ea (h.update b f):=by
 obtain ⟨oe,vs,e,d,z,dn⟩:=j
 by_cases q:b=ea
 ·subst q
  obtain ⟨ws,d',z',dd⟩:=hf oe vs d z
  exact ⟨f oe,ws,Heap.get?_update_self _ e (j1l d'),d',z',dd.trans dn⟩
 ·exact ⟨oe,vs,by rw [Heap.get?_update_other _ _ q];exact e,d,z,dn⟩
theorem Nc.set {i:Nat} {x:Value} (hi:i≠2) (o:Obj) (vs:Array Value) (d:o.data=.fields vs) (z:vs[2]?=some .none):∃ws,(Obj.mapFields (·.setIfInBounds i x) o).data=.fields ws/\ws[2]?=some .none/\(Obj.mapFields (·.setIfInBounds i x) o).dict=o.dict:=by
 obtain ⟨c,dd,da,sl⟩:=o
 have d:da=.fields vs:=d
 subst d
 exact ⟨_,rfl,by rw [Array.getElem?_setIfInBounds_ne hi];exact z,rfl⟩
theorem q5s {v:Value} {J:Heap->Prop}:Kp J (PySem.fieldsOf v):=by
 unfold PySem.fieldsOf
 split
 ·refine Kp.bind (.load λo=>.pure o) λo=>?_
  split
  ·exact .pure _
  ·exact .uns _
 ·exact .uns _
theorem q2N {v:Value} {i:Nat} {J:Heap->Prop}:Kp J (field v i):=by
 unfold field
 refine Kp.bind q5s λvs=>?_
 split
 ·exact .pure _
 ·exact .uns _
theorem q2m {v x:Value} {i:Nat} (hi:i≠2):Kp (Nc ea) (setField v i x):=by
 unfold setField
 split
 ·unfold updateField
  refine Kp.bind (.load λo=>.pure o) λo=>?_
  split
  ·split
   ·exact .upd (Nc.upd λo vs=>Nc.set hi o vs) (.pure ())
   ·exact .uns _
  ·exact .uns _
 ·exact .uns _
theorem q4K {u:Value} {f:Option Addr}:Kp (Nc ea) (setFlight u f):=by
 unfold setFlight
 refine Kp.bind q2N λtb=>?_
 split
 ·exact q2m (by decide)
 ·exact .pure ()
theorem q6c:∀(l:List Env),Kp (Nc ea) (readyFrames l)
 | []=>.pure ()
 | env::outer=>by
  unfold readyFrames
  split
  ·refine Kp.bind (.load λo=>.pure o) λo=>?_
   split
   ·exact .pure ()
   ·refine Kp.bind ?_ λim=>Kp.bind ?_ λback=>Kp.bind (.upd (Nc.upd λo vs d z=>⟨vs,d,z,rfl⟩) (.pure ())) λ_=>q6c outer
    ·unfold behindIsImport
     split
     ·exact .pure _
     ·split
      ·exact .pure _
      ·exact Kp.bind q2N λ_=>.pure _
    ·unfold keptBack
     split
     ·split
      ·exact .pure _
      ·exact Kp.bind (Kp.bind (.stack λl=>.pure l) λ_=>.pure _) λ_=>.pure _
     ·exact .pure _
  ·exact .uns _
theorem q7j {env:Env}:Kp (Nc ea) (PySem.frameOf env):=by
 unfold PySem.frameOf
 refine Kp.bind (Kp.bind (.stack λl=>.pure l) λ_=>.pure _) λl=>Kp.bind ?_ λo=>?_
 ·unfold frameObject
  split
  ·exact .pure _
  ·exact Kp.bind (q6c _) λ_=>.pure _
 ·split
  ·exact .pure _
  ·exact .uns _
theorem q4l (vs:List Value):Kp (Nc ea) (newFields "traceback" vs):=by
 unfold newFields newObj
 have fin:∀d,Kp (Nc ea) (newObjAsIs (.type "traceback") d none):=λd=>Kp.bind (.alloc λa=>.pure a) λa=>.pure _
 dsimp only
 split
 ·exact Kp.bind (.uns _) λ_=>fin _
 ·exact fin _
theorem q4r {u:Value} {env:Env}:Kp (Nc ea) (noteFrame u env):=by
 unfold noteFrame
 split
 ·refine Kp.bind q2N λhead=>?_
  rename_i f _
  have last:Kp (Nc ea) (do setField u 1 (<-EntryCells.newEntry head (<-PySem.frameOf env) .none (rawInt f) .none (<-entryPlaceOf f (head != .none)))):=by
   refine Kp.bind q7j λfr=>Kp.bind ?_ λpl=>Kp.bind ?_ λtb=>q2m (by decide)
   ·unfold entryPlaceOf
    refine Kp.bind (.stack λl=>.pure l) λacts=>?_
    split
    ·exact .pure _
    ·exact .pure _
   ·exact q4l _
  split
  ·refine Kp.bind q2N λx=>?_
   split
   ·exact .pure ()
   ·exact Kp.bind (q2m (by decide)) λ_=>last
  ·exact last
 ·exact .uns _
theorem q64 {u:Value} {env:Env}:Kp (Nc ea) (leaving env u):=Kp.bind q4r λ_=>q4K
end
structure j6o (K:PySem.W.Frag) (C:Addr):Prop where
 ga:PySem.W.findIn K (.ref C) "__getattribute__" = some (some (.builtin "BaseException.__getattribute__"))
 gh:PySem.W.findIn K (.ref C) "__getattr__" = some none
 ha:PySem.W.findIn K (.ref C) "__class__" = some (some (.builtin "object.__class__"))
 hn:PySem.W.specialIn K (.builtin "object.__class__") "__get__" = some (some (.builtin "getset_descriptor.__get__"))
 htk:PySem.W.takesIn K (.builtin "object.__class__")=some true
 hm:PySem.W.mroIn K C (.type "object")=some true
 hb:PySem.W.mroIn K C (.type "BaseException")=some true
noncomputable def j4K (x C:Addr) (h:Heap):Prop:=∃o,PySem.W.InstAt h x o C none
section
variable {K:PySem.W.Frag} {x C:Addr}
theorem j0M {prog:Program} {w:World} {A:Around} {E:Value->Shared->Prop} {Q:Fin->Shared->Prop} {s:Shared} {tk:Tok} (F:j6o K C) (X:K.In s.heap) (p:j4K x C s.heap) (hq:Q (.done (.ret (.ref C))) s) :
 wpAny (model prog w) A (Builtin.«object.__getattribute__» ⟨[.ref x,.str "__class__" tk],[]⟩) Q E s:=by
 obtain ⟨o,I⟩:=p
 have hc:(PySem.W.clsIn K C).isSome=true:=by
  obtain ⟨cd,h,_⟩:=Option.bind_eq_some_iff.mp F.hm
  rw [h];rfl
 have hf:PySem.W.findObj K C none "__class__" = some (.bind (.builtin "getset_descriptor.__get__") (.builtin "object.__class__")):=by
  obtain ⟨cd,hc⟩:=Option.isSome_iff_exists.mp hc
  unfold PySem.W.findObj
  rw [hc,Option.bind_some,F.ha,Option.bind_some]
  simp [F.hn,F.htk]
 have L0:=I.type (M:=model prog w)
 have L1:=PySem.W.looks_find (M:=model prog w) X I hf
 unfold Builtin.«object.__getattribute__»
 refine wpAny_bind (m:=slotArgs _ _ _) (wpAny_pure ?_)
 refine wpAny_bind (wpAny_pure ?_)
 refine wpAny_bind (L0.at (wpAny_bind (L1.at ?_)))
 show wpAny _ _ (holding [_] (call _ _) >>= ret) _ _ _
 exact wpAny_bind (wpAny_holding (wpAny_call (PySem.W.class_get X I F.hm (wpAny_pure hq))))
theorem j0m {prog:Program} {w:World} {A:Around} {E:Value->Shared->Prop} {Q:Option Value->Shared->Prop} {s:Shared} (F:j6o K C) (X:K.In s.heap) (p:j4K x C s.heap) (hq:Q (some (.ref C)) { s with toks:=s.toks+1 }) :
 wpAny (model prog w) A (getAttr? (.ref x) "__class__") Q E s:=by
 have p2:=p
 obtain ⟨o,I⟩:=p
 have L0:=I.type (M:=model prog w)
 have L1:=PySem.W.looks_findIn (M:=model prog w) X F.ga
 have L2:=PySem.W.looks_findIn (M:=model prog w) X F.gh
 have LB:=PySem.W.looks_mroIn (M:=model prog w) X F.hb
 have ne:¬(onTheHeap (Value.ref C) && Value.builtin "BaseException.__getattribute__"==Value.builtin "object.__getattribute__")=true:=by
  have:(Value.builtin "BaseException.__getattribute__"==Value.builtin "object.__getattribute__")=false:=by decide +kernel
  rw [this];simp
 unfold getAttr? getAttrBy? getAttrBy
 refine wpAny_bind (wpAny_mkText (wpAny_bind (wpAny_attempt (wpAny_holding (wpAny_bind (L0.at (wpAny_bind (L1.at ?_))))))))
 dsimp only
 rw [if_neg ne]
 unfold getAttrByItsOwn hookBefore
 refine wpAny_bind ?_
 rw [if_pos (show onTheHeap (Value.ref C)=true from rfl)]
 refine L2.at ?_
 refine wpAny_bind (wpAny_attempt (wpAny_holding ?_))
 unfold callGetattribute
 rw [if_neg (by simp)]
 unfold boundAndCalled
 have f3:=PySem.F.excAttr_ValueError.ga.bind (.ref x)
 rw [f3]
 refine wpAny_bind (wpAny_pure ?_)
 have hk:builtinKind "BaseException.__getattribute__" = some .slot:=by decide +kernel
 have hsplit:splitId "BaseException.__getattribute__" = some ("BaseException","__getattribute__"):=by decide +kernel
 refine wpAny_call (codeAny_call_builtin PySem.F.excAttr_ValueError.ga.plain PySem.F.entry_bexc_ga ?_)
 have ha:=PySem.F.args_bexc_ga (.ref x) (.str "__class__" s.toks)
 simp only [checkBuiltinCall,hk,hsplit]
 refine wpAny_bind ?_
 unfold isInstance
 refine wpAny_bind (L0.at (LB.at ?_))
 rw [if_neg (by simp)]
 refine wpAny_of_eq (a:=()) ha ?_
 exact j0M (s:={ s with toks:=s.toks+1 }) F X p2 (PySem.W.handed_on rfl (wpAny_pure hq))
theorem j1K (F:j6o K C):PySem.W.KitX K (.ref x) (.ref C) (j4K x C) where
 ty:=λ_ _ _ ⟨_,I⟩=>I.type
 it:=λ_ _ X _=>by
  obtain ⟨cdD,hcD,_⟩:=Option.bind_eq_some_iff.mp F.hm
  unfold PySem.W.clsIn at hcD
  split at hcD
  ·rename_i c' d' cd' sl' ho
   intro A' Q' E' s' k q
   unfold isType loadHead
   exact wpAny_bind (wpAny_loadPart (k _ _ (X _ _ ho)) (wpAny_pure q))
  ·cases hcD
 ne:=λh tp dd its n sl X htp=>by
  obtain ⟨cdD,hcD,_⟩:=Option.bind_eq_some_iff.mp F.hm
  refine Bool.eq_false_iff.mpr λq=>?_
  have e:C=tp:=Value.ref.inj (beq_iff_eq.mp q)
  subst e
  unfold PySem.W.clsIn at hcD
  split at hcD
  ·rename_i c' d' cd' sl' ho
   have z:=(X _ _ ho).symm.trans htp
   cases z
  ·cases hcD
 ca:=λX p k=>j0m F X p k
end
inductive D where
 | non | bl (b:Bool) | int (i:Int) | str (x:Str)
 | tup (ds:List D) | lst (ds:List D) | ins (c:Nat) (ds:List D) | exc (c:Nat)
inductive Out (α:Type) where
 | ok (a:α) | exc (c:Nat) | bad
noncomputable def Out.bind {α β:Type}:Out α->(α->Out β)->Out β
 | .ok a,k=>k a
 | .exc c,_=>.exc c
 | .bad,_=>.bad
@[simp] theorem Out.ok_bind {α β:Type} (a:α) (k:α->Out β):(Out.ok a).bind k=k a:=(rfl)
@[simp] theorem Out.exc_bind {α β:Type} (c:Nat) (k:α->Out β):(Out.exc c:Out α).bind k=.exc c:=(rfl)
@[simp] theorem Out.bad_bind {α β:Type} (k:α->Out β):(Out.bad:Out α).bind k=.bad:=(rfl)
structure Tb where
 ca:Nat->Addr
 fa:Addr->List Str
 me:Option Addr:=none
 mo:Option Addr:=none
noncomputable def Tb.fl (T:Tb) (c:Nat):List Str:=T.fa (T.ca c)
section
variable (T:Tb) (K:PySem.W.Frag)
noncomputable def FzL (K:PySem.W.Frag) (H:Hp) (a:Addr) (xs:List V):Prop:=
 (∃o,H a=some (.frz o (.lst xs))) ∨
  ∃(o:Obj) (its:Array Value) (n:Nat),K.lookup a=some o/\o.cls=.type "list"/\o.dict=none/\o.data=.seq its n/\its.size<=sizeLine/\Vals xs its.toList
theorem FzL.sq {K:PySem.W.Frag} {H:Hp} {a:Addr} {xs:List V} (h:FzL K H a xs):SqL K H a xs:=by
 rcases h with h | h
 ·exact .inl (.inr h)
 ·exact .inr h
mutual
noncomputable def Rep (T:Tb) (K:PySem.W.Frag) (H:Hp):D->V->Prop
 | .non,v=>v=.non
 | .bl b,v=>v=.bl b
 | .int i,v=>v=.int i
 | .str x,v=>v=.str x
 | .tup ds,v=>∃a vs,v=.ref a/\SqT K H a vs/\RepL T K H ds vs
 | .lst ds,v=>∃a vs,v=.ref a/\FzL K H a vs/\RepL T K H ds vs
 | .ins c ds,v=>∃a dx fs,v=.ref a/\H a=some (.ins (T.ca c) dx fs)/\fs.map (·.1)=T.fl c/\RepL T K H ds (fs.map (·.2))
 | .exc c,v=>∃a o,v=.ref a/\H a=some (.frz o (.ext λ_=>True))/\o.cls=.ref (T.ca c)/\PySem.W.notCls o=true/\o.dict=none
noncomputable def RepL (T:Tb) (K:PySem.W.Frag) (H:Hp):List D->List V->Prop
 | [],vs=>vs=[]
 | d::ds,vs=>∃v r,vs=v::r/\Rep T K H d v/\RepL T K H ds r
end
end
section
variable {T:Tb} {K:PySem.W.Frag} {H H':Hp}
theorem Same.sqT {a:Addr} {xs:List V} (e:Same H H') (h:SqT K H a xs):SqT K H' a xs:=by
 rcases h with (h | ⟨o,h⟩) | h
 ·exact .inl (.inl (e _ _ h))
 ·exact .inl (.inr ⟨o,e _ _ h⟩)
 ·exact .inr h
theorem Same.fz {a:Addr} {xs:List V} (e:Same H H') (h:FzL K H a xs):FzL K H' a xs:=by
 rcases h with ⟨o,h⟩ | h
 ·exact .inl ⟨o,e _ _ h⟩
 ·exact .inr h
mutual
theorem Rep.mono (e:Same H H'):∀(d:D) (v:V),Rep T K H d v->Rep T K H' d v
 | .non,_,h=>h
 | .bl _,_,h=>h
 | .int _,_,h=>h
 | .str _,_,h=>h
 | .tup ds,_,h=>by
  obtain ⟨a,vs,r1,r2,r3⟩:=h
  exact ⟨a,vs,r1,Same.sqT e r2,RepL.mono e ds vs r3⟩
 | .lst ds,_,h=>by
  obtain ⟨a,vs,r1,r2,r3⟩:=h
  exact ⟨a,vs,r1,Same.fz e r2,RepL.mono e ds vs r3⟩
 | .ins c ds,_,h=>by
  obtain ⟨a,dx,fs,r1,r2,r3,r4⟩:=h
  exact ⟨a,dx,fs,r1,e _ _ r2,r3,RepL.mono e ds _ r4⟩
 | .exc c,_,h=>by
  obtain ⟨a,o,r1,r2,r3⟩:=h
  exact ⟨a,o,r1,e _ _ r2,r3⟩
theorem RepL.mono (e:Same H H'):∀(ds:List D) (vs:List V),RepL T K H ds vs->RepL T K H' ds vs
 | [],_,h=>h
 | d::ds,_,h=>by
  obtain ⟨v,r,r1,r2,r3⟩:=h
  exact ⟨v,r,r1,Rep.mono e d v r2,RepL.mono e ds r r3⟩
end
mutual
theorem q2H {T:Tb} {K:PySem.W.Frag} {H:Hp} {z u:Option Addr}:∀(d:D) (v:V),Rep { T with me:=z,mo:=u } K H d v↔Rep T K H d v
 | .non,_=>Iff.rfl
 | .bl _,_=>Iff.rfl
 | .int _,_=>Iff.rfl
 | .str _,_=>Iff.rfl
 | .tup ds,_=>⟨λ⟨a,vs,r1,r2,r3⟩=>⟨a,vs,r1,r2,(repL_me ds vs).mp r3⟩,λ⟨a,vs,r1,r2,r3⟩=>⟨a,vs,r1,r2,(repL_me ds vs).mpr r3⟩⟩
 | .lst ds,_=>⟨λ⟨a,vs,r1,r2,r3⟩=>⟨a,vs,r1,r2,(repL_me ds vs).mp r3⟩,λ⟨a,vs,r1,r2,r3⟩=>⟨a,vs,r1,r2,(repL_me ds vs).mpr r3⟩⟩
 | .ins c ds,_=>⟨λ⟨a,dx,fs,r1,r2,r3,r4⟩=>⟨a,dx,fs,r1,r2,r3,(repL_me ds _).mp r4⟩,λ⟨a,dx,fs,r1,r2,r3,r4⟩=>⟨a,dx,fs,r1,r2,r3,(repL_me ds _).mpr r4⟩⟩
 | .exc c,_=>Iff.rfl
theorem repL_me {T:Tb} {K:PySem.W.Frag} {H:Hp} {z u:Option Addr}:∀(ds:List D) (vs:List V),RepL { T with me:=z,mo:=u } K H ds vs↔RepL T K H ds vs
 | [],_=>Iff.rfl
 | d::ds,_=>⟨λ⟨v,r,r1,r2,r3⟩=>⟨v,r,r1,(q2H d v).mp r2,(repL_me ds r).mp r3⟩,λ⟨v,r,r1,r2,r3⟩=>⟨v,r,r1,(q2H d v).mpr r2,(repL_me ds r).mpr r3⟩⟩
end
theorem RepL.length:∀(ds:List D) (vs:List V),RepL T K H ds vs->vs.length=ds.length
 | [],_,h=>by cases h;rfl
 | d::ds,_,h=>by
  obtain ⟨v,r,rfl,_,h3⟩:=h
  simp [RepL.length ds r h3]
theorem RepL.get:∀(ds:List D) (vs:List V) (i:Nat) (d:D),RepL T K H ds vs->ds[i]?=some d->∃v,vs[i]?=some v/\Rep T K H d v
 | [],_,_,_,_,e=>by simp at e
 | d::ds,_,0,x,h,e=>by
  obtain ⟨v,r,rfl,h2,_⟩:=h
  simp at e;subst e
  exact ⟨v,rfl,h2⟩
 | d::ds,_,i+1,x,h,e=>by
  obtain ⟨v,r,rfl,_,h3⟩:=h
  obtain ⟨u,e1,e2⟩:=RepL.get ds r i x h3 (by simpa using e)
  exact ⟨u,by simpa using e1,e2⟩
theorem RepL.append:∀(ds:List D) (vs:List V) (es:List D) (us:List V),RepL T K H ds vs->RepL T K H es us->RepL T K H (ds++es) (vs++us)
 | [],_,_,_,h,h'=>by cases h;exact h'
 | d::ds,_,es,us,h,h'=>by
  obtain ⟨v,r,rfl,h2,h3⟩:=h
  exact ⟨v,r++us,rfl,h2,RepL.append ds r es us h3 h'⟩
theorem RepL.set:∀(ds:List D) (vs:List V) (i:Nat) (d:D) (v:V),RepL T K H ds vs->Rep T K H d v->RepL T K H (ds.set i d) (vs.set i v)
 | [],_,_,_,_,h,_=>by cases h;exact rfl
 | d::ds,_,0,x,y,h,q=>by
  obtain ⟨v,r,rfl,_,h3⟩:=h
  exact ⟨y,r,rfl,q,h3⟩
 | d::ds,_,i+1,x,y,h,q=>by
  obtain ⟨v,r,rfl,h2,h3⟩:=h
  exact ⟨v,r.set i y,rfl,h2,RepL.set ds r i x y h3 q⟩
theorem RepL.ints (ns:List Int):RepL T K H (ns.map D.int) (ns.map V.int):=by
 induction ns with
 | nil=>exact rfl
 | cons n ns ih=>exact ⟨.int n,ns.map V.int,rfl,rfl,ih⟩
end
noncomputable abbrev WK:=Int×List Int×Int
noncomputable abbrev KI:=Sum Int (List Int)
@[simp] noncomputable def w1j (k:WK):List KI:=[.inl k.1,.inr k.2.1,.inl k.2.2]
noncomputable abbrev WE:=WK×Addr×Value
@[simp] noncomputable def w1b (k:WK):D:=.tup [.int k.1,.tup (k.2.1.map D.int),.int k.2.2]
noncomputable def kiH:KI->Int
 | .inl i=>hashInt i
 | .inr is=>reduceHash (Builtin.Tuple.tupleHashOf (is.map hashInt))
noncomputable def w1l (x:WE):DictEntry:=⟨reduceHash (Builtin.Tuple.tupleHashOf ((w1j x.1).map kiH)),.ref x.2.1,x.2.2⟩
noncomputable def w1f (d:Addr) (xs:List WE) (h:Heap):Prop:=∃o es ep,h.get? d=some o/\o.ExactDict/\o.data=.dict es ep/\es.toList=xs.map w1l/\(xs.map (·.1)).Nodup
noncomputable def j9H (kvs:List (WK×Bool)) (xs:List WE):Prop:=xs.map (λe=>(e.1,e.2.2))=kvs.map (λq=>(q.1,Value.bool q.2))
inductive Sl where
 | no | sh (d:D) | ow (ds:List D) | bo (ds:List D) | me (c:Nat) (ds:List D)
 | ox (t:Bool) (pre ds post:List D)
 | od (kvs:List (WK×Bool)) | mo (ds:List D) | lm (ms:List (Option Nat×List D)) | bi (c:Nat) (ds:List D)
inductive Rv where
 | sh (d:D) | fr (ds:List D)
 | tf (t:Bool) (pre ds post:List D)
noncomputable abbrev Ro:=List Sl
noncomputable def OutAt (H:Hp):Bool->Addr->List V->Prop
 | true,a,us=>H a=some (.tup us)
 | false,a,us=>∃o,H a=some (.frz o (.lst us))
theorem OutAt.uniq {H:Hp} {t:Bool} {a:Addr} {us ws:List V} (h:OutAt H t a us) (h':OutAt H t a ws):us=ws:=by
 cases t with
 | true=>
  have h:H a=some (.tup us):=h
  have h':H a=some (.tup ws):=h'
  rw [h] at h';cases h';rfl
 | false=>
  obtain ⟨o,h⟩:=h
  obtain ⟨o',h'⟩:=h'
  rw [h] at h';cases h';rfl
theorem OutAt.keep {H H':Hp} {t:Bool} {a:Addr} {us:List V} (k:∀o,H a=some o->(∀xs,o≠.lst xs)->(∀c dx fs,o≠.ins c dx fs)->H' a=some o) (h:OutAt H t a us):OutAt H' t a us:=by
 cases t with
 | true=>exact k _ h (λ_ z=>by cases z) (λ_ _ _ z=>by cases z)
 | false=>
  obtain ⟨o,h⟩:=h
  exact ⟨o,k _ h (λ_ z=>by cases z) (λ_ _ _ z=>by cases z)⟩
theorem OutAt.nlst {H:Hp} {t:Bool} {a:Addr} {us ws:List V} (h:OutAt H t a us):H a≠some (.lst ws):=λz=>by
 cases t with
 | true=>
  have h:H a=some (.tup us):=h
  rw [h] at z;cases z
 | false=>
  obtain ⟨o,h⟩:=h
  rw [h] at z;cases z
noncomputable def InsAt (T:Tb) (K:PySem.W.Frag) (H:Hp) (c:Nat) (a:Addr) (ds:List D):Prop:=∃dx fs,H a=some (.ins (T.ca c) dx fs)/\fs.map (·.1)=(T.fl c).take ds.length/\ds.length < (T.fl c).length/\RepL T K H ds (fs.map (·.2))
noncomputable def MuAt (T:Tb) (K:PySem.W.Frag) (G H:Hp) (v:V):Option Nat×List D->Prop
 | (none,ds)=>∃a vs,v=.ref a/\H a=some (.lst vs)/\G a=none/\RepL T K H ds vs
 | (some c,ds)=>∃a,v=.ref a/\T.me≠some a/\G a=none/\InsAt T K H c a ds
noncomputable def SlOk (T:Tb) (K:PySem.W.Frag) (G H:Hp) (x:Option (Option V)):Sl->Prop
 | .no=>True
 | .sh d=>∃v,x=some (some v)/\Rep T K H d v
 | .ow ds=>∃a vs,x=some (some (.ref a))/\H a=some (.lst vs)/\G a=none/\RepL T K H ds vs
 | .bo ds=>∃a vs,x=some (some (.ref a))/\G a=some (.lst vs)/\RepL T K H ds vs
 | .me c ds=>∃a dx fs,T.me=some a/\x=some (some (.ref a))/\H a=some (.ins (T.ca c) dx fs)/\G a=none/\fs.map (·.1)=(T.fl c).take ds.length/\RepL T K H ds (fs.map (·.2))
 | .ox t pre ds post=>∃a vp b vq ws,x=some (some (.ref a))/\OutAt H t a (vp++.ref b::vq)/\RepL T K H pre vp/\RepL T K H post vq/\H b=some (.lst ws)/\G b=none/\RepL T K H ds ws
 | .od kvs=>∃d xs,x=some (some (.ref d))/\H d=some (.ext (w1f d xs))/\G d=none/\(d==sysModules)=false/\j9H kvs xs/\∀e∈xs,Rep T K H (w1b e.1) (.ref e.2.1)
 | .mo ds=>∃a vs,T.mo=some a/\x=some (some (.ref a))/\H a=some (.lst vs)/\G a=none/\RepL T K H ds vs
 | .lm ms=>∃a us,x=some (some (.ref a))/\OutAt H false a us/\us.length=ms.length/\(∀(i:Nat) (m:Option Nat×List D) (v:V),ms[i]?=some m->us[i]?=some v->MuAt T K G H v m)/\∀(i j:Nat) (v:V),us[i]?=some v->us[j]?=some v->i=j
 | .bi c ds=>∃a dx fs,x=some (some (.ref a))/\G a=some (.ins (T.ca c) dx fs)/\fs.map (·.1)=(T.fl c).take ds.length/\ds.length < (T.fl c).length/\RepL T K H ds (fs.map (·.2))
noncomputable def q41 (H:Hp) (x:Option (Option V)) (b:Addr):Sl->Prop
 | .ow _=>x=some (some (.ref b))
 | .mo _=>x=some (some (.ref b))
 | .lm ms=>∃(a:Addr) (us:List V) (i:Nat) (ks:List D),x=some (some (.ref a))/\OutAt H false a us/\us[i]?=some (.ref b)/\ms[i]?=some (none,ks)
 | .ox t pre _ _=>∃a us,x=some (some (.ref a))/\OutAt H t a us/\us[pre.length]?=some (.ref b)
 | _=>False
structure FR (T:Tb) (K:PySem.W.Frag) (G H:Hp) (σ:L2.St) (ρ:Ro):Prop where
 same:Same G H
 len:ρ.length=σ.length
 sl:∀(i:Nat) (s:Sl),ρ[i]?=some s->SlOk T K G H σ[i]? s
 ne:∀(i j:Nat) (s t:Sl) (b:Addr),i≠j->ρ[i]?=some s->ρ[j]?=some t->q41 H σ[i]? b s->q41 H σ[j]? b t->False
 me:∀x,T.me=some x->σ[0]?=some (some (.ref x))
 me0:∀(i:Nat) (c:Nat) (ds:List D),ρ[i]?=some (.me c ds)->i=0
noncomputable def q49 (T:Tb) (K:PySem.W.Frag) (G H:Hp) (v:V):Rv->Prop
 | .sh d=>Rep T K H d v
 | .fr ds=>∃a vs,v=.ref a/\H a=some (.lst vs)/\G a=none/\RepL T K H ds vs
 | .tf t pre ds post=>∃a vp b vq ws,v=.ref a/\OutAt H t a (vp++.ref b::vq)/\RepL T K H pre vp/\RepL T K H post vq/\H b=some (.lst ws)/\G b=none/\RepL T K H ds ws
section
variable {T:Tb} {K:PySem.W.Frag} {G H H':Hp} {σ:L2.St} {ρ:Ro}
theorem InsAt.mono {c:Nat} {a:Addr} {ds:List D} (e:Same H H') (h:InsAt T K H c a ds):InsAt T K H' c a ds:=by
 obtain ⟨dx,fs,e1,e2,e3,r⟩:=h
 exact ⟨dx,fs,e _ _ e1,e2,e3,RepL.mono e _ _ r⟩
theorem MuAt.mono {v:V}:∀{m:Option Nat×List D},Same H H'->MuAt T K G H v m->MuAt T K G H' v m
 | (none,_),e,⟨a,vs,e1,e2,e3,r⟩=>⟨a,vs,e1,e _ _ e2,e3,RepL.mono e _ _ r⟩
 | (some _,_),e,⟨a,e1,e2,e3,r⟩=>⟨a,e1,e2,e3,r.mono e⟩
theorem SlOk.mono {x:Option (Option V)} {s:Sl} (e:Same H H') (h:SlOk T K G H x s):SlOk T K G H' x s:=by
 cases s with
 | no=>trivial
 | sh d=>
  obtain ⟨v,e1,r⟩:=h
  exact ⟨v,e1,Rep.mono e _ _ r⟩
 | ow ds=>
  obtain ⟨a,vs,e1,e2,e3,r⟩:=h
  exact ⟨a,vs,e1,e _ _ e2,e3,RepL.mono e _ _ r⟩
 | bo ds=>
  obtain ⟨a,vs,e1,e2,r⟩:=h
  exact ⟨a,vs,e1,e2,RepL.mono e _ _ r⟩
 | me c ds=>
  obtain ⟨a,dx,fs,e0,e1,e2,e3,e4,r⟩:=h
  exact ⟨a,dx,fs,e0,e1,e _ _ e2,e3,e4,RepL.mono e _ _ r⟩
 | ox t pre ds post=>
  obtain ⟨a,vp,b,vq,ws,e1,e2,r1,r2,e3,e4,r3⟩:=h
  exact ⟨a,vp,b,vq,ws,e1,e2.keep λo q _ _=>e _ _ q,RepL.mono e _ _ r1,RepL.mono e _ _ r2,e _ _ e3,e4,RepL.mono e _ _ r3⟩
 | mo ds=>
  obtain ⟨a,vs,e0,e1,e2,e3,r⟩:=h
  exact ⟨a,vs,e0,e1,e _ _ e2,e3,RepL.mono e _ _ r⟩
 | od kvs=>
  obtain ⟨d,xs,e1,e2,e3,e4,e5,e6⟩:=h
  exact ⟨d,xs,e1,e _ _ e2,e3,e4,e5,λq hq=>Rep.mono e _ _ (e6 q hq)⟩
 | lm ms=>
  obtain ⟨a,us,e1,e2,e3,e4,e5⟩:=h
  exact ⟨a,us,e1,e2.keep λo q _ _=>e _ _ q,e3,λi m v q1 q2=>MuAt.mono e (e4 i m v q1 q2),e5⟩
 | bi c ds=>
  obtain ⟨a,dx,fs,e1,e2,e3,e4,r⟩:=h
  exact ⟨a,dx,fs,e1,e2,e3,e4,RepL.mono e _ _ r⟩
theorem SlOk.own {x:Option (Option V)} {s:Sl} {b:Addr} (h:SlOk T K G H x s) (o:q41 H x b s):(∃ws,H b=some (.lst ws))/\G b=none:=by
 cases s with
 | ow ds=>
  obtain ⟨a,vs,e1,e2,e3,r⟩:=h
  have o:x=some (some (.ref b)):=o
  rw [e1] at o;cases o
  exact ⟨⟨vs,e2⟩,e3⟩
 | ox t pre ds post=>
  obtain ⟨a,vp,c,vq,ws,e1,e2,r1,r2,e3,e4,r3⟩:=h
  obtain ⟨a',us,o1,o2,o3⟩:=o
  rw [e1] at o1;cases o1
  have:=e2.uniq o2
  subst this
  rw [<-RepL.length _ _ r1,List.getElem?_append_right (Nat.le_refl _),Nat.sub_self] at o3
  have o3:(some (V.ref c))=some (.ref b):=o3
  cases o3
  exact ⟨⟨ws,e3⟩,e4⟩
 | mo ds=>
  obtain ⟨a,vs,_,e1,e2,e3,r⟩:=h
  have o:x=some (some (.ref b)):=o
  rw [e1] at o;cases o
  exact ⟨⟨vs,e2⟩,e3⟩
 | lm ms=>
  obtain ⟨a,us,e1,e2,e3,e4,e5⟩:=h
  obtain ⟨a',us',i,ks,o1,o2,o3,o4⟩:=o
  rw [e1] at o1;cases o1
  have:=e2.uniq o2
  subst this
  obtain ⟨c,vs,q,q1,q2,_⟩:=e4 i _ _ o4 o3
  cases q
  exact ⟨⟨vs,q1⟩,q2⟩
 | _=>exact o.elim
theorem SlOk.back {x:Option (Option V)} {s:Sl} {b:Addr} (h:SlOk T K G H x s) (k:∀a o,H a=some o->(∀xs,o≠.lst xs)->(∀c dx fs,o≠.ins c dx fs)->H' a=some o) (o:q41 H' x b s):q41 H x b s:=by
 cases s with
 | ow ds=>exact o
 | mo ds=>exact o
 | lm ms=>
  obtain ⟨a,us,e1,e2,_⟩:=h
  obtain ⟨a',us',i,ks,o1,o2,o3,o4⟩:=o
  rw [e1] at o1;cases o1
  have:=(e2.keep (k a)).uniq o2
  subst this
  exact ⟨a,_,i,ks,e1,e2,o3,o4⟩
 | ox t pre ds post=>
  obtain ⟨a,vp,c,vq,ws,e1,e2,r1,r2,e3,e4,r3⟩:=h
  obtain ⟨a',us,o1,o2,o3⟩:=o
  rw [e1] at o1;cases o1
  have:=(e2.keep (k a)).uniq o2
  subst this
  exact ⟨a,_,e1,e2,o3⟩
 | _=>exact o.elim
theorem SlOk.off {x:Option (Option V)} {s:Sl} {a:Addr} {vs:List V} {o:HO} (e2:H a=some (.lst vs)) (tr:∀ds us,RepL T K H ds us->RepL T K (upd H a o) ds us) (hn:¬q41 H x a s) (h:SlOk T K G H x s):SlOk T K G (upd H a o) x s:=by
 have kp:∀{b:Addr} {u:HO},H b=some u->(∀xs,u≠.lst xs)->upd H a o b=some u:=λ{b u} w n=>by
  rw [q0j (λz=>by subst z;rw [e2] at w;cases w;exact n _ rfl)];exact w
 have ik:∀{b:Addr} {c:Nat} {ds:List D},InsAt T K H c b ds->InsAt T K (upd H a o) c b ds:=λ⟨dx,fs,z1,z2,z3,z4⟩=>⟨dx,fs,kp z1 (λ_ z=>by cases z),z2,z3,tr _ _ z4⟩
 have t1:∀{d:D} {v:V},Rep T K H d v->Rep T K (upd H a o) d v:=λ{d v} z2=>by
  obtain ⟨_,_,q,r,_⟩:=tr [d] [v] ⟨v,[],rfl,z2,rfl⟩
  cases q
  exact r
 cases s with
 | no=>trivial
 | sh d=>
  obtain ⟨v,z1,z2⟩:=h
  exact ⟨v,z1,t1 z2⟩
 | od kvs=>
  obtain ⟨d,xs,z1,z2,z3,z4,z5,z6⟩:=h
  exact ⟨d,xs,z1,kp z2 (λ_ z=>by cases z),z3,z4,z5,λq hq=>t1 (z6 q hq)⟩
 | ow es=>
  obtain ⟨b,ws,z1,z2,z3,z4⟩:=h
  exact ⟨b,ws,z1,by rw [q0j (λz=>by subst z;exact hn z1)];exact z2,z3,tr _ _ z4⟩
 | mo es=>
  obtain ⟨b,ws,z0,z1,z2,z3,z4⟩:=h
  exact ⟨b,ws,z0,z1,by rw [q0j (λz=>by subst z;exact hn z1)];exact z2,z3,tr _ _ z4⟩
 | bo es=>obtain ⟨b,ws,z1,z2,z4⟩:=h;exact ⟨b,ws,z1,z2,tr _ _ z4⟩
 | bi c es=>obtain ⟨b,dx,fs,z1,z2,z3,z4,z5⟩:=h;exact ⟨b,dx,fs,z1,z2,z3,z4,tr _ _ z5⟩
 | me c es=>
  obtain ⟨b,dx,fs,z0,z1,z2,z3,z4,z5⟩:=h
  exact ⟨b,dx,fs,z0,z1,kp z2 (λ_ z=>by cases z),z3,z4,tr _ _ z5⟩
 | lm ms=>
  obtain ⟨c,us,z1,z2,z3,z4,z5⟩:=h
  refine ⟨c,us,z1,z2.keep λu w n _=>kp w n,z3,λi m v q1 q2=>?_,z5⟩
  have z:=z4 i m v q1 q2
  match m,q1,z with
  | (none,ks),q1,⟨b,ws,y1,y2,y3,y4⟩=>
   subst y1
   exact ⟨b,ws,rfl,by rw [q0j (λy=>by subst y;exact hn ⟨c,us,i,ks,z1,z2,q2,q1⟩)];exact y2,y3,tr _ _ y4⟩
  | (some k,ks),q1,⟨b,y1,y2,y3,y4⟩=>exact ⟨b,y1,y2,y3,ik y4⟩
 | ox t pre es post=>
  obtain ⟨c,vp,b,vq,ws,z1,z2,z3,z4,z5,z6,z7⟩:=h
  have hab:b≠a:=λz=>hn ⟨c,_,z1,z2,by rw [<-RepL.length _ _ z3,List.getElem?_append_right (Nat.le_refl _),Nat.sub_self,z];rfl⟩
  exact ⟨c,vp,b,vq,ws,z1,z2.keep λu w n _=>kp w n,tr _ _ z3,tr _ _ z4,by rw [q0j hab];exact z5,z6,tr _ _ z7⟩
theorem FR.mono (e:Same H H') (h:FR T K G H σ ρ):FR T K G H' σ ρ:=⟨h.same.trans e,h.len,λi s q=>SlOk.mono e (h.sl i s q),λi j s t b hij q1 q2 o1 o2=>h.ne i j s t b hij q1 q2 ((h.sl i s q1).back (λa o z _ _=>e a o z) o1) ((h.sl j t q2).back (λa o z _ _=>e a o z) o2),h.me,h.me0⟩
theorem FR.sh_at (h:FR T K G H σ ρ) {i:Nat} {d:D} (e:ρ[i]?=some (.sh d)):∃v,σ[i]?=some (some v)/\Rep T K H d v:=h.sl i _ e
theorem q3t {H1:Hp} {v:V} {r:Rv} (s1:Same H H1) (h:q49 T K H1 H' v r):q49 T K H H' v r:=by
 cases r with
 | sh d=>exact h
 | fr ds=>
  obtain ⟨a,us,e1,e2,e3,e4⟩:=h
  exact ⟨a,us,e1,e2,s1.free e3,e4⟩
 | tf t pre ds post=>
  obtain ⟨a,vp,b,vq,ws,e1,e2,r1,r2,e3,e4,r3⟩:=h
  exact ⟨a,vp,b,vq,ws,e1,e2,r1,r2,e3,s1.free e4,r3⟩
theorem j2r {i:Nat} {v:Option V} (hz:T.me=none∨i≠0) (h:∀x,T.me=some x->σ[0]?=some (some (.ref x))):∀x,T.me=some x->(σ.set i v)[0]?=some (some (.ref x)):=λx e=>by
 rcases hz with z | z
 ·rw [z] at e;cases e
 ·rw [List.getElem?_set_ne z];exact h x e
theorem q37 {i:Nat} {s:Sl} (hs:∀c ds,s≠.me c ds) (h:∀(i:Nat) (c:Nat) (ds:List D),ρ[i]?=some (.me c ds)->i=0):∀(j:Nat) (c:Nat) (ds:List D),(ρ.set i s)[j]?=some (.me c ds)->j=0:=λj c ds e=>by
 by_cases hj:j=i
 ·subst hj
  have hl:j < ρ.length:=by
   have:=(List.getElem?_eq_some_iff.mp e).1;simpa using this
  rw [List.getElem?_set_self hl] at e
  exact absurd (Option.some.inj e) (hs c ds)
 ·rw [List.getElem?_set_ne (Ne.symm hj)] at e;exact h j c ds e
theorem FR.set_sh (h:FR T K G H σ ρ) {i:Nat} {d:D} {v:V} (r:Rep T K H d v) (hz:T.me=none∨i≠0):FR T K G H (σ.set i (some v)) (ρ.set i (.sh d)):=by
 refine ⟨h.same,by simp [h.len],λj s q=>?_,λj k s1 s2 b hjk q1 q2 o1 o2=>?_,j2r hz h.me,q37 (λ_ _ z=>by cases z) h.me0⟩
 ·by_cases hj:j=i
  ·subst hj
   have hl:j < ρ.length:=by
    have:=(List.getElem?_eq_some_iff.mp q).1;simpa using this
   rw [List.getElem?_set_self hl] at q
   cases q
   exact ⟨v,by rw [List.getElem?_set_self (by rw [<-h.len];exact hl)],r⟩
  ·rw [List.getElem?_set_ne (Ne.symm hj)] at q ⊢
   exact h.sl j s q
 ·have hj:j≠i:=by
   rintro rfl
   have hl:j < ρ.length:=by
    have:=(List.getElem?_eq_some_iff.mp q1).1;simpa using this
   rw [List.getElem?_set_self hl] at q1;cases q1;exact o1
  have hk:k≠i:=by
   rintro rfl
   have hl:k < ρ.length:=by
    have:=(List.getElem?_eq_some_iff.mp q2).1;simpa using this
   rw [List.getElem?_set_self hl] at q2;cases q2;exact o2
  rw [List.getElem?_set_ne (Ne.symm hj)] at q1 o1
  rw [List.getElem?_set_ne (Ne.symm hk)] at q2 o2
  exact h.ne j k s1 s2 b hjk q1 q2 o1 o2
theorem FR.set_own (h:FR T K G H σ ρ) {i:Nat} {v:V} (w:Sl) (hw:i < ρ.length->SlOk T K G H (some (some v)) w)
 (hn:∀j s b,j≠i->ρ[j]?=some s->q41 H (some (some v)) b w->¬q41 H σ[j]? b s) (hm:∀c ds,w≠.me c ds) (hz:T.me=none∨i≠0):FR T K G H (σ.set i (some v)) (ρ.set i w):=by
 have hlen:(ρ.set i w).length=(σ.set i (some v)).length:=by simp [h.len]
 have lt:∀{m:Nat} {z:Sl},(ρ.set i w)[m]?=some z->(m=i/\z=w/\(σ.set i (some v))[m]?=some (some v)/\i < ρ.length)∨(m≠i/\ρ[m]?=some z/\(σ.set i (some v))[m]?=σ[m]?):=λ{m z} q=>by
  by_cases hmi:m=i
  ·subst hmi
   have hl:m < ρ.length:=by
    have:=(List.getElem?_eq_some_iff.mp q).1;simpa using this
   rw [List.getElem?_set_self hl] at q
   exact .inl ⟨rfl,(Option.some.inj q).symm,by rw [List.getElem?_set_self (by rw [<-h.len];exact hl)],hl⟩
  ·rw [List.getElem?_set_ne (Ne.symm hmi)] at q
   exact .inr ⟨hmi,q,by rw [List.getElem?_set_ne (Ne.symm hmi)]⟩
 refine ⟨h.same,hlen,λj s q=>?_,λj k s1 s2 b hjk q1 q2 o1 o2=>?_,j2r hz h.me,q37 hm h.me0⟩
 ·rcases lt q with ⟨rfl,rfl,e,hl⟩ | ⟨_,q,e⟩
  ·rw [e];exact hw hl
  ·rw [e];exact h.sl j s q
 ·rcases lt q1 with ⟨rfl,rfl,e,hl⟩ | ⟨hj,p1,e⟩
  ·rw [e] at o1
   rcases lt q2 with ⟨rfl,_⟩ | ⟨hk,q2,e'⟩
   ·exact hjk rfl
   ·rw [e'] at o2;exact hn k s2 b hk q2 o1 o2
  ·rw [e] at o1
   rcases lt q2 with ⟨rfl,rfl,e',hl⟩ | ⟨hk,q2,e'⟩
   ·rw [e'] at o2;exact hn j s1 b hj p1 o2 o1
   ·rw [e'] at o2;exact h.ne j k s1 s2 b hjk p1 q2 o1 o2
theorem FR.set_ow (h:FR T K G H σ ρ) {i:Nat} {ds:List D} {a:Addr} {vs:List V} (ha:H a=some (.lst vs)) (hg:G a=none) (r:RepL T K H ds vs)
 (hn:∀j s,j≠i->ρ[j]?=some s->¬q41 H σ[j]? a s) (hz:T.me=none∨i≠0):FR T K G H (σ.set i (some (.ref a))) (ρ.set i (.ow ds)):=by
 refine h.set_own (.ow ds) ?_ ?_ (λc ds z=>by cases z) hz
 ·exact λ_=>⟨a,vs,rfl,ha,hg,r⟩
 ·intro j s b hj q o1 o2
  have o1:some (some (V.ref a))=some (some (.ref b)):=o1
  cases o1
  exact hn j s hj q o2
end
noncomputable def Free (X:Cx) (pins:List (Addr×Obj)) (b:Addr):Prop:=
 (b∈X.ex∨X.s₀.heap.get? b=none)/\b≠X.env.locals/\(∀x c,X.env.cells.lookup x=some c->c≠b)/\∀p∈X.pn++pins,p.1≠b
noncomputable def w0A (T:Tb) (c:Nat) (ea:Addr) (H:Hp) (h:Heap) (P:Addr->Prop):Prop:=
 H ea=none/\P ea/\Nc ea h/\∃(oe:Obj) (vs:Array Value) (a0:Value),h.get? ea=some oe/\oe.cls=.ref (T.ca c)/\oe.data=.fields vs/\vs[0]?=some a0 /\
  (vs[1]?=some .none∨∃(tb:Addr) (ot:Obj) (ts:Array Value),vs[1]?=some (.ref tb)/\tb≠ea/\h.get? tb=some ot/\ot.data=.fields ts/\ts[3]?=some .none/\H tb=none/\P tb)
noncomputable def Flying (T:Tb) (X:Cx) (pins:List (Addr×Obj)) (c:Nat) (u:Value) (H:Hp) (s:Shared):Prop:=
 ∃ea,u=.ref ea/\w0A T c ea H s.heap (Free X pins)
noncomputable def XW (T:Tb) (X:Cx) (E:Value->Shared->Prop) (σ:L2.St) (H:Hp) (c:Nat):Prop:=
 ∀(pins:List (Addr×Obj)) (s:Shared) (u:Value) (H':Hp),Inv X pins σ H' s->Same H H'->Flying T X pins c u H' s->E u s
theorem XW.mono {T:Tb} {X:Cx} {E:Value->Shared->Prop} {σ:L2.St} {H H':Hp} {c:Nat} (e:Same H H') (h:XW T X E σ H c):XW T X E σ H' c:=
 λpins s u H'' I q f=>h pins s u H'' I (e.trans q) f
noncomputable def Acc {α:Type} (T:Tb) (X:Cx) (E:Value->Shared->Prop) (σ:L2.St) (H:Hp) (o:Out α) (k:α->Prop):Prop:=
 match o with
 | .ok a=>k a
 | .exc c=>XW T X E σ H c
 | .bad=>False
section
variable {T:Tb} {X:Cx} {E:Value->Shared->Prop} {σ:L2.St} {H H':Hp} {α β:Type}
theorem Acc.mono {o:Out α} {k k':α->Prop} (h:Acc T X E σ H o k) (f:∀a,o=.ok a->k a->k' a):Acc T X E σ H o k':=by
 cases o with
 | ok a=>exact f a rfl h
 | exc c=>exact h
 | bad=>exact h
theorem Acc.heap {o:Out α} {k:α->Prop} (e:Same H H') (h:Acc T X E σ H o k):Acc T X E σ H' o k:=by
 cases o with
 | ok a=>exact h
 | exc c=>exact XW.mono e h
 | bad=>exact h
theorem Acc.bind {o:Out α} {g:α->Out β} {k:β->Prop} (h:Acc T X E σ H (o.bind g) k):Acc T X E σ H o (λa=>Acc T X E σ H (g a) k):=by
 cases o with
 | ok a=>exact h
 | exc c=>exact h
 | bad=>exact h
end
noncomputable abbrev Ev:=Ro->Out D
noncomputable def kE (T:Tb) (K:PySem.W.Frag) (H:Hp) (Q:VK) (d:D):Prop:=∀v H',Same H H'->Rep T K H' d v->Q v H'
noncomputable def tE (T:Tb) (X:Cx) (G:Hp) (E:Value->Shared->Prop) (f:Ev):TE:=fun σ H Q=>∃ρ,FR T X.K G H σ ρ/\Acc T X E σ H (f ρ) (kE T X.K H Q)
structure DE (T:Tb) (X:Cx) (e:Expr) (f:Ev):Prop where
 mk ::
 run:∀(G:Hp) (E:Value->Shared->Prop),PassesOwn (model X.prog X.w) X.A X.env E->PE (X.wish E) e (tE T X G E f)
noncomputable def kT (H:Hp) (Q:Bool->Hp->Prop) (b:Bool):Prop:=∀H',Same H H'->Q b H'
noncomputable def tT (T:Tb) (X:Cx) (G:Hp) (E:Value->Shared->Prop) (f:Ro->Out Bool):TT:=fun σ H Q=>∃ρ,FR T X.K G H σ ρ/\Acc T X E σ H (f ρ) (kT H Q)
structure DT (T:Tb) (X:Cx) (e:Expr) (f:Ro->Out Bool):Prop where
 mk ::
 run:∀(G:Hp) (E:Value->Shared->Prop),PassesOwn (model X.prog X.w) X.A X.env E->PT (X.wish E) e (tT T X G E f)
structure DW (T:Tb) (X:Cx) (e:Expr) (f:Ro->Out Bool):Prop where
 mk ::
 run:∀(G:Hp) (E:Value->Shared->Prop),PassesOwn (model X.prog X.w) X.A X.env E->PW (X.wish E) e (tT T X G E f)
theorem DW.dt {T:Tb} {X:Cx} {e:Expr} {f:Ro->Out Bool} (h:DW T X e f):DT T X e f:=.mk λG E hp=>(h.run G E hp).pt
noncomputable def tA (T:Tb) (X:Cx) (G:Hp) (E:Value->Shared->Prop) (f:Ro->Out (List D)):TA:=fun σ H Q=>∃ρ,FR T X.K G H σ ρ/\Acc T X E σ H (f ρ) (λds=>∀vs H',Same H H'->RepL T X.K H' ds vs->Q vs H')
structure DA (T:Tb) (X:Cx) (es:List Expr) (f:Ro->Out (List D)):Prop where
 mk ::
 run:∀(G:Hp) (E:Value->Shared->Prop),PassesOwn (model X.prog X.w) X.A X.env E->PA (X.wish E) es (tA T X G E f)
noncomputable def tF (T:Tb) (X:Cx) (G:Hp) (E:Value->Shared->Prop) (f:Ro->Out (List D)):TE:=fun σ H Q=>∃ρ,FR T X.K G H σ ρ/\Acc T X E σ H (f ρ) (λds=>∀a vs H',Same H H'->H a=none->H' a=some (.lst vs)->RepL T X.K H' ds vs->Q (.ref a) H')
structure DF (T:Tb) (X:Cx) (e:Expr) (f:Ro->Out (List D)):Prop where
 mk ::
 run:∀(G:Hp) (E:Value->Shared->Prop),PassesOwn (model X.prog X.w) X.A X.env E->PE (X.wish E) e (tF T X G E f)
noncomputable def tL (T:Tb) (X:Cx) (G:Hp) (E:Value->Shared->Prop) (f:Ro->Out (List D)):TE:=fun σ H Q=>∃ρ,FR T X.K G H σ ρ/\Acc T X E σ H (f ρ) (λds=>∀a vs H',Same H H'->SqL X.K H' a vs->RepL T X.K H' ds vs->Q (.ref a) H')
structure DL (T:Tb) (X:Cx) (e:Expr) (f:Ro->Out (List D)):Prop where
 mk ::
 run:∀(G:Hp) (E:Value->Shared->Prop),PassesOwn (model X.prog X.w) X.A X.env E->PE (X.wish E) e (tL T X G E f)
noncomputable def tR (T:Tb) (X:Cx) (G:Hp) (E:Value->Shared->Prop) (f:Ro->Out Rv):TE:=fun σ H Q=>∃ρ,FR T X.K G H σ ρ/\Acc T X E σ H (f ρ) (λr=>∀v H',Same H H'->q49 T X.K H H' v r->Q v H')
structure DR (T:Tb) (X:Cx) (e:Expr) (f:Ro->Out Rv):Prop where
 mk ::
 run:∀(G:Hp) (E:Value->Shared->Prop),PassesOwn (model X.prog X.w) X.A X.env E->PE (X.wish E) e (tR T X G E f)
theorem PE.imp {X:Cx} {e:Expr} {t t':TE} (h:PE X e t) (k:∀σ H Q,t' σ H Q->t σ H Q):PE X e t':=λpins s σ H Q I q=>h pins s σ H Q I (k σ H Q q)
theorem PT.imp {X:Cx} {e:Expr} {t t':TT} (h:PT X e t) (k:∀σ H Q,t' σ H Q->t σ H Q):PT X e t':=λpins s σ H Q I q=>h pins s σ H Q I (k σ H Q q)
theorem PW.imp {X:Cx} {e:Expr} {t t':TT} (h:PW X e t) (k:∀σ H Q,t' σ H Q->t σ H Q):PW X e t':=λw pins s σ H Q I q=>h w pins s σ H Q I (k σ H Q q)
theorem PA.imp {X:Cx} {es:List Expr} {t t':TA} (h:PA X es t) (k:∀σ H Q,t' σ H Q->t σ H Q):PA X es t':=λp pins s σ H Q I q=>h p pins s σ H Q I (k σ H Q q)
theorem PS.imp {X:Cx} {e:Stmt} {t t':TS} (h:PS X e t) (k:∀D σ H,t' D σ H->t D σ H):PS X e t':=λpins s σ H D I q=>h pins s σ H D I (k D σ H q)
theorem PSs.imp {X:Cx} {e:List Stmt} {t t':TS} (h:PSs X e t) (k:∀D σ H,t' D σ H->t D σ H):PSs X e t':=λpins s σ H D I q=>h pins s σ H D I (k D σ H q)
inductive Fl where
 | nx (ρ:Ro) | rt (r:Rv) | rm (r:D) (c:Nat) (ds ks:List D) | exc (c:Nat) (ρ:Ro) | bk (ρ:Ro) | ct (ρ:Ro) | bad
noncomputable def stays (T:Tb) (b:Bool):HO->Bool
 | .lst _=>false
 | .ext _=>false
 | .ins C _ fs=>!b && decide (fs.map (·.1)=T.fa C)
 | _=>true
noncomputable def Pers (T:Tb) (b:Bool) (H H':Hp):Prop:=∀a o,H a=some o->stays T b o=true->H' a=some o
theorem Pers.refl {T:Tb} {b:Bool} (H:Hp):Pers T b H H:=λ_ _ e _=>e
theorem Pers.trans {T:Tb} {b:Bool} {H H1 H2:Hp} (x:Pers T b H H1) (y:Pers T b H1 H2):Pers T b H H2:=λc o e s=>y c o (x c o e s) s
theorem Pers.of {T:Tb} {b:Bool} {H H':Hp} (x:Same H H'):Pers T b H H':=λc o e _=>x c _ e
theorem Pers.fz {T:Tb} {b:Bool} {K:PySem.W.Frag} {H H':Hp} {a:Addr} {vs:List V} (p:Pers T b H H') (h:FzL K H a vs):FzL K H' a vs:=by
 rcases h with ⟨o,h⟩ | h
 ·exact .inl ⟨o,p _ _ h rfl⟩
 ·exact .inr h
mutual
theorem Rep.pers {T:Tb} {K:PySem.W.Frag} {H H':Hp} (e:Pers T false H H'):∀(d:D) (v:V),Rep T K H d v->Rep T K H' d v
 | .non,_,h=>h
 | .bl _,_,h=>h
 | .int _,_,h=>h
 | .str _,_,h=>h
 | .tup ds,_,h=>by
  obtain ⟨a,vs,r1,r2,r3⟩:=h
  refine ⟨a,vs,r1,?_,RepL.pers e ds vs r3⟩
  rcases r2 with (r2 | ⟨o,r2⟩) | r2
  ·exact .inl (.inl (e _ _ r2 rfl))
  ·exact .inl (.inr ⟨o,e _ _ r2 rfl⟩)
  ·exact .inr r2
 | .lst ds,_,h=>by
  obtain ⟨a,vs,r1,r2,r3⟩:=h
  exact ⟨a,vs,r1,e.fz r2,RepL.pers e ds vs r3⟩
 | .ins c ds,_,h=>by
  obtain ⟨a,dx,fs,r1,r2,r3,r4⟩:=h
  exact ⟨a,dx,fs,r1,e _ _ r2 (by show (!false && decide (fs.map (·.1)=T.fa (T.ca c)))=true;rw [r3];simp [Tb.fl]),r3,RepL.pers e ds _ r4⟩
 | .exc c,_,h=>by
  obtain ⟨a,o,r1,r2,r3⟩:=h
  exact ⟨a,o,r1,e _ _ r2 rfl,r3⟩
theorem RepL.pers {T:Tb} {K:PySem.W.Frag} {H H':Hp} (e:Pers T false H H'):∀(ds:List D) (vs:List V),RepL T K H ds vs->RepL T K H' ds vs
 | [],_,h=>h
 | d::ds,_,h=>by
  obtain ⟨v,r,r1,r2,r3⟩:=h
  exact ⟨v,r,r1,Rep.pers e d v r2,RepL.pers e ds r r3⟩
end
noncomputable def w1Y (T:Tb) (K:PySem.W.Frag) (H:Hp) (c:Nat) (ds:List D):Prop:=∃a,T.me=some a/\InsAt T K H c a ds
noncomputable def w1r (T:Tb) (K:PySem.W.Frag) (H:Hp):Option Addr->List D->Prop
 | none,ks=>ks=[]
 | some a,ks=>∃vs,H a=some (.lst vs)/\RepL T K H ks vs
noncomputable def AccS (T:Tb) (b:Bool) (X:Cx) (G:Hp) (E:Value->Shared->Prop) (H₁:Hp) (o:Fl) (D:Ends):Prop:=
 match o with
 | .nx ρ=>∀σ H,FR T X.K G H σ ρ->Pers T b H₁ H->D.nx σ H
 | .bk ρ=>∀σ H,FR T X.K G H σ ρ->Pers T b H₁ H->D.bk σ H
 | .ct ρ=>∀σ H,FR T X.K G H σ ρ->Pers T b H₁ H->D.ct σ H
 | .rt r=>∀v H,Same G H->q49 T X.K G H v r->D.rt v H
 | .rm r c ds ks=>∀v H,Same G H->Rep T X.K H r v->w1Y T X.K H c ds->w1r T X.K H T.mo ks->D.rt v H
 | .exc c ρ=>∀σ H,FR T X.K G H σ ρ->Pers T b H₁ H->XW T X E σ H c
 | .bad=>False
theorem AccS.heap {T:Tb} {b:Bool} {X:Cx} {G:Hp} {E:Value->Shared->Prop} {H H':Hp} {o:Fl} {D:Ends} (p:Pers T b H H') (h:AccS T b X G E H o D):AccS T b X G E H' o D:=by
 cases o with
 | nx ρ=>exact fun σ H2 fr q=>h σ H2 fr (p.trans q)
 | bk ρ=>exact fun σ H2 fr q=>h σ H2 fr (p.trans q)
 | ct ρ=>exact fun σ H2 fr q=>h σ H2 fr (p.trans q)
 | rt r=>exact h
 | rm r c ds ks=>exact h
 | exc c ρ=>exact fun σ H2 fr q=>h σ H2 fr (p.trans q)
 | bad=>exact h
noncomputable def tS (T:Tb) (b:Bool) (X:Cx) (G:Hp) (E:Value->Shared->Prop) (f:Ro->Fl):TS:=λD σ H=>∃ρ,FR T X.K G H σ ρ/\AccS T b X G E H (f ρ) D
structure DS (T:Tb) (b:Bool) (X:Cx) (st:Stmt) (f:Ro->Fl):Prop where
 mk ::
 run:∀(G:Hp) (E:Value->Shared->Prop),PassesOwn (model X.prog X.w) X.A X.env E->PS (X.wish E) st (tS T b X G E f)
structure DSs (T:Tb) (b:Bool) (X:Cx) (st:List Stmt) (f:Ro->Fl):Prop where
 mk ::
 run:∀(G:Hp) (E:Value->Shared->Prop),PassesOwn (model X.prog X.w) X.A X.env E->PSs (X.wish E) st (tS T b X G E f)
noncomputable def Fl.bind (o:Fl) (k:Ro->Fl):Fl:=match o with
 | .nx ρ=>k ρ
 | o=>o
@[simp] theorem Fl.nx_bind (ρ:Ro) (k:Ro->Fl):(Fl.nx ρ).bind k=k ρ:=(rfl)
@[simp] theorem Fl.rt_bind (r:Rv) (k:Ro->Fl):(Fl.rt r).bind k=.rt r:=(rfl)
@[simp] theorem Fl.rm_bind (r:D) (c:Nat) (ds ks:List D) (k:Ro->Fl):(Fl.rm r c ds ks).bind k=.rm r c ds ks:=(rfl)
@[simp] theorem Fl.exc_bind (c:Nat) (ρ:Ro) (k:Ro->Fl):(Fl.exc c ρ).bind k=.exc c ρ:=(rfl)
@[simp] theorem Fl.bk_bind (ρ:Ro) (k:Ro->Fl):(Fl.bk ρ).bind k=.bk ρ:=(rfl)
@[simp] theorem Fl.ct_bind (ρ:Ro) (k:Ro->Fl):(Fl.ct ρ).bind k=.ct ρ:=(rfl)
@[simp] theorem Fl.bad_bind (k:Ro->Fl):Fl.bad.bind k=.bad:=(rfl)
noncomputable def Out.fl {α:Type} (o:Out α) (ρ:Ro) (k:α->Fl):Fl:=match o with
 | .ok a=>k a
 | .exc c=>.exc c ρ
 | .bad=>.bad
@[simp] theorem Out.ok_fl {α:Type} (a:α) (ρ:Ro) (k:α->Fl):(Out.ok a).fl ρ k=k a:=(rfl)
@[simp] theorem Out.exc_fl {α:Type} (c:Nat) (ρ:Ro) (k:α->Fl):(Out.exc c:Out α).fl ρ k=.exc c ρ:=(rfl)
@[simp] theorem Out.bad_fl {α:Type} (ρ:Ro) (k:α->Fl):(Out.bad:Out α).fl ρ k=.bad:=(rfl)
section
variable {T:Tb} {b:Bool} {X:Cx} {G:Hp} {E:Value->Shared->Prop} {σ:L2.St} {H:Hp} {α:Type}
theorem AccS.fl {o:Out α} {ρ:Ro} {k:α->Fl} {D:Ends} (fr:FR T X.K G H σ ρ) (h:AccS T b X G E H (o.fl ρ k) D):Acc T X E σ H o (λa=>AccS T b X G E H (k a) D):=by
 cases o with
 | ok a=>exact h
 | exc c=>exact h σ H fr (Pers.refl H)
 | bad=>exact h
end
noncomputable def q2G:Expr->Bool
 | .Starred ..=>false
 | _=>true
theorem q0D {e:Expr} {es:List Expr} {env:Env} (h:q2G e=true):starEach (e::es) env=(false,eval e env)::starEach es env:=by
 cases e<;>first | rfl | cases h
theorem q0H {pos:Pos} {env:Env}:∀{es:List Expr},es.all q2G=true->(backTo pos (starEach es env)).any (·.1)=false
 | [],_=>rfl
 | e::es,h=>by
  rw [List.all_cons,Bool.and_eq_true] at h
  rw [q0D h.1]
  show (false || (backTo pos (starEach es env)).any (·.1))=false
  rw [q0H h.2];rfl
theorem q2S {pos:Pos} {env:Env}:∀{es:List Expr},es.all q2G=true->(backTo pos (starEach es env)).all (λx=>!x.1)=true
 | [],_=>rfl
 | e::es,h=>by
  rw [List.all_cons,Bool.and_eq_true] at h
  rw [q0D h.1]
  show (true && (backTo pos (starEach es env)).all (λx=>!x.1))=true
  rw [q2S h.2];rfl
theorem j0g {pos:Pos} {env:Env} {e:Expr} {es:List Expr} (h:(e::es).all q2G=true) (hl:decide ((e::es).length+([]:List Keyword).length+(if ([]:List Keyword).isEmpty then 0 else 1) < 30)=true) :
 ((backTo pos (starEach (e::es) env)).all (λx=>!x.1) && (backToKw pos (keywordEach [] env)).all (λx=>x.1.isSome) && decide ((e::es).length+([]:List Keyword).length+(if ([]:List Keyword).isEmpty then 0 else 1) < 30))=true:=by
 rw [q2S h,hl];rfl
noncomputable def q94:Expr->Bool
 | .ListComp ..=>false
 | .SetComp ..=>false
 | .DictComp ..=>false
 | _=>true
theorem q2f {e:Expr} {t:Option Expr} {n:Nat} {env:Env} (h:q94 e=true):swapsWith e t n env=pure false:=by
 cases e<;>first | rfl | cases h
section
variable {T:Tb} {X:Cx} {pos:Pos}
@[simp] noncomputable def q0e (i:Nat) (ρ:Ro):Out D:=match ρ[i]? with
 | some (.sh d)=>.ok d
 | _=>.bad
theorem q0a (i:Nat) {x:Str} (hN:X.N[i]?=some x:=by rfl) (hv:Vis X.env.scope x:=by walk_at "v0") (hd:(x==("__debug__" : Str))=false:=by decide)
 (hcd:(x==("__classdict__" : Str))=false:=by decide):DE T X (.Name x pos) (q0e i):=.mk λG E hp=>by
 refine PE.imp (q2i (X:=X.wish E) hN hv hd hcd) fun σ H Q ⟨ρ,fr,h⟩=>?_
 unfold q0e at h
 split at h
 ·rename_i d e
  obtain ⟨v,e1,r⟩:=fr.sh_at e
  exact ⟨v,e1,h v H (Same.refl H) r⟩
 ·exact h.elim
@[simp] noncomputable def j3g (i:Nat) (ρ:Ro):Out (List D):=match ρ[i]? with
 | some (.ow ds)=>.ok ds
 | some (.bo ds)=>.ok ds
 | some (.mo ds)=>.ok ds
 | some (.sh (.lst ds))=>.ok ds
 | _=>.bad
theorem q3u (i:Nat) {x:Str} (hN:X.N[i]?=some x:=by rfl) (hv:Vis X.env.scope x:=by walk_at "v0") (hd:(x==("__debug__" : Str))=false:=by decide)
 (hcd:(x==("__classdict__" : Str))=false:=by decide):DL T X (.Name x pos) (j3g i):=.mk λG E hp=>by
 refine PE.imp (q2i (X:=X.wish E) hN hv hd hcd) fun σ H Q ⟨ρ,fr,h⟩=>?_
 unfold j3g at h
 split at h
 ·rename_i ds e
  obtain ⟨a,vs,e1,e2,e3,r⟩:=fr.sl i _ e
  exact ⟨_,e1,h a vs H (Same.refl H) (SqL.of e2) r⟩
 ·rename_i ds e
  obtain ⟨a,vs,e1,e2,r⟩:=fr.sl i _ e
  exact ⟨_,e1,h a vs H (Same.refl H) (SqL.of (fr.same _ _ e2)) r⟩
 ·rename_i ds e
  obtain ⟨a,vs,_,e1,e2,e3,r⟩:=fr.sl i _ e
  exact ⟨_,e1,h a vs H (Same.refl H) (SqL.of e2) r⟩
 ·rename_i ds e
  obtain ⟨v,e1,a,vs,rfl,e2,r⟩:=fr.sl i _ e
  exact ⟨_,e1,h a vs H (Same.refl H) e2.sq r⟩
 ·exact h.elim
@[simp] noncomputable def eC (d:D) (ρ:Ro):Out D:=.ok d
theorem PE.const {e:Expr} {v:V} {d:D} {E:Value->Shared->Prop} {G:Hp} (h:PE (X.wish E) e (tC v)) (r:∀H,Rep T X.K H d v):PE (X.wish E) e (tE T X G E (eC d)):=
 PE.imp h fun σ H Q ⟨ρ,fr,h⟩=>h v H (Same.refl H) (r H)
theorem q0c {i j}:DE T X (.Constant (.int i) j pos) (eC (.int i)):=.mk λG E hp=>PE.const j7b λ_=>rfl
theorem q2C {b j}:DE T X (.Constant (.bool b) j pos) (eC (.bl b)):=.mk λG E hp=>PE.const j92 λ_=>rfl
theorem j6f {j}:DE T X (.Constant .none j pos) (eC .non):=.mk λG E hp=>PE.const j7M λ_=>rfl
theorem q2h {x j}:DE T X (.Constant (.str x) j pos) (eC (.str x)):=.mk λG E hp=>PE.const j6M λ_=>rfl
theorem q42 {x:Str} {d:D} {v:V} {u:Value} (hg:Gl X x) (hm:X.mg x=some u) (r:RelV v u) (rd:∀H,Rep T X.K H d v) (hd:(x==("__debug__" : Str))=false:=by decide):DE T X (.Name x pos) (eC d):=
 .mk λG E hp=>PE.const (j3R (X:=X.wish E) hg hm r hd) rd
end
noncomputable def OpD (T:Tb) (X:Cx) (f:Value->Value->Sem Value) (g:D->D->Out D):Prop:=∀E:Value->Shared->Prop,∃r:R2,OpR (X.wish E) f r /\
 ∀(dx dy:D) (x y:V) (σ:L2.St) (H:Hp) (Q:VK),Rep T X.K H dx x->Rep T X.K H dy y->Acc T X E σ H (g dx dy) (kE T X.K H Q)->r x y H Q
@[simp] noncomputable def e2 (g:D->D->Out D) (fa fb:Ev) (ρ:Ro):Out D:=(fa ρ).bind λx=>(fb ρ).bind λy=>g x y
section
variable {T:Tb} {X:Cx} {pos:Pos} {a b:Expr} {fa fb:Ev}
theorem q6s {G H:Hp} {E:Value->Shared->Prop} {σ:L2.St} {Q:VK} {g:D->D->Out D} {r:R2}
 (hg:∀(dx dy:D) (x y:V) (σ:L2.St) (H:Hp) (Q:VK),Rep T X.K H dx x->Rep T X.K H dy y->Acc T X E σ H (g dx dy) (kE T X.K H Q)->r x y H Q) {ρ:Ro} (fr:FR T X.K G H σ ρ) (h:Acc T X E σ H (e2 g fa fb ρ) (kE T X.K H Q)) :
 tOp r (tE T X G E fa) (tE T X G E fb) σ H Q:=by
 refine ⟨ρ,fr,Acc.mono (Acc.bind h) λdx _ hx v H1 s1 r1=>⟨ρ,fr.mono s1,Acc.mono (Acc.bind (Acc.heap s1 hx)) λdy _ hy u H2 s2 r2=>?_⟩⟩
 refine hg dx dy v u σ H2 Q (Rep.mono s2 _ _ r1) r2 (Acc.mono (Acc.heap s2 hy) λd _ hd w H3 s3 r3=>hd w H3 ((s1.trans s2).trans s3) r3)
theorem q0m {op:Operator} {g:D->D->Out D} (ho:OpD T X (binaryOp op) g) (ha:DE T X a fa) (hb:DE T X b fb):DE T X (.BinOp a op b pos) (e2 g fa fb):=.mk λG E hp=>by
 obtain ⟨r,hr,hg⟩:=ho E
 exact PE.imp (j3V hr (ha.run G E hp) (hb.run G E hp)) fun σ H Q ⟨ρ,fr,h⟩=>q6s hg fr h
theorem q5O {op:CmpOp} {g:D->D->Out D} (ho:OpD T X (compareOp op) g) (ha:DE T X a fa) (hb:DE T X b fb) (hm:behindInMarks op b=false):DE T X (.Compare a [op] [b] pos) (e2 g fa fb):=.mk λG E hp=>by
 obtain ⟨r,hr,hg⟩:=ho E
 exact PE.imp (j3Q hr (ha.run G E hp) (hb.run G E hp) hm) fun σ H Q ⟨ρ,fr,h⟩=>q6s hg fr h
@[simp] noncomputable def D.toB:D->Out Bool
 | .bl b=>.ok b
 | _=>.bad
@[simp] noncomputable def tB2 (g:D->D->Out D) (fa fb:Ev) (ρ:Ro):Out Bool:=(e2 g fa fb ρ).bind D.toB
theorem q00 {op:CmpOp} {g:D->D->Out D} (ho:OpD T X (compareOp op) g) (ha:DE T X a fa) (hb:DE T X b fb) (hm:behindInMarks op b=false):DT T X (.Compare a [op] [b] pos) (tB2 g fa fb):=.mk λG E hp=>by
 obtain ⟨r,hr,hg⟩:=ho E
 refine PT.imp (j4N hr (ha.run G E hp) (hb.run G E hp) hm) fun σ H Q ⟨ρ,fr,h⟩=>q6s hg fr (Acc.mono (Acc.bind h) λd _ hd v H1 s1 r1=>?_)
 cases d with
 | bl k=>exact ⟨k,r1,hd H1 s1⟩
 | _=>exact hd.elim
@[simp] noncomputable def i2 (f:Int->Int->D):D->D->Out D
 | .int i,.int j=>.ok (f i j)
 | _,_=>.bad
theorem j1O {f:Value->Value->Sem Value} {g:Int->Int->V} {g':Int->Int->D} (h:∀E,OpR (X.wish E) f (rI0 g)) (hg:∀i j H,Rep T X.K H (g' i j) (g i j)):OpD T X f (i2 g'):=λE=>
 ⟨_,h E,λdx dy x y σ H Q rx ry q=>by
  cases dx with
  | int i=>
   cases dy with
   | int j=>exact ⟨i,j,rx,ry,q _ H (Same.refl H) (hg i j H)⟩
   | _=>exact q.elim
  | _=>first | exact q.elim | (cases dy<;>exact q.elim)⟩
@[simp] noncomputable def i2c (c:Int->Int->Bool) (f:Int->Int->D):D->D->Out D
 | .int i,.int j=>if c i j=true then .ok (f i j) else .bad
 | _,_=>.bad
theorem q6G {f:Value->Value->Sem Value} {C:Int->Int->Prop} {g:Int->Int->V} {c:Int->Int->Bool} {g':Int->Int->D} (h:∀E,OpR (X.wish E) f (rI C g)) (hc:∀i j,c i j=true->C i j) (hg:∀i j H,Rep T X.K H (g' i j) (g i j)):OpD T X f (i2c c g'):=λE=>
 ⟨_,h E,λdx dy x y σ H Q rx ry q=>by
  cases dx with
  | int i=>
   cases dy with
   | int j=>
    have q':Acc T X E σ H (if c i j=true then .ok (g' i j) else .bad) (kE T X.K H Q):=q
    by_cases e:c i j=true
    ·rw [if_pos e] at q'
     exact ⟨i,j,rx,ry,hc i j e,q' _ H (Same.refl H) (hg i j H)⟩
    ·rw [if_neg e] at q'
     exact q'.elim
   | _=>exact q.elim
  | _=>first | exact q.elim | (cases dy<;>exact q.elim)⟩
noncomputable def q1x (i j:Int):Bool:=(decide (-(2 ^ 64) < i) && decide (i < 2 ^ 64)) || (decide (-(2 ^ 64) < j) && decide (j < 2 ^ 64))
@[simp] noncomputable def q1u (_ j:Int):Bool:=decide (0 < j) && decide (j < 1073741824)
@[simp] noncomputable def q0C (_ j:Int):Bool:=decide (0 < j)
@[simp] noncomputable def j45 (i j:Int):Bool:=decide (0<=j) && decide (j<=1000000) && decide (i.natAbs < 2 ^ 64)
theorem q16:OpD T X (binaryOp .Sub) (i2 λi j=>.int (i-j)):=j1O (λE=>j6V) λ_ _ _=>rfl
theorem q25:OpD T X (binaryOp .Mult) (i2c q1x λi j=>.int (i*j)):=q6G (λE=>j5S) (λi j h=>by
 simp only [q1x,Bool.or_eq_true,Bool.and_eq_true,decide_eq_true_eq] at h;exact h) λ_ _ _=>rfl
theorem q0Z:OpD T X (binaryOp .FloorDiv) (i2c q1u λi j=>.int (i / j)):=q6G (λE=>j4H) (λi j h=>by
 simp only [q1u,Bool.and_eq_true,decide_eq_true_eq] at h;exact h) λ_ _ _=>rfl
theorem q0v:OpD T X (binaryOp .Mod) (i2c q0C λi j=>.int (i % j)):=q6G (λE=>j6r) (λi j h=>by
 simp only [q0C,decide_eq_true_eq] at h;exact h) λ_ _ _=>rfl
theorem j7u:OpD T X (binaryOp .Pow) (i2c j45 λi j=>.int (i ^ j.toNat)):=q6G (λE=>j71) (λi j h=>by
 simp only [j45,Bool.and_eq_true,decide_eq_true_eq] at h;exact ⟨h.1.1,h.1.2,h.2⟩) λ_ _ _=>rfl
theorem j6s:OpD T X (compareOp .Lt) (i2 λi j=>.bl (decide (i < j))):=j1O (λE=>j9U) λ_ _ _=>rfl
theorem q2M:OpD T X (compareOp .LtE) (i2 λi j=>.bl (decide (i<=j))):=j1O (λE=>j91) λ_ _ _=>rfl
theorem j4z:OpD T X (compareOp .Gt) (i2 λi j=>.bl (decide (j < i))):=j1O (λE=>j84) λ_ _ _=>rfl
end
theorem q5X {P:Program} {w:World} {H:Hp} {h:Heap} {a:Addr} {o:HO} (x:ObjOk P w H h a o):∃u,h.get? a=some u:=by
 cases o with
 | lst xs=>obtain ⟨_,_,_,_,e⟩:=x;exact ⟨_,e⟩
 | tup xs=>obtain ⟨_,_,_,_,e,_⟩:=x;exact ⟨_,e⟩
 | dK kvs=>obtain ⟨_,_,_,_,o,_,_,e,_⟩:=x;exact ⟨_,e⟩
 | dT kvs=>obtain ⟨_,_,_,_,o,_,_,e,_⟩:=x;exact ⟨_,e⟩
 | set S n=>obtain ⟨o,_,_,_,e,_⟩:=x;exact ⟨_,e⟩
 | ins C dx fs=>obtain ⟨_,_,_,e,_⟩:=x;exact ⟨_,e⟩
 | own y=>obtain ⟨_,e⟩:=x;exact ⟨_,e⟩
 | xd fs=>obtain ⟨_,⟨_,_,_,e,_⟩,_⟩:=x;exact ⟨_,e⟩
 | rng lo hi=>obtain ⟨_,_,_,e⟩:=x;exact ⟨_,e⟩
 | frz ob u=>obtain ⟨e,_⟩:=x;exact ⟨_,e⟩
 | tbl ps=>exact ⟨_,(show h.get? a=some _ from x)⟩
 | met f y=>exact ⟨_,(show h.get? a=some _ from x)⟩
 | ext φ=>obtain ⟨_,⟨_,e⟩,_⟩:=x;exact ⟨_,e⟩
noncomputable def CXE (T:Tb) (P:Program) (w:World):CXT:=λouter H s E e s'=>
 ∃(ea:Addr) (c:Nat) (H':Hp),e=.ref ea/\s'.os=s.os/\AllBare s'.gens/\Un (frs outer) [] H H' s.heap s'.heap/\HOk P w H' s'.heap/\w0A T c ea H' s'.heap (λb=>s.heap.get? b=none)/\E (.ref (T.ca c)) none H'
section
variable {T:Tb} {X:Cx} {pins:List (Addr×Obj)} {σ:L2.St} {H:Hp} {s:Shared} {c:Nat} {u:Value}
structure Noted (X:Cx) (L:List Addr) (h h':Heap):Prop where
 kb:∀b o,h.get? b=some o->b∉L->h'.get? b=some o
 up:∀b o,h.get? b=some o->(∀vs,o.data≠.fields vs)->∃sl,h'.get? b=some { o with slots:=sl }
theorem q88 {L:List Addr} {h':Heap} (I:Inv X pins σ H s) (N:Noted X L s.heap h') (hL:∀b∈L,H b=none):HOk X.prog X.w H h':=λa o e=>
 (I.hok a o e).stay (λb v hb q=>N.kb b v q λhm=>by
  rcases hb with z | z
  ·rw [z] at hm;rw [hL _ hm] at e;cases e
  ·rw [hL b hm] at z;cases z) (λ_ q=>q) λ_ _ q=>q
theorem q6a {E:XK} {L:List Addr} {h':Heap} {ea:Addr} {a0:Value} (I:Inv X pins σ H s) (hst:X.stack=X.env::X.outer) (hex:X.ex=[]) (hn:H ea=none) (hfr:X.s₀.heap.get? ea=none)
 (hea:ea∈L) (hL:∀b∈L,H b=none/\(X.s₀.heap.get? b=none∨b∈X.fs)) (hS:∀b∈L,b=ea∨(∃o vs,s.heap.get? b=some o/\o.data=.fields vs/\X.s₀.heap.get? b=none)∨b∈frs X.stack)
 (lw:Heap.LeftW (PySem.W.hideAll s.heap L) (X.env::X.outer) ea (.ref (T.ca c)) a0 s.heap h') (nc:Nc ea h') (hE:E (.ref (T.ca c)) none H) :
 CXE T X.prog X.w X.outer X.H₀ X.s₀ E (.ref ea) { s with heap:=h' }:=by
 obtain ⟨k1,k2,k3,k4⟩:=lw
 have kb:∀b o,s.heap.get? b=some o->b∉L->h'.get? b=some o:=λb o e n=>k1 b o (PySem.W.hideAll_get _ e n)
 have nofl:∀b∈X.fs,∀o,s.heap.get? b=some o->∀vs,o.data≠.fields vs:=λb hb o e=>by
  obtain ⟨_,o',e',d⟩:=I.funs.mem hb
  rw [e] at e';cases e';exact d
 have hok:=q88 I ⟨kb,k4⟩ λb hb=>(hL b hb).1
 refine ⟨ea,c,H,rfl,I.os,I.bare,⟨λb o e n hb _=>?_,λb o e n hb _=>?_,λb o e n _=>?_,λb o e _=>?_,I.base.tups,I.base.frzs,I.base.tbls⟩,hok,⟨hn,hfr,nc,?_⟩,hE⟩
 ·refine kb b o (I.base.keep b o e n hb (by rw [hex];simp)) λhm=>?_
  rcases (hL b hm).2 with z | z
  ·rw [e] at z;cases z
  ·exact hb z
 ·obtain ⟨sl,e1⟩:=I.base.slot b o e n hb (by rw [hex];simp)
  obtain ⟨sl',e2⟩:=k4 b _ e1 (nofl b hb _ e1)
  exact ⟨sl',e2⟩
 ·exact I.base.free b o e n (by rw [hex];simp)
 ·obtain ⟨o',e1⟩:=I.base.there b o e (by rw [hex];simp)
  by_cases hm:b∈L
  ·rcases (hL b hm).2 with z | z
   ·rw [e] at z;cases z
   ·obtain ⟨sl',e2⟩:=k4 b _ e1 (nofl b z _ e1)
    exact ⟨_,e2⟩
  ·exact ⟨o',kb b o' e1 hm⟩
 ·obtain ⟨oe,vs,tb,ot,ts,he,⟨hc,h0⟩,hd,h1,hnT,hTe,hT,hdT,h3⟩:=k3
  have hid:∀b,(PySem.W.hideAll s.heap L).get? b=none->(∃o,s.heap.get? b=some o)->b∈L:=λb hb ⟨o,e⟩=>Classical.byContradiction λz=>by
   rw [PySem.W.hideAll_get _ e z] at hb;cases hb
  have notfr:tb∉frs X.stack:=λhm=>by
   rw [hst] at hm
   obtain ⟨_,o,e,d⟩:=k2.mem hm
   rw [hT] at e;cases e;exact d ts hdT
  have key:∀o,s.heap.get? tb=some o->X.s₀.heap.get? tb=none:=λo e=>by
   rcases hS tb (hid tb hnT ⟨o,e⟩) with z | ⟨_,_,_,_,z⟩ | z
   ·exact absurd z hTe
   ·exact z
   ·exact absurd z notfr
  refine ⟨oe,vs,a0,he,hc,hd,h0,.inr ⟨tb,ot,ts,h1,hTe,hT,hdT,h3,?_,?_⟩⟩
  ·cases q:H tb with
   | none=>rfl
   | some z=>
    obtain ⟨o,e⟩:=q5X (I.hok tb z q)
    have:=(hL tb (hid tb hnT ⟨o,e⟩)).1
    rw [q] at this;cases this
  ·show X.s₀.heap.get? tb=none
   cases q:X.s₀.heap.get? tb with
   | none=>rfl
   | some o=>
    obtain ⟨o',e⟩:=I.base.there tb o q (by rw [hex];simp)
    rw [key o' e] at q;cases q
theorem q4j {E:XK} {E':Value->Shared->Prop} (I:Inv X pins σ H s) (hst:X.stack=X.env::X.outer) (hf:X.env.frame=some X.env.locals) (hex:X.ex=[]) (fl:Flying T X pins c u H s) (hE:E (.ref (T.ca c)) none H) :
 wpAny (model X.prog X.w) X.A (leaving X.env u) (λ_ s''=>CXE T X.prog X.w X.outer X.H₀ X.s₀ E u s'') E' s:=by
 obtain ⟨ea,rfl,hn,fe,nc,oe,vs,a0,he,hc,hd,h0,h1⟩:=fl
 have hfr:X.A.frames=some (X.env::X.outer):=by rw [I.ok.frames,hst]
 have FF:s.heap.FunFrames X.base (X.env::X.outer):=by rw [<-hst];exact I.stack
 have fr0:∀b,Free X pins b->X.s₀.heap.get? b=none:=λb ⟨z,_⟩=>by
  rcases z with z | z
  ·rw [hex] at z;simp at z
  ·exact z
 have stk:∀b∈frs X.stack,H b=none/\(X.s₀.heap.get? b=none∨b∈X.fs):=λb hb=>⟨I.stkFree b hb,by
  rcases List.mem_cons.mp (I.stkSub b hb) with z | z
  ·rw [z];exact .inl (Heap.get?_none_of_le I.ok.above)
  ·exact .inr z⟩
 have infr:∀(L:List Addr),(∀b∈frs X.stack,b∈L)->s.heap.FunFrames (PySem.W.hideAll s.heap L) (X.env::X.outer):=λL hL=>PySem.W.funFrames_hide FF λenv he b hb=>hL b (by
  rw [hst];exact List.mem_filterMap.mpr ⟨env,he,hb⟩)
 have hidn:∀(L:List Addr) (b:Addr),b∈L->(PySem.W.hideAll s.heap L).get? b=none:=λL b hb=>PySem.W.hideAll_none L hb
 refine wpAny_mono (Kp.any (Q:=λ_ s''=>Nc ea s''.heap->CXE T X.prog X.w X.outer X.H₀ X.s₀ E (.ref ea) s'') (E:=E') Nc.push q64 nc ?_) (λ_ _ z=>z.1 z.2) λ_ _ z=>z.1
 rcases h1 with h1 | ⟨tb,ot,ts,h1,hne,ht,hdt,h3,hnt,ft⟩
 ·refine wpAny_leaving_firstW (base:=PySem.W.hideAll s.heap (ea::frs X.stack)) hfr (infr _ λb hb=>List.mem_cons_of_mem _ hb) hf he (λb o q=>PySem.W.of_hideAll _ q) (hidn _ _ List.mem_cons_self) hd h1 h0 λh' lw nc'=>?_
  rw [hc] at lw
  refine q6a (L:=ea::frs X.stack) I hst hex hn (fr0 ea fe) List.mem_cons_self (λb hb=>?_) (λb hb=>?_) lw nc' hE
  ·rcases List.mem_cons.mp hb with z | z
   ·rw [z];exact ⟨hn,.inl (fr0 ea fe)⟩
   ·exact stk b z
  ·rcases List.mem_cons.mp hb with z | z
   ·exact .inl z
   ·exact .inr (.inr z)
 ·refine wpAny_leaving_nextW (base:=PySem.W.hideAll s.heap (ea::tb::frs X.stack)) (cls:=.ref (T.ca c)) (a0:=a0) hfr (infr _ λb hb=>List.mem_cons_of_mem _ (List.mem_cons_of_mem _ hb)) hf ⟨oe,vs,tb,ot,ts,he,⟨hc,h0⟩,hd,h1,hidn _ _ (by simp),hne,ht,hdt,h3⟩ (λb o q=>PySem.W.of_hideAll _ q) (hidn _ _ List.mem_cons_self) λh' lw nc'=>?_
  refine q6a (L:=ea::tb::frs X.stack) I hst hex hn (fr0 ea fe) List.mem_cons_self (λb hb=>?_) (λb hb=>?_) lw nc' hE
  ·rcases List.mem_cons.mp hb with z | z
   ·rw [z];exact ⟨hn,.inl (fr0 ea fe)⟩
   ·rcases List.mem_cons.mp z with z | z
    ·rw [z];exact ⟨hnt,.inl (fr0 tb ft)⟩
    ·exact stk b z
  ·rcases List.mem_cons.mp hb with z | z
   ·exact .inl z
   ·rcases List.mem_cons.mp z with z | z
    ·rw [z];exact .inr (.inl ⟨ot,ts,ht,hdt,fr0 tb ft⟩)
    ·exact .inr (.inr z)
end
noncomputable def j1T (T:Tb) (K:PySem.W.Frag) (H:Hp) (v:V):Sl->Prop
 | .sh d=>Rep T K H d v
 | .bo ds=>∃a vs,v=.ref a/\H a=some (.lst vs)/\RepL T K H ds vs
 | .bi c ds=>∃a,v=.ref a/\InsAt T K H c a ds
 | _=>False
noncomputable def ArgsOk (T:Tb) (K:PySem.W.Frag) (H:Hp):List V->List Sl->Prop
 | vs,[]=>vs=[]
 | vs,s::ss=>∃v r,vs=v::r/\j1T T K H v s/\ArgsOk T K H r ss
section
variable {T:Tb} {K:PySem.W.Frag} {H H':Hp}
theorem ArgsOk.length:∀(ss:List Sl) (vs:List V),ArgsOk T K H vs ss->vs.length=ss.length
 | [],_,h=>by cases h;rfl
 | s::ss,_,h=>by
  obtain ⟨v,r,rfl,_,h2⟩:=h
  simp [ArgsOk.length ss r h2]
theorem ArgsOk.get:∀(ss:List Sl) (vs:List V) (i:Nat) (s:Sl),ArgsOk T K H vs ss->ss[i]?=some s->∃v,vs[i]?=some v/\j1T T K H v s
 | [],_,_,_,_,e=>by simp at e
 | s::ss,_,0,x,h,e=>by
  obtain ⟨v,r,rfl,h1,_⟩:=h
  simp at e;subst e
  exact ⟨v,rfl,h1⟩
 | s::ss,_,i+1,x,h,e=>by
  obtain ⟨v,r,rfl,_,h2⟩:=h
  obtain ⟨u,e1,e2⟩:=ArgsOk.get ss r i x h2 (by simpa using e)
  exact ⟨u,by simpa using e1,e2⟩
theorem ArgsOk.append:∀(ss:List Sl) (vs:List V) (ts:List Sl) (us:List V),ArgsOk T K H vs ss->ArgsOk T K H us ts->ArgsOk T K H (vs++us) (ss++ts)
 | [],_,_,_,h,h'=>by cases h;exact h'
 | s::ss,_,ts,us,h,h'=>by
  obtain ⟨v,r,rfl,h1,h2⟩:=h
  exact ⟨v,r++us,rfl,h1,ArgsOk.append ss r ts us h2 h'⟩
end
noncomputable abbrev Fn:=List Sl->Out Rv
noncomputable def j9L (T:Tb) (K:PySem.W.Frag) (H:Hp) (Q:VK) (E:XK):Out Rv->Prop
 | .ok r=>∀v H',Same H H'->q49 T K H H' v r->Q v H'
 | .exc c=>∀H',Same H H'->E (.ref (T.ca c)) none H'
 | .bad=>False
noncomputable def spD (T:Tb) (K:PySem.W.Frag) (n:Nat) (F:Fn):Sp:=λvs H Q E=>∃ss:List Sl,ArgsOk T K H vs ss/\vs.length=n/\j9L T K H Q E (F ss)
@[simp] noncomputable def fnF (n:Nat) (f:Ro->Fl) (ss:List Sl):Out Rv:=match f (ss++List.replicate (n-ss.length) .no) with
 | .nx _=>.ok (.sh .non)
 | .rt r=>.ok r
 | .exc c _=>.exc c
 | _=>.bad
theorem j0D {T:Tb} {K:PySem.W.Frag} {H:Hp} {N:List Str} {vs:List V} {ss:List Sl} (hT:T.me=none) (h:ArgsOk T K H vs ss):FR T K H H (start N vs) (ss++List.replicate (N.length-ss.length) .no):=by
 have hl:=ArgsOk.length ss vs h
 have noow:∀(i:Nat) (s:Sl) (x:Option (Option V)) (b:Addr),(ss++List.replicate (N.length-ss.length) Sl.no)[i]?=some s->¬q41 H x b s:=λi s x b z o=>by
  by_cases hi:i < ss.length
  ·rw [List.getElem?_append_left hi] at z
   obtain ⟨v,_,r⟩:=ArgsOk.get ss vs i _ h z
   cases s with
   | sh d=>exact o
   | bo ds=>exact o
   | bi c ds=>exact o
   | _=>exact r
  ·rw [List.getElem?_append_right (by omega),List.getElem?_replicate] at z
   split at z
   ·cases z;exact o
   ·cases z
 have nome:∀(i:Nat) (c:Nat) (es:List D),(ss++List.replicate (N.length-ss.length) Sl.no)[i]?≠some (.me c es):=λi c es z=>by
  by_cases hi:i < ss.length
  ·rw [List.getElem?_append_left hi] at z
   obtain ⟨v,_,r⟩:=ArgsOk.get ss vs i _ h z
   exact r
  ·rw [List.getElem?_append_right (by omega),List.getElem?_replicate] at z
   split at z<;>cases z
 refine ⟨Same.refl H,by unfold L2.start;simp [hl],λi s e=>?_,λi j s t b _ z _ o _=>noow i s _ b z o,(λx e=>by rw [hT] at e;cases e),(λi c es z=>absurd z (nome i c es))⟩
 by_cases hi:i < ss.length
 ·rw [List.getElem?_append_left hi] at e
  obtain ⟨v,e1,r⟩:=ArgsOk.get ss vs i s h e
  have e2:(start N vs)[i]?=some (some v):=by
   unfold L2.start
   rw [List.getElem?_append_left (by simp [hl,hi]),List.getElem?_map,e1];rfl
  rw [e2]
  cases s with
  | sh d=>exact ⟨v,rfl,r⟩
  | bo ds=>
   obtain ⟨a,us,rfl,r2,r3⟩:=r
   exact ⟨a,us,rfl,r2,r3⟩
  | bi c ds=>
   obtain ⟨a,rfl,dx,fs,r2,r3,r4,r5⟩:=r
   exact ⟨a,dx,fs,rfl,r2,r3,r4,r5⟩
  | _=>exact r.elim
 ·rw [List.getElem?_append_right (by omega),List.getElem?_replicate] at e
  split at e
  ·cases e;trivial
  ·cases e
section
variable {P:Program} {w:World} {K:PySem.W.Frag} {mg:Str->Option Value} {base:Heap} {T:Tb}
noncomputable abbrev CxD (T:Tb) (P:Program) (w:World) (K:PySem.W.Frag) (mg:Str->Option Value) (base:Heap) (N:List Str) (qual:Str) (scope:Scope) (f:Addr) (cd:Value) (A:Around) (outer:List Env) (s:Shared) (H:Hp) (E:XK):Cx:=
 j5w (CXE T P w) P w K mg base N qual scope f cd A outer s H E
theorem q2a {x qual:Str} {st:Stmt} {fa:Addr} {fd:FuncData} {N ps:List Str} {k:Nat} {f:Ro->Fl} (hT:T.me=none) (F:L2.Fun K x qual st fa fd) (S:q0q N ps (q0l st))
 (hb:∀(cdv:Value) (A:Around) (outer:List Env) (s:Shared) (H:Hp) (E:XK),Room k (A.deeper (envOfC qual (q0l st) s.heap.objs.size fa cdv))->DSs T false (CxD T P w K mg base N qual (q0l st) fa cdv A outer s H E) (q1l st) f) :
 q1f P w K mg base (CXE T P w) (k+1) fa fd ps (spD T K ps.length (fnF N.length f)):=by
 obtain ⟨oc,od,kV,doc,pm,an,cdv,ct,osl,rfl,lk,hcd⟩:=F.ex
 refine j6d lk hcd S (λvs H Q E ⟨ss,_,e,_⟩=>e) λA outer s H vs Q E hr ⟨ss,ha,hl,ho⟩=>?_
 have fr:=j0D (N:=N) hT ha
 have hb':=hb cdv A outer s H E hr
 refine ⟨_,hb'.run H (CxD T P w K mg base N qual (q0l st) fa cdv A outer s H E).xe PassesOwn.leaving,_,fr,?_⟩
 unfold fnF at ho
 cases e:f (ss++List.replicate (N.length-ss.length) .no) with
 | nx ρ=>
  rw [e] at ho
  exact fun σ H' fr' _=>ho .non H' fr'.same rfl
 | rt r=>
  rw [e] at ho
  exact λv H' hs r'=>ho v H' hs r'
 | exc c ρ=>
  rw [e] at ho
  intro σ' H' fr' _ pins s' u H'' I hs fl
  exact q4j I rfl rfl rfl fl (ho H'' (fr'.same.trans hs))
 | rm r c ds ks=>rw [e] at ho;exact ho.elim
 | bk ρ=>rw [e] at ho;exact ho.elim
 | ct ρ=>rw [e] at ho;exact ho.elim
 | bad=>rw [e] at ho;exact ho.elim
end
noncomputable def tG (T:Tb) (X:Cx) (G:Hp) (E:Value->Shared->Prop) (f:Ro->Out (List Sl)):TA:=fun σ H Q=>∃ρ,FR T X.K G H σ ρ/\Acc T X E σ H (f ρ) (λss=>∀vs H',Same H H'->ArgsOk T X.K H' vs ss->Q vs H')
structure DG (T:Tb) (X:Cx) (es:List Expr) (f:Ro->Out (List Sl)):Prop where
 mk ::
 run:∀(G:Hp) (E:Value->Shared->Prop),PassesOwn (model X.prog X.w) X.A X.env E->PA (X.wish E) es (tG T X G E f)
section
variable {T:Tb} {X:Cx} {e:Expr} {es:List Expr} {pos p:Pos} {fe:Ev} {fs:Ro->Out (List Sl)}
@[simp] noncomputable def gN0 (ρ:Ro):Out (List Sl):=.ok []
@[simp] noncomputable def gSh (fe:Ev) (fs:Ro->Out (List Sl)) (ρ:Ro):Out (List Sl):=(fe ρ).bind λd=>(fs ρ).bind λss=>.ok (.sh d::ss)
@[simp] noncomputable def gBo (i:Nat) (fs:Ro->Out (List Sl)) (ρ:Ro):Out (List Sl):=match ρ[i]? with
 | some (.ow ds)=>(fs ρ).bind λss=>.ok (.bo ds::ss)
 | some (.bo ds)=>(fs ρ).bind λss=>.ok (.bo ds::ss)
 | some (.mo ds)=>(fs ρ).bind λss=>.ok (.bo ds::ss)
 | some (.sh d)=>(fs ρ).bind λss=>.ok (.sh d::ss)
 | _=>.bad
theorem q0o:DG T X [] gN0:=.mk λG E hp=>PA.imp q1p fun σ H Q ⟨ρ,fr,h⟩=>h [] H (Same.refl H) rfl
theorem q0f (ha:DE T X e fe) (hr:DG T X es fs) (hs:starEach (e::es) X.env=(false,eval e X.env)::starEach es X.env:=by exact q0D rfl):DG T X (e::es) (gSh fe fs):=.mk λG E hp=>by
 refine PA.imp (q0O (X:=X.wish E) (ha.run G E hp) (hr.run G E hp) hs) fun σ H Q ⟨ρ,fr,h⟩=>?_
 refine ⟨ρ,fr,Acc.mono (Acc.bind h) λd _ hd v H1 s1 r1=>⟨ρ,fr.mono s1,Acc.mono (Acc.bind (Acc.heap s1 hd)) λss _ hss vs H2 s2 r2=>?_⟩⟩
 exact hss (v::vs) H2 (s1.trans s2) ⟨v,vs,rfl,Rep.mono s2 _ _ r1,r2⟩
theorem j6B (i:Nat) {x:Str} (hr:DG T X es fs) (hs:starEach (.Name x pos::es) X.env=(false,eval (.Name x pos) X.env)::starEach es X.env:=by exact q0D rfl) (hN:X.N[i]?=some x:=by rfl) (hv:Vis X.env.scope x:=by walk_at "v0") (hd:(x==("__debug__" : Str))=false:=by decide)
 (hcd:(x==("__classdict__" : Str))=false:=by decide):DG T X (.Name x pos::es) (gBo i fs):=.mk λG E hp=>by
 refine PA.imp (q0O (X:=X.wish E) (q2i (X:=X.wish E) hN hv hd hcd) (hr.run G E hp) hs) fun σ H Q ⟨ρ,fr,h⟩=>?_
 unfold gBo at h
 split at h
 ·rename_i ds e
  obtain ⟨a,vs,e1,e2,e3,r⟩:=fr.sl i _ e
  refine ⟨_,e1,ρ,fr,Acc.mono (Acc.bind h) λss _ hss us H2 s2 r2=>?_⟩
  exact hss (.ref a::us) H2 s2 ⟨_,us,rfl,⟨a,vs,rfl,s2 _ _ e2,RepL.mono s2 _ _ r⟩,r2⟩
 ·rename_i ds e
  obtain ⟨a,vs,e1,e2,r⟩:=fr.sl i _ e
  refine ⟨_,e1,ρ,fr,Acc.mono (Acc.bind h) λss _ hss us H2 s2 r2=>?_⟩
  exact hss (.ref a::us) H2 s2 ⟨_,us,rfl,⟨a,vs,rfl,s2 _ _ (fr.same _ _ e2),RepL.mono s2 _ _ r⟩,r2⟩
 ·rename_i ds e
  obtain ⟨a,vs,_,e1,e2,e3,r⟩:=fr.sl i _ e
  refine ⟨_,e1,ρ,fr,Acc.mono (Acc.bind h) λss _ hss us H2 s2 r2=>?_⟩
  exact hss (.ref a::us) H2 s2 ⟨_,us,rfl,⟨a,vs,rfl,s2 _ _ e2,RepL.mono s2 _ _ r⟩,r2⟩
 ·rename_i d e
  obtain ⟨v,e1,r⟩:=fr.sl i _ e
  refine ⟨_,e1,ρ,fr,Acc.mono (Acc.bind h) λss _ hss us H2 s2 r2=>?_⟩
  exact hss (v::us) H2 s2 ⟨_,us,rfl,Rep.mono s2 _ _ r,r2⟩
 ·exact h.elim
theorem Inv.flown {pins:List (Addr×Obj)} {σ:L2.St} {H:Hp} {s s':Shared} {E:XK} {u:Value} (I:Inv X pins σ H s) (h:CXE T X.prog X.w X.stack H s E u s'):∃c H',Inv X pins σ H' s'/\Flying T X pins c u H' s'/\E (.ref (T.ca c)) none H':=by
 obtain ⟨ea,c,H',rfl,os,bare,un,hok,⟨h1,h2,nc,oe,vs,a0,he,hc,hd,h0,ht⟩,hE⟩:=h
 have free:∀b,s.heap.get? b=none->Free X pins b:=λb hb=>by
  refine ⟨?_,λz=>?_,λx cc e z=>?_,λq hq z=>?_⟩
  ·by_cases hx:b∈X.ex
   ·exact .inl hx
   ·refine .inr ?_
    cases q:X.s₀.heap.get? b with
    | none=>rfl
    | some o=>
     obtain ⟨o',e⟩:=I.base.there b o q hx
     rw [hb] at e;cases e
  ·obtain ⟨m,⟨o,_,_,ho,_⟩,_⟩:=I.loc
   rw [<-z,hb] at ho;cases ho
  ·obtain ⟨v,o,ho,_⟩:=I.cell x cc e
   rw [z,hb] at ho;cases ho
  ·obtain ⟨e,_⟩:=I.pin q hq
   rw [z,hb] at e;cases e
 refine ⟨c,H',I.call' os un hok bare λb z=>absurd z (by simp),⟨ea,rfl,h1,free ea h2,nc,oe,vs,a0,he,hc,hd,h0,?_⟩,hE⟩
 rcases ht with ht | ⟨tb,ot,ts,t1,t2,t3,t4,t5,t6,t7⟩
 ·exact .inl ht
 ·exact .inr ⟨tb,ot,ts,t1,t2,t3,t4,t5,t6,free tb t7⟩
variable {k n:Nat} {f C:Addr} {fd:FuncData} {ps:List Str} {F:Fn} {ds:List Value} {dvs:List V} {dss:List Sl} {x m:Str} {apos:Pos} {o:Expr}
theorem j5n {pins:List (Addr×Obj)} {σ:L2.St} {H:Hp} {s:Shared} {E:Value->Shared->Prop} {Q:VK} {us:List Value} {vs:List V} {ss:List Sl} (FO:q1f X.prog X.w X.K X.mg X.base (CXE T X.prog X.w) k f fd ps (spD T X.K ps.length F)) (hr:Room k X.A) (hb:Binds X.K fd ps ds) (hd:Vals dvs ds)
 (I:Inv (X.wish E) pins σ H s) (r:Vals vs us) (ha:ArgsOk T X.K H (vs++dvs) ss) (hl:(us++ds).length=ps.length) (h:Acc T X E σ H (F ss) (λr=>∀v H',Same H H'->q49 T X.K H H' v r->Q v H')) :
 wpAny (model X.prog X.w) X.A (call (.ref f) us) (EP (X.wish E) pins σ Q) E s:=by
 have r2:Vals (vs++dvs) (us++ds):=r.append hd
 have IX:Inv X pins σ H s:=I.unwish
 let EX:XK:=λcls _ H'=>∃c,cls=.ref (T.ca c)/\F ss=.exc c/\Same H H'
 refine wpAny_call (codeAny_mono (FO.run X.A X.stack s H ⟨us,[]⟩ (us++ds) (vs++dvs) Q EX hr IX.env0 (hb s us IX.kIn hl) r2 ⟨ss,ha,r2.length.trans hl,?_⟩) λres s' hq=>?_)
 ·cases e:F ss with
  | ok r=>rw [e] at h;exact h
  | exc c=>exact λH' hs=>⟨c,rfl,e,hs⟩
  | bad=>rw [e] at h;exact h.elim
 ·cases res with
  | error ev=>
   obtain ⟨c,H',I',fl,c',ec,eF,hs⟩:=Inv.flown IX hq
   rw [eF] at h
   refine h pins s' ev H' I' hs ?_
   obtain ⟨ea,rfl,h1,h2,nc,oe,vs',a0,he,hc,rest⟩:=fl
   exact ⟨ea,rfl,h1,h2,nc,oe,vs',a0,he,hc.trans ec,rest⟩
  | ok fl=>
   cases fl with
   | ret u=>
    obtain ⟨v,H',I',rv,q⟩:=IX.after hq
    exact ⟨v,H',I'.wish E,rv,q⟩
   | next=>exact False.elim hq
   | brk=>exact False.elim hq
   | cont=>exact False.elim hq
@[simp] noncomputable def q0r (F:Fn) (dss:List Sl) (fs:Ro->Out (List Sl)) (ρ:Ro):Out Rv:=(fs ρ).bind λss=>if ss.length+dss.length=n then F (ss++dss) else .bad
theorem j5e (FO:q1f X.prog X.w X.K X.mg X.base (CXE T X.prog X.w) k f fd ps (spD T X.K ps.length F)) (hr:Room k X.A) (hg:Gl X x) (hm:X.mg x=some (.ref f)) (hk:PySem.W.keepIn X.K (.ref f)=true) (hb:Binds X.K fd ps ds) (hd:Vals dvs ds)
 (hds:∀H,ArgsOk T X.K H dvs dss) (hn:n=ps.length) (ha:DG T X (e::es) fs) (hdb:(x==("__debug__" : Str))=false:=by decide) (he:starEach (e::es) X.env=(false,eval e X.env)::starEach es X.env:=by exact q0D rfl) (hpl:(backTo pos (starEach es X.env)).any (·.1)=false:=by exact q0H rfl) :
 DR T X (.Call (.Name x p) (e::es) [] pos) (q0r (n:=n) F dss fs):=.mk λG E hp=>by
 rintro pins s σ H Q I ⟨ρ,fr,h⟩
 refine wpAny_Call_Name_kw (q3R (X:=X.wish E) I hg hm ?_ hdb)
 refine PySem.W.callWith_K (h₀:=X.base) I.ok.mod.kin hk (thn (ha.run G E hp pos pins s σ H (λvs H1=>∃ss,ArgsOk T X.K H1 vs ss/\ss.length+dss.length=n/\Same H H1/\Acc T X E σ H1 (F (ss++dss)) (λr=>∀v H',Same H1 H'->q49 T X.K H1 H' v r->Q v H')) I ⟨ρ,fr,?_⟩) λus s1 ⟨vs,H1,I1,r,ss,ha1,hl1,s1',q⟩=>⟨I1.kIn,?_⟩) he hpl
 ·refine Acc.mono (Acc.bind h) λss _ hss vs H1 s1 r1=>?_
  by_cases hl:ss.length+dss.length=n
  ·rw [if_pos hl] at hss
   exact ⟨ss,r1,hl,s1,Acc.mono (Acc.heap s1 hss) λr _ hr' v H' s2 r2=>hr' v H' (s1.trans s2) (q3t s1 r2)⟩
  ·rw [if_neg hl] at hss;exact hss.elim
 ·have la:=ArgsOk.length ss vs ha1
  have lr:=r.length
  have ld:=ArgsOk.length dss dvs (hds H1)
  have lv:=hd.length
  exact j5n (X:=X) FO hr hb hd I1 r (ArgsOk.append _ _ _ _ ha1 (hds H1)) (by simp only [List.length_append,List.nil_append];omega) q
end
theorem Inv.freeze {X:Cx} {pins:List (Addr×Obj)} {σ:L2.St} {H:Hp} {s:Shared} {a:Addr} {vs:List V} (I:Inv X pins σ H s) (h:H a=some (.lst vs)):∃o,Inv X pins σ (upd H a (.frz o (.lst vs))) s:=by
 obtain ⟨z,its,n,r,e⟩:=I.hok a _ h
 refine ⟨{ cls:=.type "list",data:=.seq its.toArray n },I.un (H':=upd H a (.frz { cls:=.type "list",data:=.seq its.toArray n } (.lst vs))) (h':=s.heap) (t':=s.toks) ⟨λb o q _ _ _=>q,λb o q _ _ _=>⟨o.slots,q⟩,λb o q n' _=>?_,λb o q _=>⟨o,q⟩,λb xs q=>?_,λb o u q=>?_,λb ps q=>⟨#[],?_⟩⟩ λb u q=>?_⟩
 ·rw [q0j (λz=>by rw [z,h] at n';cases n')];exact n'
 ·rw [q0j (λz=>by rw [z,h] at q;cases q)];exact q
 ·rw [q0j (λz=>by rw [z,h] at q;cases q)];exact q
 ·rw [q0j (λz=>by rw [z,h] at q;cases q),q];simp
 ·have own:∀b y,H b=some (.own y)->upd H a (.frz { cls:=.type "list",data:=.seq its.toArray n } (.lst vs)) b=some (.own y):=λb y q=>by
   rw [q0j (λz=>by rw [z,h] at q;cases q)];exact q
  have tup:∀b xs,H b=some (.tup xs)->upd H a (.frz { cls:=.type "list",data:=.seq its.toArray n } (.lst vs)) b=some (.tup xs):=λb y q=>by
   rw [q0j (λz=>by rw [z,h] at q;cases q)];exact q
  by_cases hb:b=a
  ·subst hb
   rw [q0w] at q;cases q
   exact ⟨e,(I.hok _ _ h).stay (λ_ _ _ q=>q) (λc=>own c _) tup⟩
  ·rw [q0j hb] at q
   exact (I.hok b u q).stay (λ_ _ _ q=>q) (λc=>own c _) tup
theorem PE.freeze {X:Cx} {e:Expr} {t:TE} (h:PE X e t):PE X e (fun σ H Q=>t σ H λv H1=>∃a vs,v=.ref a/\H1 a=some (.lst vs)/\∀o,Q v (upd H1 a (.frz o (.lst vs)))):=λpins s σ H Q I q=>
 thn (h pins s σ H _ I q) λu s1 ⟨v,H1,I1,r,a,vs,e,ha,k⟩=>by
  obtain ⟨o,I2⟩:=Inv.freeze I1 ha
  exact ⟨v,_,I2,r,k o⟩
theorem q0F {H:Hp} {a:Addr} {o:HO} (h:H a=none):Same H (upd H a o):=λb u e=>by
 rw [q0j (λz=>by rw [z,h] at e;cases e)];exact e
section
variable {T:Tb} {X:Cx} {e:Expr}
mutual
theorem Rep.froz {K:PySem.W.Frag} {H:Hp} {a:Addr} {vs:List V} {o:Obj} (h:H a=some (.lst vs)):∀(d:D) (v:V),Rep T K H d v->Rep T K (upd H a (.frz o (.lst vs))) d v
 | .non,_,q=>q
 | .bl _,_,q=>q
 | .int _,_,q=>q
 | .str _,_,q=>q
 | .tup ds,_,q=>by
  obtain ⟨b,ws,r1,r2,r3⟩:=q
  refine ⟨b,ws,r1,?_,RepL.froz h ds ws r3⟩
  rcases r2 with (r2 | ⟨o',r2⟩) | r2
  ·exact .inl (.inl (by rw [q0j (λz=>by rw [z,h] at r2;cases r2)];exact r2))
  ·exact .inl (.inr ⟨o',by rw [q0j (λz=>by rw [z,h] at r2;cases r2)];exact r2⟩)
  ·exact .inr r2
 | .lst ds,_,q=>by
  obtain ⟨b,ws,r1,r2,r3⟩:=q
  refine ⟨b,ws,r1,?_,RepL.froz h ds ws r3⟩
  rcases r2 with ⟨o',r2⟩ | r2
  ·exact .inl ⟨o',by rw [q0j (λz=>by rw [z,h] at r2;cases r2)];exact r2⟩
  ·exact .inr r2
 | .ins c ds,_,q=>by
  obtain ⟨b,dx,fs,r1,r2,r3,r4⟩:=q
  exact ⟨b,dx,fs,r1,by rw [q0j (λz=>by rw [z,h] at r2;cases r2)];exact r2,r3,RepL.froz h ds _ r4⟩
 | .exc c,_,q=>by
  obtain ⟨b,o',r1,r2,r3⟩:=q
  exact ⟨b,o',r1,by rw [q0j (λz=>by rw [z,h] at r2;cases r2)];exact r2,r3⟩
theorem RepL.froz {K:PySem.W.Frag} {H:Hp} {a:Addr} {vs:List V} {o:Obj} (h:H a=some (.lst vs)):∀(ds:List D) (us:List V),RepL T K H ds us->RepL T K (upd H a (.frz o (.lst vs))) ds us
 | [],_,q=>q
 | d::ds,_,q=>by
  obtain ⟨v,r,r1,r2,r3⟩:=q
  exact ⟨v,r,r1,Rep.froz h d v r2,RepL.froz h ds r r3⟩
end
@[simp] noncomputable def q1z (f:Ro->Out (List D)) (ρ:Ro):Out D:=(f ρ).bind λds=>.ok (.lst ds)
theorem DF.de {f:Ro->Out (List D)} (h:DF T X e f):DE T X e (q1z f):=.mk λG E hp=>by
 refine PE.imp (PE.freeze (h.run G E hp)) fun σ H Q ⟨ρ,fr,q⟩=>⟨ρ,fr,Acc.mono (Acc.bind q) λds _ hd a vs H' s1 ha ha' r=>⟨a,vs,rfl,ha',λo=>?_⟩⟩
 refine hd _ _ (λb u e=>?_) ⟨a,vs,rfl,.inl ⟨o,q0w⟩,RepL.froz ha' _ _ r⟩
 rw [q0j (λz=>by rw [z,ha] at e;cases e)];exact s1 b u e
theorem DF.dr {f:Ro->Out (List D)} (h:DF T X e f):DR T X e (fun ρ=>(f ρ).bind λds=>.ok (.fr ds)):=.mk λG E hp=>
 PE.imp (h.run G E hp) fun σ H Q ⟨ρ,fr,q⟩=>⟨ρ,fr,Acc.mono (Acc.bind q) λds _ hd a vs H' s1 ha ha' r=>hd _ _ s1 ⟨a,vs,rfl,ha',ha,r⟩⟩
@[simp] noncomputable def mkO (t:Bool) (ds:List D):D:=if t=true then .tup ds else .lst ds
@[simp] noncomputable def Rv.d:Rv->D
 | .sh d=>d
 | .fr ds=>.lst ds
 | .tf t pre ds post=>mkO t (pre++.lst ds::post)
theorem OutAt.rep {K:PySem.W.Frag} {H:Hp} {t:Bool} {a b:Addr} {vp vq ws:List V} {pre ds post:List D} {o:Obj} (e2:OutAt H t a (vp++.ref b::vq)) (r1:RepL T K H pre vp) (r2:RepL T K H post vq) (e3:H b=some (.lst ws)) (r3:RepL T K H ds ws) :
 Rep T K (upd H b (.frz o (.lst ws))) (mkO t (pre++.lst ds::post)) (.ref a):=by
 have hl:RepL T K (upd H b (.frz o (.lst ws))) (pre++.lst ds::post) (vp++.ref b::vq):=
  RepL.append _ _ _ _ (RepL.froz e3 _ _ r1) ⟨_,_,rfl,⟨b,ws,rfl,.inl ⟨o,q0w⟩,RepL.froz e3 _ _ r3⟩,RepL.froz e3 _ _ r2⟩
 have ha:OutAt (upd H b (.frz o (.lst ws))) t a (vp++.ref b::vq):=e2.keep λu q _ _=>by
  rw [q0j (λz=>by subst z;exact e2.nlst e3)];exact q
 cases t with
 | true=>exact ⟨a,_,rfl,.inl (.inl ha),hl⟩
 | false=>
  obtain ⟨o',ha⟩:=ha
  exact ⟨a,_,rfl,.inl ⟨o',ha⟩,hl⟩
@[simp] noncomputable def rD (f:Ro->Out Rv) (ρ:Ro):Out D:=(f ρ).bind λr=>.ok r.d
theorem DR.de {f:Ro->Out Rv} (h:DR T X e f):DE T X e (rD f):=.mk λG E hp=>by
 rintro pins s σ H Q I ⟨ρ,fr,q⟩
 refine thn (h.run G E hp pins s σ H (λv H1=>∃r,Same H H1/\q49 T X.K H H1 v r/\kE T X.K H Q r.d) I ⟨ρ,fr,Acc.mono (Acc.bind q) λr _ hr v H' s1 r1=>⟨r,s1,r1,hr⟩⟩) λu s1 ⟨v,H1,I1,rv,r,sm,rok,k⟩=>?_
 cases r with
 | sh d=>exact ⟨v,H1,I1,rv,k v H1 sm rok⟩
 | fr ds=>
  obtain ⟨a,vs,rfl,ha',ha,rl⟩:=rok
  obtain ⟨o,I2⟩:=Inv.freeze I1 ha'
  refine ⟨_,_,I2,rv,k _ _ (λb u e=>?_) ⟨a,vs,rfl,.inl ⟨o,q0w⟩,RepL.froz ha' _ _ rl⟩⟩
  rw [q0j (λz=>by rw [z,ha] at e;cases e)];exact sm b u e
 | tf t pre ds post=>
  obtain ⟨a,vp,b,vq,ws,rfl,e2,r1,r2,e3,e4,r3⟩:=rok
  obtain ⟨o,I2⟩:=Inv.freeze I1 e3
  refine ⟨_,_,I2,rv,k _ _ (λc u e=>?_) (e2.rep r1 r2 e3 r3)⟩
  rw [q0j (λz=>by rw [z,e4] at e;cases e)];exact sm c u e
theorem DF.dl {f:Ro->Out (List D)} (h:DF T X e f):DL T X e f:=.mk λG E hp=>
 PE.imp (h.run G E hp) fun σ H Q ⟨ρ,fr,q⟩=>⟨ρ,fr,Acc.mono q λds _ hd a vs H' s1 ha ha' r=>hd a vs H' s1 (SqL.of ha') r⟩
@[simp] noncomputable def D.toL:D->Out (List D)
 | .lst ds=>.ok ds
 | _=>.bad
@[simp] noncomputable def q1K (f:Ev) (ρ:Ro):Out (List D):=(f ρ).bind D.toL
theorem DE.dl {f:Ev} (h:DE T X e f):DL T X e (q1K f):=.mk λG E hp=>
 PE.imp (h.run G E hp) fun σ H Q ⟨ρ,fr,q⟩=>⟨ρ,fr,Acc.mono (Acc.bind q) λd _ hd v H' s1 r=>by
  cases d with
  | lst ds=>
   obtain ⟨a,vs,rfl,e2,r2⟩:=r
   exact hd a vs H' s1 e2.sq r2
  | _=>exact hd.elim⟩
end
section
variable {T:Tb} {X:Cx} {a b:Expr} {rest:List Expr} {pos:Pos} {fa fb:Ro->Out Bool} {f:Ev}
@[simp] noncomputable def D.tru:D->Out Bool
 | .non=>.ok false
 | .bl b=>.ok b
 | .int i=>.ok (i != 0)
 | .str x=>if x.length<=1000000 then .ok ((x.length:Int) != 0) else .bad
 | .tup ds=>.ok (!ds.isEmpty)
 | .lst ds=>.ok (!ds.isEmpty)
 | _=>.bad
theorem line6 {n:Nat} (h:n<=1000000):n<=sizeLine:=by rw [sizeLine_eq];omega
theorem q4Z {ds:List D} {vs:List V} (h:vs.length=ds.length):(!vs.isEmpty)=!ds.isEmpty:=by
 cases ds<;>cases vs<;>simp_all
theorem w1O {H:Hp} {d:D} {v:V} {k:Bool} (r:Rep T X.K H d v) (h:d.tru=.ok k):j9v X.K v H k:=by
 cases d with
 | non=>cases r;cases h;exact rfl
 | bl b=>cases r;cases h;exact rfl
 | int i=>cases r;cases h;exact rfl
 | str x=>
  cases r
  have h':(if x.length<=1000000 then Out.ok ((x.length:Int) != 0) else .bad)=.ok k:=h
  by_cases z:x.length<=1000000
  ·rw [if_pos z] at h';cases h';exact ⟨line6 z,rfl⟩
  ·rw [if_neg z] at h';cases h'
 | tup ds=>
  obtain ⟨a,vs,rfl,e,r⟩:=r
  cases h
  exact .inr (.inl ⟨vs,e,(q4Z (RepL.length _ _ r)).symm⟩)
 | lst ds=>
  obtain ⟨a,vs,rfl,e,r⟩:=r
  cases h
  exact .inl ⟨vs,e.sq,(q4Z (RepL.length _ _ r)).symm⟩
 | ins c ds=>cases h
 | exc c=>cases h
@[simp] noncomputable def q5S (f:Ev) (ρ:Ro):Out Bool:=(f ρ).bind D.tru
theorem q02 (h:DE T X a f) (he:∀whole,isTrue a X.env whole=(do let v <-whole;standAt a.pos;holding [v] (truthy v)):=by intro _;rfl):DT T X a (q5S f):=.mk λG E hp=>by
 refine PT.imp (j1x (X:=X.wish E) (h.run G E hp) he) fun σ H Q ⟨ρ,fr,q⟩=>⟨ρ,fr,Acc.mono (Acc.bind q) λd _ hd v H' s1 r=>?_⟩
 cases e:d.tru with
 | ok k=>rw [e] at hd;exact ⟨k,w1O r e,hd H' s1⟩
 | exc c=>
  cases d with
  | str x=>
   have h':(if x.length<=1000000 then Out.ok ((x.length:Int) != 0) else .bad)=.exc c:=e
   by_cases z:x.length<=1000000
   ·rw [if_pos z] at h';cases h'
   ·rw [if_neg z] at h';cases h'
  | _=>cases e
 | bad=>rw [e] at hd;exact hd.elim
@[simp] noncomputable def q1W (f:Ro->Out Bool) (ρ:Ro):Out Bool:=(f ρ).bind λb=>.ok (!b)
@[simp] noncomputable def j0S (f g:Ro->Out Bool) (ρ:Ro):Out Bool:=(f ρ).bind λb=>if b=true then g ρ else .ok false
@[simp] noncomputable def j5x (f g:Ro->Out Bool) (ρ:Ro):Out Bool:=(f ρ).bind λb=>if b=true then .ok true else g ρ
theorem q1k (h:DT T X a fa):DT T X (.UnaryOp .Not a pos) (q1W fa):=.mk λG E hp=>
 PT.imp (j6J (X:=X.wish E) (h.run G E hp)) fun σ H Q ⟨ρ,fr,q⟩=>⟨ρ,fr,Acc.mono (Acc.bind q) λb _ hb H' s1=>hb H' s1⟩
theorem q5i (ha:DT T X a fa):DW T X (.BoolOp .And [a] pos) fa:=.mk λG E hp=>j4b (ha.run G E hp)
theorem q4o (ha:DT T X a fa):DW T X (.BoolOp .Or [a] pos) fa:=.mk λG E hp=>j66 (ha.run G E hp)
theorem q87 (ha:DT T X a fa) (hb:DW T X (.BoolOp .And (b::rest) pos) fb):DW T X (.BoolOp .And (a::b::rest) pos) (j0S fa fb):=.mk λG E hp=>
 PW.imp (j5J (ha.run G E hp) (hb.run G E hp)) fun σ H Q ⟨ρ,fr,q⟩=>⟨ρ,fr,Acc.mono (Acc.bind q) λb _ hb H' s1=>by
  cases b with
  | true=>exact ⟨ρ,fr.mono s1,Acc.mono (Acc.heap s1 hb) λc _ hc H2 s2=>hc H2 (s1.trans s2)⟩
  | false=>exact hb H' s1⟩
theorem q92 (ha:DT T X a fa) (hb:DW T X (.BoolOp .Or (b::rest) pos) fb):DW T X (.BoolOp .Or (a::b::rest) pos) (j5x fa fb):=.mk λG E hp=>
 PW.imp (j89 (ha.run G E hp) (hb.run G E hp)) fun σ H Q ⟨ρ,fr,q⟩=>⟨ρ,fr,Acc.mono (Acc.bind q) λb _ hb H' s1=>by
  cases b with
  | false=>exact ⟨ρ,fr.mono s1,Acc.mono (Acc.heap s1 hb) λc _ hc H2 s2=>hc H2 (s1.trans s2)⟩
  | true=>exact hb H' s1⟩
variable {ga gb:Ev}
@[simp] noncomputable def j07 (f g:Ev) (ρ:Ro):Out D:=(f ρ).bind λd=>d.toB.bind λb=>if b=true then g ρ else .ok (.bl false)
@[simp] noncomputable def j7y (f:Ev) (ρ:Ro):Out D:=(f ρ).bind λd=>d.toB.bind λb=>.ok (.bl (!b))
theorem q45 {α:Type} {E:Value->Shared->Prop} {σ:L2.St} {H:Hp} {d:D} {g:Bool->Out α} {k:α->Prop} (h:Acc T X E σ H (d.toB.bind g) k):∃b,d=.bl b/\Acc T X E σ H (g b) k:=by
 cases d with
 | bl b=>exact ⟨b,rfl,h⟩
 | _=>exact h.elim
theorem j2S {op} (h:DE T X a ga):DE T X (.BoolOp op [a] pos) ga:=.mk λG E hp=>j7f (h.run G E hp)
theorem q74 (ha:DE T X a ga) (hb:DE T X (.BoolOp .And (b::rest) pos) gb):DE T X (.BoolOp .And (a::b::rest) pos) (j07 ga gb):=.mk λG E hp=>
 PE.imp (j7x (ha.run G E hp) (hb.run G E hp)) fun σ H Q ⟨ρ,fr,q⟩=>⟨ρ,fr,Acc.mono (Acc.bind q) λd _ hd v H' s1 r=>by
  obtain ⟨c,rfl,hc⟩:=q45 hd
  refine ⟨c,r,?_⟩
  cases c with
  | true=>exact ⟨ρ,fr.mono s1,Acc.mono (Acc.heap s1 hc) λc _ hc v2 H2 s2 r2=>hc v2 H2 (s1.trans s2) r2⟩
  | false=>exact hc _ H' s1 rfl⟩
theorem j65 (ha:DE T X a ga):DE T X (.UnaryOp .Not a pos) (j7y ga):=.mk λG E hp=>
 PE.imp (j7W (ha.run G E hp)) fun σ H Q ⟨ρ,fr,q⟩=>⟨ρ,fr,Acc.mono (Acc.bind q) λd _ hd v H' s1 r=>by
  obtain ⟨c,rfl,hc⟩:=q45 hd
  exact ⟨c,r,hc _ H' s1 rfl⟩⟩
end
section
variable {T:Tb} {ib:Bool} {X:Cx} {e:Expr} {st:Stmt} {sts:List Stmt} {pos pos':Pos} {f g:Ro->Fl} {fe:Ev}
theorem q0y:DSs T ib X [] Fl.nx:=.mk λG E hp=>PSs.imp j5t λD σ H ⟨ρ,fr,h⟩=>h σ H fr (Pers.refl H)
theorem q0b (h1:DS T ib X st f) (h2:DSs T ib X sts g):DSs T ib X (st::sts) (fun ρ=>(f ρ).bind g):=.mk λG E hp=>
 PSs.imp (j1J (h1.run G E hp) (h2.run G E hp)) λD σ H ⟨ρ,fr,h⟩=>⟨ρ,fr,by
  have h:AccS T ib X G E H ((f ρ).bind g) D:=h
  cases e:f ρ with
  | nx ρ'=>rw [e] at h;exact fun σ' H' fr' p=>⟨ρ',fr',AccS.heap p h⟩
  | rt r=>rw [e] at h;exact h
  | rm r c ds ks=>rw [e] at h;exact h
  | exc c ρ'=>rw [e] at h;exact h
  | bk ρ'=>rw [e] at h;exact h
  | ct ρ'=>rw [e] at h;exact h
  | bad=>rw [e] at h;exact h⟩
theorem q0h (h1:DS T ib X st f):DSs T ib X [st] f:=.mk λG E hp=>j4t (h1.run G E hp)
@[simp] noncomputable def q08 (i:Nat) (fe:Ev) (ρ:Ro):Fl:=(fe ρ).fl ρ λd=>.nx (ρ.set i (.sh d))
theorem q0t (i:Nat) {x:Str} (hN:X.N.Nodup) (he:DE T X e fe) (hi:X.N[i]?=some x:=by rfl) (hx:Loc X.env.scope x:=by walk_at "v3") (hs:swapsWith e (some (.Name x pos')) pos.line X.env=pure false:=by exact q2f rfl) (hf:X.fn x=true∨X.env.scope.names.lookup x=some .local:=by walk_at "v2")
 (hz:T.me=none∨i≠0:=by walk_at "v1") :
 DS T ib X (.Assign [.Name x pos'] e pos) (q08 i fe):=.mk λG E hp=>
 PS.imp (j2J (X:=X.wish E) hN hi hx (he.run G E hp) hs hf) λD σ H ⟨ρ,fr,h⟩=>⟨ρ,fr,Acc.mono (AccS.fl fr h) λd _ hd v H1 s1 r1=>hd _ _ ((fr.mono s1).set_sh r1 hz) (Pers.of s1)⟩
theorem q5Y {K:PySem.W.Frag} {G H H1:Hp} {σ:L2.St} {ρ:Ro} {a:Addr} (fr:FR T K G H σ ρ) (s1:Same H H1) (ha:H a=none) (j:Nat) (s:Sl) (e:ρ[j]?=some s):¬q41 H1 σ[j]? a s:=λz=>by
 obtain ⟨⟨ws,q⟩,_⟩:=(fr.sl j s e).own ((fr.sl j s e).back (λa o q _ _=>s1 a o q) z)
 rw [ha] at q;cases q
@[simp] noncomputable def q13 (i:Nat) (f:Ro->Out Rv) (ρ:Ro):Fl:=(f ρ).fl ρ λr=>.nx (ρ.set i (match r with | .sh d=>.sh d | .fr ds=>.ow ds | .tf t pre ds post=>.ox t pre ds post))
theorem q1d (i:Nat) {x:Str} {f:Ro->Out Rv} (hN:X.N.Nodup) (he:DR T X e f) (hi:X.N[i]?=some x:=by rfl) (hx:Loc X.env.scope x:=by walk_at "v3") (hs:swapsWith e (some (.Name x pos')) pos.line X.env=pure false:=by exact q2f rfl) (hf:X.fn x=true∨X.env.scope.names.lookup x=some .local:=by walk_at "v2")
 (hz:T.me=none∨i≠0:=by walk_at "v1") :
 DS T ib X (.Assign [.Name x pos'] e pos) (q13 i f):=.mk λG E hp=>
 PS.imp (j2J (X:=X.wish E) hN hi hx (he.run G E hp) hs hf) λD σ H ⟨ρ,fr,h⟩=>⟨ρ,fr,Acc.mono (AccS.fl fr h) λr _ hr v H1 s1 r1=>by
  cases r with
  | sh d=>exact hr _ _ ((fr.mono s1).set_sh r1 hz) (Pers.of s1)
  | fr ds=>
   obtain ⟨a,vs,rfl,ha',ha,rl⟩:=r1
   exact hr _ _ ((fr.mono s1).set_ow ha' (fr.same.free ha) rl (λj es _ e=>q5Y (H1:=H1) fr s1 ha j es e) hz) (Pers.of s1)
  | tf t pre ds post=>
   obtain ⟨a,vp,b,vq,ws,rfl,e2,q1,q2,e3,e4,q3⟩:=r1
   refine hr _ _ ((fr.mono s1).set_own (.ox t pre ds post) (λ_=>⟨a,vp,b,vq,ws,rfl,e2,q1,q2,e3,fr.same.free e4,q3⟩) (λj s c hj q o1 o2=>?_) (λ_ _ z=>by cases z) hz) (Pers.of s1)
   obtain ⟨a',us,z1,z2,z3⟩:=o1
   cases z1
   have:=e2.uniq z2
   subst this
   rw [<-RepL.length _ _ q1,List.getElem?_append_right (Nat.le_refl _),Nat.sub_self] at z3
   have z3:(some (V.ref b))=some (.ref c):=z3
   cases z3
   exact q5Y (H1:=H1) fr s1 e4 j s q o2⟩
@[simp] noncomputable def sIf (t:Ro->Out Bool) (f g:Ro->Fl) (ρ:Ro):Fl:=(t ρ).fl ρ λb=>if b=true then f ρ else g ρ
theorem q05 {c:Expr} {a b:List Stmt} {ft:Ro->Out Bool} (hc:DT T X c ft) (ha:DSs T ib X a f) (hb:DSs T ib X b g):DS T ib X (.If c a b pos) (sIf ft f g):=.mk λG E hp=>
 PS.imp (j9D (hc.run G E hp) (ha.run G E hp) (hb.run G E hp)) λD σ H ⟨ρ,fr,h⟩=>⟨ρ,fr,Acc.mono (AccS.fl fr h) λb _ hb H1 s1=>by
  cases b with
  | true=>exact ⟨ρ,fr.mono s1,AccS.heap (Pers.of s1) hb⟩
  | false=>exact ⟨ρ,fr.mono s1,AccS.heap (Pers.of s1) hb⟩⟩
@[simp] noncomputable def q2I (fe:Ev) (ρ:Ro):Fl:=(fe ρ).fl ρ λd=>.rt (.sh d)
theorem q0Y (he:DE T X e fe):DS T ib X (.Return (some e) pos) (q2I fe):=.mk λG E hp=>
 PS.imp (j0n (he.run G E hp)) λD σ H ⟨ρ,fr,h⟩=>⟨ρ,fr,Acc.mono (AccS.fl fr h) λd _ hd v H1 s1 r1=>hd v H1 (fr.same.trans s1) r1⟩
@[simp] noncomputable def q34 (f:Ro->Out Rv) (ρ:Ro):Fl:=(f ρ).fl ρ λr=>.rt r
theorem q18 {f:Ro->Out Rv} (he:DR T X e f):DS T ib X (.Return (some e) pos) (q34 f):=.mk λG E hp=>
 PS.imp (j0n (he.run G E hp)) λD σ H ⟨ρ,fr,h⟩=>⟨ρ,fr,Acc.mono (AccS.fl fr h) λr _ hr v H1 s1 r1=>hr v H1 (fr.same.trans s1) (q3t fr.same r1)⟩
@[simp] noncomputable def q3h (i:Nat) (ρ:Ro):Fl:=match ρ[i]? with
 | some (.ow ds)=>.rt (.fr ds)
 | some (.sh d)=>.rt (.sh d)
 | _=>.bad
theorem q1Z (i:Nat) {x:Str} (hN:X.N[i]?=some x:=by rfl) (hv:Vis X.env.scope x:=by walk_at "v0") (hd:(x==("__debug__" : Str))=false:=by decide)
 (hcd:(x==("__classdict__" : Str))=false:=by decide):DS T ib X (.Return (some (.Name x pos')) pos) (q3h i):=.mk λG E hp=>
 PS.imp (j0n (q2i (X:=X.wish E) hN hv hd hcd)) λD σ H ⟨ρ,fr,h⟩=>by
  unfold q3h at h
  split at h
  ·rename_i ds e
   obtain ⟨a,vs,e1,e2,e3,r⟩:=fr.sl i _ e
   exact ⟨_,e1,h _ H fr.same ⟨a,vs,rfl,e2,e3,r⟩⟩
  ·rename_i d e
   obtain ⟨v,e1,r⟩:=fr.sl i _ e
   exact ⟨_,e1,h _ H fr.same r⟩
  ·exact h.elim
@[simp] noncomputable def q1w (fe:Ev) (ρ:Ro):Fl:=(fe ρ).fl ρ λ_=>.nx ρ
theorem q0R (he:DE T X e fe) (hs:swapsWith e none pos.line X.env=pure false:=by exact q2f rfl):DS T ib X (.Expr e pos) (q1w fe):=.mk λG E hp=>
 PS.imp (q8b (X:=X.wish E) (he.run G E hp) hs) λD σ H ⟨ρ,fr,h⟩=>⟨ρ,fr,Acc.mono (AccS.fl fr h) λd _ hd v H1 s1 r1=>hd σ H1 (fr.mono s1) (Pers.of s1)⟩
@[simp] noncomputable def j6H (i:Nat) (f:Ro->Fl) (ρ:Ro):Fl:=match ρ[i]? with
 | some (.ow ds)=>f (ρ.set i (.sh (.lst ds)))
 | some (.sh _)=>f ρ
 | some (.ox t pre ds post)=>f (ρ.set i (.sh (mkO t (pre++.lst ds::post))))
 | _=>.bad
theorem q9H {K:PySem.W.Frag} {G H:Hp} {σ:L2.St} {ρ:Ro} {i:Nat} {a:Addr} {vs:List V} {s0:Sl} {d:D} {v:V} {o:Obj} (fr:FR T K G H σ ρ) (e:ρ[i]?=some s0) (oa:q41 H σ[i]? a s0) (e2:H a=some (.lst vs)) (e3:G a=none) (e1:σ[i]?=some (some v)) (r:Rep T K (upd H a (.frz o (.lst vs))) d v) :
 FR T K G (upd H a (.frz o (.lst vs))) σ (ρ.set i (.sh d)):=by
 have hl:i < ρ.length:=(List.getElem?_eq_some_iff.mp e).1
 have lt:∀{m:Nat} {z:Sl},(ρ.set i (.sh d))[m]?=some z->m=i∨(m≠i/\ρ[m]?=some z):=λ{m z} q=>by
  by_cases hm:m=i
  ·exact .inl hm
  ·rw [List.getElem?_set_ne (Ne.symm hm)] at q;exact .inr ⟨hm,q⟩
 refine ⟨λb u q=>?_,by simp [fr.len],λj s q=>?_,λj k s1 s2 b hjk q1 q2 o1 o2=>?_,fr.me,q37 (λ_ _ z=>by cases z) fr.me0⟩
 ·rw [q0j (λz=>by rw [z,e3] at q;cases q)];exact fr.same b u q
 ·rcases lt q with rfl | ⟨hj,q⟩
  ·rw [List.getElem?_set_self hl] at q;cases q
   exact ⟨_,e1,r⟩
  ·have h:=fr.sl j s q
   exact SlOk.off e2 (λ_ _=>RepL.froz e2 _ _) (λo1=>fr.ne j i _ _ a hj q e o1 oa) h
 ·have hj:j≠i:=by
   rintro rfl
   rw [List.getElem?_set_self hl] at q1;cases q1;exact o1
  have hk:k≠i:=by
   rintro rfl
   rw [List.getElem?_set_self hl] at q2;cases q2;exact o2
  rw [List.getElem?_set_ne (Ne.symm hj)] at q1
  rw [List.getElem?_set_ne (Ne.symm hk)] at q2
  have bk:∀(c:Addr) (u:HO),H c=some u->(∀xs,u≠.lst xs)->(∀x dx fs,u≠.ins x dx fs)->upd H a (.frz o (.lst vs)) c=some u:=λc u w n _=>by
   rw [q0j (λy=>by subst y;rw [e2] at w;cases w;exact n _ rfl)];exact w
  exact fr.ne j k s1 s2 b hjk q1 q2 ((fr.sl j s1 q1).back bk o1) ((fr.sl k s2 q2).back bk o2)
theorem j6X {K:PySem.W.Frag} {G H:Hp} {σ:L2.St} {ρ:Ro} {i:Nat} {a:Addr} {vs:List V} {ds:List D} {o:Obj} (fr:FR T K G H σ ρ) (e:ρ[i]?=some (.ow ds)) (e1:σ[i]?=some (some (.ref a))) (e2:H a=some (.lst vs)) (e3:G a=none) (r:RepL T K H ds vs) :
 FR T K G (upd H a (.frz o (.lst vs))) σ (ρ.set i (.sh (.lst ds))):=q9H fr e e1 e2 e3 e1 ⟨a,vs,rfl,.inl ⟨o,q0w⟩,RepL.froz e2 _ _ r⟩
theorem j9E {K:PySem.W.Frag} {H:Hp} {x:Option (Option V)} {t:Bool} {a b:Addr} {vp vq:List V} {pre ds post:List D} (z1:x=some (some (.ref a))) (z2:OutAt H t a (vp++.ref b::vq)) (z3:RepL T K H pre vp):q41 H x b (.ox t pre ds post):=
 ⟨a,_,z1,z2,by rw [<-RepL.length _ _ z3,List.getElem?_append_right (Nat.le_refl _),Nat.sub_self];rfl⟩
theorem j3z {K:PySem.W.Frag} {G H:Hp} {σ:L2.St} {ρ:Ro} {i:Nat} {t:Bool} {a b:Addr} {vp vq ws:List V} {pre ds post:List D} {o:Obj} (fr:FR T K G H σ ρ) (e:ρ[i]?=some (.ox t pre ds post)) (e1:σ[i]?=some (some (.ref a))) (e2:OutAt H t a (vp++.ref b::vq)) (r1:RepL T K H pre vp) (r2:RepL T K H post vq) (e3:H b=some (.lst ws)) (e4:G b=none) (r3:RepL T K H ds ws) :
 FR T K G (upd H b (.frz o (.lst ws))) σ (ρ.set i (.sh (mkO t (pre++.lst ds::post)))):=q9H fr e (j9E e1 e2 r1) e3 e4 e1 (e2.rep r1 r2 e3 r3)
theorem q5r (i:Nat) (h:DSs T ib X sts f):DSs T ib X sts (j6H i f):=.mk λG E hp=>by
 rintro pins s σ H D I ⟨ρ,fr,q⟩
 unfold j6H at q
 split at q
 ·rename_i ds e
  obtain ⟨a,vs,e1,e2,e3,r⟩:=fr.sl i _ e
  obtain ⟨o,I2⟩:=Inv.freeze I e2
  exact h.run G E hp pins s σ _ D I2 ⟨_,j6X fr e e1 e2 e3 r,AccS.heap (λb u z w=>by rw [q0j (λy=>by rw [y,e2] at z;cases z;cases w)];exact z) q⟩
 ·exact h.run G E hp pins s σ H D I ⟨ρ,fr,q⟩
 ·rename_i t pre ds post e
  obtain ⟨a,vp,b,vq,ws,e1,e2,r1,r2,e3,e4,r3⟩:=fr.sl i _ e
  obtain ⟨o,I2⟩:=Inv.freeze I e3
  exact h.run G E hp pins s σ _ D I2 ⟨_,j3z fr e e1 e2 r1 r2 e3 e4 r3,AccS.heap (λb u z w=>by rw [q0j (λy=>by rw [y,e3] at z;cases z;cases w)];exact z) q⟩
 ·exact q.elim
end
noncomputable def q2E (b:Ro->D->Fl):List D->Ro->Fl
 | [],ρ=>.nx ρ
 | d::ds,ρ=>match b ρ d with
  | .nx ρ'=>q2E b ds ρ'
  | .ct ρ'=>q2E b ds ρ'
  | .bk ρ'=>.nx ρ'
  | o=>o
noncomputable def whD (t:Ro->Out Bool) (b:Ro->Fl):Nat->Ro->Fl
 | 0,_=>.bad
 | n+1,ρ=>(t ρ).fl ρ λk=>if k=true then (match b ρ with
  | .nx ρ'=>whD t b n ρ'
  | .ct ρ'=>whD t b n ρ'
  | .bk ρ'=>.nx ρ'
  | o=>o) else .nx ρ
section
variable {T:Tb} {ib:Bool} {X:Cx} {tg iter:Expr} {body:List Stmt} {pos:Pos} {fb:Ro->Fl}
noncomputable def TgD (T:Tb) (X:Cx) (tg:Expr) (g:Ro->D->Out Ro):Prop:=∀(E:Value->Shared->Prop),∃tgr:TG,PG (X.wish E) tg tgr/\∀(G H:Hp) (σ:L2.St) (ρ ρ':Ro) (d:D) (v:V) (Q:L2.St->Hp->Prop),FR T X.K G H σ ρ->Rep T X.K H d v->g ρ d=.ok ρ'->(∀σ',FR T X.K G H σ' ρ'->Q σ' H)->tgr v σ H Q
@[simp] noncomputable def q1i (i:Nat) (ρ:Ro) (d:D):Out Ro:=.ok (ρ.set i (.sh d))
theorem q0W (i:Nat) {x:Str} (hN:X.N.Nodup) (hi:X.N[i]?=some x:=by rfl) (hx:Loc X.env.scope x:=by walk_at "v3") (hf:X.fn x=true∨X.env.scope.names.lookup x=some .local:=by walk_at "v2") (hz:T.me=none∨i≠0:=by walk_at "v1"):TgD T X (.Name x pos) (q1i i):=λE=>
 ⟨_,q38 (X:=X.wish E) (i:=i) hN hi hx hf,λG H σ ρ ρ' d v Q fr r e k=>by cases e;exact k _ (fr.set_sh r hz)⟩
@[simp] noncomputable def q0x (g:Ro->D->Out Ro) (fb:Ro->Fl) (ρ:Ro) (d:D):Fl:=match g ρ d with
 | .ok ρ'=>fb ρ'
 | _=>.bad
theorem q6H {G H:Hp} {E:Value->Shared->Prop} {D:Ends} {o:Fl} {N:L2.St->Hp->Prop} {k:Ro->Fl}
 (h:AccS T ib X G E H (match o with | .nx ρ'=>k ρ' | .ct ρ'=>k ρ' | .bk ρ'=>.nx ρ' | o=>o) D)
 (hN:∀ρ' σ' H',FR T X.K G H' σ' ρ'->Pers T ib H H'->AccS T ib X G E H' (k ρ') D->N σ' H'):AccS T ib X G E H o { D with nx:=N,ct:=N,bk:=D.nx }:=by
 cases o with
 | nx ρ'=>exact fun σ' H' fr p=>hN ρ' σ' H' fr p (AccS.heap p h)
 | ct ρ'=>exact fun σ' H' fr p=>hN ρ' σ' H' fr p (AccS.heap p h)
 | bk ρ'=>exact h
 | rt r=>exact h
 | rm r c ds ks=>exact h
 | exc c ρ'=>exact h
 | bad=>exact h
theorem q8S (b:Ro->D->Fl) (d:D) (ds:List D) (ρ:Ro):q2E b (d::ds) ρ=(match b ρ d with | .nx ρ'=>q2E b ds ρ' | .ct ρ'=>q2E b ds ρ' | .bk ρ'=>.nx ρ' | o=>o):=rfl
theorem j1k {g:Ro->D->Out Ro} {G H:Hp} {E:Value->Shared->Prop} {DD:Ends} {N:L2.St->Hp->Prop} {σ:L2.St} {ρ:Ro} {d:D} {ds:List D} {v:V} {tgr:TG} {tb:TS}
 (hg:∀(G H:Hp) (σ:L2.St) (ρ ρ':Ro) (d:D) (v:V) (Q:L2.St->Hp->Prop),FR T X.K G H σ ρ->Rep T X.K H d v->g ρ d=.ok ρ'->(∀σ',FR T X.K G H σ' ρ'->Q σ' H)->tgr v σ H Q)
 (htb:∀DD σ H,tS T ib X G E fb DD σ H->tb DD σ H)
 (fr:FR T X.K G H σ ρ) (r:Rep T X.K H d v) (h:AccS T ib X G E H (q2E (q0x g fb) (d::ds) ρ) DD)
 (hN:∀ρ' σ' H',FR T X.K G H' σ' ρ'->Pers T ib H H'->AccS T ib X G E H' (q2E (q0x g fb) ds ρ') DD->N σ' H') :
 tgr v σ H fun σ2 H2=>tb { DD with nx:=N,ct:=N,bk:=DD.nx } σ2 H2:=by
 rw [q8S] at h
 cases e:g ρ d with
 | ok ρ'=>
  have e2:q0x g fb ρ d=fb ρ':=by unfold q0x;rw [e]
  rw [e2] at h
  exact hg G H σ ρ ρ' d v _ fr r e fun σ' fr'=>htb _ _ _ ⟨ρ',fr',q6H h hN⟩
 | exc c=>
  have e2:q0x g fb ρ d=.bad:=by unfold q0x;rw [e]
  rw [e2] at h;exact h.elim
 | bad=>
  have e2:q0x g fb ρ d=.bad:=by unfold q0x;rw [e]
  rw [e2] at h;exact h.elim
noncomputable def Stb (K:PySem.W.Frag) (G H:Hp) (a:Addr) (vs:List V):Prop:=FzL K H a vs∨G a=some (.lst vs)
theorem Stb.sq {K:PySem.W.Frag} {G H:Hp} {a:Addr} {vs:List V} (h:Stb K G H a vs) (s:Same G H):SqL K H a vs:=by
 rcases h with h | h
 ·exact h.sq
 ·exact SqL.of (s _ _ h)
theorem Stb.pers {K:PySem.W.Frag} {G H H':Hp} {a:Addr} {vs:List V} (h:Stb K G H a vs) (p:Pers T ib H H'):Stb K G H' a vs:=by
 rcases h with h | h
 ·exact .inl (p.fz h)
 ·exact .inr h
noncomputable def tP (T:Tb) (X:Cx) (G:Hp) (E:Value->Shared->Prop) (f:Ro->Out (List D)):TE:=fun σ H Q=>∃ρ,FR T X.K G H σ ρ/\Acc T X E σ H (f ρ) (λds=>∀a vs H',Same H H'->Stb X.K G H' a vs->RepL T X.K H' ds vs->Q (.ref a) H')
structure DP (T:Tb) (X:Cx) (e:Expr) (f:Ro->Out (List D)):Prop where
 mk ::
 run:∀(G:Hp) (E:Value->Shared->Prop),PassesOwn (model X.prog X.w) X.A X.env E->PE (X.wish E) e (tP T X G E f)
theorem DE.dp {e:Expr} {f:Ev} (h:DE T X e f):DP T X e (q1K f):=.mk λG E hp=>
 PE.imp (h.run G E hp) fun σ H Q ⟨ρ,fr,q⟩=>⟨ρ,fr,Acc.mono (Acc.bind q) λd _ hd v H' s1 r=>by
  cases d with
  | lst ds=>
   obtain ⟨a,vs,rfl,e2,r2⟩:=r
   exact hd a vs H' s1 (.inl e2) r2
  | _=>exact hd.elim⟩
@[simp] noncomputable def j9g (i:Nat) (ρ:Ro):Out (List D):=match ρ[i]? with
 | some (.bo ds)=>.ok ds
 | some (.sh (.lst ds))=>.ok ds
 | _=>.bad
theorem j60 (i:Nat) {x:Str} (hN:X.N[i]?=some x:=by rfl) (hv:Vis X.env.scope x:=by walk_at "v0") (hd:(x==("__debug__" : Str))=false:=by decide)
 (hcd:(x==("__classdict__" : Str))=false:=by decide):DP T X (.Name x pos) (j9g i):=.mk λG E hp=>by
 refine PE.imp (q2i (X:=X.wish E) hN hv hd hcd) fun σ H Q ⟨ρ,fr,h⟩=>?_
 unfold j9g at h
 split at h
 ·rename_i ds e
  obtain ⟨a,vs,e1,e2,r⟩:=fr.sl i _ e
  exact ⟨_,e1,h a vs H (Same.refl H) (.inr e2) r⟩
 ·rename_i ds e
  obtain ⟨v,e1,a,vs,rfl,e2,r⟩:=fr.sl i _ e
  exact ⟨_,e1,h a vs H (Same.refl H) (.inl e2) r⟩
 ·exact h.elim
@[simp] noncomputable def q2L (fl:Ro->Out (List D)) (g:Ro->D->Out Ro) (fb:Ro->Fl) (ρ:Ro):Fl:=(fl ρ).fl ρ λds=>q2E (q0x g fb) ds ρ
noncomputable def rgD (lo:Int) (n:Nat):List D:=(List.range n).map λ(k:Nat)=>D.int (lo+(k:Int))
noncomputable def tN (T:Tb) (X:Cx) (G:Hp) (E:Value->Shared->Prop) (f:Ro->Out (Int×Nat)):TI:=fun σ H R=>∃ρ,FR T X.K G H σ ρ/\Acc T X E σ H (f ρ) (λp=>∀H',Same H H'->R (Itr p.1 p.2) H')
structure DN (T:Tb) (X:Cx) (tg e:Expr) (f:Ro->Out (Int×Nat)):Prop where
 mk ::
 run:∀(G:Hp) (E:Value->Shared->Prop),PassesOwn (model X.prog X.w) X.A X.env E->PI (X.wish E) tg e (tN T X G E f)
theorem PI.imp {X:Cx} {tg e:Expr} {t t':TI} (h:PI X tg e t) (k:∀σ H R,t' σ H R->t σ H R):PI X tg e t':=λpins s σ H R I q=>h pins s σ H R I (k σ H R q)
@[simp] noncomputable def n1 (fe:Ev) (ρ:Ro):Out (Int×Nat):=(fe ρ).bind λd=>match d with
 | .int i=>if -(2 ^ 62)<=i/\i < 2 ^ 62 then .ok (0,i.toNat) else .bad
 | _=>.bad
@[simp] noncomputable def n2 (fa fe:Ev) (ρ:Ro):Out (Int×Nat):=(fa ρ).bind λd=>(fe ρ).bind λd'=>match d,d' with
 | .int i,.int j=>if (-(2 ^ 62)<=i/\i < 2 ^ 62)/\-(2 ^ 62)<=j/\j < 2 ^ 62 then .ok (i,(j-i).toNat) else .bad
 | _,_=>.bad
theorem q5x {a:Expr} {fe:Ev} {p:Pos} (hg:Gl X "range") (hm:X.mg "range" = none) (ha:DE T X a fe) (hs:starEach [a] X.env=[(false,eval a X.env)]:=by rfl):DN T X tg (.Call (.Name "range" p) [a] [] pos) (n1 fe):=.mk λG E hp=>by
 refine PI.imp (q99 (X:=X.wish E) hg hm (q0O (X:=X.wish E) (ha.run G E hp) q1p hs) hs) fun σ H R ⟨ρ,fr,h⟩=>⟨ρ,fr,Acc.mono (Acc.bind h) λd _ hd v H1 s1 r=>?_⟩
 cases d with
 | int i=>
  have hd':Acc T X E σ H (if -(2 ^ 62)<=i/\i < 2 ^ 62 then Out.ok ((0:Int),i.toNat) else .bad) (λp=>∀H',Same H H'->R (Itr p.1 p.2) H'):=hd
  by_cases z:-(2 ^ 62)<=i/\i < 2 ^ 62
  ·rw [if_pos z] at hd'
   exact ⟨i,by rw [show v=V.int i from r],z.1,z.2,hd' H1 s1⟩
  ·rw [if_neg z] at hd';exact hd'.elim
 | _=>exact hd.elim
theorem j08 {c:Expr} {ft:Ro->Out Bool} (n:Nat) (hc:DT T X c ft) (hb:DSs T ib X body fb):DS T ib X (.While c body [] pos) (fun ρ=>whD ft fb n ρ):=.mk λG E hp=>by
 refine PS.imp (j0L (X:=X.wish E) hp (hc.run G E hp) (hb.run G E hp)) λDD σ H ⟨ρ,fr,h⟩=>?_
 refine ⟨λm σ' H'=>∃ρ',FR T X.K G H' σ' ρ'/\AccS T ib X G E H' (whD ft fb m ρ') DD,⟨n,ρ,fr,h⟩,?_⟩
 rintro m σ' H' ⟨ρ',fr',ha⟩
 cases m with
 | zero=>exact ha.elim
 | succ m=>
  refine ⟨ρ',fr',Acc.mono (AccS.fl fr' ha) λk _ hk H1 s1=>?_⟩
  cases k with
  | true=>
   refine ⟨fun σ2 H2=>∃ρ2,FR T X.K G H2 σ2 ρ2/\AccS T ib X G E H2 (whD ft fb m ρ2) DD,fun σ2 H2 q=>⟨m,Nat.lt_succ_self m,q⟩,ρ',fr'.mono s1,?_⟩
   have hk':AccS T ib X G E H' (match fb ρ' with | .nx ρ2=>whD ft fb m ρ2 | .ct ρ2=>whD ft fb m ρ2 | .bk ρ2=>.nx ρ2 | o=>o) DD:=hk
   exact q6H (AccS.heap (Pers.of s1) hk') fun ρ2 σ2 H2 fr2 p2 h2=>⟨ρ2,fr2,h2⟩
  | false=>exact hk σ' H1 (fr'.mono s1) (Pers.of s1)
end
section
variable {T:Tb} {X:Cx} {e a b:Expr} {es:List Expr} {pos p:Pos} {fe fa fb:Ev} {fs:Ro->Out (List D)}
@[simp] noncomputable def q0B (ρ:Ro):Out (List D):=.ok []
@[simp] noncomputable def q0i (fe:Ev) (fs:Ro->Out (List D)) (ρ:Ro):Out (List D):=(fe ρ).bind λd=>(fs ρ).bind λds=>.ok (d::ds)
theorem q0k:DA T X [] q0B:=.mk λG E hp=>PA.imp q1p fun σ H Q ⟨ρ,fr,h⟩=>h [] H (Same.refl H) rfl
theorem q0d (ha:DE T X e fe) (hr:DA T X es fs) (hs:starEach (e::es) X.env=(false,eval e X.env)::starEach es X.env:=by exact q0D rfl):DA T X (e::es) (q0i fe fs):=.mk λG E hp=>by
 refine PA.imp (q0O (X:=X.wish E) (ha.run G E hp) (hr.run G E hp) hs) fun σ H Q ⟨ρ,fr,h⟩=>?_
 refine ⟨ρ,fr,Acc.mono (Acc.bind h) λd _ hd v H1 s1 r1=>⟨ρ,fr.mono s1,Acc.mono (Acc.bind (Acc.heap s1 hd)) λds _ hds vs H2 s2 r2=>?_⟩⟩
 exact hds (v::vs) H2 (s1.trans s2) ⟨v,vs,rfl,Rep.mono s2 _ _ r1,r2⟩
noncomputable def CaD (T:Tb) (X:Cx) (f:Value) (g:List D->Out D):Prop:=∀E:Value->Shared->Prop,∃r:List V->Hp->VK->Prop,q1V (X.wish E) f r /\
 ∀(ds:List D) (vs:List V) (σ:L2.St) (H:Hp) (Q:VK),RepL T X.K H ds vs->Acc T X E σ H (g ds) (kE T X.K H Q)->r vs H Q
@[simp] noncomputable def eCB (g:List D->Out D) (fs:Ro->Out (List D)) (ρ:Ro):Out D:=(fs ρ).bind g
theorem q96 {G H:Hp} {E:Value->Shared->Prop} {σ:L2.St} {Q:VK} {g:List D->Out D} {r:List V->Hp->VK->Prop}
 (hg:∀(ds:List D) (vs:List V) (σ:L2.St) (H:Hp) (Q:VK),RepL T X.K H ds vs->Acc T X E σ H (g ds) (kE T X.K H Q)->r vs H Q) {ρ:Ro} (fr:FR T X.K G H σ ρ) (h:Acc T X E σ H (eCB g fs ρ) (kE T X.K H Q)) :
 tCB r (tA T X G E fs) σ H Q:=
 ⟨ρ,fr,Acc.mono (Acc.bind h) λds _ hd vs H1 s1 r1=>hg ds vs σ H1 Q r1 (Acc.mono (Acc.heap s1 hd) λd _ k v H2 s2 r2=>k v H2 (s1.trans s2) r2)⟩
theorem q0n {id:String} {x:Str} {g:List D->Out D} (hc:CaD T X (.builtin id) g) (hg:Gl X x) (hm:X.mg x=none) (hv:bootBuiltins x=some (.builtin id)) (ha:DA T X (e::es) fs) (hn:x≠"__name__":=by decide) (hdb:(x==("__debug__" : Str))=false:=by decide)
 (he:starEach (e::es) X.env=(false,eval e X.env)::starEach es X.env:=by exact q0D rfl) (hpl:(backTo pos (starEach es X.env)).any (·.1)=false:=by exact q0H rfl):DE T X (.Call (.Name x p) (e::es) [] pos) (eCB g fs):=.mk λG E hp=>by
 obtain ⟨r,hr,hg'⟩:=hc E
 exact PE.imp (q3X (X:=X.wish E) hr hg hm hv (ha.run G E hp) hn hdb he hpl) fun σ H Q ⟨ρ,fr,h⟩=>q96 hg' fr h
theorem q7U {TT:String} {x:Str} {g:List D->Out D} (hc:CaD T X (.type TT) g) (hg:Gl X x) (hm:X.mg x=none) (hv:bootBuiltins x=some (.type TT)) (ha:DA T X (e::es) fs) (hn:x≠"__name__":=by decide) (hdb:(x==("__debug__" : Str))=false:=by decide)
 (he:starEach (e::es) X.env=(false,eval e X.env)::starEach es X.env:=by exact q0D rfl) (hpl:(backTo pos (starEach es X.env)).any (·.1)=false:=by exact q0H rfl):DE T X (.Call (.Name x p) (e::es) [] pos) (eCB g fs):=.mk λG E hp=>by
 obtain ⟨r,hr,hg'⟩:=hc E
 exact PE.imp (q11 (X:=X.wish E) hr hg hm hv (ha.run G E hp) hn hdb he hpl) fun σ H Q ⟨ρ,fr,h⟩=>q96 hg' fr h
theorem RepL.one {K:PySem.W.Frag} {H:Hp} {d:D} {vs:List V} (h:RepL T K H [d] vs):∃v,vs=[v]/\Rep T K H d v:=by
 obtain ⟨v,r,rfl,h1,rfl⟩:=h;exact ⟨v,rfl,h1⟩
theorem RepL.two {K:PySem.W.Frag} {H:Hp} {d d':D} {vs:List V} (h:RepL T K H [d,d'] vs):∃v v',vs=[v,v']/\Rep T K H d v/\Rep T K H d' v':=by
 obtain ⟨v,r,rfl,h1,v',r',rfl,h2,rfl⟩:=h;exact ⟨v,v',rfl,h1,h2⟩
@[simp] noncomputable def j49:List D->Out D
 | [.int i,.int j]=>.ok (.int (if j < i then j else i))
 | _=>.bad
@[simp] noncomputable def j73:List D->Out D
 | [.int i,.int j]=>.ok (.int (if j > i then j else i))
 | _=>.bad
theorem q4d (hc:X.calm=true):CaD T X (.builtin "min") j49:=λE=>⟨_,q9S hc,λds vs σ H Q r h=>by
 unfold j49 at h
 split at h
 ·rename_i i j
  obtain ⟨v,v',rfl,rv,rv'⟩:=r.two
  exact ⟨i,j,by rw [show v=V.int i from rv,show v'=V.int j from rv'],h _ H (Same.refl H) rfl⟩
 ·exact h.elim⟩
theorem j2I (hc:X.calm=true):CaD T X (.builtin "max") j73:=λE=>⟨_,q9r hc,λds vs σ H Q r h=>by
 unfold j73 at h
 split at h
 ·rename_i i j
  obtain ⟨v,v',rfl,rv,rv'⟩:=r.two
  exact ⟨i,j,by rw [show v=V.int i from rv,show v'=V.int j from rv'],h _ H (Same.refl H) rfl⟩
 ·exact h.elim⟩
@[simp] noncomputable def q1T:List D->Out D
 | [.str x]=>if x.length<=1000000 then .ok (.int x.length) else .bad
 | [.tup ds]=>.ok (.int ds.length)
 | [.lst ds]=>.ok (.int ds.length)
 | _=>.bad
theorem q0E:CaD T X (.builtin "len") q1T:=λE=>⟨_,q5J,λds vs σ H Q r h=>by
 unfold q1T at h
 split at h
 ·rename_i x
  obtain ⟨v,rfl,rv⟩:=r.one
  by_cases z:x.length<=1000000
  ·rw [if_pos z] at h
   exact ⟨v,x.length,rfl,by rw [show v=V.str x from rv];exact ⟨line6 z,rfl⟩,h _ H (Same.refl H) rfl⟩
  ·rw [if_neg z] at h;exact h.elim
 ·rename_i es
  obtain ⟨v,rfl,a,us,rfl,e,rl⟩:=r.one
  exact ⟨_,us.length,rfl,.inr ⟨us,e,rfl⟩,h _ H (Same.refl H) (by rw [RepL.length _ _ rl];exact rfl)⟩
 ·rename_i es
  obtain ⟨v,rfl,a,us,rfl,e,rl⟩:=r.one
  exact ⟨_,us.length,rfl,.inl ⟨us,e.sq,rfl⟩,h _ H (Same.refl H) (by rw [RepL.length _ _ rl];exact rfl)⟩
 ·exact h.elim⟩
@[simp] noncomputable def j9B (fl:Ro->Out (List D)) (ρ:Ro):Out D:=(fl ρ).bind λds=>.ok (.int ds.length)
theorem q9h {fl:Ro->Out (List D)} (hg:Gl X "len") (hm:X.mg "len" = none) (hl:DL T X e fl) (he:starEach [e] X.env=[(false,eval e X.env)]:=by rfl):DE T X (.Call (.Name "len" p) [e] [] pos) (j9B fl):=.mk λG E hp=>
 PE.imp (q3X (X:=X.wish E) q5J hg hm rfl (q0O (X:=X.wish E) (hl.run G E hp) q1p he) (by decide) (by decide) he rfl) fun σ H Q ⟨ρ,fr,h⟩=>⟨ρ,fr,Acc.mono (Acc.bind h) λds _ hd a vs H1 s1 sq r=>
  ⟨_,vs.length,rfl,.inl ⟨vs,sq,rfl⟩,hd _ H1 s1 (by rw [RepL.length _ _ r];exact rfl)⟩⟩
noncomputable def j7o (T:Tb):D->Value
 | .non=>.type "NoneType"
 | .bl _=>.type "bool"
 | .int _=>.type "int"
 | .str _=>.type "str"
 | .tup _=>.type "tuple"
 | .lst _=>.type "list"
 | .ins c _=>.ref (T.ca c)
 | .exc c=>.ref (T.ca c)
structure w0V (K:PySem.W.Frag) (C:Addr):Prop where
 cl:Cls K C
 ha:PySem.W.findIn K (.ref C) "__class__" = some (some (.builtin "object.__class__"))
 hn:PySem.W.specialIn K (.builtin "object.__class__") "__get__" = some (some (.builtin "getset_descriptor.__get__"))
 htk:PySem.W.takesIn K (.builtin "object.__class__")=some true
 hm:PySem.W.mroIn K C (.type "object")=some true
noncomputable def q69 (T:Tb) (K:PySem.W.Frag) (cls:Value) (g:D->Out Bool):Prop:=∀d b,g d=.ok b->PySem.W.kitOne K (j7o T d) cls=some b/\(∀c ds,d=.ins c ds->w0V K (T.ca c))/\∀c,d=.exc c->j6o K (T.ca c)
theorem q9B {pins:List (Addr×Obj)} {σ:L2.St} {H:Hp} {s:Shared} {A:Around} {E:Value->Shared->Prop} {Q:Value->Shared->Prop} {cls u:Value} {d:D} {v:V} {k:Bool} (I:Inv X pins σ H s) (rv:RelV v u) (r:Rep T X.K H d v)
 (hk:PySem.W.kitOne X.K (j7o T d) cls=some k) (hi:∀c ds,d=.ins c ds->w0V X.K (T.ca c)) (hx:∀c,d=.exc c->j6o X.K (T.ca c)) (h:∀tk,Q (.bool k) { s with toks:=tk }):wpAny (model X.prog X.w) A (call (.builtin "isinstance") [u,cls]) Q E s:=by
 cases d with
 | non=>cases r;exact q15 I rv .non hk h
 | bl y=>cases r;exact q15 I rv (.bl y) hk h
 | int i=>cases r;exact q15 I rv (.int i) hk h
 | str y=>cases r;exact q15 I rv (.str y) hk h
 | tup ds=>
  obtain ⟨a,vs,rfl,e,_⟩:=r
  cases (show u=Value.ref a from rv)
  obtain ⟨its,_,⟨o,h1,h2,_⟩,_⟩:=I.tuple e
  exact PySem.W.kia_one PySem.W.kitx_tuple I.kIn ⟨o,h1,h2⟩ hk (λz=>nomatch z) h
 | lst ds=>
  obtain ⟨a,vs,rfl,e,_⟩:=r
  cases (show u=Value.ref a from rv)
  obtain ⟨its,_,⟨o,n,h1,h2,_⟩,_⟩:=I.list e.sq
  exact PySem.W.kia_one PySem.W.kitx_list I.kIn ⟨o,h1,h2⟩ hk (λz=>nomatch z) h
 | ins c ds=>
  obtain ⟨a,dx,fs,rfl,e,_⟩:=r
  obtain ⟨cl,ha,hn,htk,hm⟩:=hi c ds rfl
  exact q15 I rv (.ins e cl ha hn htk hm) hk h
 | exc c=>
  obtain ⟨a,o,rfl,e1,e2,e3,e4⟩:=r
  cases (show u=Value.ref a from rv)
  obtain ⟨ho,_⟩:=(show ObjOk X.prog X.w H s.heap a (.frz o _) from I.hok a _ e1)
  exact PySem.W.kia_one (j1K (hx c rfl)) I.kIn ⟨o,ho,e2,e3,by rw [e4];trivial⟩ hk (λz=>nomatch z) h
@[simp] noncomputable def j55 (g:D->Out Bool) (fe:Ev) (ρ:Ro):Out D:=(fe ρ).bind λd=>(g d).bind λb=>.ok (.bl b)
theorem j6b {c:Str} {cv:V} {clsv:Value} {g:D->Out Bool} {p2:Pos} (hg:Gl X "isinstance") (hm:X.mg "isinstance" = none) (ha:DE T X e fe) (hc:∀E,PE (X.wish E) (.Name c p2) (tC cv)) (rc:∀u,RelV cv u->u=clsv) (hi:q69 T X.K clsv g)
 (hng:∀d cc,g d≠.exc cc) (hs1:starEach [e,.Name c p2] X.env=(false,eval e X.env)::starEach [.Name c p2] X.env:=by rfl):DE T X (.Call (.Name "isinstance" p) [e,.Name c p2] [] pos) (j55 g fe):=.mk λG E hp=>by
 rintro pins s σ H Q I ⟨ρ,fr,h⟩
 refine wpAny_Call_Name_kw (q2v (X:=X.wish E) I hg hm (u:=.builtin "isinstance") rfl ?_)
 refine PyProof.Rows.callWith_builtin1 (thn ((q0O (X:=X.wish E) (ha.run G E hp) (q0O (X:=X.wish E) (hc E) q1p rfl) hs1) pos pins s σ H (λvs H1=>∃d v,vs=[v,cv]/\Same H H1/\Rep T X.K H1 d v/\Acc T X E σ H ((g d).bind λb=>.ok (.bl b)) (kE T X.K H Q)) I ⟨ρ,fr,Acc.mono (Acc.bind h) λd _ hd v H1 s1 r1=>⟨d,v,rfl,s1,r1,hd⟩⟩) λus s1 ⟨vs,H1,I1,rvs,d,v,ev,sm,rd,hd⟩=>?_) hs1 rfl
 subst ev
 obtain ⟨u,u',rfl,r1,r2⟩:=Vals.two rvs
 obtain rfl:=rc u' r2
 cases e1:g d with
 | ok k=>
  rw [e1] at hd
  obtain ⟨z1,z2,z3⟩:=hi d k e1
  exact q9B (X:=X.wish E) I1 r1 rd z1 z2 z3 λtk=>⟨.bl k,H1,I1.tok _,rfl,hd _ H1 sm rfl⟩
 | exc cc=>exact absurd e1 (hng d cc)
 | bad=>rw [e1] at hd;exact hd.elim
@[simp] noncomputable def atD (ds:List D) (i:Int):Out D:=match atI ds i with
 | some d=>.ok d
 | none=>.bad
theorem RepL.at {K:PySem.W.Frag} {H:Hp} {ds:List D} {vs:List V} {i:Int} {d:D} (r:RepL T K H ds vs) (h:atI ds i=some d):∃v,atI vs i=some v/\Rep T K H d v:=by
 obtain ⟨j,e1,e2,e3,e4,e5⟩:=q3V h
 obtain ⟨v,e6,e7⟩:=RepL.get _ _ _ _ r e2
 refine ⟨v,?_,e7⟩
 have hl:=RepL.length _ _ r
 unfold atI at h ⊢
 rw [hl]
 cases z:ixN ds.length i with
 | none=>rw [z] at h;cases h
 | some k=>
  have:k=j:=by
   have:=(q5B z).1
   rw [e1] at this;exact (Option.some.inj this).symm
  subst this
  exact e6
@[simp] noncomputable def ixD:D->D->Out D
 | .tup ds,.int i=>atD ds i
 | .lst ds,.int i=>atD ds i
 | .str z,.int i=>if z.length<=1000000 then (match atI z.cps.toList i with | some c=>.ok (.str ⟨#[c]⟩) | none=>.bad) else .bad
 | _,_=>.bad
theorem q0p (ha:DE T X a fa) (hb:DE T X b fb) (hs:q5k b:=by exact λ_ _=>rfl):DE T X (.Subscript a b pos) (e2 ixD fa fb):=.mk λG E hp=>by
 refine PE.imp (j7Z (X:=X.wish E) (IxR.or (IxR.or q8m j7I) j57) (ha.run G E hp) (hb.run G E hp) hs) fun σ H Q ⟨ρ,fr,h⟩=>q6s (T:=T) (g:=ixD) (λdx dy x y σ H Q rx ry q=>?_) fr h
 have key:∀(ds:List D) (i:Int) (vs:List V),RepL T X.K H ds vs->Acc T X E σ H (atD ds i) (kE T X.K H Q)->∃v,atI vs i=some v/\Q v H:=λds i vs r q=>by
  unfold atD at q
  split at q
  ·rename_i d e
   obtain ⟨v,e1,rd⟩:=r.at e
   exact ⟨v,e1,q v H (Same.refl H) rd⟩
  ·exact q.elim
 cases dy with
 | int i=>
  cases dx with
  | tup ds=>
   obtain ⟨a,vs,rfl,sq,r⟩:=rx
   obtain ⟨v,e1,q⟩:=key ds i vs r q
   exact .inl (.inr ⟨a,vs,i,v,rfl,ry,sq,e1,q⟩)
  | lst ds=>
   obtain ⟨a,vs,rfl,sq,r⟩:=rx
   obtain ⟨v,e1,q⟩:=key ds i vs r q
   exact .inl (.inl ⟨a,vs,i,v,rfl,ry,sq.sq,e1,q⟩)
  | str z=>
   have q':Acc T X E σ H (if z.length<=1000000 then (match atI z.cps.toList i with | some c=>.ok (.str ⟨#[c]⟩) | none=>.bad) else .bad) (kE T X.K H Q):=q
   by_cases hz:z.length<=1000000
   ·rw [if_pos hz] at q'
    split at q'
    ·rename_i c e
     exact .inr ⟨z,i,c,rx,ry,line6 hz,e,q' _ H (Same.refl H) rfl⟩
    ·exact q'.elim
   ·rw [if_neg hz] at q';exact q'.elim
  | _=>exact q.elim
 | _=>first | exact q.elim | (cases dx<;>exact q.elim)
@[simp] noncomputable def j8P (fl:Ro->Out (List D)) (fb:Ev) (ρ:Ro):Out D:=(fl ρ).bind λds=>(fb ρ).bind λd=>match d with
 | .int i=>atD ds i
 | _=>.bad
theorem j0d {fl:Ro->Out (List D)} (ha:DL T X a fl) (hb:DE T X b fb) (hs:q5k b:=by exact λ_ _=>rfl):DE T X (.Subscript a b pos) (j8P fl fb):=.mk λG E hp=>by
 refine PE.imp (j7Z (X:=X.wish E) q8m (ha.run G E hp) (hb.run G E hp) hs) fun σ H Q ⟨ρ,fr,h⟩=>⟨ρ,fr,Acc.mono (Acc.bind h) λds _ hd a vs H1 s1 sq r=>⟨ρ,fr.mono s1,Acc.mono (Acc.bind (Acc.heap s1 hd)) λd _ hd2 v H2 s2 r2=>?_⟩⟩
 cases d with
 | int i=>
  have hd3:Acc T X E σ H1 (atD ds i) (kE T X.K H Q):=hd2
  unfold atD at hd3
  split at hd3
  ·rename_i d e
   obtain ⟨w,e1,rd⟩:=(RepL.mono s2 _ _ r).at e
   exact ⟨a,vs,i,w,rfl,r2,s2.seq sq,e1,hd3 w H2 (s1.trans s2) rd⟩
  ·exact hd3.elim
 | _=>exact hd2.elim
@[simp] noncomputable def j47 (fs:Ro->Out (List D)) (ρ:Ro):Out D:=(fs ρ).bind λds=>if ds.length<=1000000 then .ok (.tup ds) else .bad
theorem q3s {x1} (h:DA T X es fs):DE T X (.Tuple es x1 pos) (j47 fs):=.mk λG E hp=>
 PE.imp (j7J (X:=X.wish E) (h.run G E hp)) fun σ H Q ⟨ρ,fr,q⟩=>⟨ρ,fr,Acc.mono (Acc.bind q) λds _ hd vs H1 s1 r=>by
  have hl:=RepL.length _ _ r
  by_cases z:ds.length<=1000000
  ·rw [if_pos z] at hd
   exact ⟨by rw [hl];exact line6 z,λp hp'=>hd _ _ (s1.trans (q0F hp')) ⟨p,vs,rfl,SqT.of q0w,RepL.mono (q0F hp') _ _ r⟩⟩
  ·rw [if_neg z] at hd;exact hd.elim⟩
@[simp] noncomputable def q06 (fs:Ro->Out (List D)) (ρ:Ro):Out (List D):=(fs ρ).bind λds=>if ds.length<=1000000 then .ok ds else .bad
theorem q0K (h:DA T X es fs):DF T X (.List es pos) (q06 fs):=.mk λG E hp=>
 PE.imp (j6y (X:=X.wish E) (h.run G E hp)) fun σ H Q ⟨ρ,fr,q⟩=>⟨ρ,fr,Acc.mono (Acc.bind q) λds _ hd vs H1 s1 r=>by
  have hl:=RepL.length _ _ r
  by_cases z:ds.length<=1000000
  ·rw [if_pos z] at hd
   exact ⟨by rw [hl];exact line6 z,λp hp'=>hd p vs _ (s1.trans (q0F hp')) (s1.free hp') q0w (RepL.mono (q0F hp') _ _ r)⟩
  ·rw [if_neg z] at hd;exact hd.elim⟩
@[simp] noncomputable def q1b:D->D->Out D
 | .int i,.int j=>.ok (.int (i+j))
 | .str x,.str y=>if x.length+y.length<=1000000 then .ok (.str (x++y)) else .bad
 | _,_=>.bad
theorem q0u:OpD T X (binaryOp .Add) q1b:=λE=>⟨_,OpR.or j5M q7u,λdx dy x y σ H Q rx ry q=>by
 cases dx with
 | int i=>
  cases dy with
  | int j=>exact .inl ⟨i,j,rx,ry,q _ H (Same.refl H) rfl⟩
  | _=>exact q.elim
 | str u=>
  cases dy with
  | str v=>
   have q':Acc T X E σ H (if u.length+v.length<=1000000 then .ok (.str (u++v)) else .bad) (kE T X.K H Q):=q
   by_cases z:u.length+v.length<=1000000
   ·rw [if_pos z] at q'
    exact .inr ⟨u,v,rx,ry,line6 z,q' _ H (Same.refl H) rfl⟩
   ·rw [if_neg z] at q';exact q'.elim
  | _=>exact q.elim
 | _=>first | exact q.elim | (cases dy<;>exact q.elim)⟩
@[simp] noncomputable def eqS:D->D->Out Bool
 | .int i,.int j=>.ok (decide (i=j))
 | .bl i,.bl j=>.ok (decide (i=j))
 | .str i,.str j=>.ok (decide (i=j))
 | .non,.non=>.ok true
 | _,_=>.bad
@[simp] noncomputable def bD (neg:Bool) (o:Out Bool):Out D:=o.bind λb=>.ok (.bl (if neg then !b else b))
theorem j3G (neg:Bool) (op:CmpOp) (ho:∀E,OpR (X.wish E) (compareOp op) (λx y H Q=>scal x y=true/\Q (.bl (if neg then !decide (x=y) else decide (x=y))) H)):OpD T X (compareOp op) (λa b=>bD neg (eqS a b)):=λE=>⟨_,ho E,λdx dy x y σ H Q rx ry q=>by
 have key:∀(k:Bool),scal x y=true->decide (x=y)=k->eqS dx dy=.ok k->scal x y=true/\Q (.bl (if neg then !decide (x=y) else decide (x=y))) H:=λk h1 h2 h3=>by
  have q':Acc T X E σ H (bD neg (eqS dx dy)) (kE T X.K H Q):=q
  rw [h3] at q'
  refine ⟨h1,?_⟩
  rw [h2]
  exact q' _ H (Same.refl H) rfl
 cases dx with
 | int i=>
  cases dy with
  | int j=>cases rx;cases ry;exact key _ rfl (by simp) rfl
  | _=>exact q.elim
 | bl i=>
  cases dy with
  | bl j=>cases rx;cases ry;exact key _ rfl (by simp) rfl
  | _=>exact q.elim
 | str i=>
  cases dy with
  | str j=>cases rx;cases ry;exact key _ rfl (by simp) rfl
  | _=>exact q.elim
 | non=>
  cases dy with
  | non=>cases rx;cases ry;exact key true rfl (by simp) rfl
  | _=>exact q.elim
 | _=>first | exact q.elim | (cases dy<;>exact q.elim)⟩
theorem q4v:OpD T X (compareOp .Eq) (λa b=>bD false (eqS a b)):=j3G false .Eq λE=>j9e
theorem q4n:OpD T X (compareOp .NotEq) (λa b=>bD true (eqS a b)):=j3G true .NotEq λE=>j9M
end
section
variable {T:Tb} {X:Cx} {e:Expr} {pos p:Pos} {fe:Ev}
theorem q5m {c:Str} {t:String} {g:D->Out Bool} {p2:Pos} (hg:Gl X "isinstance") (hm:X.mg "isinstance" = none) (ha:DE T X e fe) (hgc:Gl X c) (hmc:X.mg c=none) (hv:bootBuiltins c=some (.type t)) (hi:q69 T X.K (.type t) g)
 (hng:∀d cc,g d≠.exc cc) (hs1:starEach [e,.Name c p2] X.env=(false,eval e X.env)::starEach [.Name c p2] X.env:=by rfl) (hn:c≠"__name__":=by decide) (hd:(c==("__debug__" : Str))=false:=by decide):DE T X (.Call (.Name "isinstance" p) [e,.Name c p2] [] pos) (j55 g fe):=
 j6b (cv:=.ty t) (clsv:=.type t) hg hm ha (λE=>q8i (X:=X.wish E) hgc hmc hv rfl hn hd) (λu r=>r) hi hng hs1
@[simp] noncomputable def j4P:D->Out Bool
 | .int _=>.ok true
 | .bl _=>.ok true
 | .non=>.ok false
 | .str _=>.ok false
 | .tup _=>.ok false
 | .lst _=>.ok false
 | _=>.bad
@[simp] noncomputable def q8u:D->Out Bool
 | .bl _=>.ok true
 | .int _=>.ok false
 | .non=>.ok false
 | .str _=>.ok false
 | .tup _=>.ok false
 | .lst _=>.ok false
 | _=>.bad
@[simp] noncomputable def q4O:D->Out Bool
 | .lst _=>.ok true
 | .bl _=>.ok false
 | .int _=>.ok false
 | .non=>.ok false
 | .str _=>.ok false
 | .tup _=>.ok false
 | _=>.bad
@[simp] noncomputable def q5z:D->Out Bool
 | .tup _=>.ok true
 | .bl _=>.ok false
 | .int _=>.ok false
 | .non=>.ok false
 | .str _=>.ok false
 | .lst _=>.ok false
 | _=>.bad
theorem j5g {K:PySem.W.Frag}:q69 T K (.type "int") j4P:=λd b h=>by
 cases d<;>first | (cases h;exact ⟨(by with_unfolding_all rfl),(λ_ _ z=>by cases z),(λ_ z=>by cases z)⟩) | (cases h)
theorem j0K {K:PySem.W.Frag}:q69 T K (.type "bool") q8u:=λd b h=>by
 cases d<;>first | (cases h;exact ⟨(by with_unfolding_all rfl),(λ_ _ z=>by cases z),(λ_ z=>by cases z)⟩) | (cases h)
theorem j03 {K:PySem.W.Frag}:q69 T K (.type "list") q4O:=λd b h=>by
 cases d<;>first | (cases h;exact ⟨(by with_unfolding_all rfl),(λ_ _ z=>by cases z),(λ_ z=>by cases z)⟩) | (cases h)
theorem q9T {K:PySem.W.Frag}:q69 T K (.type "tuple") q5z:=λd b h=>by
 cases d<;>first | (cases h;exact ⟨(by with_unfolding_all rfl),(λ_ _ z=>by cases z),(λ_ z=>by cases z)⟩) | (cases h)
theorem q7v (d:D) (c:Nat):j4P d≠.exc c:=by cases d<;>(intro h;cases h)
theorem q5A (d:D) (c:Nat):q8u d≠.exc c:=by cases d<;>(intro h;cases h)
theorem q5t (d:D) (c:Nat):q4O d≠.exc c:=by cases d<;>(intro h;cases h)
theorem q4J (d:D) (c:Nat):q5z d≠.exc c:=by cases d<;>(intro h;cases h)
end
theorem q7Y {a:Int} (h:a.natAbs.log2 < 1920):(Str.ofString (toString a)).length<=1921:=by
 have e:=int_text_length_le (k:=1920) (by decide) h
 rw [PySem.ofString_length];exact e
@[simp] noncomputable def q7p:D->Out Str
 | .int i=>if i.natAbs.log2 < 1920 then .ok (toString i) else .bad
 | .str x=>if x.length<=200000 then .ok x else .bad
 | _=>.bad
@[simp] noncomputable def q77:D->Out Str
 | .int i=>if i.natAbs.log2 < 1920 then .ok (toString i) else .bad
 | .str x=>if (reprText x).length<=200000 then .ok (reprText x) else .bad
 | _=>.bad
section
variable {T:Tb} {X:Cx} {e v:Expr} {es:List Expr} {pos p:Pos} {fe:Ev} {fs:Ro->Option (List Str)}
theorem j5l {M:Program} {w:World} {A:Around} {E:Value->Shared->Prop} {pins:List (Addr×Obj)} {σ:L2.St} {H:Hp} {s:Shared} {d:D} {x:V} {u:Value} {y:Str} {Q:Value->Shared->Prop} (r:Rep T X.K H d x) (rv:RelV x u) (e:q7p d=.ok y) (k:∀t tk,y.length<=200000->Q (.str y t) { s with toks:=tk }) :
 wpAny (model M w) A (formatField u Str.empty) Q E s:=by
 cases d with
 | int i=>
  obtain rfl:x=V.int i:=r
  obtain ⟨t,rfl⟩:=rv
  have e':(if i.natAbs.log2 < 1920 then Out.ok (toString i:Str) else .bad)=.ok y:=e
  by_cases z:i.natAbs.log2 < 1920
  ·rw [if_pos z] at e'
   cases e'
   exact formatField_int_small z (k _ _ (by have:=q7Y z;omega))
  ·rw [if_neg z] at e';cases e'
 | str z=>
  obtain rfl:x=V.str z:=r
  obtain ⟨t,rfl⟩:=rv
  have e':(if z.length<=200000 then Out.ok z else .bad)=.ok y:=e
  by_cases h:z.length<=200000
  ·rw [if_pos h] at e'
   cases e'
   exact formatField_str (λt' tk=>k t' tk h) (by rw [sizeLine_eq];omega)
  ·rw [if_neg h] at e';cases e'
 | _=>cases e
theorem j1H {M:Program} {w:World} {A:Around} {E:Value->Shared->Prop} {σ:L2.St} {H:Hp} {s:Shared} {d:D} {x:V} {u:Value} {y:Str} {Q:Value->Shared->Prop} (r:Rep T X.K H d x) (rv:RelV x u) (e:q77 d=.ok y) (k:∀t tk,y.length<=200000->Q (.str y t) { s with toks:=tk }) :
 wpAny (model M w) A (pyReprObj u) (λr s₂=>wpAny (model M w) A (formatField r Str.empty) Q E s₂) E s:=by
 have fin:∀(y:Str) (t:Tok) (tk:Nat),y.length<=200000->(∀t tk,y.length<=200000->Q (.str y t) { s with toks:=tk })->wpAny (model M w) A (formatField (.str y t) Str.empty) Q E { s with toks:=tk }:=λy t tk hy k=>formatField_str (λt' tk'=>k t' tk' hy) (by rw [sizeLine_eq];omega)
 cases d with
 | int i=>
  obtain rfl:x=V.int i:=r
  obtain ⟨t,rfl⟩:=rv
  have e':(if i.natAbs.log2 < 1920 then Out.ok (toString i:Str) else .bad)=.ok y:=e
  by_cases z:i.natAbs.log2 < 1920
  ·rw [if_pos z] at e'
   cases e'
   exact pyReprObj_int z (fin _ _ _ (by have:=q7Y z;omega) k)
  ·rw [if_neg z] at e';cases e'
 | str z=>
  obtain rfl:x=V.str z:=r
  obtain ⟨t,rfl⟩:=rv
  have e':(if (reprText z).length<=200000 then Out.ok (reprText z) else .bad)=.ok y:=e
  by_cases h:(reprText z).length<=200000
  ·rw [if_pos h] at e'
   cases e'
   exact pyReprObj_str (fin _ _ _ h k) (by rw [sizeLine_eq];omega)
  ·rw [if_neg h] at e';cases e'
 | _=>cases e
structure DJ (T:Tb) (X:Cx) (es:List Expr) (f:Ro->Option (List Str)):Prop where
 mk ::
 run:∀(G:Hp) (E:Value->Shared->Prop),PassesOwn (model X.prog X.w) X.A X.env E->∀(pins:List (Addr×Obj)) (s:Shared) (σ:L2.St) (H:Hp) (acc:Str) (Q:Str->Shared->Prop),Inv (X.wish E) pins σ H s ->
 (∃ρ xs,FR T X.K G H σ ρ/\f ρ=some xs/\acc.length+200000*xs.length<=sizeLine/\∀H' s',Same H H'->Inv (X.wish E) pins σ H' s'->(xs.foldl (·++·) acc).length<=acc.length+200000*xs.length->Q (xs.foldl (·++·) acc) s') ->
 Joins (model X.prog X.w) X.A E (evalEach es X.env) acc Q s
@[simp] noncomputable def jN0 (ρ:Ro):Option (List Str):=some []
@[simp] noncomputable def q50 (x:Str) (fs:Ro->Option (List Str)) (ρ:Ro):Option (List Str):=if x.length<=200000 then (match fs ρ with | some xs=>some (x::xs) | none=>none) else none
@[simp] noncomputable def q4c (g:D->Out Str) (fe:Ev) (fs:Ro->Option (List Str)) (ρ:Ro):Option (List Str):=match (fe ρ).bind g with
 | .ok x=>(match fs ρ with | some xs=>some (x::xs) | none=>none)
 | _=>none
theorem q2J:DJ T X [] jN0:=.mk λG E hp pins s σ H acc Q I ⟨ρ,xs,fr,e,_,h⟩=>by
 cases e
 exact h H s (Same.refl H) I (by simp)
theorem q3W {G:Hp} {E:Value->Shared->Prop} (hp:PassesOwn (model X.prog X.w) X.A X.env E) {pins:List (Addr×Obj)} {s:Shared} {σ:L2.St} {H H1:Hp} {acc x:Str} {Q:Str->Shared->Prop} {t:Tok} {ρ:Ro} {xs:List Str} (hr:DJ T X es fs) (I:Inv (X.wish E) pins σ H1 s) (fr:FR T X.K G H1 σ ρ) (s1:Same H H1) (hx:x.length<=200000)
 (ef:fs ρ=some xs) (z:acc.length+200000*(x::xs).length<=sizeLine) (k:∀H' s',Same H H'->Inv (X.wish E) pins σ H' s'->((x::xs).foldl (·++·) acc).length<=acc.length+200000*(x::xs).length->Q ((x::xs).foldl (·++·) acc) s') :
 ∃y t',(Value.str x t)=.str y t'/\(acc++y).length<=sizeLine/\Joins (model X.prog X.w) X.A E (evalEach es X.env) (acc++y) Q s:=by
 have hl:(acc++x).length=acc.length+x.length:=strLen_append acc x
 rw [List.length_cons] at z k
 refine ⟨x,t,rfl,by rw [hl];omega,hr.run G E hp pins s σ H1 (acc++x) Q I ⟨ρ,xs,fr,ef,by rw [hl];omega,λH' s' s2 I' hz=>?_⟩⟩
 have hz':(List.foldl (·++·) acc (x::xs)).length<=acc.length+200000*(xs.length+1):=by
  rw [List.foldl_cons];rw [hl] at hz;omega
 exact k H' s' (s1.trans s2) I' hz'
theorem q1U {x:Str} {j:Nat} (hr:DJ T X es fs):DJ T X (.Constant (.str x) j pos::es) (q50 x fs):=.mk λG E hp pins s σ H acc Q I ⟨ρ,ys,fr,e,z,k⟩=>by
 simp only [q50] at e
 by_cases hx:x.length<=200000
 ·rw [if_pos hx] at e
  cases ef:fs ρ with
  | none=>rw [ef] at e;cases e
  | some xs=>
   rw [ef] at e
   cases e
   exact Calls.Constant_str (q3W hp hr (I.tok _) fr (Same.refl H) hx ef z k)
 ·rw [if_neg hx] at e;cases e
theorem q5M {g:D->Out Str} {ρ:Ro} {ys:List Str} (e:q4c g fe fs ρ=some ys):∃d x xs,fe ρ=.ok d/\g d=.ok x/\fs ρ=some xs/\ys=x::xs:=by
 simp only [q4c] at e
 cases ed:fe ρ with
 | ok d=>
  rw [ed] at e
  cases eg:g d with
  | ok x=>
   simp only [Out.ok_bind,eg] at e
   cases ef:fs ρ with
   | some xs=>rw [ef] at e;cases e;exact ⟨d,x,xs,rfl,eg,rfl,rfl⟩
   | none=>rw [ef] at e;cases e
  | exc c=>simp only [Out.ok_bind,eg] at e;cases e
  | bad=>simp only [Out.ok_bind,eg] at e;cases e
 | exc c=>rw [ed] at e;cases e
 | bad=>rw [ed] at e;cases e
theorem q2b (he:DE T X v fe) (hr:DJ T X es fs):DJ T X (.FormattedValue v (-1) none pos::es) (q4c q7p fe fs):=.mk λG E hp pins s σ H acc Q I ⟨ρ,ys,fr,e,z,k⟩=>by
 obtain ⟨d,x,xs,ed,eg,ef,rfl⟩:=q5M e
 refine FormattedValue_plain (thn (he.run G E hp pins s σ H (λw H1=>Same H H1/\Rep T X.K H1 d w) I ⟨ρ,fr,?_⟩) λu s1 ⟨w,H1,I1,rv,sm,rd⟩=>?_)
 ·rw [ed];exact λw H1 sm rd=>⟨sm,rd⟩
 ·exact j5l (X:=X) (pins:=pins) (σ:=σ) rd rv eg λt tk hx=>q3W hp hr (I1.tok _) (fr.mono sm) sm hx ef z k
theorem q5e (he:DE T X v fe) (hr:DJ T X es fs):DJ T X (.FormattedValue v 114 none pos::es) (q4c q77 fe fs):=.mk λG E hp pins s σ H acc Q I ⟨ρ,ys,fr,e,z,k⟩=>by
 obtain ⟨d,x,xs,ed,eg,ef,rfl⟩:=q5M e
 refine wpAny_FormattedValue_repr (thn (he.run G E hp pins s σ H (λw H1=>Same H H1/\Rep T X.K H1 d w) I ⟨ρ,fr,?_⟩) λu s1 ⟨w,H1,I1,rv,sm,rd⟩=>?_)
 ·rw [ed];exact λw H1 sm rd=>⟨sm,rd⟩
 ·exact j1H (X:=X) (σ:=σ) rd rv eg λt tk hx=>q3W hp hr (I1.tok _) (fr.mono sm) sm hx ef z k
@[simp] noncomputable def eJ (fs:Ro->Option (List Str)) (ρ:Ro):Out D:=match fs ρ with
 | some xs=>if xs.length<=20 then .ok (.str (xs.foldl (·++·) Str.empty)) else .bad
 | none=>.bad
theorem q19 {v1 v2:Expr} (h:DJ T X (v1::v2::es) fs):DE T X (.JoinedStr (v1::v2::es) pos) (eJ fs):=.mk λG E hp=>by
 rintro pins s σ H Q I ⟨ρ,fr,q⟩
 simp only [eJ] at q
 cases ef:fs ρ with
 | none=>rw [ef] at q;exact q.elim
 | some xs=>
  rw [ef] at q
  by_cases hx:xs.length<=20
  ·simp only [if_pos hx] at q
   refine wpAny_JoinedStr (h.run G E hp pins s σ H Str.empty _ I ⟨ρ,xs,fr,ef,by rw [sizeLine_eq];show 0+_<=_;omega,λH' s' sm I' hz=>⟨?_,?_⟩⟩)
   ·have z0:Str.empty.length=0:=rfl
    rw [sizeLine_eq];omega
   ·exact ⟨.str _,H',I'.tok _,⟨_,rfl⟩,q _ H' sm rfl⟩
  ·simp only [if_neg hx] at q;exact q.elim
end
noncomputable abbrev j7a:List Value:=[.type "ValueError",.type "Exception",.type "BaseException",.type "object"]
noncomputable def q7i (K:PySem.W.Frag) (C:Addr):Prop:=PySem.W.excIn K C j7a "ValueError.__new__" = true
theorem j4O {K:PySem.W.Frag} {h:Heap} {C:Addr} (X:K.In h) (q:q7i K C) :
 ∃bm N nm qn bs hd sn sub ab col dd k0 k1 k2 k3 k5 mN,h.get? C=some (excClassObj nm qn C N bs bm hd sn sub ab col dd k0 k1 k2 k3 k5 "ValueError.__new__")/\h.Ns N mN/\mN "__init__" = none/\OwnTail h j7a bm:=by
 have q2:=q
 unfold q7i PySem.W.excIn at q2
 split at q2
 ·rename_i dd cd sl lk
  split at q2
  ·rename_i C2 bm k0 k1 k2 k3 n k5 em es
   simp only [Bool.and_eq_true,beq_iff_eq,Bool.not_eq_true'] at q2
   obtain ⟨⟨⟨⟨⟨eC,en⟩,nd⟩,tl⟩,okN⟩,ni⟩:=q2
   subst eC en
   cases cd with
   | mk nm bs mro ns qn hd sn sub ab col del=>
    simp only at em nd okN ni
    subst em nd
    have e3:sl=#[k0,k1,k2,k3,some (.builtin "ValueError.__new__"),k5]:=Array.toList_inj.mp es
    subst e3
    exact ⟨bm,ns,nm,qn,bs,hd,sn,sub,ab,col,dd,k0,k1,k2,k3,k5,_,X _ _ lk,.of_isNs (PySem.W.isNs_of_in X okN),PySem.W.nsMap_none_of_in X okN ni,PySem.W.tail_of_in X tl⟩
  ·cases q2
 ·cases q2
theorem q9C {X:Cx} {pins:List (Addr×Obj)} {σ:L2.St} {H:Hp} {s:Shared} (I:Inv X pins σ H s) {b:Addr} (hb:s.heap.get? b=none):Free X pins b:=by
 refine ⟨?_,λz=>?_,λx cc e z=>?_,λq hq z=>?_⟩
 ·by_cases hx:b∈X.ex
  ·exact .inl hx
  ·refine .inr ?_
   cases q:X.s₀.heap.get? b with
   | none=>rfl
   | some o=>
    obtain ⟨o',e⟩:=I.base.there b o q hx
    rw [hb] at e;cases e
 ·obtain ⟨m,⟨o,_,_,ho,_⟩,_⟩:=I.loc
  rw [<-z,hb] at ho;cases ho
 ·obtain ⟨v,o,ho,_⟩:=I.cell x cc e
  rw [z,hb] at ho;cases ho
 ·obtain ⟨e,_⟩:=I.pin q hq
  rw [z,hb] at e;cases e
section
variable {T:Tb} {ib:Bool} {X:Cx} {e:Expr} {es:List Expr} {pos np cpos:Pos} {fe:Ev} {fs:Ro->Out (List D)} {x:Str} {c:Nat}
@[simp] noncomputable def q1C (c:Nat) (fs:Ro->Out (List D)) (ρ:Ro):Fl:=(fs ρ).fl ρ λ_=>.exc c ρ
theorem q03 (hc:X.calm=true) (hx:q7i X.K (T.ca c)) (hg:Gl X x) (hm:X.mg x=some (.ref (T.ca c))) (ha:DA T X (e::es) fs) (hsh:∀ρ ds,fs ρ=.ok ds->ds.length<=1000) (hdb:(x==("__debug__" : Str))=false:=by decide)
 (he:starEach (e::es) X.env=(false,eval e X.env)::starEach es X.env:=by exact q0D rfl) (hpl:(backTo cpos (starEach (e::es) X.env)).any (·.1)=false:=by exact q0H rfl):DS T ib X (.Raise (some (.Call (.Name x np) (e::es) [] cpos)) none pos) (q1C c fs):=.mk λG E hp=>by
 rintro pins s σ H D I ⟨ρ,fr,h⟩
 have IX:Inv X pins σ H s:=I.unwish
 obtain ⟨bm,N,nm,qn,bs,hd,sn,sub,ab,col,dd,k0,k1,k2,k3,k5,mN,hC,hN,hni,TL⟩:=j4O I.ok.mod.kin hx
 refine wpAny_Raise_call_subU (C:=T.ca c) (nm:=nm) (q:=qn) (N:=N) (bs:=bs) (bm:=bm) (hdct:=hd) (sn:=sn) (sub:=sub) (ab:=ab) (col:=col) (dd:=dd) (k0:=k0) (k1:=k1) (k2:=k2) (k3:=k3) (k5:=k5)
  PySem.F.excBase_ValueError (by decide) PySem.F.excBase_ValueError (mN:=mN) (TL.hasType (by decide)) (I.ok.hd hc) hpl hni (q3R (X:=X.wish E) I hg hm ⟨rfl,?_⟩ hdb)
 have hA:=ha.run G E hp cpos pins s σ H (λvs H1=>∃ds,fs ρ=.ok ds/\Same H H1/\vs.length=ds.length) I ⟨ρ,fr,Acc.mono (AccS.fl fr h) λds e1 _ vs H1 s1 r=>⟨ds,e1,s1,RepL.length _ _ r⟩⟩
 rw [he] at hA ⊢
 refine Calls.evalArgs_plain (thn hA λus s1 ⟨vs,H1,I1,rv,ds,e1,sm,hl⟩=>?_)
 have I1X:Inv X pins σ H1 s1:=I1.unwish
 have hlen:us.length<=sizeLine:=by
  have:=hsh ρ ds e1
  rw [<-rv.length,hl,sizeLine_eq];omega
 refine ⟨rfl,hlen,I1X.bk _ _ hC,hN.keeps I1X.bk,TL.keeps I1X.bk,λh' ea hm'=>?_⟩
 have h2:=AccS.fl fr h
 rw [e1] at h2
 refine h2 σ H fr (Pers.refl H) pins { s1 with heap:=h' } (.ref ea) H1 (I1X.kept (t':=s1.toks) hm'.keeps) sm ⟨ea,rfl,?_,q9C I1X hm'.new,?_,?_⟩
 ·cases q:H1 ea with
  | none=>rfl
  | some o=>
   obtain ⟨u,eu⟩:=q5X (I1X.hok ea o q)
   rw [hm'.new] at eu;cases eu
 ·obtain ⟨t,ht,_⟩:=hm'.there
  exact ⟨_,_,ht,rfl,rfl,rfl⟩
 ·obtain ⟨t,ht,_⟩:=hm'.there
  exact ⟨_,_,_,ht,rfl,rfl,rfl,.inl rfl⟩
end
section
variable {T:Tb} {ib:Bool} {X:Cx} {pins:List (Addr×Obj)} {σ:L2.St} {H:Hp} {s:Shared} {c:Nat} {u:Value}
end
noncomputable abbrev mk (X:Cx) (u:Value):Cx:={ X with A:=X.A.mark (some u),calm:=false }
section
variable {T:Tb} {ib:Bool} {X:Cx} {pins:List (Addr×Obj)} {σ:L2.St} {H:Hp} {s:Shared} {c:Nat} {u:Value}
section
variable {x n:Str} {k i:Nat} {m:Nat->Option Bool} {np pos:Pos} {b₀:Stmt} {suite:List Stmt} {hs:List ExceptHandler} {fh:Ro->Fl} {fr':Nat->Ro->Fl}
end
end
section
variable {T:Tb} {z u:Option Addr} {K:PySem.W.Frag}
theorem q6y {H:Hp} {c:Nat} {a:Addr} {ds:List D}:InsAt { T with me:=z,mo:=u } K H c a ds↔InsAt T K H c a ds:=
 ⟨λ⟨dx,fs,e1,e2,e3,r⟩=>⟨dx,fs,e1,e2,e3,(repL_me _ _).mp r⟩,λ⟨dx,fs,e1,e2,e3,r⟩=>⟨dx,fs,e1,e2,e3,(repL_me _ _).mpr r⟩⟩
theorem q2U {H:Hp}:∀(ss:List Sl) (vs:List V),ArgsOk { T with me:=z,mo:=u } K H vs ss↔ArgsOk T K H vs ss
 | [],_=>Iff.rfl
 | s::ss,vs=>by
  have one:∀v,j1T { T with me:=z,mo:=u } K H v s↔j1T T K H v s:=λv=>by
   cases s with
   | sh d=>exact q2H d v
   | bo ds=>exact ⟨λ⟨a,us,e1,e2,r⟩=>⟨a,us,e1,e2,(repL_me ds us).mp r⟩,λ⟨a,us,e1,e2,r⟩=>⟨a,us,e1,e2,(repL_me ds us).mpr r⟩⟩
   | bi c ds=>exact ⟨λ⟨a,e,r⟩=>⟨a,e,q6y.mp r⟩,λ⟨a,e,r⟩=>⟨a,e,q6y.mpr r⟩⟩
   | _=>exact Iff.rfl
  exact ⟨λ⟨v,r,e,h1,h2⟩=>⟨v,r,e,(one v).mp h1,(q2U ss r).mp h2⟩,λ⟨v,r,e,h1,h2⟩=>⟨v,r,e,(one v).mpr h1,(q2U ss r).mpr h2⟩⟩
theorem j41 {G H:Hp} {v:V} (r:Rv):q49 { T with me:=z,mo:=u } K G H v r↔q49 T K G H v r:=by
 cases r with
 | sh d=>exact q2H d v
 | fr ds=>exact ⟨λ⟨a,us,e1,e2,e3,r⟩=>⟨a,us,e1,e2,e3,(repL_me ds us).mp r⟩,λ⟨a,us,e1,e2,e3,r⟩=>⟨a,us,e1,e2,e3,(repL_me ds us).mpr r⟩⟩
 | tf t pre ds post=>exact ⟨λ⟨a,vp,b,vq,ws,e1,e2,r1,r2,e3,e4,r3⟩=>⟨a,vp,b,vq,ws,e1,e2,(repL_me _ _).mp r1,(repL_me _ _).mp r2,e3,e4,(repL_me _ _).mp r3⟩,λ⟨a,vp,b,vq,ws,e1,e2,r1,r2,e3,e4,r3⟩=>⟨a,vp,b,vq,ws,e1,e2,(repL_me _ _).mpr r1,(repL_me _ _).mpr r2,e3,e4,(repL_me _ _).mpr r3⟩⟩
theorem j3q {n:Nat} {F:Fn} {vs:List V} {H:Hp} {Q:VK} {E:XK} (h:spD { T with me:=z,mo:=u } K n F vs H Q E):spD T K n F vs H Q E:=by
 obtain ⟨ss,h1,h2,h3⟩:=h
 refine ⟨ss,(q2U ss vs).mp h1,h2,?_⟩
 cases e:F ss with
 | ok r=>rw [e] at h3;exact λv H' sm ro=>h3 v H' sm ((j41 r).mpr ro)
 | exc c=>rw [e] at h3;exact h3
 | bad=>rw [e] at h3;exact h3
theorem q2g {P:Program} {w:World} {mg:Str->Option Value} {base:Heap} {k:Nat} {f:Addr} {fd:FuncData} {ps:List Str} {n:Nat} {F:Fn} (h:q1f P w K mg base (CXE T P w) k f fd ps (spD T K n F)):q1f P w K mg base (CXE { T with me:=z,mo:=u } P w) k f fd ps (spD { T with me:=z,mo:=u } K n F):=
 ⟨λvs H Q E q=>h.len vs H Q E (j3q q),λA outer s H args us vs Q E hr he hb hv hs=>h.run A outer s H args us vs Q E hr he hb hv (j3q hs)⟩
end
noncomputable def spI (T:Tb) (K:PySem.W.Frag) (c n:Nat) (F:Fn):Sp:=λvs H Q E=>∃(x dx:Addr) (rest:List V) (ss:List Sl) (G:Hp),vs=.ref x::rest/\H=upd (upd G dx (.own x)) x (.ins (T.ca c) dx [])/\G x=none/\G dx=none/\dx≠x/\ArgsOk T K G rest ss/\vs.length=n /\
 (match F ss with
 | .ok (.sh d)=>∀H',Same G H'->Rep T K H' d (.ref x)->Q .non H'
 | .exc c=>∀H',Same G H'->E (.ref (T.ca c)) none H'
 | _=>False)
@[simp] noncomputable def q2R (n c ar:Nat) (f:Ro->Fl) (ss:List Sl):Out Rv:=match f (.me c []::ss++List.replicate (n-(ss.length+1)) .no) with
 | .nx ρ=>(match (ρ[0]?:Option Sl) with
  | some (.me c' ds)=>if c'=c/\ds.length=ar then .ok (.sh (.ins c ds)) else .bad
  | _=>.bad)
 | .exc c _=>.exc c
 | _=>.bad
section
variable {P:Program} {w:World} {K:PySem.W.Frag} {mg:Str->Option Value} {base:Heap} {T:Tb}
theorem j38 {H G:Hp} {N:List Str} {x dx:Addr} {rest:List V} {ss:List Sl} {c:Nat} (hH:H=upd (upd G dx (.own x)) x (.ins (T.ca c) dx [])) (hx:G x=none) (hdx:G dx=none) (hne:dx≠x) (h:ArgsOk T K G rest ss) (hN:rest.length+1<=N.length) :
 FR { T with me:=some x } K G H (L2.start N (.ref x::rest)) (.me c []::ss++List.replicate (N.length-(ss.length+1)) .no):=by
 have hl:=ArgsOk.length ss rest h
 have sm:Same G H:=λb o e=>by
  rw [hH,q0j (λz=>by rw [z,hx] at e;cases e),q0j (λz=>by rw [z,hdx] at e;cases e)];exact e
 have st:∀(i:Nat) (v:V),(V.ref x::rest)[i]?=some v->(L2.start N (.ref x::rest))[i]?=some (some v):=λi v e=>by
  unfold L2.start
  have hi:i < (V.ref x::rest).length:=(List.getElem?_eq_some_iff.mp e).1
  rw [List.getElem?_append_left (by simpa using hi),List.getElem?_map,e];rfl
 have cases_:∀(i:Nat) (s:Sl),(Sl.me c []::ss++List.replicate (N.length-(ss.length+1)) Sl.no)[i]?=some s->(i=0/\s=.me c [])∨(∃j,i=j+1/\ss[j]?=some s)∨s=.no:=λi s e=>by
  cases i with
  | zero=>exact .inl ⟨rfl,by simpa using e.symm⟩
  | succ j=>
   rw [List.cons_append,List.getElem?_cons_succ] at e
   by_cases hj:j < ss.length
   ·rw [List.getElem?_append_left hj] at e;exact .inr (.inl ⟨j,rfl,e⟩)
   ·rw [List.getElem?_append_right (by omega),List.getElem?_replicate] at e
    split at e
    ·cases e;exact .inr (.inr rfl)
    ·cases e
 have noow:∀(i:Nat) (s:Sl) (x:Option (Option V)) (b:Addr),(Sl.me c []::ss++List.replicate (N.length-(ss.length+1)) Sl.no)[i]?=some s->¬q41 H x b s:=λi s x b z o=>by
  rcases cases_ i _ z with ⟨_,y⟩ | ⟨j,_,y⟩ | y
  ·subst y;exact o
  ·obtain ⟨v,_,r⟩:=ArgsOk.get ss rest j _ h y
   cases s with
   | sh d=>exact o
   | bo ds=>exact o
   | bi c ds=>exact o
   | _=>exact r
  ·subst y;exact o
 refine ⟨sm,?_,λi s e=>?_,λi j s t b _ z _ o _=>noow i s _ b z o,λy e=>?_,λi c' es z=>?_⟩
 ·unfold L2.start;simp;omega
 ·rcases cases_ i s e with ⟨rfl,rfl⟩ | ⟨j,rfl,y⟩ | rfl
  ·exact ⟨x,dx,[],rfl,st 0 _ rfl,by rw [hH];exact q0w,hx,rfl,rfl⟩
  ·obtain ⟨v,e1,r⟩:=ArgsOk.get ss rest j s h y
   rw [st (j+1) v (by simpa using e1)]
   cases s with
   | sh d=>exact ⟨v,rfl,(q2H d v).mpr (Rep.mono sm _ _ r)⟩
   | bo ds=>
    obtain ⟨a,us,rfl,r2,r3⟩:=r
    exact ⟨a,us,rfl,r2,(repL_me ds us).mpr (RepL.mono sm _ _ r3)⟩
   | bi c ds=>
    obtain ⟨a,rfl,dx,fs,r2,r3,r4,r5⟩:=r
    exact ⟨a,dx,fs,rfl,r2,r3,r4,(repL_me ds _).mpr (RepL.mono sm _ _ r5)⟩
   | _=>exact r.elim
  ·trivial
 ·cases e;exact st 0 _ rfl
 ·rcases cases_ i _ z with ⟨y,_⟩ | ⟨j,_,y⟩ | y
  ·exact y
  ·obtain ⟨v,_,r⟩:=ArgsOk.get ss rest j _ h y;exact r.elim
  ·cases y
theorem j32 {c ar:Nat} {x qual:Str} {st:Stmt} {fa:Addr} {fd:FuncData} {N ps:List Str} {k:Nat} {f:Ro->Fl} (hT:T.me=none) (har:(T.fl c).length=ar) (F:∃(oc:Value) (od:Option Addr) (dV kV doc pm:Value) (an:Option Addr) (cdv ct:Value) (osl:Array (Option Value)),
 fd=PySem.W.fnOf x qual (q1E st) (q1l st) (q0l st) dV kV doc pm an cdv ct/\K.lookup fa=some ⟨oc,od,.func fd,osl⟩/\PySem.W.codeIn K cdv qual=true) (S:q0q N ps (q0l st))
 (hb:∀(y:Addr) (cdv:Value) (A:Around) (outer:List Env) (s:Shared) (H:Hp) (E:XK),Room k (A.deeper (envOfC qual (q0l st) s.heap.objs.size fa cdv))->DSs { T with me:=some y } true (CxD T P w K mg base N qual (q0l st) fa cdv A outer s H E) (q1l st) f) :
 q1f P w K mg base (CXE T P w) (k+1) fa fd ps (spI T K c ps.length (q2R N.length c ar f)):=by
 obtain ⟨oc,od,dV,kV,doc,pm,an,cdv,ct,osl,rfl,lk,hcd⟩:=F
 refine j6d lk hcd S (λvs H Q E ⟨_,_,_,_,_,_,_,_,_,_,_,e,_⟩=>e) λA outer s H vs Q E hr ⟨y,dx,rest,ss,G,ev,hH,hx,hdx,hne,ha,hl,ho⟩=>?_
 subst ev
 have hpl:ps.length<=N.length:=by have:=congrArg List.length S.pre;rw [List.length_take] at this;omega
 have fr:=j38 (T:=T) (K:=K) (N:=N) hH hx hdx hne ha (by simp at hl;omega)
 refine ⟨_,(hb y cdv A outer s H E hr).run G (CxD T P w K mg base N qual (q0l st) fa cdv A outer s H E).xe PassesOwn.leaving,_,fr,?_⟩
 unfold q2R at ho
 cases e:f (.me c []::ss++List.replicate (N.length-(ss.length+1)) .no) with
 | nx ρ=>
  rw [e] at ho
  intro σ H' fr' _
  cases e0:ρ[0]? with
  | none=>simp only [e0] at ho
  | some sl=>
   cases sl with
   | me c' ds=>
    simp only [e0] at ho
    by_cases hc:c'=c/\ds.length=ar
    ·rw [if_pos hc] at ho
     obtain ⟨rfl,hd⟩:=hc
     obtain ⟨a,dx',fs,m0,e1,e2,e3,e4,r⟩:=fr'.sl 0 _ e0
     cases m0
     exact ho H' fr'.same ⟨y,dx',fs,rfl,e2,by rw [e4];exact List.take_of_length_le (by show (T.fl c').length<=_;omega),(repL_me ds _).mp r⟩
    ·rw [if_neg hc] at ho;exact ho.elim
   | _=>simp only [e0] at ho
 | exc c' ρ=>
  rw [e] at ho
  intro σ' H' fr' _ pins s' u H'' I hs fl
  exact q4j I rfl rfl rfl fl (ho H'' (fr'.same.trans hs))
 | rt r=>rw [e] at ho;exact ho.elim
 | rm r c ds ks=>rw [e] at ho;exact ho.elim
 | bk ρ=>rw [e] at ho;exact ho.elim
 | ct ρ=>rw [e] at ho;exact ho.elim
 | bad=>rw [e] at ho;exact ho.elim
end
section
variable {T:Tb} {ib:Bool} {X:Cx} {e o:Expr} {es:List Expr} {pos pos' p apos:Pos} {fe fo:Ev} {fs:Ro->Out (List Sl)} {k n c:Nat} {f:Addr} {fd:FuncData} {ps:List Str} {F:Fn} {ds:List Value} {dvs:List V} {dss:List Sl} {x:Str}
theorem q3O {a:Str} {v:V}:∀{fs:List (Str×V)},a∉fs.map (·.1)->q32 a v fs=fs++[(a,v)]
 | [],_=>rfl
 | (b,u)::r,h=>by
  have hb:¬b=a:=λz=>h (by simp [z])
  have hr:a∉r.map (·.1):=λz=>h (by simp at z ⊢; exact .inr z)
  show (if b=a then _ else _)=_
  rw [if_neg hb,q3O hr];rfl
mutual
theorem Rep.wr {K:PySem.W.Frag} {H:Hp} {y dx:Addr} {c:Nat} {fs:List (Str×V)} {o:HO} (h:H y=some (.ins (T.ca c) dx fs)) (hn:fs.map (·.1)≠T.fl c):∀(d:D) (v:V),Rep T K H d v->Rep T K (upd H y o) d v
 | .non,_,q=>q
 | .bl _,_,q=>q
 | .int _,_,q=>q
 | .str _,_,q=>q
 | .tup ds,_,q=>by
  obtain ⟨b,ws,r1,r2,r3⟩:=q
  refine ⟨b,ws,r1,?_,RepL.wr h hn ds ws r3⟩
  rcases r2 with (r2 | ⟨o',r2⟩) | r2
  ·exact .inl (.inl (by rw [q0j (λz=>by rw [z,h] at r2;cases r2)];exact r2))
  ·exact .inl (.inr ⟨o',by rw [q0j (λz=>by rw [z,h] at r2;cases r2)];exact r2⟩)
  ·exact .inr r2
 | .lst ds,_,q=>by
  obtain ⟨b,ws,r1,r2,r3⟩:=q
  refine ⟨b,ws,r1,?_,RepL.wr h hn ds ws r3⟩
  rcases r2 with ⟨o',r2⟩ | r2
  ·exact .inl ⟨o',by rw [q0j (λz=>by rw [z,h] at r2;cases r2)];exact r2⟩
  ·exact .inr r2
 | .ins c2 ds,_,q=>by
  obtain ⟨b,dx2,fs2,r1,r2,r3,r4⟩:=q
  refine ⟨b,dx2,fs2,r1,?_,r3,RepL.wr h hn ds _ r4⟩
  rw [q0j (λz=>?_)]
  ·exact r2
  ·rw [z,h] at r2
   injection r2 with r2
   injection r2 with q1 q2 q3
   subst q3
   exact hn (by rw [r3];unfold Tb.fl;rw [q1])
 | .exc c,_,q=>by
  obtain ⟨b,o',r1,r2,r3⟩:=q
  exact ⟨b,o',r1,by rw [q0j (λz=>by rw [z,h] at r2;cases r2)];exact r2,r3⟩
theorem RepL.wr {K:PySem.W.Frag} {H:Hp} {y dx:Addr} {c:Nat} {fs:List (Str×V)} {o:HO} (h:H y=some (.ins (T.ca c) dx fs)) (hn:fs.map (·.1)≠T.fl c):∀(ds:List D) (us:List V),RepL T K H ds us->RepL T K (upd H y o) ds us
 | [],_,q=>q
 | d::ds,_,q=>by
  obtain ⟨v,r,r1,r2,r3⟩:=q
  exact ⟨v,r,r1,Rep.wr h hn d v r2,RepL.wr h hn ds r r3⟩
end
@[simp] noncomputable def q0U (c j:Nat) (fe:Ev) (ρ:Ro):Fl:=match (ρ[0]?:Option Sl) with
 | some (.me c' ds)=>if c'=c/\ds.length=j then (fe ρ).fl ρ λd=>.nx (ρ.set 0 (.me c (ds++[d]))) else .bad
 | _=>.bad
theorem q01 {a:Str} (j:Nat) (cl:Cls X.K (T.ca c)) (na:NoAttr X.K (T.ca c) a) (hj:(T.fl c)[j]?=some a) (hnd:(T.fl c).Nodup) (h1000:j < 1000) (he:DE T X e fe) (hN:X.N[0]?=some x:=by rfl) (hv:Vis X.env.scope x:=by walk_at "v0")
 (hs:swapsWith e (some (.Attribute (.Name x p) a pos')) pos.line X.env=pure false:=by exact q2f rfl) (hd:(x==("__debug__" : Str))=false:=by decide) (hcd:(x==("__classdict__" : Str))=false:=by decide) :
 DS T true X (.Assign [.Attribute (.Name x p) a pos'] e pos) (q0U c j fe):=.mk λG E hp=>by
 refine PS.imp (j6l (X:=X.wish E) (q2i (X:=X.wish E) hN hv hd hcd) (he.run G E hp) hs) λD σ H ⟨ρ,fr,h⟩=>?_
 have h:AccS T true X G E H (q0U c j fe ρ) D:=h
 unfold q0U at h
 cases e0:ρ[0]? with
 | none=>simp only [e0] at h;exact h.elim
 | some sl=>
  cases sl with
  | me c' ds=>
   simp only [e0] at h
   by_cases hc:c'=c/\ds.length=j
   ·rw [if_pos hc] at h
    obtain ⟨rfl,hl⟩:=hc
    refine ⟨ρ,fr,Acc.mono (AccS.fl fr h) λd _ hd2 v H1 s1 rd=>?_⟩
    obtain ⟨y,dx,fs,m0,e1,e2,e3,e4,r⟩:=(fr.mono s1).sl 0 _ e0
    have hjl:j < (T.fl c').length:=(List.getElem?_eq_some_iff.mp hj).1
    have hnm:a∉fs.map (·.1):=λz=>by
     rw [e4,hl] at z
     obtain ⟨i,hi⟩:=List.getElem?_of_mem z
     obtain ⟨hi1,_⟩:=List.getElem?_eq_some_iff.mp hi
     rw [List.length_take] at hi1
     rw [List.getElem?_take_of_lt (by omega)] at hi
     have:=q3L hnd hi hj
     omega
    have hfl:fs.length=ds.length:=by
     have:=RepL.length _ _ r;simpa using this
    have hnf:fs.map (·.1)≠T.fl c':=λz=>by
     have:=congrArg List.length z
     simp at this;omega
    refine ⟨_,e1,y,T.ca c',dx,fs,rfl,e2,cl,na,by omega,?_⟩
    have fr1:=fr.mono s1
    have h0:0 < ρ.length:=(List.getElem?_eq_some_iff.mp e0).1
    refine hd2 σ _ ⟨λb u q=>?_,by simp [fr1.len],λi s q=>?_,λi k s1 s2 b hik q1 q2 o1 o2=>?_,fr1.me,λi c2 es q=>?_⟩ (λb u q st=>?_)
    ·rw [q0j (λz=>by rw [z,e3] at q;cases q)];exact fr1.same b u q
    ·by_cases hi:i=0
     ·subst hi
      rw [List.getElem?_set_self h0] at q
      cases q
      refine ⟨y,dx,q32 a v fs,m0,e1,q0w,e3,?_,?_⟩
      ·rw [q3O hnm,List.map_append,e4,List.length_append,List.length_cons,List.length_nil,hl]
       rw [List.take_succ,hj];rfl
      ·rw [q3O hnm,List.map_append]
       exact RepL.append _ _ _ _ (RepL.wr e2 hnf _ _ r) ⟨v,[],rfl,Rep.wr e2 hnf _ _ rd,rfl⟩
     ·rw [List.getElem?_set_ne (Ne.symm hi)] at q
      have hs:=fr1.sl i s q
      cases s with
      | no=>trivial
      | sh d'=>obtain ⟨w,z1,z2⟩:=hs;exact ⟨w,z1,Rep.wr e2 hnf _ _ z2⟩
      | ow es=>
       obtain ⟨b,ws,z1,z2,z3,z4⟩:=hs
       exact ⟨b,ws,z1,by rw [q0j (λz=>by rw [z,e2] at z2;cases z2)];exact z2,z3,RepL.wr e2 hnf _ _ z4⟩
      | bo es=>obtain ⟨b,ws,z1,z2,z4⟩:=hs;exact ⟨b,ws,z1,z2,RepL.wr e2 hnf _ _ z4⟩
      | me c2 es=>
       exact absurd (fr1.me0 i c2 es q) hi
      | mo es=>
       obtain ⟨b,ws,z0,z1,z2,z3,z4⟩:=hs
       exact ⟨b,ws,z0,z1,by rw [q0j (λz=>by rw [z,e2] at z2;cases z2)];exact z2,z3,RepL.wr e2 hnf _ _ z4⟩
      | od kvs=>
       obtain ⟨b,xs,z1,z2,z3,z4,z5,z6⟩:=hs
       exact ⟨b,xs,z1,by rw [q0j (λz=>by rw [z,e2] at z2;cases z2)];exact z2,z3,z4,z5,λq hq=>Rep.wr e2 hnf _ _ (z6 q hq)⟩
      | bi c2 es=>obtain ⟨b,dx2,fs2,z1,z2,z3,z4,z5⟩:=hs;exact ⟨b,dx2,fs2,z1,z2,z3,z4,RepL.wr e2 hnf _ _ z5⟩
      | lm ms=>
       obtain ⟨c2,us,z1,z2,z3,z4,z5⟩:=hs
       refine ⟨c2,us,z1,z2.keep (λu w _ n=>by rw [q0j (λz=>by subst z;rw [e2] at w;cases w;exact n _ _ _ rfl)];exact w),z3,λi' m v' q1 q2=>?_,z5⟩
       have z:=z4 i' m v' q1 q2
       match m,z with
       | (none,ks),⟨b,ws,y1,y2,y3,y4⟩=>exact ⟨b,ws,y1,by rw [q0j (λz=>by rw [z,e2] at y2;cases y2)];exact y2,y3,RepL.wr e2 hnf _ _ y4⟩
       | (some k,ks),⟨b,y1,y2,y3,dx3,fs3,w1,w2,w3,w4⟩=>exact ⟨b,y1,y2,y3,dx3,fs3,by rw [q0j (λz=>by subst z;exact y2 m0)];exact w1,w2,w3,RepL.wr e2 hnf _ _ w4⟩
      | ox t pre es post=>
       obtain ⟨c2,vp,b,vq,ws,z1,z2,z3,z4,z5,z6,z7⟩:=hs
       exact ⟨c2,vp,b,vq,ws,z1,z2.keep (λu w _ n=>by rw [q0j (λz=>by subst z;rw [e2] at w;cases w;exact n _ _ _ rfl)];exact w),RepL.wr e2 hnf _ _ z3,RepL.wr e2 hnf _ _ z4,by rw [q0j (λz=>by rw [z,e2] at z5;cases z5)];exact z5,z6,RepL.wr e2 hnf _ _ z7⟩
    ·have ni:i≠0:=by rintro rfl;rw [List.getElem?_set_self h0] at q1;cases q1;exact o1
     have nk:k≠0:=by rintro rfl;rw [List.getElem?_set_self h0] at q2;cases q2;exact o2
     rw [List.getElem?_set_ne (Ne.symm ni)] at q1
     rw [List.getElem?_set_ne (Ne.symm nk)] at q2
     have bk:∀(x:Addr) (u:HO),H1 x=some u->(∀xs,u≠.lst xs)->(∀x dx fs,u≠.ins x dx fs)->upd H1 y (.ins (T.ca c') dx (q32 a v fs)) x=some u:=λx u w _ n=>by
      rw [q0j (λz=>by subst z;rw [e2] at w;cases w;exact n _ _ _ rfl)];exact w
     exact fr1.ne i k s1 s2 b hik q1 q2 ((fr1.sl i s1 q1).back bk o1) ((fr1.sl k s2 q2).back bk o2)
    ·by_cases hi:i=0
     ·exact hi
     ·rw [List.getElem?_set_ne (Ne.symm hi)] at q;exact fr1.me0 i c2 es q
    ·have hb:b≠y:=λz=>by rw [z] at q;rw [s1 _ _ q] at e2;cases e2;cases st
     rw [q0j hb];exact s1 _ _ q
   ·rw [if_neg hc] at h;exact h.elim
  | _=>simp only [e0] at h;exact h.elim
end
section
variable {T:Tb} {ib:Bool} {X:Cx} {e o a b:Expr} {es:List Expr} {pos pos' p apos:Pos} {fe fo fa fb:Ev} {fs:Ro->Out (List Sl)} {k n c:Nat} {f:Addr} {fd:FuncData} {ps:List Str} {F:Fn} {ds:List Value} {dvs:List V} {dss:List Sl} {x:Str}
theorem w0d {pins:List (Addr×Obj)} {σ:L2.St} {H:Hp} {s:Shared} {E:Value->Shared->Prop} {Q:VK} {us:List Value} {vs:List V} {ss:List Sl} (M:Mk X.K (T.ca c) f) (FO:q1f X.prog X.w X.K X.mg X.base (CXE T X.prog X.w) k f fd ps (spI T X.K c ps.length F)) (hr:Room (k+1) X.A) (hb:Binds X.K fd ps ds) (hd:Vals dvs ds)
 (I:Inv (X.wish E) pins σ H s) (r:Vals vs us) (ha:ArgsOk T X.K H (vs++dvs) ss) (hl:(us++ds).length+1=ps.length)
 (h:Acc T X E σ H (F ss) (λr=>∀v H',Same H H'->q49 T X.K H H' v r->Q v H')) (hsh:∀r,F ss=.ok r->∃d,r=.sh d) :
 wpAny (model X.prog X.w) X.A (call (.ref (T.ca c)) us) (EP (X.wish E) pins σ Q) E s:=by
 have IX:Inv X pins σ H s:=I.unwish
 have I2:=Inv.made (C:=T.ca c) IX
 have hx:=IX.hok.fresh (a:=s.heap.objs.size+1) (Nat.le_succ _)
 have hdx:=IX.hok.fresh (a:=s.heap.objs.size) (Nat.le_refl _)
 have r2:Vals (V.ref (s.heap.objs.size+1)::(vs++dvs)) (Value.ref (s.heap.objs.size+1)::(us++ds)):=.cons rfl (r.append hd)
 let EX:XK:=λcls _ H'=>∃c',cls=.ref (T.ca c')/\F ss=.exc c'/\Same H H'
 have hsp:spI T X.K c ps.length F (V.ref (s.heap.objs.size+1)::(vs++dvs)) (upd (upd H s.heap.objs.size (.own (s.heap.objs.size+1))) (s.heap.objs.size+1) (.ins (T.ca c) s.heap.objs.size [])) (λv H2=>v=.non/\Q (.ref (s.heap.objs.size+1)) H2) EX:=by
  refine ⟨_,s.heap.objs.size,vs++dvs,ss,H,rfl,rfl,hx,hdx,Nat.ne_of_lt (Nat.lt_succ_self _),ha,?_,?_⟩
  ·have:=r2.length;rw [this];simpa using hl
  ·cases ef:F ss with
   | ok rr=>
    obtain ⟨d,rfl⟩:=hsh rr ef
    rw [ef] at h;exact λH' sm rd=>⟨rfl,h _ H' sm rd⟩
   | exc c'=>exact λH' sm=>⟨c',rfl,ef,sm⟩
   | bad=>rw [ef] at h;exact h.elim
 have hl2:(Value.ref (s.heap.objs.size+1)::us++ds).length=ps.length:=by simpa using hl
 refine wpAny_call (j06 (f:=f) IX.kIn M.makes M.init (beq_iff_eq.mp M.fn) (codeAny_mono (FO.run _ X.stack _ _ ⟨Value.ref (s.heap.objs.size+1)::us,[]⟩ (Value.ref (s.heap.objs.size+1)::(us++ds)) _ _ EX (hr.make (T.ca c) us [])
  (I2.env0.make (T.ca c) us []) (hb _ (Value.ref (s.heap.objs.size+1)::us) I2.kIn hl2) r2 hsp) λres s' hq=>?_))
 cases res with
 | error ev=>
  obtain ⟨c1,H',I',fl,c',ec,eF,sm⟩:=Inv.flown I2 hq
  rw [eF] at h
  refine h pins s' ev H' I' sm ?_
  obtain ⟨ea,rfl,h1,h2,nc,oe,vs',a0,he,hc,rest⟩:=fl
  exact ⟨ea,rfl,h1,h2,nc,oe,vs',a0,he,hc.trans ec,rest⟩
 | ok fl=>
  cases fl with
  | ret u=>
   obtain ⟨v,H',I3,rv,ev,q3⟩:=I2.after hq
   subst ev
   exact ⟨rv,⟨V.ref (s.heap.objs.size+1),H',I3.wish E,rfl,q3⟩⟩
  | next=>exact False.elim hq
  | brk=>exact False.elim hq
  | cont=>exact False.elim hq
theorem q2s (M:Mk X.K (T.ca c) f) (FO:q1f X.prog X.w X.K X.mg X.base (CXE T X.prog X.w) k f fd ps (spI T X.K c ps.length F)) (hsh:∀ss r,F ss=.ok r->∃d,r=.sh d) (hr:Room (k+1) X.A) (hg:Gl X x) (hm:X.mg x=some (.ref (T.ca c))) (hb:Binds X.K fd ps ds) (hd:Vals dvs ds)
 (hds:∀H,ArgsOk T X.K H dvs dss) (hn:n+1=ps.length) (ha:DG T X (e::es) fs) (hdb:(x==("__debug__" : Str))=false:=by decide) (he:starEach (e::es) X.env=(false,eval e X.env)::starEach es X.env:=by exact q0D rfl) (hpl:(backTo pos (starEach es X.env)).any (·.1)=false:=by exact q0H rfl) :
 DR T X (.Call (.Name x p) (e::es) [] pos) (q0r (n:=n) F dss fs):=.mk λG E hp=>by
 rintro pins s σ H Q I ⟨ρ,fr,h⟩
 refine wpAny_Call_Name_kw (q3R (X:=X.wish E) I hg hm ?_ hdb)
 refine PySem.W.callWith_K (h₀:=X.base) I.ok.mod.kin M.kp (thn (ha.run G E hp pos pins s σ H (λvs H1=>∃ss,ArgsOk T X.K H1 vs ss/\ss.length+dss.length=n/\Same H H1/\Acc T X E σ H1 (F (ss++dss)) (λr=>∀v H',Same H1 H'->q49 T X.K H1 H' v r->Q v H')) I ⟨ρ,fr,?_⟩) λus s1 ⟨vs,H1,I1,r,ss,ha1,hl1,s1',q⟩=>⟨I1.kIn,?_⟩) he hpl
 ·have h:Acc T X E σ H ((fs ρ).bind λss=>if ss.length+dss.length=n then F (ss++dss) else .bad) _:=h
  refine Acc.mono (Acc.bind h) λss _ hss vs H1 s1 r1=>?_
  by_cases hl:ss.length+dss.length=n
  ·rw [if_pos hl] at hss
   exact ⟨ss,r1,hl,s1,Acc.mono (Acc.heap s1 hss) λr _ hr' v H' s2 r2=>hr' v H' (s1.trans s2) (q3t s1 r2)⟩
  ·rw [if_neg hl] at hss;exact hss.elim
 ·have la:=ArgsOk.length ss vs ha1
  have lr:=r.length
  have ld:=ArgsOk.length dss dvs (hds H1)
  have lv:=hd.length
  exact w0d (X:=X) M FO hr hb hd I1 r (ArgsOk.append _ _ _ _ ha1 (hds H1)) (by simp only [List.length_append,List.nil_append];omega) q (hsh _)
theorem q1R {n c ar:Nat} {f:Ro->Fl} (ss:List Sl) (r:Rv) (h:q2R n c ar f ss=.ok r):∃d,r=.sh d:=by
 unfold q2R at h
 split at h
 ·split at h
  ·split at h
   ·cases h;exact ⟨_,rfl⟩
   ·cases h
  ·cases h
 ·cases h
 ·cases h
@[simp] noncomputable def w1u (cps:List (Nat×Nat)):D->Out D
 | .ins c ds=>(match cps.lookup c with
  | some j=>(match ds[j]? with | some d=>.ok d | none=>.bad)
  | none=>.bad)
 | _=>.bad
@[simp] noncomputable def q1Y (cps:List (Nat×Nat)) (fo:Ev) (ρ:Ro):Out D:=(fo ρ).bind (w1u cps)
theorem q4w {a:Str} {j:Nat} {v:V}:∀{fs:List (Str×V)},(fs.map (·.1)).Nodup->(fs.map (·.1))[j]?=some a->(fs.map (·.2))[j]?=some v->fs.lookup a=some v
 | [],_,h,_=>by simp at h
 | (b,u)::r,nd,h1,h2=>by
  cases j with
  | zero=>
   simp at h1 h2
   subst h1 h2
   simp [List.lookup]
  | succ j=>
   rw [List.map_cons,List.getElem?_cons_succ] at h1 h2
   rw [List.map_cons,List.nodup_cons] at nd
   have hne:(a==b)=false:=by
    rw [beq_eq_false_iff_ne]
    rintro rfl
    exact nd.1 (List.mem_of_getElem? h1)
   rw [List.lookup_cons,hne]
   exact q4w nd.2 h1 h2
theorem q3d {cps:List (Nat×Nat)} {c j:Nat} (h:cps.lookup c=some j):(c,j)∈cps:=by
 induction cps with
 | nil=>cases h
 | cons q r ih=>
  obtain ⟨a,b⟩:=q
  rw [List.lookup_cons] at h
  by_cases z:c=a
  ·subst z
   simp at h;subst h;exact List.mem_cons_self
  ·have:(c==a)=false:=beq_eq_false_iff_ne.mpr z
   rw [this] at h
   exact List.mem_cons_of_mem _ (ih h)
theorem q0M {at_:Str} {cps:List (Nat×Nat)} (he:DE T X o fo) (hc:∀q∈cps,Cls X.K (T.ca q.1)/\NoAttr X.K (T.ca q.1) at_/\(T.fl q.1).Nodup/\(T.fl q.1)[q.2]?=some at_) (hb:attributeBase o at_ X.env (eval o X.env)=eval o X.env:=by rfl):DE T X (.Attribute o at_ pos) (q1Y cps fo):=.mk λG E hp=>
 PE.imp (j6A (X:=X.wish E) (he.run G E hp) hb) fun σ H Q ⟨ρ,fr,q⟩=>⟨ρ,fr,Acc.mono (Acc.bind q) λd _ hd v H1 s1 r=>by
  cases d with
  | ins c ds=>
   obtain ⟨y,dx,fs,rfl,e2,e3,r4⟩:=r
   have hd:Acc T X E σ H (match cps.lookup c with | some j=>(match ds[j]? with | some d=>.ok d | none=>.bad) | none=>.bad) _:=hd
   cases el:cps.lookup c with
   | none=>simp only [el] at hd;exact hd.elim
   | some j=>
    simp only [el] at hd
    cases ed:ds[j]? with
    | none=>simp only [ed] at hd;exact hd.elim
    | some d=>
     simp only [ed] at hd
     obtain ⟨h1,h2,h3,h4⟩:=hc (c,j) (q3d el)
     obtain ⟨w,ew,rw'⟩:=RepL.get _ _ _ _ r4 ed
     exact ⟨y,T.ca c,dx,fs,w,rfl,e2,h1,h2,q4w (by rw [e3];exact h3) (by rw [e3];exact h4) ew,hd w H1 s1 rw'⟩
  | _=>exact hd.elim⟩
@[simp] noncomputable def q23 (g g':D->D->Out D) (fa fb fc:Ev) (ρ:Ro):Out D:=(fa ρ).bind λx=>(fb ρ).bind λy=>(g x y).bind λz=>z.toB.bind λk=>if k=true then (fc ρ).bind λw=>g' y w else .ok (.bl false)
theorem q7W {G H:Hp} {E:Value->Shared->Prop} {σ:L2.St} {Q:VK} {g g':D->D->Out D} {r r':R2} {fc:Ev}
 (hg:∀(dx dy:D) (x y:V) (σ:L2.St) (H:Hp) (Q:VK),Rep T X.K H dx x->Rep T X.K H dy y->Acc T X E σ H (g dx dy) (kE T X.K H Q)->r x y H Q)
 (hg':∀(dx dy:D) (x y:V) (σ:L2.St) (H:Hp) (Q:VK),Rep T X.K H dx x->Rep T X.K H dy y->Acc T X E σ H (g' dx dy) (kE T X.K H Q)->r' x y H Q) {ρ:Ro} (fr:FR T X.K G H σ ρ) (h:Acc T X E σ H (q23 g g' fa fb fc ρ) (kE T X.K H Q)) :
 j3d r r' (tE T X G E fa) (tE T X G E fb) (tE T X G E fc) σ H Q:=by
 have h:Acc T X E σ H ((fa ρ).bind λx=>(fb ρ).bind λy=>(g x y).bind λz=>z.toB.bind λk=>if k=true then (fc ρ).bind λw=>g' y w else .ok (.bl false)) (kE T X.K H Q):=h
 refine ⟨ρ,fr,Acc.mono (Acc.bind h) λdx _ hx v H1 s1 r1=>⟨ρ,fr.mono s1,Acc.mono (Acc.bind (Acc.heap s1 hx)) λdy _ hy u H2 s2 r2=>?_⟩⟩
 refine hg dx dy v u σ H2 _ (Rep.mono s2 _ _ r1) r2 (Acc.mono (Acc.bind (Acc.heap s2 hy)) λdz _ hz w H3 s3 r3=>?_)
 obtain ⟨kk,rfl,hk⟩:=q45 hz
 refine ⟨kk,r3,?_⟩
 cases kk with
 | true=>
  refine ⟨ρ,((fr.mono s1).mono s2).mono s3,Acc.mono (Acc.bind (Acc.heap s3 hk)) λdw _ hw t H4 s4 r4=>?_⟩
  exact hg' dy dw u t σ H4 Q (Rep.mono s4 _ _ (Rep.mono s3 _ _ r2)) r4 (Acc.mono (Acc.heap s4 hw) λd _ hd z H5 s5 r5=>hd z H5 ((((s1.trans s2).trans s3).trans s4).trans s5) r5)
 | false=>exact hk _ H3 ((s1.trans s2).trans s3) rfl
theorem q2x {op op':CmpOp} {g g':D->D->Out D} {cc:Expr} {fc:Ev} (ho:OpD T X (compareOp op) g) (ho':OpD T X (compareOp op') g') (ha:DE T X a fa) (hb:DE T X b fb) (hc:DE T X cc fc) (hm:lastMarks [op,op'] [b,cc]=false:=by with_unfolding_all rfl) :
 DT T X (.Compare a [op,op'] [b,cc] pos) (fun ρ=>(q23 g g' fa fb fc ρ).bind D.toB):=.mk λG E hp=>by
 obtain ⟨r,hr,hg⟩:=ho E
 obtain ⟨r',hr',hg'⟩:=ho' E
 refine PT.imp (j1t (X:=X.wish E) hr hr' (ha.run G E hp) (hb.run G E hp) (hc.run G E hp) hm) fun σ H Q ⟨ρ,fr,h⟩=>q7W hg hg' fr (Acc.mono (Acc.bind h) λd _ hd v H1 s1 r1=>?_)
 cases d with
 | bl kk=>exact ⟨kk,r1,hd H1 s1⟩
 | _=>exact hd.elim
end
section
variable {T:Tb} {ib:Bool} {X:Cx} {e o a b:Expr} {es:List Expr} {pos pos' p apos:Pos} {fe fo fa fb:Ev} {x:Str}
@[simp] noncomputable def q4h:List Nat->Ro->List D->Out Ro
 | [],ρ,[]=>.ok ρ
 | i::is,ρ,d::ds=>q4h is (ρ.set i (.sh d)) ds
 | _,_,_=>.bad
noncomputable def j8Q (T:Tb) (X:Cx) (ts:List Expr) (is:List Nat):Prop:=∀E:Value->Shared->Prop,∃tg:TGs,PGs (X.wish E) ts tg/\∀(G H:Hp) (σ:L2.St) (ρ ρ':Ro) (ds:List D) (vs:List V) (Q:L2.St->Hp->Prop),FR T X.K G H σ ρ->RepL T X.K H ds vs->q4h is ρ ds=.ok ρ'->(∀σ',FR T X.K G H σ' ρ'->Q σ' H)->tg vs σ H Q
theorem q2X:j8Q T X [] []:=λE=>⟨_,j4n,λG H σ ρ ρ' ds vs Q fr r e k=>by
 cases ds with
 | nil=>cases e;cases r;exact ⟨rfl,k σ fr⟩
 | cons d ds=>cases e⟩
theorem q1e (i:Nat) {is:List Nat} {ts:List Expr} (hN:X.N.Nodup) (hr:j8Q T X ts is) (hi:X.N[i]?=some x:=by rfl) (hx:Loc X.env.scope x:=by walk_at "v3") (hf:X.fn x=true∨X.env.scope.names.lookup x=some .local:=by walk_at "v2") (hz:T.me=none∨i≠0:=by walk_at "v1")
 (hs:(assignEach (.Name x p::ts) X.env).map (·.2)=assign (.Name x p) X.env::(assignEach ts X.env).map (·.2):=by rfl):j8Q T X (.Name x p::ts) (i::is):=λE=>by
 obtain ⟨tg,h1,h2⟩:=hr E
 refine ⟨_,j0B (X:=X.wish E) (q38 (X:=X.wish E) (i:=i) hN hi hx hf) h1 (by first | exact hs | rfl),λG H σ ρ ρ' ds vs Q fr r e k=>?_⟩
 cases ds with
 | nil=>cases e
 | cons d ds=>
  obtain ⟨v,us,rfl,r1,r2⟩:=r
  exact ⟨v,us,rfl,h2 G H _ _ ρ' ds us Q (fr.set_sh r1 hz) r2 e k⟩
@[simp] noncomputable def q7z (is:List Nat) (ρ:Ro) (d:D):Out Ro:=match d with
 | .tup ds=>q4h is ρ ds
 | _=>.bad
theorem q4V:∀(is:List Nat) (ρ ρ':Ro) (ds:List D),q4h is ρ ds=.ok ρ'->ds.length=is.length
 | [],_,_,[],_=>rfl
 | [],_,_,_::_,e=>by cases e
 | _::_,_,_,[],e=>by cases e
 | i::is,ρ,ρ',d::ds,e=>by
  have:=q4V is _ ρ' ds e
  simp [this]
theorem q4t {ts:List Expr} {is:List Nat} {kk:Nat} (hc:X.calm=true) (h:j8Q T X ts is) (hn:(assignEach ts X.env).length=is.length:=by rfl) (hst:(assignEach ts X.env).findIdx? (·.1)=none:=by rfl):TgD T X (.Tuple ts kk pos) (q7z is):=λE=>by
 obtain ⟨tg,h1,h2⟩:=h E
 refine ⟨_,j7E (X:=X.wish E) (n:=is.length) hc h1 hn hst,λG H σ ρ ρ' d v Q fr r e k=>?_⟩
 cases d with
 | tup ds=>
  obtain ⟨a,vs,rfl,sq,rl⟩:=r
  exact ⟨a,vs,rfl,sq,(RepL.length _ _ rl).trans (q4V is ρ ρ' ds e),h2 G H σ ρ ρ' ds vs Q fr rl e k⟩
 | _=>cases e
@[simp] noncomputable def j9O (is:List Nat) (fe:Ev) (ρ:Ro):Fl:=(fe ρ).fl ρ λd=>match q7z is ρ d with
 | .ok ρ'=>.nx ρ'
 | _=>.bad
theorem j3a {tg:Expr} {is:List Nat} (he:DE T X e fe) (hg:TgD T X tg (q7z is)) (hs:swapsWithSole [tg] e pos.line X.env=pure false:=by rfl) (hw:swappedStores [tg] e X.env=pure none:=by rfl)
 (h1:(assignEach [tg] X.env).map (·.2)=[assign tg X.env]:=by rfl):DS T ib X (.Assign [tg] e pos) (j9O is fe):=.mk λG E hp=>by
 obtain ⟨tgr,hpg,hgr⟩:=hg E
 refine PS.imp (j2e (X:=X.wish E) (he.run G E hp) hpg hs hw h1) λD σ H ⟨ρ,fr,h⟩=>⟨ρ,fr,Acc.mono (AccS.fl fr h) λd _ hd v H1 s1 r1=>?_⟩
 cases eg:q7z is ρ d with
 | ok ρ'=>
  simp only [eg] at hd
  exact hgr G H1 σ ρ ρ' d v _ (fr.mono s1) r1 eg fun σ' fr'=>hd σ' H1 fr' (Pers.of s1)
 | exc c=>simp only [eg] at hd;exact hd.elim
 | bad=>simp only [eg] at hd;exact hd.elim
end
section
variable {T:Tb} {X:Cx} {pos:Pos} {x:Str}
theorem q0L {i:Int} (hg:Gl X x) (h:∃t,X.mg x=some (.int i t)) (hd:(x==("__debug__" : Str))=false:=by decide):DE T X (.Name x pos) (eC (.int i)):=by
 obtain ⟨t,h⟩:=h
 exact q42 (v:=.int i) hg h ⟨t,rfl⟩ (λ_=>rfl) hd
theorem j0Z {z:Str} (hg:Gl X x) (h:∃t,X.mg x=some (.str z t)) (hd:(x==("__debug__" : Str))=false:=by decide):DE T X (.Name x pos) (eC (.str z)):=by
 obtain ⟨t,h⟩:=h
 exact q42 (v:=.str z) hg h ⟨t,rfl⟩ (λ_=>rfl) hd
theorem hsh1 {fe:Ev} (ρ:Ro) (ds:List D) (h:q0i fe q0B ρ=.ok ds):ds.length<=1000:=by
 simp only [q0i,q0B] at h
 cases e:fe ρ with
 | ok d=>rw [e] at h;cases h;show 1<=1000;decide
 | exc c=>rw [e] at h;cases h
 | bad=>rw [e] at h;cases h
end
theorem q4x {K:PySem.W.Frag} {x qual:Str} {st:Stmt} {f:Addr} {fd:FuncData} (F:L2.Fun K x qual st f fd):∃(oc:Value) (od:Option Addr) (dV kV doc pm:Value) (an:Option Addr) (cdv ct:Value) (osl:Array (Option Value)),
 fd=PySem.W.fnOf x qual (q1E st) (q1l st) (q0l st) dV kV doc pm an cdv ct/\K.lookup f=some ⟨oc,od,.func fd,osl⟩/\PySem.W.codeIn K cdv qual=true:=by
 obtain ⟨oc,od,kV,doc,pm,an,cdv,ct,osl,e1,e2,e3⟩:=F.ex
 exact ⟨oc,od,.none,kV,doc,pm,an,cdv,ct,osl,e1,e2,e3⟩
section
variable {T:Tb} {ib:Bool} {X:Cx} {e o a:Expr} {es:List Expr} {pos p apos cpos:Pos} {fe fo:Ev} {fs:Ro->Out (List D)}
noncomputable def MtD (T:Tb) (X:Cx) (t id:String) (g:D->List D->Out D):Prop:=∀E:Value->Shared->Prop,∃r:V->List V->Hp->VK->Prop,MtR (X.wish E) id r /\
 ∀(d:D) (ds:List D) (v:V) (vs:List V) (σ:L2.St) (H:Hp) (Q:VK),Rep T X.K H d v->RepL T X.K H ds vs->Acc T X E σ H (g d ds) (kE T X.K H Q)->r v vs H Q
@[simp] noncomputable def eMt (ty:D->Bool) (g:D->List D->Out D) (fo:Ev) (fs:Ro->Out (List D)) (ρ:Ro):Out D:=(fo ρ).bind λd=>if ty d=true then (fs ρ).bind λds=>g d ds else .bad
@[simp] noncomputable def q6D:D->Bool
 | .str _=>true
 | _=>false
theorem j5V {name:Str} {id:String} {g:D->List D->Out D} (hm:MtD T X "str" id g) (slot:Slot "str" name id) (hty:typeOf (.builtin id)=pure (.type "method_descriptor")) (ho:DE T X o fo) (ha:DA T X (e::es) fs)
 (hbase:attributeBase o name X.env (eval o X.env)=eval o X.env:=by rfl)
 (hfew:((backTo cpos (starEach (e::es) X.env)).all (λx=>!x.1) && (backToKw cpos (keywordEach [] X.env)).all (λx=>x.1.isSome)
  && decide ((e::es).length+([]:List Keyword).length+(if ([]:List Keyword).isEmpty then 0 else 1) < 30))=true:=by exact j0g rfl rfl)
 (hline:(apos.endLine==cpos.line)=true:=by rfl) (hs:starEach (e::es) X.env=(false,eval e X.env)::starEach es X.env:=by exact q0D rfl) (hplain:(backTo cpos (starEach es X.env)).any (·.1)=false:=by exact q0H rfl) :
 DE T X (.Call (.Attribute o name apos) (e::es) [] cpos) (eMt q6D g fo fs):=.mk λG E hp=>by
 obtain ⟨r,hr,hg⟩:=hm E
 refine PE.imp (j4G (X:=X.wish E) PySem.F.plainAttrs_str slot hty hr (ho.run G E hp) (ha.run G E hp) hbase hfew hline hs hplain) fun σ H Q ⟨ρ,fr,q⟩=>?_
 have q:Acc T X E σ H ((fo ρ).bind λd=>if q6D d=true then (fs ρ).bind λds=>g d ds else .bad) (kE T X.K H Q):=q
 refine ⟨ρ,fr,Acc.mono (Acc.bind q) λd _ hd v H1 s1 rd=>?_⟩
 by_cases z:q6D d=true
 ·rw [if_pos z] at hd
  cases d with
  | str x=>
   refine ⟨by rw [show v=V.str x from rd];exact rfl,ρ,fr.mono s1,Acc.mono (Acc.bind (Acc.heap s1 hd)) λds _ hds vs H2 s2 rl=>?_⟩
   exact hg _ ds v vs σ H2 Q (Rep.mono s2 _ _ rd) rl (Acc.mono (Acc.heap s2 hds) λd' _ k w H3 s3 r3=>k w H3 ((s1.trans s2).trans s3) r3)
  | _=>cases z
 ·rw [if_neg z] at hd;exact hd.elim
end
noncomputable def q68:Expr->Option D
 | .Constant (.int i) _ _=>some (.int i)
 | .Constant (.str x) _ _=>some (.str x)
 | .Constant (.bool b) _ _=>some (.bl b)
 | .Constant .none _ _=>some .non
 | _=>none
noncomputable def litsOf:List Expr->Option (List D)
 | []=>some []
 | e::es=>match q68 e,litsOf es with
  | some d,some ds=>some (d::ds)
  | _,_=>none
@[simp] noncomputable def j1F (ds:List D) (ρ:Ro):Out (List D):=.ok ds
section
variable {T:Tb} {X:Cx}
theorem j7N:∀{e:Expr} {d:D},q68 e=some d->DE T X e (eC d):=by
 intro e d h
 unfold q68 at h
 split at h<;>cases h
 ·exact q0c
 ·exact q2h
 ·exact q2C
 ·exact j6f
theorem q3N:∀{e:Expr} {d:D},q68 e=some d->q2G e=true:=by
 intro e d h
 unfold q68 at h
 split at h<;>first | rfl | cases h
theorem q3H:∀{es:List Expr} {ds:List D},litsOf es=some ds->DA T X es (j1F ds)
 | [],ds,h=>by
  cases h
  exact q0k
 | e::es,ds,h=>by
  unfold litsOf at h
  cases e1:q68 e with
  | none=>rw [e1] at h;cases h
  | some d=>
   cases e2:litsOf es with
   | none=>rw [e1,e2] at h;cases h
   | some rs=>
    rw [e1,e2] at h
    cases h
    exact q0d (j7N e1) (q3H e2) (q0D (q3N e1))
end
noncomputable def Walk (T:Tb) (K:PySem.W.Frag) (G:Hp) (J:It) (ds:List D) (H0:Hp):Prop:=∀(i:Nat) (H:Hp),Pers T false H0 H->Same G H ->
 (∀d,ds[i]?=some d->J.go i H/\∀x H1,J.yld i H x H1->Same H H1/\Rep T K H1 d x)/\(ds.length<=i->J.stop i H)
noncomputable def tI (T:Tb) (X:Cx) (G:Hp) (E:Value->Shared->Prop) (f:Ro->Out (List D)):TI:=fun σ H R=>∃ρ,FR T X.K G H σ ρ/\Acc T X E σ H (f ρ) (λds=>∀J H',Same H H'->Walk T X.K G J ds H'->R J H')
structure DI (T:Tb) (X:Cx) (tg e:Expr) (f:Ro->Out (List D)):Prop where
 mk ::
 run:∀(G:Hp) (E:Value->Shared->Prop),PassesOwn (model X.prog X.w) X.A X.env E->PI (X.wish E) tg e (tI T X G E f)
section
variable {T:Tb} {X:Cx} {tg iter e a b:Expr} {body:List Stmt} {pos p:Pos} {fb:Ro->Fl} {fl fm:Ro->Out (List D)} {fe fa fc:Ev}
theorem q0Q {g:Ro->D->Out Ro} (hc:X.calm=true) (hi:DI T X tg iter fl) (hg:TgD T X tg g) (hb:DSs T false X body fb)
 (hs:∀x,foldedSetIterable iter X.env x=pure x:=by intro _;rfl):DS T false X (.For tg iter body [] pos) (q2L fl g fb):=.mk λG E hp=>by
 obtain ⟨tgr,hpg,hgr⟩:=hg E
 refine PS.imp (j7D (X:=X.wish E) hp hc (hi.run G E hp) hpg (hb.run G E hp) hs) λDD σ H ⟨ρ,fr,h⟩=>⟨ρ,fr,Acc.mono (AccS.fl fr h) λds _ hd J H1 s1 wk=>?_⟩
 refine ⟨λi m σ' H'=>m=ds.length-i/\i<=ds.length/\∃ρ',FR T X.K G H' σ' ρ'/\Pers T false H1 H'/\AccS T false X G E H' (q2E (q0x g fb) (ds.drop i) ρ') DD,⟨ds.length,rfl,Nat.zero_le _,ρ,fr.mono s1,Pers.refl _,AccS.heap (Pers.of s1) hd⟩,?_⟩
 rintro i m σ' H' ⟨rfl,hi,ρ',fr',p',ha⟩
 obtain ⟨w1,w2⟩:=wk i H' p' fr'.same
 by_cases hlt:i < ds.length
 ·obtain ⟨d,e1⟩:∃d,ds[i]?=some d:=⟨ds[i],by simp [hlt]⟩
  obtain ⟨go,yl⟩:=w1 d e1
  refine .inr ⟨go,fun σ2 H2=>∃ρ2,FR T X.K G H2 σ2 ρ2/\Pers T false H1 H2/\AccS T false X G E H2 (q2E (q0x g fb) (ds.drop (i+1)) ρ2) DD,fun σ2 H2 q=>⟨ds.length-(i+1),by omega,rfl,hlt,q⟩,λx H2 y=>?_⟩
  obtain ⟨s2,rd⟩:=yl x H2 y
  have e2:ds.drop i=d::ds.drop (i+1):=by
   obtain ⟨hi',e3⟩:=List.getElem?_eq_some_iff.mp e1
   rw [List.drop_eq_getElem_cons hi',e3]
  rw [e2] at ha
  exact j1k (ib:=false) hgr (λ_ _ _ q=>q) (fr'.mono s2) rd (AccS.heap (Pers.of s2) ha) fun ρ2 σ2 H3 fr2 p2 h2=>⟨ρ2,fr2,(p'.trans (Pers.of s2)).trans p2,h2⟩
 ·have e:i=ds.length:=by omega
  subst e
  rw [List.drop_length] at ha
  exact .inl ⟨w2 (Nat.le_refl _),ha σ' H' fr' (Pers.refl _)⟩
theorem q9d {G H1:Hp} {E:Value->Shared->Prop} {l:Addr} {vs:List V} {ds:List D} (st:Stb X.K G H1 l vs) (r:RepL T X.K H1 ds vs):Walk T X.K G (Itl X.K l) ds H1:=λi H p sm=>by
 have st':Stb X.K G H l vs:=st.pers p
 have sq:=st'.sq sm
 have r':=RepL.pers p _ _ r
 refine ⟨λd e=>?_,λh=>⟨vs,sq,by rw [RepL.length _ _ r'];exact h⟩⟩
 obtain ⟨v,e1,rd⟩:=RepL.get _ _ _ _ r' e
 refine ⟨⟨vs,v,sq,e1⟩,λx H2 ⟨e2,y⟩=>?_⟩
 subst e2
 have:=y vs sq
 rw [e1] at this;cases this
 exact ⟨Same.refl _,rd⟩
theorem q09 (hl:DP T X iter fl):DI T X tg iter fl:=.mk λG E hp=>
 PI.imp (j4a (hl.run G E hp)) fun σ H R ⟨ρ,fr,h⟩=>⟨ρ,fr,Acc.mono h λds _ hd l vs H1 s1 st r=>
  ⟨l,rfl,⟨vs,st.sq (fr.same.trans s1)⟩,hd _ H1 s1 (q9d (E:=E) st r)⟩⟩
@[simp] noncomputable def D.toT:D->Out (List D)
 | .tup ds=>.ok ds
 | _=>.bad
@[simp] noncomputable def q63 (f:Ev) (ρ:Ro):Out (List D):=(f ρ).bind D.toT
theorem q6d {K:PySem.W.Frag} {H H':Hp} {l:Addr} {vs:List V} (p:Pers T false H H') (h:SqT K H l vs):SqT K H' l vs:=by
 rcases h with (r2 | ⟨o,r2⟩) | r2
 ·exact .inl (.inl (p _ _ r2 rfl))
 ·exact .inl (.inr ⟨o,p _ _ r2 rfl⟩)
 ·exact .inr r2
theorem j0e (hl:DE T X iter fe):DI T X tg iter (q63 fe):=.mk λG E hp=>
 PI.imp (j6K (hl.run G E hp)) fun σ H R ⟨ρ,fr,h⟩=>⟨ρ,fr,Acc.mono (Acc.bind h) λd _ hd v H1 s1 r=>by
  cases d with
  | tup ds=>
   obtain ⟨l,vs,rfl,sq,rl⟩:=r
   refine ⟨l,rfl,⟨vs,sq⟩,hd _ H1 s1 λi H2 p sm=>?_⟩
   have sq':=q6d p sq
   have r':=RepL.pers p _ _ rl
   refine ⟨λd e=>?_,λh=>⟨vs,sq',by rw [RepL.length _ _ r'];exact h⟩⟩
   obtain ⟨v,e1,rd⟩:=RepL.get _ _ _ _ r' e
   refine ⟨⟨vs,v,sq',e1⟩,λx H3 ⟨e2,y⟩=>?_⟩
   subst e2
   have:=y vs sq'
   rw [e1] at this;cases this
   exact ⟨Same.refl _,rd⟩
  | _=>exact hd.elim⟩
noncomputable def rgS (lo step:Int) (n:Nat):List D:=(List.range n).map λ(k:Nat)=>D.int (lo+(k:Int)*step)
noncomputable def Its (lo step:Int) (n:Nat):It:=⟨λi _=>i < n,λi H x H'=>H'=H/\x=.int (lo+i*step),λi _=>n<=i⟩
theorem q5C {P:Program} {w:World} {K:PySem.W.Frag} {tg:Expr} (it:Addr) (lo step:Int) (n:Nat):Turn P w K tg (Its lo step n) [it] it (λi h=>IsRangeIter h it (lo+(i:Nat)*step) ((n:Int)-(i:Nat)) step) where
 mem:=by simp
 obj:=λi h st b hb=>by
  have e:b=it:=by simpa using hb
  subst e
  exact ⟨_,st,λv z=>by
   have z':Data.fields _=Data.cell v:=z
   cases z'⟩
 keep:=λi h h' st k=>k it (by simp) _ st
 item:=by
  intro X hP hw hK hc i pins s σ H E I hf st hg
  subst hP hw hK
  obtain ⟨f0,f1,f2,f3,f4,f5⟩:=hf it (by simp)
  have W:=Walks.range (prog:=X.prog) (w:=X.w) (I.ok.hd hc) it lo step n
  refine W.item i s _ _ hg st λv h' tk hv st' kk=>?_
  obtain ⟨t,rfl⟩:=hv
  have I1:Inv X pins σ H { s with heap:=h',toks:=tk }:=I.turned (λb o hb e=>kk b o (by simpa using hb) e) f0 f1 f3 f4 f5
  exact ⟨_,rfl,q70 (s:={ s with heap:=h',toks:=tk }) (n:="range_iterator") st' rfl rfl (by decide) ⟨.int (lo+i*step),H,I1,⟨t,rfl⟩,⟨rfl,rfl⟩,st',λb hb=>(hf b hb).1⟩⟩
 done:=by
  intro X hP hw hK hc i pins s σ H E I hf st hg
  subst hP hw hK
  obtain ⟨f0,f1,f2,f3,f4,f5⟩:=hf it (by simp)
  exact wpAny_pyNext_range_end (I.ok.hd hc) st (by have:n<=i:=hg;omega) λh' eb=>⟨rfl,I.turned (t':=s.toks) (λb o hb e=>eb b o hb e) f0 f1 f3 f4 f5⟩
 self:=λ_ _ _ _ _ st h=>wpAny_pyIter_rangeiter st h
theorem q3x {lo hi step:Int} (h1:-(2 ^ 40)<=lo) (h2:lo < 2 ^ 40) (h3:-(2 ^ 40)<=hi) (h4:hi < 2 ^ 40) (hs:step≠0):0<=Builtin.Range.rangeSize lo hi step/\Builtin.Range.rangeSize lo hi step < 2 ^ 42:=by
 have key:∀(u c:Int),0<=u->0 < c->0<=u / c/\u / c<=u:=λu c hu hc=>⟨Int.ediv_nonneg hu (by omega),Int.ediv_le_self _ hu⟩
 unfold Builtin.Range.rangeSize
 split
 ·split
  ·obtain ⟨k1,k2⟩:=key (hi-lo-1) step (by omega) (by omega)
   omega
  ·omega
 ·split
  ·obtain ⟨k1,k2⟩:=key (lo-hi-1) (-step) (by omega) (by omega)
   omega
  ·omega
theorem j0F {lo hi step:Int} (h1:-(2 ^ 40)<=lo) (h2:lo < 2 ^ 40) (h3:-(2 ^ 40)<=hi) (h4:hi < 2 ^ 40) (h5:-(2 ^ 40)<=step) (h6:step < 2 ^ 40) (hs:step≠0):Builtin.Range.small lo hi step=true:=by
 obtain ⟨k1,k2⟩:=q3x h1 h2 h3 h4 hs
 unfold Builtin.Range.small
 simp only [Builtin.Range.rangeFitsLong,Bool.and_eq_true,Bool.or_eq_true,decide_eq_true_eq,beq_iff_eq]
 refine ⟨⟨⟨⟨by omega,by omega⟩,by omega⟩,by omega⟩,.inr ?_⟩
 split<;>simp only [Builtin.Range.rangeFitsLong,Bool.and_eq_true,decide_eq_true_eq]<;>omega
theorem q9U {pins:List (Addr×Obj)} {σ:L2.St} {H:Hp} {s:Shared} {R:It->Hp->Prop} {E:Value->Shared->Prop} {lo hi step:Int} {t u v:Tok} {tk:Nat} (I:Inv X pins σ H s) (h1:-(2 ^ 40)<=lo) (h2:lo < 2 ^ 40) (h3:-(2 ^ 40)<=hi) (h4:hi < 2 ^ 40) (h5:-(2 ^ 40)<=step) (h6:step < 2 ^ 40) (hs:step≠0)
 (q:R (Its lo step (Builtin.Range.rangeSize lo hi step).toNat) H):wpAny (model X.prog X.w) X.A (pyIter (.ref s.heap.objs.size)) (PIE X pins σ tg R) E { s with heap:=s.heap.push { cls:=.type "range",data:=.fields #[.int lo t,.int hi u,.int step v] },toks:=tk }:=by
 refine wpAny_pyIter_range (IsRange.new ..) (j0F h1 h2 h3 h4 h5 h6 hs) ?_
 obtain ⟨k1,k2⟩:=q3x h1 h2 h3 h4 hs
 have I1:Inv X pins σ H { s with heap:=s.heap.push { cls:=.type "range",data:=.fields #[.int lo t,.int hi u,.int step v] },toks:=tk }:=I.kept λb o e=>Heap.get?_push_of_some _ e
 refine ⟨(s.heap.push { cls:=.type "range",data:=.fields #[.int lo t,.int hi u,.int step v] }).objs.size,[(s.heap.push { cls:=.type "range",data:=.fields #[.int lo t,.int hi u,.int step v] }).objs.size],_,_,H,rfl,
  I1.kept (t':=tk) λb o e=>Heap.get?_push_of_some _ e,q5C _ lo step (Builtin.Range.rangeSize lo hi step).toNat,?_,λb hb=>?_,q⟩
 ·have e1:lo+((0:Nat):Int)*step=lo:=by simp
  have e2:(((Builtin.Range.rangeSize lo hi step).toNat:Nat):Int)-((0:Nat):Int)=Builtin.Range.rangeSize lo hi step:=by omega
  show IsRangeIter _ _ (lo+((0:Nat):Int)*step) ((((Builtin.Range.rangeSize lo hi step).toNat:Nat):Int)-((0:Nat):Int)) step
  rw [e1,e2]
  exact Heap.get?_push_size _ rfl
 ·have e:b=(s.heap.push { cls:=.type "range",data:=.fields #[.int lo t,.int hi u,.int step v] }).objs.size:=by simpa using hb
  subst e
  exact I1.fpOk (Nat.le_refl _) (I1.hok.fresh (Nat.le_refl _))
theorem q7g {G H1:Hp} {lo step:Int} {n:Nat}:Walk T X.K G (Its lo step n) (rgS lo step n) H1:=λi H p sm=>by
 refine ⟨λd e=>?_,λh=>by show n<=i;simpa [rgS] using h⟩
 have hi:i < n:=by
  have:=(List.getElem?_eq_some_iff.mp e).1
  simpa [rgS] using this
 have ed:d=.int (lo+(i:Int)*step):=by
  rw [rgS,List.getElem?_map,List.getElem?_range hi] at e
  exact (Option.some.inj e).symm
 subst ed
 refine ⟨hi,λx H2 ⟨e2,y⟩=>?_⟩
 subst e2 y
 exact ⟨Same.refl _,rfl⟩
theorem q5v {G H1:Hp} {lo:Int} {n:Nat}:Walk T X.K G (Itr lo n) (rgD lo n) H1:=λi H p sm=>by
 refine ⟨λd e=>?_,λh=>by show n<=i;simpa [rgD] using h⟩
 have hi:i < n:=by
  have:=(List.getElem?_eq_some_iff.mp e).1
  simpa [rgD] using this
 have ed:d=.int (lo+(i:Int)):=by
  rw [rgD,List.getElem?_map,List.getElem?_range hi] at e
  exact (Option.some.inj e).symm
 subst ed
 refine ⟨hi,λx H2 ⟨e2,y⟩=>?_⟩
 subst e2 y
 exact ⟨Same.refl _,rfl⟩
@[simp] noncomputable def q3p (fn:Ro->Out (Int×Nat)) (ρ:Ro):Out (List D):=(fn ρ).bind λp=>.ok (rgD p.1 p.2)
theorem q1t {fn:Ro->Out (Int×Nat)} (hn:DN T X tg iter fn):DI T X tg iter (q3p fn):=.mk λG E hp=>
 PI.imp (hn.run G E hp) fun σ H R ⟨ρ,fr,h⟩=>⟨ρ,fr,Acc.mono (Acc.bind h) λp _ hd H1 s1=>hd _ H1 s1 q5v⟩
noncomputable def q4u (i j k:Int):Bool:=decide (-(2 ^ 40)<=i) && decide (i < 2 ^ 40) && decide (-(2 ^ 40)<=j) && decide (j < 2 ^ 40) && decide (-(2 ^ 20)<=k) && decide (k < 2 ^ 20) && decide (k≠0)
@[simp] noncomputable def j0G (fa fb fc:Ev) (ρ:Ro):Out (List D):=(fa ρ).bind λd=>(fb ρ).bind λd'=>(fc ρ).bind λd''=>match d,d',d'' with
 | .int i,.int j,.int k=>if q4u i j k=true then .ok (rgS i k (Builtin.Range.rangeSize i j k).toNat) else .bad
 | _,_,_=>.bad
theorem j3T {c:Expr} (hg:Gl X "range") (hm:X.mg "range" = none) (ha:DE T X a fa) (hb:DE T X b fe) (hc:DE T X c fc) (hs:starEach [a,b,c] X.env=(false,eval a X.env)::starEach [b,c] X.env:=by exact q0D rfl) (hs2:starEach [b,c] X.env=(false,eval b X.env)::starEach [c] X.env:=by exact q0D rfl) (hs3:starEach [c] X.env=(false,eval c X.env)::starEach [] X.env:=by exact q0D rfl)
 (hpl:(backTo pos (starEach [b,c] X.env)).any (·.1)=false:=by exact q0H rfl):DI T X tg (.Call (.Name "range" p) [a,b,c] [] pos) (j0G fa fe fc):=.mk λG E hp=>by
 rintro pins s σ H R I ⟨ρ,fr,h⟩
 refine Call_ (q2v (X:=X.wish E) I hg hm boot_range (PyProof.Rows.callWith_type1 (thn ((q0O (X:=X.wish E) (ha.run G E hp) (q0O (X:=X.wish E) (hb.run G E hp) (q0O (X:=X.wish E) (hc.run G E hp) q1p hs3) hs2) hs) pos pins s σ H (λvs H1=>∃i j k,vs=[.int i,.int j,.int k]/\q4u i j k=true/\R (Its i k (Builtin.Range.rangeSize i j k).toNat) H1) I ⟨ρ,fr,?_⟩) λus s1 ⟨vs,H1,I1,r1,i,j,k,e,ok,q⟩=>?_) hs hpl))
 ·refine Acc.mono (Acc.bind h) λd _ hd v H1 s1 r=>⟨ρ,fr.mono s1,Acc.mono (Acc.bind (Acc.heap s1 hd)) λd' _ hd' v' H2 s2 r'=>⟨ρ,(fr.mono s1).mono s2,Acc.mono (Acc.bind (Acc.heap s2 hd')) λd'' _ hd'' v'' H3 s3 r''=>?_⟩⟩
  cases d with
  | int i=>
   cases d' with
   | int j=>
    cases d'' with
    | int k=>
     have hd2:Acc T X E σ H2 (if q4u i j k=true then Out.ok (rgS i k (Builtin.Range.rangeSize i j k).toNat) else .bad) (λds=>∀J H',Same H H'->Walk T X.K G J ds H'->R J H'):=hd''
     by_cases z:q4u i j k=true
     ·rw [if_pos z] at hd2
      exact ⟨i,j,k,by rw [show v=V.int i from r,show v'=V.int j from r',show v''=V.int k from r''],z,hd2 _ H3 ((s1.trans s2).trans s3) q7g⟩
     ·rw [if_neg z] at hd2;exact hd2.elim
    | _=>exact hd''.elim
   | _=>first | exact hd''.elim | (cases d''<;>exact hd''.elim)
  | _=>first | exact hd''.elim | (cases d'<;>first | exact hd''.elim | (cases d''<;>exact hd''.elim))
 ·subst e
  cases r1 with
  | cons r rr=>
   cases rr with
   | cons r' rr=>
    cases rr with
    | cons r'' rr=>
     cases rr
     obtain ⟨t,rfl⟩:=r
     obtain ⟨t',rfl⟩:=r'
     obtain ⟨t'',rfl⟩:=r''
     simp only [q4u,Bool.and_eq_true,decide_eq_true_eq] at ok
     obtain ⟨⟨⟨⟨⟨⟨o1,o2⟩,o3⟩,o4⟩,o5⟩,o6⟩,o7⟩:=ok
     exact call_range_3 o7 (q9U (X:=X.wish E) I1 o1 o2 o3 o4 (by omega) (by omega) o7 q) (.inl (PyProof.noPylong_small (by omega)))
end
section
variable {T:Tb} {K:PySem.W.Frag} {G H:Hp} {σ:L2.St} {ρ:Ro}
theorem q2y {b:Bool} {a:Addr} {vs ws:List V} (h:H a=some (.lst vs)):Pers T b H (upd H a (.lst ws)):=λc o e st=>by
 rw [q0j (λz=>by rw [z,h] at e;cases e;cases st)];exact e
theorem FR.own_upd {i:Nat} {ds es:List D} {a:Addr} {vs ws:List V} (fr:FR T K G H σ ρ) (e:ρ[i]?=some (.ow ds)) (e1:σ[i]?=some (some (.ref a))) (e2:H a=some (.lst vs)) (e3:G a=none) (r:RepL T K H es ws) :
 FR T K G (upd H a (.lst ws)) σ (ρ.set i (.ow es)):=by
 have p:Pers T false H (upd H a (.lst ws)):=q2y e2
 have hl:i < ρ.length:=(List.getElem?_eq_some_iff.mp e).1
 have lt:∀{m:Nat} {z:Sl},(ρ.set i (.ow es))[m]?=some z->(m=i/\z=.ow es)∨(m≠i/\ρ[m]?=some z):=λ{m z} q=>by
  by_cases hm:m=i
  ·subst hm
   rw [List.getElem?_set_self hl] at q
   exact .inl ⟨rfl,(Option.some.inj q).symm⟩
  ·rw [List.getElem?_set_ne (Ne.symm hm)] at q;exact .inr ⟨hm,q⟩
 refine ⟨λb u q=>?_,by simp [fr.len],λj s q=>?_,λj k s1 s2 b hjk q1 q2 o1 o2=>?_,fr.me,q37 (λ_ _ z=>by cases z) fr.me0⟩
 ·rw [q0j (λz=>by rw [z,e3] at q;cases q)];exact fr.same b u q
 ·rcases lt q with ⟨rfl,rfl⟩ | ⟨hj,q⟩
  ·exact ⟨a,ws,e1,q0w,e3,RepL.pers p _ _ r⟩
  ·have h:=fr.sl j s q
   exact SlOk.off e2 (λ_ _=>RepL.pers p _ _) (λo1=>fr.ne j i _ _ a hj q e o1 e1) h
 ·have bk:∀(c:Addr) (u:HO),H c=some u->(∀xs,u≠.lst xs)->(∀x dx fs,u≠.ins x dx fs)->upd H a (.lst ws) c=some u:=λc u w n _=>by
   rw [q0j (λy=>by subst y;rw [e2] at w;cases w;exact n _ rfl)];exact w
  have own:∀(m:Nat) (z:Sl),(ρ.set i (.ow es))[m]?=some z->q41 (upd H a (.lst ws)) σ[m]? b z->∃z',ρ[m]?=some z'/\q41 H σ[m]? b z':=λm z q o=>by
   rcases lt q with ⟨rfl,rfl⟩ | ⟨_,q⟩
   ·exact ⟨_,e,o⟩
   ·exact ⟨_,q,(fr.sl m z q).back bk o⟩
  obtain ⟨_,p1,w1⟩:=own j _ q1 o1
  obtain ⟨_,p2,w2⟩:=own k _ q2 o2
  exact fr.ne j k _ _ b hjk p1 p2 w1 w2
end
section
variable {T:Tb} {ib:Bool} {X:Cx} {e e' o a b:Expr} {pos p p2 p3:Pos} {fe fa fb:Ev} {fl fm:Ro->Out (List D)} {x:Str}
@[simp] noncomputable def q7D (i:Nat) (fe:Ev) (ρ:Ro):Fl:=match ρ[i]? with
 | some (.ow ds)=>(fe ρ).fl ρ λd=>if ds.length < 1000000 then .nx (ρ.set i (.ow (ds++[d]))) else .bad
 | _=>.bad
theorem q2k (i:Nat) (he:DE T X e fe) (hN:X.N[i]?=some x:=by rfl) (hv:Vis X.env.scope x:=by walk_at "v0") (hd:(x==("__debug__" : Str))=false:=by decide)
 (hcd:(x==("__classdict__" : Str))=false:=by decide) (hs:starEach [e] X.env=(false,eval e X.env)::starEach [] X.env:=by exact q0D rfl) (hpl:(backTo p3 (starEach ([]:List Expr) X.env)).any (·.1)=false:=by exact q0H rfl) (hst:([e]:List Expr).all q2G=true:=by rfl)
 (hline:(p2.endLine==p3.line)=true:=by rfl) :
 DS T ib X (.Expr (.Call (.Attribute (.Name x p) "append" p2) [e] [] p3) pos) (q7D i fe):=.mk λG E hp=>
 PS.imp (q8b (X:=X.wish E) (j4G (X:=X.wish E) PySem.F.plainAttrs_list PySem.F.slot_list_append PySem.F.type_list_append q4E (q2i (X:=X.wish E) hN hv hd hcd) (q0O (X:=X.wish E) (he.run G E hp) q1p hs) rfl (j0g hst rfl) hline hs hpl) (q2f rfl)) λD σ H ⟨ρ,fr,h⟩=>by
  unfold q7D at h
  split at h
  ·rename_i ds e0
   obtain ⟨l,vs,e1,e2,e3,r⟩:=fr.sl i _ e0
   refine ⟨_,e1,.inl ⟨rfl,vs,SqL.of e2⟩,ρ,fr,Acc.mono (AccS.fl fr h) λd _ hd v H1 s1 r1=>?_⟩
   by_cases z:ds.length < 1000000
   ·rw [if_pos z] at hd
    have r':=RepL.mono s1 _ _ r
    refine ⟨l,vs,v,rfl,rfl,s1 _ _ e2,?_,hd σ _ ((fr.mono s1).own_upd e0 e1 (s1 _ _ e2) e3 (RepL.append _ _ _ _ r' ⟨v,[],rfl,r1,rfl⟩)) ((Pers.of s1).trans (q2y (s1 _ _ e2)))⟩
    rw [RepL.length _ _ r]
    have:=line6 (n:=1000000) (by omega)
    omega
   ·rw [if_neg z] at hd;exact hd.elim
  ·exact h.elim
theorem j4D {t e:Expr} {n:Nat} {env:Env} (h:q94 e=true):swapsWithSole [t] e n env=pure false:=by
 rw [swapsWithSole];exact q2f h
@[simp] noncomputable def j0T (ds:List D) (k:Int) (d:D):Option (List D):=(ixN ds.length k).map λj=>ds.set j d
@[simp] noncomputable def q8D (i:Nat) (fb fe:Ev) (ρ:Ro):Fl:=(fe ρ).fl ρ λd=>match ρ[i]? with
 | some (.ow ds)=>(fb ρ).fl ρ λk=>(match k with
  | .int k=>(match j0T ds k d with | some ds'=>.nx (ρ.set i (.ow ds')) | none=>.bad)
  | _=>.bad)
 | _=>.bad
theorem q5c (i:Nat) (he:DE T X e fe) (hb:DE T X b fb) (hN:X.N[i]?=some x:=by rfl) (hv:Vis X.env.scope x:=by walk_at "v0") (hd:(x==("__debug__" : Str))=false:=by decide)
 (hcd:(x==("__classdict__" : Str))=false:=by decide) (hs:swapsWithSole [.Subscript (.Name x p) b p2] e pos.line X.env=pure false:=by first | exact j4D rfl | rfl) (hw:swappedStores [.Subscript (.Name x p) b p2] e X.env=pure none:=by rfl)
 (ha:∀v,assign (.Subscript (.Name x p) b p2) X.env v=(do
  let ov <-holding [v] (eval (.Name x p) X.env)
  let iv <-holding [v,ov] (eval b X.env)
  standAt p2
  holding [v,ov,iv] (setItem ov iv v)
  release [v,ov,iv] []):=by intro _;rfl) :
 DS T ib X (.Assign [.Subscript (.Name x p) b p2] e pos) (q8D i fb fe):=.mk λG E hp=>
 PS.imp (j2e (X:=X.wish E) (he.run G E hp) (j5R (X:=X.wish E) (q2i (X:=X.wish E) hN hv hd hcd) (hb.run G E hp) q55 ha) hs hw rfl) λD σ H ⟨ρ,fr,h⟩=>by
  refine ⟨ρ,fr,Acc.mono (AccS.fl fr h) λd _ hd v H1 s1 r1=>?_⟩
  have fr1:=fr.mono s1
  split at hd
  ·rename_i ds e0
   obtain ⟨l,vs,e1,e2,e3,r⟩:=fr1.sl i _ e0
   refine ⟨_,e1,ρ,fr1,Acc.mono (AccS.fl fr1 (AccS.heap (Pers.of s1) hd)) λk _ hk u H2 s2 r2=>?_⟩
   cases k with
   | int k=>
    have hk':AccS T ib X G E H1 (match j0T ds k d with | some ds'=>.nx (ρ.set i (.ow ds')) | none=>.bad) D:=hk
    unfold j0T at hk'
    have hl:=RepL.length _ _ r
    cases ej:ixN ds.length k with
    | none=>rw [ej] at hk';exact hk'.elim
    | some j=>
     rw [ej] at hk'
     have r3:=RepL.set _ _ j _ _ (RepL.mono s2 _ _ r) (Rep.mono s2 _ _ r1)
     exact ⟨l,vs,k,j,rfl,r2,s2 _ _ e2,by rw [hl];exact ej,hk' σ _ ((fr1.mono s2).own_upd e0 e1 (s2 _ _ e2) e3 r3) ((Pers.of s2).trans (q2y (s2 _ _ e2)))⟩
   | _=>exact hk.elim
  ·exact hd.elim
noncomputable def tOI (T:Tb) (X:Cx) (G:Hp) (E:Value->Shared->Prop) (f:Ro->Out (Option Int)):TO:=fun σ H Q=>∃ρ,FR T X.K G H σ ρ/\Acc T X E σ H (f ρ) (λo=>∀H',Same H H'->Q o H')
structure DO (T:Tb) (X:Cx) (e:Option Expr) (f:Ro->Out (Option Int)):Prop where
 mk ::
 run:∀(G:Hp) (E:Value->Shared->Prop),PassesOwn (model X.prog X.w) X.A X.env E->PO (X.wish E) e (tOI T X G E f)
theorem PO.imp {X:Cx} {e:Option Expr} {t t':TO} (h:PO X e t) (k:∀σ H Q,t' σ H Q->t σ H Q):PO X e t':=λpins s σ H Q I q=>h pins s σ H Q I (k σ H Q q)
@[simp] noncomputable def oNo (ρ:Ro):Out (Option Int):=.ok none
@[simp] noncomputable def oSo (fe:Ev) (ρ:Ro):Out (Option Int):=(fe ρ).bind λd=>match d with
 | .int i=>.ok (some i)
 | _=>.bad
theorem q8L:DO T X none oNo:=.mk λG E hp=>PO.imp j5r fun σ H Q ⟨ρ,fr,h⟩=>h H (Same.refl H)
theorem q7I (he:DE T X e fe):DO T X (some e) (oSo fe):=.mk λG E hp=>PO.imp (j4f (he.run G E hp)) fun σ H Q ⟨ρ,fr,h⟩=>⟨ρ,fr,Acc.mono (Acc.bind h) λd _ hd v H1 s1 r=>by
 cases d with
 | int i=>exact ⟨i,r,hd H1 s1⟩
 | _=>exact hd.elim⟩
theorem j5m:OpR X (binaryOp .Add) (λx y H Q=>∃l m xs zs,x=.ref l/\y=.ref m/\SqL X.K H l xs/\SqL X.K H m zs/\xs.length+zs.length<=sizeLine/\∀p,H p=none->Q (.ref p) (upd H p (.lst (xs++zs)))):=by
 intro pins s σ H x y v u Q I rx ry h
 obtain ⟨l,m,xs,zs,rfl,rfl,hH,hB,hz,q⟩:=h
 cases rx
 cases ry
 obtain ⟨its,r,pl,z1⟩:=I.list hH
 obtain ⟨its2,r2,pl2,z2⟩:=I.list hB
 have l1:=r.length
 have l2:=r2.length
 obtain ⟨⟨cls,dd,data,sl⟩,ho,hc,n,hd⟩:=pl.isList
 obtain ⟨⟨cls2,dd2,data2,sl2⟩,ho2,hc2,n2,hd2⟩:=pl2.isList
 simp only at hc hd hc2 hd2
 subst hc hd hc2 hd2
 have ea:its.toArray++its2.toArray=(its++its2).toArray:=by simp
 refine concat_meets ⟨_,ho,rfl⟩ ⟨_,ho2,rfl⟩ noFill_list_add seq_list_add PySem.F.slot_list_add PySem.F.entry_list_add (PySem.F.args_list_add_2 _ _) (list_addW l m its.toArray its2.toArray n n2 dd dd2 sl sl2 (by rw [List.size_toArray,List.size_toArray];omega)) ⟨ho,ho2,?_⟩
 rw [ea]
 exact ⟨.ref _,_,I.lnew (t':=s.toks) (r.append r2) (by rw [List.length_append];omega),rfl,q _ I.fresh⟩
@[simp] noncomputable def w0f (fl fm:Ro->Out (List D)) (ρ:Ro):Out (List D):=(fl ρ).bind λds=>(fm ρ).bind λes=>if ds.length+es.length<=1000000 then .ok (ds++es) else .bad
theorem j3u (ha:DL T X a fl) (hb:DL T X b fm):DF T X (.BinOp a .Add b pos) (w0f fl fm):=.mk λG E hp=>
 PE.imp (j3V (X:=X.wish E) j5m (ha.run G E hp) (hb.run G E hp)) fun σ H Q ⟨ρ,fr,h⟩=>⟨ρ,fr,Acc.mono (Acc.bind h) λds _ hd l vs H1 s1 sq r=>⟨ρ,fr.mono s1,Acc.mono (Acc.bind (Acc.heap s1 hd)) λes _ hes m ws H2 s2 sq2 r2=>by
  by_cases z:ds.length+es.length<=1000000
  ·rw [if_pos z] at hes
   refine ⟨l,m,vs,ws,rfl,rfl,s2.seq sq,sq2,?_,λq hq=>hes q _ _ ((s1.trans s2).trans (q0F hq)) ((s1.trans s2).free hq) q0w (RepL.mono (q0F hq) _ _ (RepL.append _ _ _ _ (RepL.mono s2 _ _ r) r2))⟩
   rw [RepL.length _ _ r,RepL.length _ _ r2];exact line6 z
  ·rw [if_neg z] at hes;exact hes.elim⟩⟩
theorem RepL.rep {K:PySem.W.Frag} {H:Hp} {ds:List D} {vs:List V} (r:RepL T K H ds vs):∀k:Nat,RepL T K H (List.replicate k ds).flatten (List.replicate k vs).flatten
 | 0=>rfl
 | k+1=>by
  rw [List.replicate_succ,List.replicate_succ,List.flatten_cons,List.flatten_cons]
  exact RepL.append _ _ _ _ r (RepL.rep r k)
@[simp] noncomputable def j9T (fl:Ro->Out (List D)) (fb:Ev) (ρ:Ro):Out (List D):=(fl ρ).bind λds=>(fb ρ).bind λd=>match d with
 | .int k=>if -(2 ^ 40)<=k/\k<=1000000/\ds.length*k.toNat<=1000000 then .ok (List.replicate k.toNat ds).flatten else .bad
 | _=>.bad
theorem j3r (ha:DF T X a fl) (hb:DE T X b fb):DF T X (.BinOp a .Mult b pos) (j9T fl fb):=.mk λG E hp=>
 PE.imp (j3V (X:=X.wish E) j7P (ha.run G E hp) (hb.run G E hp)) fun σ H Q ⟨ρ,fr,h⟩=>⟨ρ,fr,Acc.mono (Acc.bind h) λds _ hd l vs H1 s1 hl hl' r=>⟨ρ,fr.mono s1,Acc.mono (Acc.bind (Acc.heap s1 hd)) λd _ hes v H2 s2 r2=>by
  cases d with
  | int k=>
   have hes':Acc T X E σ H1 (if -(2 ^ 40)<=k/\k<=1000000/\ds.length*k.toNat<=1000000 then .ok (List.replicate k.toNat ds).flatten else .bad) _:=hes
   by_cases z:-(2 ^ 40)<=k/\k<=1000000/\ds.length*k.toNat<=1000000
   ·rw [if_pos z] at hes'
    refine ⟨l,k,vs,rfl,r2,s2 _ _ hl',by omega,by omega,?_,λq hq=>hes' q _ _ ((s1.trans s2).trans (q0F hq)) ((s1.trans s2).free hq) q0w (RepL.mono (q0F hq) _ _ (RepL.rep (RepL.mono s2 _ _ r) _))⟩
    rw [RepL.length _ _ r];exact line6 z.2.2
   ·rw [if_neg z] at hes';exact hes'.elim
  | _=>exact hes.elim⟩⟩
@[simp] noncomputable def q5Q (fl:Ro->Out (List D)) (ρ:Ro):Out (List D):=fl ρ
theorem q36 (hg:Gl X "list") (hm:X.mg "list" = none) (hl:DL T X e fl) (hs:starEach [e] X.env=(false,eval e X.env)::starEach [] X.env:=by exact q0D rfl) (hpl:(backTo pos (starEach ([]:List Expr) X.env)).any (·.1)=false:=by exact q0H rfl):DF T X (.Call (.Name "list" p) [e] [] pos) (q5Q fl):=.mk λG E hp=>
 PE.imp (q11 (X:=X.wish E) q2K hg hm rfl (q0O (X:=X.wish E) (hl.run G E hp) q1p hs) (by decide) (by decide) hs hpl) fun σ H Q ⟨ρ,fr,h⟩=>⟨ρ,fr,Acc.mono h λds _ hd l vs H1 s1 sq r=>
  ⟨l,vs,rfl,.inl sq,λq hq=>hd q _ _ (s1.trans (q0F hq)) (s1.free hq) q0w (RepL.mono (q0F hq) _ _ r)⟩⟩
theorem j1N (hg:Gl X "list") (hm:X.mg "list" = none) (hl:DE T X e fe) (hs:starEach [e] X.env=(false,eval e X.env)::starEach [] X.env:=by exact q0D rfl) (hpl:(backTo pos (starEach ([]:List Expr) X.env)).any (·.1)=false:=by exact q0H rfl):DF T X (.Call (.Name "list" p) [e] [] pos) (q63 fe):=.mk λG E hp=>
 PE.imp (q11 (X:=X.wish E) q2K hg hm rfl (q0O (X:=X.wish E) (hl.run G E hp) q1p hs) (by decide) (by decide) hs hpl) fun σ H Q ⟨ρ,fr,h⟩=>⟨ρ,fr,Acc.mono (Acc.bind h) λd _ hd v H1 s1 r=>by
  cases d with
  | tup ds=>
   obtain ⟨l,vs,rfl,sq,rl⟩:=r
   exact ⟨l,vs,rfl,.inr sq,λq hq=>hd q _ _ (s1.trans (q0F hq)) (s1.free hq) q0w (RepL.mono (q0F hq) _ _ rl)⟩
  | _=>exact hd.elim⟩
@[simp] noncomputable def q4Q (fl:Ro->Out (List D)) (ρ:Ro):Out D:=(fl ρ).bind λds=>.ok (.tup ds)
theorem q3D (hg:Gl X "tuple") (hm:X.mg "tuple" = none) (hl:DL T X e fl) (hs:starEach [e] X.env=(false,eval e X.env)::starEach [] X.env:=by exact q0D rfl) (hpl:(backTo pos (starEach ([]:List Expr) X.env)).any (·.1)=false:=by exact q0H rfl):DE T X (.Call (.Name "tuple" p) [e] [] pos) (q4Q fl):=.mk λG E hp=>
 PE.imp (q11 (X:=X.wish E) q3I hg hm rfl (q0O (X:=X.wish E) (hl.run G E hp) q1p hs) (by decide) (by decide) hs hpl) fun σ H Q ⟨ρ,fr,h⟩=>⟨ρ,fr,Acc.mono (Acc.bind h) λds _ hd l vs H1 s1 sq r=>
  ⟨l,vs,rfl,.inl ⟨sq,λq hq=>hd _ _ (s1.trans (q0F hq)) ⟨q,vs,rfl,SqT.of q0w,RepL.mono (q0F hq) _ _ r⟩⟩⟩⟩
end
section
variable {T:Tb} {X:Cx} {tg e a b:Expr} {pos p:Pos} {fl fm:Ro->Out (List D)}
end
noncomputable def Itz (K:PySem.W.Frag) (a b:Addr):It:=⟨λi H=>∃xs ys x y,SqL K H a xs/\SqL K H b ys/\xs[i]?=some x/\ys[i]?=some y,
 λi H v H'=>∃x y p,(∀xs,SqL K H a xs->xs[i]?=some x)/\(∀ys,SqL K H b ys->ys[i]?=some y)/\v=.ref p/\H p=none/\H'=upd H p (.tup [x,y]),
 λi H=>∃xs ys,SqL K H a xs/\SqL K H b ys/\(xs[i]?=none∨ys[i]?=none)⟩
theorem j0P {P:Program} {w:World} {K:PySem.W.Frag} {elts:List Expr} {x1:Nat} {tp:Pos} (a b z TI TO i1 i2:Addr) (D:ZipApart z TI TO i1 i2 a b) :
 Turn P w K (.Tuple elts x1 tp) (Itz K a b) [z,TI,TO,i1,i2] z (λi h=>IsZip h z TI TO .none/\IsPair h TI (.ref i1) (.ref i2)/\(∃u v,IsPair h TO u v)/\h.IsListIter i1 a i/\h.IsListIter i2 b i) where
 mem:=by simp
 obj:=λi h st c hc=>by
  obtain ⟨s1,s2,⟨u,v,s3⟩,s4,s5⟩:=st
  simp only [List.mem_cons,List.not_mem_nil,or_false] at hc
  rcases hc with rfl | rfl | rfl | rfl | rfl
  ·exact ⟨_,s1,λv z=>by have z':Data.fields _=Data.cell v:=z;cases z'⟩
  ·exact ⟨_,s2,λv z=>by have z':Data.seq _ _=Data.cell v:=z;cases z'⟩
  ·exact ⟨_,s3,λv z=>by have z':Data.seq _ _=Data.cell v:=z;cases z'⟩
  ·obtain ⟨o,e,c,d⟩:=s4
   exact ⟨o,e,λv z=>by rw [d] at z;cases z⟩
  ·obtain ⟨o,e,c,d⟩:=s5
   exact ⟨o,e,λv z=>by rw [d] at z;cases z⟩
 keep:=λi h h' st k=>by
  obtain ⟨s1,s2,⟨u,v,s3⟩,s4,s5⟩:=st
  exact ⟨k z (by simp) _ s1,k TI (by simp) _ s2,⟨u,v,k TO (by simp) _ s3⟩,s4.at λo e=>k i1 (by simp) o e,s5.at λo e=>k i2 (by simp) o e⟩
 item:=by
  intro X hP hw hK hc i pins s σ H E I hf st hg
  subst hP hw hK
  obtain ⟨xs,ys,x,y,hqa,hqb,hx,hy⟩:=hg
  obtain ⟨t1,t2,⟨u0,v0,t3⟩,t4,t5⟩:=st
  obtain ⟨its,rv,pa,hza⟩:=I.list hqa
  obtain ⟨its2,rv2,pb,hzb⟩:=I.list hqb
  obtain ⟨u,hu,ru⟩:=rv.get hx
  obtain ⟨v,hv,rv'⟩:=rv2.get hy
  refine wpAny_pyNext_zip_item D t1 t2 t3 t4 t5 pa.isList pb.isList (x:=u) (y:=v) (by simpa using hu) (by simpa using hv) λh' a1 a2 a3 a4 a5 a6 a7=>⟨_,rfl,?_⟩
  refine wpAny_letOwnedTupleGo_zip (s:={ s with heap:=h' }) a1 λh'' b1 sb=>?_
  have inz:=hf z (by simp)
  have szz:s.heap.objs.size≠z:=λe=>absurd (Heap.lt_size t1) (by rw [<-e];exact Nat.lt_irrefl _)
  have kk:∀c o,c∉[z,TI,TO,i1,i2]->s.heap.get? c=some o->h''.get? c=some o:=λc o hcm e=>by
   simp only [List.mem_cons,List.not_mem_nil,or_false,not_or] at hcm
   exact (sb.2 c hcm.1).trans (a7 c o hcm.1 hcm.2.2.1 hcm.2.2.2.1 hcm.2.2.2.2 e)
  have hfresh:H s.heap.objs.size=none:=I.hok.fresh (Nat.le_refl _)
  have nfp:∀c u,H c=some u->c∉[z,TI,TO,i1,i2]:=λc u e hm=>by rw [(hf c hm).1] at e;cases e
  have nsz:∀c u,H c=some u->c≠s.heap.objs.size:=λc u e z=>by rw [z,hfresh] at e;cases e
  have tk:TI∈[z,TI,TO,i1,i2]:=by simp
  have p5:IsPair h'' s.heap.objs.size u v:=(sb.2 _ szz).trans a5
  have I1:Inv X pins σ (upd H s.heap.objs.size (.tup [x,y])) { s with heap:=h'' }:=by
   refine I.step (g':=s.gens) (d':=s.drawn) (t':=s.toks) (ch:=[z,TI,TO,i1,i2]) (λc hcm=>?_) (λc o _ _ hcm e _=>kk c o hcm e) (λc o _ _ hcm e _=>⟨o.slots,kk c o hcm e⟩) (λc o _ e n=>?_)
    (λc o hcm e=>⟨o,kk c o hcm e⟩) (λc xs e=>?_) (λc o w e=>?_) (λc ps e=>⟨#[],?_⟩) (λm hm=>?_) (λc w e=>?_) I.bare
   ·obtain ⟨f0,f1,f2,f3,f4,f5⟩:=hf c hcm
    exact ⟨f3,f1,f4,f5⟩
   ·rw [q0j (Nat.ne_of_lt (Heap.lt_size e))];exact n
   ·rw [q0j (nsz c _ e)];exact e
   ·rw [q0j (nsz c _ e)];exact e
   ·rw [q0j (nsz c _ e),e];simp
   ·obtain ⟨o,es,ep,ho,r⟩:=hm
    refine ⟨o,es,ep,kk _ o (λhm=>?_) ho,r⟩
    exact (hf _ hm).2.1 rfl
   ·by_cases hcz:c=s.heap.objs.size
    ·subst hcz
     rw [q0w] at e;cases e
     exact ⟨by show 2<=sizeLine;decide,[u,v],.cons ru (.cons rv' .nil),⟨_,p5,rfl,_,rfl⟩⟩
    ·rw [q0j hcz] at e
     refine (I.hok c w e).stay (λc' w' hc' q=>kk c' w' ?_ q) (λc' q=>?_) λc' xs q=>?_
     ·rcases hc' with hc' | hc'
      ·rw [hc'];exact nfp _ _ e
      ·exact nfp _ _ hc'
     ·rw [q0j (nsz c' _ q)];exact q
     ·rw [q0j (nsz c' _ q)];exact q
  refine ⟨.ref s.heap.objs.size,_,I1,rfl,⟨x,y,_,λws hw=>by rw [I.list_inj hw hqa];exact hx,λws hw=>by rw [I.list_inj hw hqb];exact hy,rfl,hfresh,rfl⟩,⟨b1,?_,⟨u,v,(sb.2 _ D.TOz).trans a2⟩,a3.at λo e=>(sb.2 _ D.i1z).trans e,a4.at λo e=>(sb.2 _ D.i2z).trans e⟩,λc hcm=>?_⟩
  ·exact (sb.2 _ D.TIz).trans (a7 TI _ D.TIz D.TITO D.TIi1 D.TIi2 t2)
  ·rw [q0j]
   ·exact (hf c hcm).1
   ·rintro rfl
    simp only [List.mem_cons,List.not_mem_nil,or_false] at hcm
    rcases hcm with e | e | e | e | e
    ·exact szz e
    ·exact absurd (Heap.lt_size t2) (by rw [<-e];exact Nat.lt_irrefl _)
    ·exact absurd (Heap.lt_size t3) (by rw [<-e];exact Nat.lt_irrefl _)
    ·obtain ⟨o,eo,_⟩:=t4
     exact absurd (Heap.lt_size eo) (by rw [<-e];exact Nat.lt_irrefl _)
    ·obtain ⟨o,eo,_⟩:=t5
     exact absurd (Heap.lt_size eo) (by rw [<-e];exact Nat.lt_irrefl _)
 done:=by
  intro X hP hw hK hc i pins s σ H E I hf st hg
  subst hP hw hK
  obtain ⟨xs,ys,hqa,hqb,hend⟩:=hg
  obtain ⟨t1,t2,⟨u0,v0,t3⟩,t4,t5⟩:=st
  obtain ⟨its,rv,pa,hza⟩:=I.list hqa
  obtain ⟨its2,rv2,pb,hzb⟩:=I.list hqb
  have l1:=rv.length
  have l2:=rv2.length
  refine wpAny_pyNext_zip_end (I.ok.hd hc) D t1 t2 t3 t4 t5 pa.isList pb.isList ?_ λh' a7=>⟨rfl,?_⟩
  ·rcases hend with hend | hend
   ·left
    rw [List.getElem?_eq_none_iff] at hend
    simp;omega
   ·right
    rw [List.getElem?_eq_none_iff] at hend
    simp;omega
  ·have kk:∀c o,c∉[z,TI,TO,i1,i2]->s.heap.get? c=some o->h'.get? c=some o:=λc o hcm e=>by
    simp only [List.mem_cons,List.not_mem_nil,or_false,not_or] at hcm
    exact a7 c o hcm.1 hcm.2.2.1 hcm.2.2.2.1 hcm.2.2.2.2 e
   have nfp:∀c u,H c=some u->c∉[z,TI,TO,i1,i2]:=λc u e hm=>by rw [(hf c hm).1] at e;cases e
   refine I.step (g':=s.gens) (d':=s.drawn) (t':=s.toks) (ch:=[z,TI,TO,i1,i2]) (λc hcm=>?_) (λc o _ _ hcm e _=>kk c o hcm e) (λc o _ _ hcm e _=>⟨o.slots,kk c o hcm e⟩) (λc o _ e n=>n)
    (λc o hcm e=>⟨o,kk c o hcm e⟩) (λc xs e=>e) (λc o w e=>e) (λc ps e=>⟨#[],by rw [e];simp⟩) (λm hm=>?_) (λc w e=>?_) I.bare
   ·obtain ⟨f0,f1,f2,f3,f4,f5⟩:=hf c hcm
    exact ⟨f3,f1,f4,f5⟩
   ·obtain ⟨o,es,ep,ho,r⟩:=hm
    exact ⟨o,es,ep,kk _ o (λhm=>(hf _ hm).2.1 rfl) ho,r⟩
   ·refine (I.hok c w e).stay (λc' w' hc' q=>kk c' w' ?_ q) (λc' q=>q) λc' xs q=>q
    rcases hc' with hc' | hc'
    ·rw [hc'];exact nfp _ _ e
    ·exact nfp _ _ hc'
 self:=λ_ _ _ _ _ st h=>wpAny_pyIter_zip st.1 h
section
variable {T:Tb} {X:Cx} {a b:Expr} {pos p tp:Pos} {fl fm:Ro->Out (List D)} {elts:List Expr} {x1:Nat}
@[simp] noncomputable def j90 (fl fm:Ro->Out (List D)) (ρ:Ro):Out (List D):=(fl ρ).bind λds=>(fm ρ).bind λes=>.ok (List.zipWith (λx y=>D.tup [x,y]) ds es)
theorem j0Y {G H1:Hp} {l m:Addr} {vs ws:List V} {ds es:List D} (st:Stb X.K G H1 l vs) (r:RepL T X.K H1 ds vs) (st2:Stb X.K G H1 m ws) (r2:RepL T X.K H1 es ws):Walk T X.K G (Itz X.K l m) (List.zipWith (λx y=>D.tup [x,y]) ds es) H1:=λi H p sm=>by
 have sq:=(st.pers p).sq sm
 have sq2:=(st2.pers p).sq sm
 have r':=RepL.pers p _ _ r
 have r2':=RepL.pers p _ _ r2
 have hl:=RepL.length _ _ r'
 have hl2:=RepL.length _ _ r2'
 refine ⟨λd e=>?_,λh=>⟨vs,ws,sq,sq2,?_⟩⟩
 ·rw [List.getElem?_zipWith] at e
  cases ed:ds[i]? with
  | none=>rw [ed] at e;simp at e
  | some d1=>
   cases ee:es[i]? with
   | none=>rw [ed,ee] at e;simp at e
   | some d2=>
    rw [ed,ee] at e
    have e':D.tup [d1,d2]=d:=by simpa using e
    subst e'
    obtain ⟨v,e1,rd⟩:=RepL.get _ _ _ _ r' ed
    obtain ⟨w,e2,rd2⟩:=RepL.get _ _ _ _ r2' ee
    refine ⟨⟨vs,ws,v,w,sq,sq2,e1,e2⟩,λx H2 ⟨x',y',q,h1,h2,hx,hq,hH⟩=>?_⟩
    have z1:=h1 vs sq
    have z2:=h2 ws sq2
    rw [e1] at z1;cases z1
    rw [e2] at z2;cases z2
    subst hx hH
    exact ⟨q0F hq,q,[v,w],rfl,SqT.of q0w,v,[w],rfl,Rep.mono (q0F hq) _ _ rd,w,[],rfl,Rep.mono (q0F hq) _ _ rd2,rfl⟩
 ·rw [List.length_zipWith] at h
  rw [List.getElem?_eq_none_iff,List.getElem?_eq_none_iff]
  omega
theorem j19 (hg:Gl X "zip") (hm:X.mg "zip" = none) (ha:DP T X a fl) (hb:DP T X b fm) (hs:starEach [a,b] X.env=(false,eval a X.env)::starEach [b] X.env:=by exact q0D rfl) (hs2:starEach [b] X.env=(false,eval b X.env)::starEach [] X.env:=by exact q0D rfl) (hpl:(backTo pos (starEach [b] X.env)).any (·.1)=false:=by exact q0H rfl) :
 DI T X (.Tuple elts x1 tp) (.Call (.Name "zip" p) [a,b] [] pos) (j90 fl fm):=.mk λG E hp=>by
 rintro pins s σ H R I ⟨ρ,fr,h⟩
 refine Call_ (q2v (X:=X.wish E) I hg hm boot_zip (PyProof.Rows.callWith_type1 (thn ((q0O (X:=X.wish E) (ha.run G E hp) (q0O (X:=X.wish E) (hb.run G E hp) q1p hs2) hs) pos pins s σ H (λus H1=>∃l m vs ws,us=[.ref l,.ref m]/\SqL X.K H1 l vs/\SqL X.K H1 m ws/\R (Itz X.K l m) H1) I ⟨ρ,fr,Acc.mono (Acc.bind h) λds _ hd l vs H1 s1 st r=>⟨ρ,fr.mono s1,Acc.mono (Acc.bind (Acc.heap s1 hd)) λes _ hes m ws H2 s2 st2 r2=>?_⟩⟩) λus s1 ⟨xs,H1,I1,r1,l,m,vs,ws,e1,sq,sq2,q⟩=>?_) hs hpl))
 ·have st':Stb X.K G H2 l vs:=st.pers (ib:=false) (Pers.of (T:=T) s2)
  exact ⟨l,m,vs,ws,rfl,st'.sq ((fr.same.trans s1).trans s2),st2.sq ((fr.same.trans s1).trans s2),hes _ H2 (s1.trans s2) (j0Y st' (RepL.mono s2 _ _ r) st2 r2)⟩
 ·subst e1
  obtain ⟨u,v,rfl,ru,rv0⟩:=Vals.two r1
  cases ru
  cases rv0
  obtain ⟨its,rv,pl,hz⟩:=I1.list sq
  obtain ⟨its2,rv2,pl2,hz2⟩:=I1.list sq2
  have a1:l < s1.heap.objs.size:=by obtain ⟨_,e,_⟩:=pl.isList;exact Heap.lt_size e
  have a2:m < s1.heap.objs.size:=by obtain ⟨_,e,_⟩:=pl2.isList;exact Heap.lt_size e
  refine call_zip_2 pl.isList pl2.isList λh' z1 z2 z3 z4 z5 z6 kp=>?_
  have I2:Inv (X.wish E) pins σ H1 { s1 with heap:=h' }:=I1.kept (t':=s1.toks) kp
  refine wpAny_pyIter_zip z1 ⟨_,_,_,_,H1,rfl,I2,j0P l m _ _ _ _ _ (zipApart_new a1 a2),⟨z1,z2,⟨_,_,z3⟩,z4,z5⟩,λc hcm=>?_,q⟩
  have ge:s1.heap.objs.size<=c:=by
   simp only [List.mem_cons,List.not_mem_nil,or_false] at hcm
   rcases hcm with rfl | rfl | rfl | rfl | rfl<;>omega
  exact I1.fpOk ge (I1.hok.fresh ge)
end
section
variable {prog:Program} {w:World} {A:Around} {E:Value->Shared->Prop} {s:Shared}
end
section
variable {T:Tb} {X:Cx} {e:Expr} {pos p p2 pos2:Pos} {fl:Ro->Out (List D)}
end
section
variable {T:Tb} {X:Cx} {pos p p2 p3:Pos} {x:Str}
@[simp] noncomputable def j4o (i:Nat) (ρ:Ro):Out D:=match ρ[i]? with
 | some (.sh d)=>(q4O d).bind λb=>.ok (.bl b)
 | some (.ow _)=>.ok (.bl true)
 | some (.bo _)=>.ok (.bl true)
 | _=>.bad
theorem j4e (i:Nat) (hg:Gl X "isinstance") (hm:X.mg "isinstance" = none) (hgc:Gl X "list") (hmc:X.mg "list" = none) (hN:X.N[i]?=some x:=by rfl) (hv:Vis X.env.scope x:=by walk_at "v0") (hd:(x==("__debug__" : Str))=false:=by decide)
 (hcd:(x==("__classdict__" : Str))=false:=by decide):DE T X (.Call (.Name "isinstance" p) [.Name x p2,.Name "list" p3] [] pos) (j4o i):=.mk λG E hp=>by
 rintro pins s σ H Q I ⟨ρ,fr,h⟩
 refine wpAny_Call_Name_kw (q2v (X:=X.wish E) I hg hm (u:=.builtin "isinstance") rfl ?_)
 have hs1:starEach [.Name x p2,.Name "list" p3] X.env=(false,eval (.Name x p2) X.env)::starEach [.Name "list" p3] X.env:=rfl
 have fin:∀(v:V),σ[i]?=some (some v)->(∀(s1:Shared) (I1:Inv (X.wish E) pins σ H s1) (u:Value),RelV v u->wpAny (model X.prog X.w) X.A (call (.builtin "isinstance") [u,.type "list"]) (EP (X.wish E) pins σ Q) E s1) ->
  wpAny (model X.prog X.w) X.A (callWith pos (.builtin "isinstance") [] (backTo pos (starEach [.Name x p2,.Name "list" p3] X.env)) []) (EP (X.wish E) pins σ Q) E s:=λv e1 k=>by
  refine PyProof.Rows.callWith_builtin1 (thn ((q0O (X:=X.wish E) (q2i (X:=X.wish E) hN hv hd hcd) (q0O (X:=X.wish E) (q8i (X:=X.wish E) hgc hmc boot_list (v:=.ty "list") rfl) q1p rfl) hs1) pos pins s σ H (λvs H1=>vs=[v,.ty "list"]/\H1=H) I ⟨v,e1,rfl,rfl⟩) λus s1 ⟨vs,H1,I1,rvs,ev,eH⟩=>?_) hs1 rfl
  subst ev eH
  obtain ⟨u,u',rfl,r1,r2⟩:=Vals.two rvs
  cases (show u'=Value.type "list" from r2)
  exact k s1 I1 u r1
 have lst:∀(a:Addr) (vs:List V) (s1:Shared) (I1:Inv (X.wish E) pins σ H s1),SqL X.K H a vs->Q (.bl true) H->wpAny (model X.prog X.w) X.A (call (.builtin "isinstance") [.ref a,.type "list"]) (EP (X.wish E) pins σ Q) E s1:=λa vs s1 I1 sq q=>by
  obtain ⟨its,_,⟨o,n,h1,h2,_⟩,_⟩:=I1.list sq
  exact PySem.W.kia_one PySem.W.kitx_list I1.kIn ⟨o,h1,h2⟩ (b:=true) (by with_unfolding_all rfl) (λz=>nomatch z) λtk=>⟨.bl true,H,I1.tok _,rfl,q⟩
 unfold j4o at h
 split at h
 ·rename_i d e
  obtain ⟨v,e1,r⟩:=fr.sl i _ e
  refine fin v e1 λs1 I1 u ru=>?_
  cases eg:q4O d with
  | ok b=>
   rw [eg] at h
   obtain ⟨z1,z2,z3⟩:=j03 (T:=T) (K:=X.K) d b eg
   exact q9B (X:=X.wish E) I1 ru r z1 z2 z3 λtk=>⟨.bl b,H,I1.tok _,rfl,h _ H (Same.refl H) rfl⟩
  | exc c=>exact absurd eg (q5t d c)
  | bad=>rw [eg] at h;exact h.elim
 ·rename_i ds e
  obtain ⟨a,vs,e1,e2,e3,r⟩:=fr.sl i _ e
  refine fin _ e1 λs1 I1 u ru=>?_
  cases ru
  exact lst a vs s1 I1 (SqL.of e2) (h _ H (Same.refl H) rfl)
 ·rename_i ds e
  obtain ⟨a,vs,e1,e2,r⟩:=fr.sl i _ e
  refine fin _ e1 λs1 I1 u ru=>?_
  cases ru
  exact lst a vs s1 I1 (SqL.of (fr.same _ _ e2)) (h _ H (Same.refl H) rfl)
 ·exact h.elim
end
end L3
namespace L3
open PySem L2
theorem j5b {a b:Str} (h:a.cps.toList=b.cps.toList):a=b:=by
 cases a;cases b;simp at h;simp [h]
theorem j43 (a b:Str):(a++b).cps.toList=a.cps.toList++b.cps.toList:=by
 show (a.cps++b.cps).toList=_;simp
theorem q46 (a:Str):a.cps.toList.length=a.length:=by simp [Str.length]
theorem log2_lt {n k:Nat} (h:n < 2 ^ k) (hk:0 < k):n.log2 < k:=by
 by_cases h0:n=0
 ·subst h0;simpa [Nat.log2_zero] using hk
 ·exact (Nat.log2_lt h0).mpr h
section
variable {b:Ro->D->Fl} {d:D} {ds:List D} {ρ ρ':Ro}
theorem q1S:q2E b [] ρ=.nx ρ:=by rw [q2E]
theorem q2r (h:b ρ d=.nx ρ'):q2E b (d::ds) ρ=q2E b ds ρ':=by rw [q2E,h]
theorem j4h {r:Rv} (h:b ρ d=.rt r):q2E b (d::ds) ρ=.rt r:=by rw [q2E,h]
end
theorem q0P {fl:Ro->Out (List D)} {g:Ro->D->Out Ro} {fb:Ro->Fl} {ρ:Ro} {ds:List D} (h:fl ρ=.ok ds):q2L fl g fb ρ=q2E (q0x g fb) ds ρ:=by rw [q2L,h,Out.ok_fl]
theorem q1D {fe:Ev} {ρ:Ro} {n:Nat} (h:fe ρ=.ok (.int n)) (hn:n < 1000000):q3p (n1 fe) ρ=.ok (rgD 0 n):=by
 have e:n1 fe ρ=.ok (0,n):=by
  rw [n1,h,Out.ok_bind]
  show (if _ then _ else _)=_
  rw [if_pos ⟨by omega,by omega⟩,Int.toNat_natCast]
 rw [q3p,e,Out.ok_bind]
theorem j1c (lo:Int) (n:Nat):rgD lo (n+1)=.int lo::rgD (lo+1) n:=by
 rw [rgD,List.range_succ_eq_map,List.map_cons,List.map_map,rgD]
 congr 1
 ·simp
 ·apply List.map_congr_left
  intro k _
  simp only [Function.comp_apply]
  congr 1
  omega
theorem j1X (lo:Int):rgD lo 0=[]:=by simp [rgD]
end L3
namespace L3
open PySem PySem.Spec PyProof.Rows L2
noncomputable def q6n (f:D->Out D):List D->Option (List D)
 | []=>some []
 | d::ds=>match f d with
  | .ok e=>(match q6n f ds with | some es=>some (e::es) | none=>none)
  | _=>none
theorem q7b (env:Env):∀(names:List (Str×NameKind)) (cs:List (Str×Addr)),(∀y∈names,y.2=.free->∃c,env.cells.lookup y.1=some c)->(∀y c,cs.lookup y=some c->env.cells.lookup y=some c) ->
 ∃cl:List (Str×Addr),(forIn names cs λ(x:Str×NameKind) (r:List (Str×Addr))=>(do if x.2==NameKind.free then do let c <-cellOf env x.1;pure (ForInStep.yield ((x.1,c)::r)) else pure (ForInStep.yield r):Sem (ForInStep (List (Str×Addr)))))=pure cl /\
  (∀y c,cl.lookup y=some c->env.cells.lookup y=some c)/\(∀y∈names,y.2=.free->∃c,cl.lookup y.1=some c)/\∀y c,cs.lookup y=some c->cl.lookup y=some c:=by
 intro names
 induction names with
 | nil=>intro cs _ h;exact ⟨cs,rfl,h,λy hy=>by simp at hy,λ_ _ e=>e⟩
 | cons z names ih=>
  obtain ⟨n,k⟩:=z
  intro cs hf h
  by_cases hk:k=.free
  ·subst hk
   obtain ⟨c,hc⟩:=hf (n,.free) (by simp) rfl
   have hc:env.cells.lookup n=some c:=hc
   have h':∀y c',((n,c)::cs).lookup y=some c'->env.cells.lookup y=some c':=λy c' e=>by
    rw [List.lookup_cons] at e
    cases ey:y==n with
    | true=>rw [ey] at e;cases e;rw [eq_of_beq ey];exact hc
    | false=>rw [ey] at e;exact h y c' e
   obtain ⟨cl,e1,e2,e3,e4⟩:=ih ((n,c)::cs) (λy hy=>hf y (by simp [hy])) h'
   have nn:cl.lookup n=some c:=e4 n c (by simp [List.lookup_cons])
   refine ⟨cl,?_,e2,λy hy hy2=>?_,λy c' e=>?_⟩
   ·rw [List.forIn_cons]
    have:cellOf env n=pure c:=by unfold cellOf;rw [hc]
    simp only [beq_self_eq_true,if_true,this,pure_bind]
    exact e1
   ·rcases List.mem_cons.mp hy with z | z
    ·rw [z];exact ⟨c,nn⟩
    ·exact e3 y z hy2
   ·by_cases ey:y=n
    ·subst ey
     have:=h y c' e
     rw [hc] at this;cases this
     exact nn
    ·exact e4 y c' (by rw [List.lookup_cons,show (y==n)=false by simpa using ey];exact e)
  ·obtain ⟨cl,e1,e2,e3,e4⟩:=ih cs (λy hy=>hf y (by simp [hy])) h
   have hb:(k==NameKind.free)=false:=by simpa using hk
   refine ⟨cl,?_,e2,λy hy hy2=>?_,e4⟩
   ·rw [List.forIn_cons]
    simp only [hb,Bool.false_eq_true,if_false,pure_bind]
    exact e1
   ·rcases List.mem_cons.mp hy with z | z
    ·rw [z] at hy2;exact absurd hy2 hk
    ·exact e3 y z hy2
theorem q6X (env:Env) (scope:Scope) (hf:∀y∈scope.names,y.2=.free->∃c,env.cells.lookup y.1=some c) :
 ∃cl:List (Str×Addr),closureFor scope env=pure cl/\(∀y c,cl.lookup y=some c->env.cells.lookup y=some c)/\∀y∈scope.names,y.2=.free->∃c,cl.lookup y.1=some c:=by
 obtain ⟨cl,e1,e2,e3,_⟩:=q7b env scope.names [] hf (λy c e=>by simp at e)
 refine ⟨cl,?_,e2,e3⟩
 rw [closureFor]
 show (forIn scope.names [] _ >>= λcs=>pure cs)=pure cl
 rw [bind_pure]
 exact e1
noncomputable abbrev CxC (X:Cx) (N':List Str) (scope:Scope) (cl:List (Str×Addr)) (C:Addr) (s₀:Shared) (H₀:Hp) (ex:List Addr):Cx:=
 { X with N:=N',env:=compEnvC scope cl C X.env,outer:=X.stack,s₀:=s₀,H₀:=H₀,ex:=ex,fn:=λ_=>false,pn:=[] }
structure Cap (X:Cx) (scope:Scope) (x:Str) (ys:List Str) (caps:List Nat):Prop where
 kind:scope.kind=.function
 own:scope.names.lookup x=some .local
 nocell:∀y∈scope.names,y.2≠.cell
 names:∀y∈scope.names,y.2=.local->scope.names.lookup y.1=some .local
 free:∀y∈scope.names,y.2=.free->X.env.kindOf y.1=some .cell∨X.env.kindOf y.1=some .free
 nodup:(x::ys).Nodup
 len:caps.length=ys.length
 cap:∀(j:Nat) (y:Str) (i:Nat),ys[j]?=some y->caps[j]?=some i->X.N[i]?=some y/\(X.env.kindOf y=some .cell∨X.env.kindOf y=some .free)/\scope.names.lookup y=some .free
theorem q1h {env:Env}:∀{names:List (Str×NameKind)} {x:Str} {k:NameKind},(names.map λ(n,k)=>if (k==NameKind.free && env.scope.kind==.function && env.kindOf n==some .cell) then (n,NameKind.cell) else (n,k)).lookup x=some k ->
 ∃k',names.lookup x=some k'/\(x,k')∈names/\(k=k'∨(k'=.free/\k=.cell))
 | [],_,_,h=>by simp at h
 | (n,k0)::r,x,k,h=>by
  have ih:=@q1h env r x k
  have h:List.lookup x ((if (k0==NameKind.free && env.scope.kind==.function && env.kindOf n==some .cell)=true then (n,NameKind.cell) else (n,k0))::_)=some k:=h
  cases hx:x==n with
  | true=>
   have e:=eq_of_beq hx
   subst e
   refine ⟨k0,by simp [List.lookup_cons],by simp,?_⟩
   by_cases hc:(k0==NameKind.free && env.scope.kind==.function && env.kindOf x==some .cell)=true
   ·rw [if_pos hc] at h
    simp only [List.lookup_cons,beq_self_eq_true] at h
    cases h
    right
    refine ⟨?_,rfl⟩
    simp only [Bool.and_eq_true] at hc
    exact eq_of_beq hc.1.1
   ·rw [if_neg hc] at h
    simp only [List.lookup_cons,beq_self_eq_true] at h
    cases h
    exact .inl rfl
  | false=>
   have h':List.lookup x (r.map λ(n,k)=>if (k==NameKind.free && env.scope.kind==.function && env.kindOf n==some .cell) then (n,NameKind.cell) else (n,k))=some k:=by
    by_cases hc:(k0==NameKind.free && env.scope.kind==.function && env.kindOf n==some .cell)=true
    ·rw [if_pos hc] at h;simpa [List.lookup_cons,hx] using h
    ·rw [if_neg hc] at h;simpa [List.lookup_cons,hx] using h
   obtain ⟨k',e1,e2,e3⟩:=ih h'
   exact ⟨k',by rw [List.lookup_cons,hx];exact e1,List.mem_cons_of_mem _ e2,e3⟩
section
variable {X:Cx} {pins:List (Addr×Obj)} {σ:L2.St} {H:Hp} {s:Shared} {scope:Scope} {x:Str} {ys:List Str} {caps:List Nat} {cl:List (Str×Addr)} {ex:List Addr}
theorem Cap.has (cp:Cap X scope x ys caps) (hcl:∀y∈scope.names,y.2=.free->∃c,cl.lookup y.1=some c):∀y,((relabel scope X.env).names.lookup y=some .cell∨(relabel scope X.env).names.lookup y=some .free)->∃c,cl.lookup y=some c:=by
 intro y h
 rcases h with h | h
 ·obtain ⟨k',_,e2,e3⟩:=q1h (env:=X.env) h
  rcases e3 with e3 | e3
  ·exact absurd e3.symm (cp.nocell _ e2)
  ·exact hcl _ e2 e3.1
 ·obtain ⟨k',_,e2,e3⟩:=q1h (env:=X.env) h
  rcases e3 with e3 | e3
  ·exact hcl _ e2 e3.symm
  ·cases e3.2
theorem j4E (I:Inv X pins σ H s) (cp:Cap X scope x ys caps) (h1:∀y c,cl.lookup y=some c->X.env.cells.lookup y=some c) (h2:∀y∈scope.names,y.2=.free->∃c,cl.lookup y.1=some c)
 (hx:∀b∈ex,q4N X pins H b/\b < s.heap.objs.size):(CxC X (x::ys) scope cl s.heap.objs.size s H ex).Ok where
 mod:=I.ok.mod
 kind:=cp.kind
 glob:=I.ok.glob
 blt:=I.ok.blt
 above:=Nat.le_refl _
 inj:=λa b c e1 e2=>I.ok.inj a b c (h1 _ _ e1) (h1 _ _ e2)
 has:=λy h=>cp.has h2 y h
 cab:=λy c e=>by cases e
 hd:=I.ok.hd
 frames:=I.ok.frames
 stk:=.inl rfl
 exf:=λb hb=>⟨Nat.ne_of_lt (hx b hb).2,λy c e=>(hx b hb).1.2.2.2.2.1 y c (h1 _ _ e)⟩
 bs:=I.bs
 bsz:=Nat.le_trans I.ok.bsz I.sz
 noex:=λb o e hb=>by
  rcases (hx b hb).1.2.2.2.1 with z | z
  ·exact I.ok.noex b o e z
  ·exact absurd (Nat.lt_of_lt_of_le (Heap.lt_size e) I.ok.bsz) (Nat.not_lt.mpr z)
 exfs:=λb hb hf=>by
  rcases List.mem_cons.mp (I.stkSub b hf) with z | z
  ·exact (hx b hb).1.2.1 z
  ·exact (hx b hb).1.2.2.1 z
 funs:=I.stack
 frf:=I.stkFree
theorem j0W {h':Heap} {tk:Nat} {m:Str->Option Value} (I:Inv X pins σ H s) (cp:Cap X scope x ys caps) (h1:∀y c,cl.lookup y=some c->X.env.cells.lookup y=some c) (h2:∀y∈scope.names,y.2=.free->∃c,cl.lookup y.1=some c)
 (hx:∀b∈ex,q4N X pins H b/\b < s.heap.objs.size) (hn:h'.Ns s.heap.objs.size m) (hk:∀b o,s.heap.get? b=some o->h'.get? b=some o) :
 Inv (CxC X (x::ys) scope cl s.heap.objs.size s H ex) [] (none::caps.map λi=>σ.getD i none) H { s with heap:=h',toks:=tk } where
 ok:=j4E I cp h1 h2 hx
 os:=rfl
 bare:=I.bare
 base:=Un.kept hk
 loc:=by
  refine ⟨m,hn,λj y v e1 e2 e3=>?_⟩
  cases j with
  | zero=>cases e2
  | succ j=>
   have e1:ys[j]?=some y:=e1
   have e2:(caps.map λi=>σ.getD i none)[j]?=some (some v):=e2
   rw [List.getElem?_map] at e2
   cases ei:caps[j]? with
   | none=>rw [ei] at e2;cases e2
   | some i=>
    rw [ei] at e2
    have e2:σ.getD i none=some v:=Option.some.inj e2
    obtain ⟨q1,q2,q3⟩:=cp.cap j y i e1 ei
    have e4:σ[i]?=some (some v):=by
     rw [List.getD_eq_getElem?_getD] at e2
     cases q:σ[i]? with
     | none=>rw [q] at e2;cases e2
     | some w=>rw [q] at e2;exact congrArg some e2
    obtain ⟨m0,hn0,hl⟩:=I.loc
    obtain ⟨u,r,lk⟩:=hl i y v q1 e4 (q2.elim (λz=>.inr (.inl z)) λz=>.inr (.inr z))
    refine ⟨u,r,.inr ?_⟩
    have lc:∃c,X.env.cells.lookup y=some c/\s.heap.IsCell c (some u):=by
     rcases lk with ⟨z,_⟩ | ⟨_,z⟩
     ·rcases q2 with q2 | q2<;>(rw [q2] at z;cases z)
     ·exact z
    obtain ⟨c,c1,c2⟩:=lc
    have mm:(y,NameKind.free)∈scope.names:=by
     have:∀(l:List (Str×NameKind)) (k:NameKind),l.lookup y=some k->(y,k)∈l:=by
      intro l
      induction l with
      | nil=>intro k e;simp at e
      | cons z l ih=>
       intro k e
       rw [List.lookup_cons] at e
       cases hz:y==z.1 with
       | true=>rw [hz] at e;cases e;rw [eq_of_beq hz];simp
       | false=>rw [hz] at e;exact List.mem_cons_of_mem _ (ih k e)
     exact this _ _ q3
    obtain ⟨c',c3⟩:=h2 _ mm rfl
    have:=h1 _ _ c3
    have this:X.env.cells.lookup y=some c':=this
    rw [c1] at this;cases this
    refine ⟨?_,c,c3,?_⟩
    ·rcases e3 with e3 | e3
     ·obtain ⟨k',z1,_,z3⟩:=q1h (env:=X.env) (show ((scope.names.map _).lookup y)=some NameKind.local from e3)
      rw [q3] at z1;cases z1
      rcases z3 with z3 | z3
      ·cases z3
      ·cases z3.2
     ·exact e3
    ·obtain ⟨o,ho,hd⟩:=c2
     exact ⟨o,hk _ _ ho,hd⟩
 cell:=λy c e=>by
  obtain ⟨v,o,ho,hd⟩:=I.cell y c (h1 _ _ e)
  exact ⟨v,o,hk _ _ ho,hd⟩
 free:=I.hok.fresh (Nat.le_refl _)
 freeC:=λy c e=>I.freeC y c (h1 _ _ e)
 pin:=λp hp=>by simp at hp
 hok:=I.hok.kept hk
 len:=by simp [cp.len]
theorem q7e {s3 s':Shared} {H':Hp} {σ':L2.St} {C:Addr} (I:Inv X pins σ H s3) (I':Inv (CxC X (x::ys) scope cl C s3 H ex) [] σ' H' s') (hx:∀b∈ex,q4N X pins H b):Inv X pins σ H' s':=
 I.call' (ch:=ex) I'.os I'.base I'.hok I'.bare λb hb=>⟨(hx b hb).2.2.2.1,(hx b hb).2.1,(hx b hb).2.2.2.2.1,(hx b hb).2.2.2.2.2⟩
end
noncomputable def q7B:Sl->Sl
 | .sh d=>.sh d
 | _=>.no
noncomputable def q1m (caps:List Nat) (ρ:Ro) (d:D):Ro:=.sh d::caps.map λi=>q7B (ρ.getD i .no)
theorem q0s {T:Tb} (h:T.me=none):T={ T with me:=none }:=by
 cases T;cases h;rfl
theorem j4u {T T0:Tb} {K:PySem.W.Frag} {G H H':Hp} {σ:L2.St} {ρ:Ro} {caps:List Nat} {d:D} {v:V} {w:Option V} (hT:T0={ T with me:=none }) (fr:FR T K G H σ ρ) (p:Pers T false H H') (r:Rep T K H' d v) :
 FR T0 K (λ_=>none) H' ((w::caps.map λi=>σ.getD i none).set 0 (some v)) (q1m caps ρ d):=by
 refine ⟨λ_ _ e=>(by cases e),by simp [q1m],λi s e=>?_,λi j s t b _ e1 _ o1 _=>?_,λx e=>?_,λi c ds e=>?_⟩
 ·cases i with
  | zero=>
   have e:Sl.sh d=s:=Option.some.inj e
   subst e
   exact ⟨v,rfl,hT ▸ (q2H _ _).mpr r⟩
  | succ i=>
   have e:(caps.map λi=>q7B (ρ.getD i .no))[i]?=some s:=e
   show SlOk T0 K _ H' (caps.map λi=>σ.getD i none)[i]? s
   rw [List.getElem?_map] at e ⊢
   cases q:caps[i]? with
   | none=>rw [q] at e;cases e
   | some k=>
    rw [q] at e
    have e:q7B (ρ.getD k .no)=s:=Option.some.inj e
    subst e
    rw [List.getD_eq_getElem?_getD]
    cases qr:ρ[k]? with
    | none=>exact trivial
    | some z=>
     cases z with
     | sh d'=>
      obtain ⟨u,e1,r1⟩:=fr.sh_at qr
      refine ⟨u,?_,hT ▸ (q2H _ _).mpr (Rep.pers p _ _ r1)⟩
      show some (σ.getD k none)=_
      rw [List.getD_eq_getElem?_getD,e1]
      rfl
     | no=>exact trivial
     | ow _=>exact trivial
     | bo _=>exact trivial
     | me _ _=>exact trivial
     | ox _ _ _ _=>exact trivial
     | mo _=>exact trivial
     | od _=>exact trivial
     | lm _=>exact trivial
     | bi _ _=>exact trivial
 ·exfalso
  cases i with
  | zero=>
   have e1:Sl.sh d=s:=Option.some.inj e1
   subst e1;exact o1
  | succ i=>
   have e:(caps.map λi=>q7B (ρ.getD i .no))[i]?=some s:=e1
   rw [List.getElem?_map] at e
   cases q:caps[i]? with
   | none=>rw [q] at e;cases e
   | some k=>
    rw [q] at e
    have e:q7B (ρ.getD k .no)=s:=Option.some.inj e
    cases z:ρ.getD k .no<;>(rw [z] at e;subst e;exact o1)
 ·subst hT;cases e
 ·exfalso
  cases i with
  | zero=>cases e
  | succ i=>
   have e:(caps.map λi=>q7B (ρ.getD i .no))[i]?=some (.me c ds):=e
   rw [List.getElem?_map] at e
   cases q:caps[i]? with
   | none=>rw [q] at e;cases e
   | some k=>
    rw [q] at e
    have e:q7B (ρ.getD k .no)=.me c ds:=Option.some.inj e
    cases z:ρ.getD k .no<;>(rw [z] at e;cases e)
section
variable {T:Tb} {X:Cx} {elt iter:Expr} {x:Str} {px pos:Pos} {scope:Scope} {ys:List Str} {caps:List Nat} {fe:Ev} {cl:List (Str×Addr)} {pins:List (Addr×Obj)} {σ:L2.St} {G H2:Hp} {s2:Shared} {J:It} {fp:List Addr} {it:Addr} {tn:Nat->Heap->Prop} {ρ:Ro} {ds es:List D}
end
noncomputable def CompOk (X:Cx) (e:Expr) (scope:Scope) (pos:Pos) (first:Sem Value) (t:TE):Prop:=
 ∀(pins:List (Addr×Obj)) (s:Shared) (σ:L2.St) (H:Hp) (Q:VK) (use:Option (Value->Sem Unit)) (QQ:Value->Shared->Prop),Inv X pins σ H s->t σ H Q ->
  (∀(a C:Addr) (s':Shared) (m:Str->Option Value) (Hn:Hp),Inv X pins σ Hn s'->q4N X pins Hn C->s'.heap.Ns C m->Q (.ref a) Hn->compPost (model X.prog X.w) X.A X.xe use QQ (.ref a) C (.ok .next) s') ->
  wpAny (model X.prog X.w) X.A (comprehension e scope X.env pos (newList []) false first use) QQ X.xe s
section
variable {X:Cx} {elt iter:Expr} {x y:Str} {px py pos spos p':Pos} {scope:Scope} {t:TE}
theorem CompOk.freeze {e:Expr} {first:Sem Value} (h:CompOk X e scope pos first t):CompOk X e scope pos first (fun σ H Q=>t σ H λv H1=>∃a vs,v=.ref a/\H1 a=some (.lst vs)/\∀o,Q v (upd H1 a (.frz o (.lst vs)))):=
 λpins s σ H Q use QQ I q k=>h pins s σ H _ use QQ I q λa C s' m Hn I' f hn ⟨a',vs,e,ha,kq⟩=>by
  cases e
  obtain ⟨o,I2⟩:=Inv.freeze I' ha
  exact k a C s' m _ I2 ⟨by rw [q0j (λz=>by rw [<-z,f.1] at ha;cases ha)];exact f.1,f.2⟩ hn (kq o)
theorem CompOk.pe {gs:List Comprehension} (h:CompOk X (.ListComp elt gs scope pos) scope (firstIterPos gs pos) (firstIter gs X.env) t) (ha:firstAsync gs=false:=by rfl):PE X (.ListComp elt gs scope pos) t:=λpins s σ H Q I q=>by
 rw [eval_ListComp,ha]
 refine h pins s σ H Q none _ I q λa C s' m Hn I' f hn hq=>⟨m,hn,λh' hs'=>?_⟩
 exact ⟨.ref a,Hn,I'.turned (t':=s'.toks) (λb o hb e=>hs'.extBut b o hb e) f.1 f.2.1 f.2.2.2.1 f.2.2.2.2.1 f.2.2.2.2.2,rfl,hq⟩
theorem CompOk.ps {gs:List Comprehension} {i:Nat} (h:CompOk X (.ListComp elt gs scope pos) scope (firstIterPos gs pos) (firstIter gs X.env) t) (hN:X.N.Nodup) (hi:X.N[i]?=some y) (hy:Loc X.env.scope y) (hf:X.fn y=true∨X.env.scope.names.lookup y=some .local)
 (hsw:swapsWith (.ListComp elt gs scope pos) (some (.Name y py)) spos.line X.env=pure true) (ha:firstAsync gs=false:=by rfl) :
 PS X (.Assign [.Name y py] (.ListComp elt gs scope pos) spos) (j82 t (j48 i)):=λpins s σ H D I q=>by
 rw [exec_Assign_Name_used _ _ _ _ hsw]
 refine wpAny_bind (wpAny_standAt (wpAny_bind ?_))
 show wpAny _ X.A (do let _ <-comprehension (.ListComp elt gs scope pos) scope X.env (firstIterPos gs pos) (newList []) (firstAsync gs) (firstIter gs X.env) (some (assign (.Name y py) X.env))) _ _ s
 rw [ha]
 refine wpAny_bind (wpAny_mono (h pins s σ H _ (some (assign (.Name y py) X.env)) (λ_ s'=>SP X pins D .next s') I q λa C s' m Hn I' f hn hq=>?_) (λ_ s' hq=>wpAny_pure (wpAny_pure hq)) λ_ _ z=>z)
 show wpAny (model X.prog X.w) X.A (assign (.Name y py) X.env (.ref a)) _ X.xe s'
 obtain ⟨o,es,ep,ho,hd⟩:=hn
 have hdc:∀v,o.data≠.cell v:=λv z=>by
  have:=hd.1
  rw [z] at this;cases this
 have I2:Inv X (pins++[(C,o)]) σ Hn s':=I'.pins_of λp hp=>(List.mem_append.mp hp).elim (λz=>I'.pin p (List.mem_append_right _ z)) λz=>by
  obtain rfl:p=(C,o):=by simpa using z
  exact ⟨ho,f.1,f.2.1,f.2.2.1,hdc⟩
 refine wpAny_mono (q38 (X:=X) (i:=i) hN hi hy hf _ s' σ Hn (.ref a) (.ref a) D.nx I2 rfl hq) (λ_ s'' h''=>?_) λ_ _ z=>z
 obtain ⟨σ',H',I3,q3⟩:=h''
 have hC:=I3.pin (C,o) (by simp)
 refine ⟨m,⟨o,es,ep,hC.1,hd⟩,λh' hs'=>?_⟩
 have I4:Inv X pins σ' H' s'':=I3.unpinned
 have I5:Inv X pins σ' H' { s'' with heap:=h' }:=I4.turned (t':=s''.toks) (λb o hb e=>hs'.extBut b o hb e) hC.2.1 f.2.1 f.2.2.2.1 f.2.2.2.2.1 f.2.2.2.2.2
 exact ⟨σ',H',I5,q3⟩
end
section
variable {T:Tb} {X:Cx} {elt iter:Expr} {x:Str} {px pos spos py:Pos} {scope:Scope} {ys:List Str} {caps:List Nat} {fe:Ev} {fl:Ro->Out (List D)}
@[simp] noncomputable def q0T (fl:Ro->Out (List D)) (caps:List Nat) (fe:Ev) (ρ:Ro):Out (List D):=(fl ρ).bind λds=>if ds.length<=1000000 then (match q6n (λd=>fe (q1m caps ρ d)) ds with | some es=>.ok es | none=>.bad) else .bad
variable {ib:Bool} {y:Str}
end
section
variable {X:Cx}
theorem j6u:SlR X (λx lo hi H Q=>∃z,x=.str z/\z.length<=sizeLine/\Q (.str (Txt.slice z lo hi)) H):=by
 intro pins s σ H x v vl vu lo hi sl Q I rx hs pl pu h
 obtain ⟨z,rfl,hz,q⟩:=h
 obtain ⟨t,rfl⟩:=rx
 obtain ⟨o,ho,hc,hd⟩:=hs
 refine ⟨"str",_,F.slot_str_getitem.lookup,typeIs_str _ _ _,?_⟩
 have fin:∀t' k,EP X pins σ Q (.str (Txt.slice z lo hi) t') { s with toks:=k }:=λt' k=>⟨.str _,H,I.tok k,⟨t',rfl⟩,q⟩
 cases pl with
 | none=>
  cases pu with
  | none=>exact wpAny_getItem_str_slice (l:=none) (u:=none) (st:=none) ⟨o,ho,hc,hd⟩ rfl (post_val_or_str ⟨Nat.le_trans (Txt.slice_le z _ _) hz,fin⟩)
  | int j u=>exact wpAny_getItem_str_slice (l:=none) (u:=some (j,u)) (st:=none) ⟨o,ho,hc,hd⟩ rfl (post_val_or_str ⟨Nat.le_trans (Txt.slice_le z _ _) hz,fin⟩)
 | int i u=>
  cases pu with
  | none=>exact wpAny_getItem_str_slice (l:=some (i,u)) (u:=none) (st:=none) ⟨o,ho,hc,hd⟩ rfl (post_val_or_str ⟨Nat.le_trans (Txt.slice_le z _ _) hz,fin⟩)
  | int j u'=>exact wpAny_getItem_str_slice (l:=some (i,u)) (u:=some (j,u')) (st:=none) ⟨o,ho,hc,hd⟩ rfl (post_val_or_str ⟨Nat.le_trans (Txt.slice_le z _ _) hz,fin⟩)
end
section
variable {T:Tb} {X:Cx} {a b e:Expr} {pos p p2:Pos} {fa fb fe:Ev} {lo hi:Option Expr} {fo fu:Ro->Out (Option Int)}
@[simp] noncomputable def q61 (fe:Ev) (fo fu:Ro->Out (Option Int)) (ρ:Ro):Out D:=(fe ρ).bind λd=>(fo ρ).bind λlo=>(fu ρ).bind λhi=>match d with
 | .str z=>if z.length<=1000000 then .ok (.str (Txt.slice z lo hi)) else .bad
 | _=>.bad
theorem q28 (he:DE T X e fe) (hl:DO T X lo fo) (hu:DO T X hi fu):DE T X (.Subscript e (.Slice lo hi none p2) pos) (q61 fe fo fu):=.mk λG E hp=>by
 refine PE.imp (j1s (X:=X.wish E) j6u (he.run G E hp) (hl.run G E hp) (hu.run G E hp)) fun σ H Q ⟨ρ,fr,h⟩=>⟨ρ,fr,Acc.mono (Acc.bind h) λd _ hd v H1 s1 r1=>?_⟩
 refine ⟨ρ,fr.mono s1,Acc.mono (Acc.bind (Acc.heap s1 hd)) λl _ hl' H2 s2=>?_⟩
 refine ⟨ρ,(fr.mono s1).mono s2,Acc.mono (Acc.bind (Acc.heap s2 hl')) λu _ hu' H3 s3=>?_⟩
 cases d with
 | str z=>
  have hu'':Acc T X E σ H2 (if z.length<=1000000 then .ok (.str (Txt.slice z l u)) else .bad) (kE T X.K H Q):=hu'
  by_cases c:z.length<=1000000
  ·rw [if_pos c] at hu''
   exact ⟨z,r1,line6 c,hu'' _ H3 ((s1.trans s2).trans s3) rfl⟩
  ·rw [if_neg c] at hu'';exact hu''.elim
 | _=>exact hu'.elim
noncomputable def Itx (z:Str):It:=⟨λi _=>i < z.length,λi H x H'=>H'=H/\∃c,z.cps[i]?=some c/\x=.str ⟨#[c]⟩,λi _=>z.length<=i⟩
theorem q6f {P:Program} {w:World} {K:PySem.W.Frag} {tg:Expr} {ty:String} (it:Addr) (z:Str) (t:Tok) (hn:["enumerate","zip","dict_itemiterator","dict_reverseitemiterator","odict_iterator","itertools.zip_longest","itertools.pairwise"].contains ty=false)
 (W:∀A:Around,A.handled=none->Walks P w A it [it] [it] z.cps.size (SignAt z) (λi h=>h.IsStrIter it ty z t i))
 (hself:∀(A:Around) (i:Nat) (s:Shared) (Q:Value->Shared->Prop) (E:Value->Shared->Prop),s.heap.IsStrIter it ty z t i->Q (.ref it) s->wpAny (model P w) A (pyIter (.ref it)) Q E s):Turn P w K tg (Itx z) [it] it (λi h=>i<=z.cps.size/\h.IsStrIter it ty z t i) where
 mem:=by simp
 obj:=λi h st b hb=>by
  have e:b=it:=by simpa using hb
  subst e
  obtain ⟨_,o,ho,_,hd⟩:=st
  exact ⟨o,ho,λv q=>by rw [hd] at q;cases q⟩
 keep:=λi h h' st k=>by
  obtain ⟨l,o,ho,r⟩:=st
  exact ⟨l,o,k it (by simp) o ho,r⟩
 item:=by
  intro X hP hw hK hc i pins s σ H E I hf st hg
  subst hP hw hK
  obtain ⟨f0,f1,f2,f3,f4,f5⟩:=hf it (by simp)
  refine (W X.A (I.ok.hd hc)).item i s _ _ hg st.2 λv h' tk hv st' kk=>?_
  obtain ⟨c,u,hcx,rfl⟩:=hv
  have I1:Inv X pins σ H { s with heap:=h',toks:=tk }:=I.turned (λb o hb e=>kk b o (by simpa using hb) e) f0 f1 f3 f4 f5
  obtain ⟨o,ho,hcl,hd⟩:=id st'
  exact ⟨_,rfl,q70 (s:={ s with heap:=h',toks:=tk }) (n:=ty) ho hcl hd hn ⟨.str ⟨#[c]⟩,H,I1,⟨u,rfl⟩,⟨rfl,c,hcx,rfl⟩,⟨hg,st'⟩,λb hb=>(hf b hb).1⟩⟩
 done:=by
  intro X hP hw hK hc i pins s σ H E I hf st hg
  subst hP hw hK
  obtain ⟨f0,f1,f2,f3,f4,f5⟩:=hf it (by simp)
  have hi:i=z.cps.size:=Nat.le_antisymm st.1 hg
  subst hi
  exact (W X.A (I.ok.hd hc)).done s _ _ st.2 λh' tk kk=>⟨rfl,I.turned (t':=tk) (λb o hb e=>kk b o (by simpa using hb) e) f0 f1 f3 f4 f5⟩
 self:=λA i s Q E st h=>hself A i s Q E st.2 h
end
section
variable {X:Cx} {tg:Expr}
theorem j7h {l:Expr} {tl:TE} (hl:PE X l tl):PI X tg l (fun σ H R=>tl σ H λx H1=>∃z,x=.str z/\R (Itx z) H1):=by
 intro pins s σ H R I h
 refine thn (hl pins s σ H _ I h) λv s1 ⟨x,H1,I1,r1,q1⟩=>?_
 obtain ⟨z,rfl,q⟩:=q1
 obtain ⟨t,rfl⟩:=r1
 have fin:∀(ob:Obj),∀b∈[s1.heap.objs.size],q4N X pins H1 b:=λob b hb=>by
  have e:b=s1.heap.objs.size:=by simpa using hb
  subst e
  exact I1.fpOk (Nat.le_refl _) (I1.hok.fresh (Nat.le_refl _))
 cases ha:z.cps.all (· < 128) with
 | true=>
  refine wpAny_pyIter_ascii ha ?_
  exact ⟨s1.heap.objs.size,[s1.heap.objs.size],_,_,H1,rfl,I1.kept (t':=s1.toks) λb o e=>Heap.get?_push_of_some _ e,q6f _ z t (by decide) (λA' hA=>Walks.strAscii hA _ z t) (λ_ _ _ _ _ st hQ=>wpAny_pyIter_striter_ascii st hQ),⟨Nat.zero_le _,_,Heap.get?_push_size _ rfl,rfl,rfl⟩,fin default,q⟩
 | false=>
  refine wpAny_pyIter_wide ha ?_
  exact ⟨s1.heap.objs.size,[s1.heap.objs.size],_,_,H1,rfl,I1.kept (t':=s1.toks) λb o e=>Heap.get?_push_of_some _ e,q6f _ z t (by decide) (λA' hA=>Walks.strWide hA _ z t) (λ_ _ _ _ _ st hQ=>wpAny_pyIter_striter_wide st hQ),⟨Nat.zero_le _,_,Heap.get?_push_size _ rfl,rfl,rfl⟩,fin default,q⟩
end
section
variable {T:Tb} {X:Cx} {tg e:Expr} {fe:Ev}
noncomputable def signs (z:Str):List D:=z.cps.toList.map λc=>D.str ⟨#[c]⟩
@[simp] noncomputable def D.toS:D->Out (List D)
 | .str z=>.ok (signs z)
 | _=>.bad
@[simp] noncomputable def j5z (f:Ev) (ρ:Ro):Out (List D):=(f ρ).bind D.toS
theorem j6Q (he:DE T X e fe):DI T X tg e (j5z fe):=.mk λG E hp=>
 PI.imp (j7h (X:=X.wish E) (he.run G E hp)) fun σ H R ⟨ρ,fr,h⟩=>⟨ρ,fr,Acc.mono (Acc.bind h) λd _ hd v H1 s1 r1=>by
  cases d with
  | str z=>
   refine ⟨z,r1,hd _ H1 s1 λi H' p sm=>⟨λd' e'=>?_,λhl=>?_⟩⟩
   ·have hd':z.cps.toList[i]?.map (λc=>D.str ⟨#[c]⟩)=some d':=by rw [<-e',signs,List.getElem?_map]
    cases q:z.cps.toList[i]? with
    | none=>rw [q] at hd';cases hd'
    | some c=>
     rw [q] at hd'
     obtain rfl:D.str ⟨#[c]⟩=d':=Option.some.inj hd'
     have q2:z.cps[i]?=some c:=by rw [<-Array.getElem?_toList];exact q
     refine ⟨?_,λx H2 ⟨e2,c',e3,e4⟩=>?_⟩
     ·obtain ⟨hl,_⟩:=Array.getElem?_eq_some_iff.mp q2
      exact hl
     ·subst e2
      rw [q2] at e3;cases e3
      exact ⟨Same.refl _,e4⟩
   ·have:(signs z).length=z.length:=by simp [signs,Str.length]
    rw [this] at hl
    exact hl
  | _=>exact hd.elim⟩
end
section
variable {X:Cx}
theorem Inv.walked {pins:List (Addr×Obj)} {σ:L2.St} {H:Hp} {s:Shared} {ob:Obj} {h':Heap} {tk:Nat} (I:Inv X pins σ H s) (k:∀b o,b∉[s.heap.objs.size]->(s.heap.push ob).get? b=some o->h'.get? b=some o):Inv X pins σ H { s with heap:=h',toks:=tk }:=
 I.kept λb u e=>k b u (by simpa using Nat.ne_of_lt (Heap.lt_size e)) (Heap.get?_push_of_some _ e)
theorem q5g:∀{bs:List Bool} {us:List Value},Vals (bs.map V.bl) us->us=bs.map Value.bool
 | [],_,.nil=>rfl
 | b::bs,_,.cons r t=>by rw [q5g t,show _=Value.bool b from r];rfl
theorem j0q (bs:List Bool):(List.range bs.length).all (λi=>bs.getD i false)=bs.all id:=by
 rw [Bool.eq_iff_iff]
 simp only [List.all_eq_true,List.mem_range,id]
 constructor
 ·intro h b hb
  obtain ⟨i,hi,rfl⟩:=List.mem_iff_getElem.mp hb
  have:=h i hi
  rwa [List.getD_eq_getElem?_getD,List.getElem?_eq_getElem hi] at this
 ·intro h i hi
  rw [List.getD_eq_getElem?_getD,List.getElem?_eq_getElem hi]
  exact h _ (List.getElem_mem hi)
theorem j0t (bs:List Bool):(List.range bs.length).any (λi=>bs.getD i false)=bs.any id:=by
 rw [Bool.eq_iff_iff]
 simp only [List.any_eq_true,List.mem_range,id]
 constructor
 ·rintro ⟨i,hi,h⟩
  rw [List.getD_eq_getElem?_getD,List.getElem?_eq_getElem hi] at h
  exact ⟨_,List.getElem_mem hi,h⟩
 ·rintro ⟨b,hb,h⟩
  obtain ⟨i,hi,rfl⟩:=List.mem_iff_getElem.mp hb
  exact ⟨i,hi,by rw [List.getD_eq_getElem?_getD,List.getElem?_eq_getElem hi];exact h⟩
theorem q6o {P:Program} {w:World} {A:Around} (bs:List Bool):TruthOf P w A (λi v=>(bs.map Value.bool).toArray[i]?=some v) (λi=>bs.getD i false):=λi v s Q E hP hQ=>by
 have hP:((bs.map Value.bool)[i]?)=some v:=by rw [<-hP];simp
 rw [List.getElem?_map] at hP
 cases q:bs[i]? with
 | none=>rw [q] at hP;cases hP
 | some b=>
  rw [q] at hP
  obtain rfl:Value.bool b=v:=Option.some.inj hP
  have hQ:Q (bs.getD i false) s:=hQ
  rw [List.getD_eq_getElem?_getD,q] at hQ
  exact wpAny_truthy_bool hQ
theorem j0A (hc:X.calm=true):q1V X (.builtin "all") (λxs H Q=>∃(a:Addr) (bs:List Bool),xs=[.ref a]/\SqL X.K H a (bs.map V.bl)/\Q (.bl (bs.all id)) H):=by
 intro pins s σ H xs us Q I rv h
 obtain ⟨a,bs,rfl,hq,q⟩:=h
 obtain ⟨u,rfl,ru⟩:=rv.one
 cases ru
 obtain ⟨its,r,pl,hz⟩:=I.list hq
 obtain rfl:=q5g r
 have ha:a≠s.heap.objs.size:=by
  obtain ⟨o,ho,_⟩:=pl.isList
  exact Nat.ne_of_lt (Heap.lt_size ho)
 have W:=Walks.list (prog:=X.prog) (w:=X.w) (A:=X.A.in1) (show X.A.in1.handled=none from I.ok.hd hc) s.heap.objs.size a ha (bs.map Value.bool).toArray
 refine call_all_walk (wpAny_pyIter_list pl.isList ⟨_,_,_,_,_,_,λi=>bs.getD i false,rfl,W,⟨⟨_,Heap.get?_push_size _ rfl,rfl,rfl⟩,?_⟩,q6o bs,λh' tk hk=>?_⟩)
 ·obtain ⟨o,ho,r'⟩:=pl.isList
  exact ⟨o,Heap.get?_push_of_some _ ho,r'⟩
 ·have I2:=Inv.walked (s:=s) (tk:=tk) I hk
  refine ⟨.bl (bs.all id),H,I2,?_,q⟩
  rw [List.size_toArray,List.length_map,j0q]
  rfl
theorem j1S (hc:X.calm=true):q1V X (.builtin "any") (λxs H Q=>∃(a:Addr) (bs:List Bool),xs=[.ref a]/\SqL X.K H a (bs.map V.bl)/\Q (.bl (bs.any id)) H):=by
 intro pins s σ H xs us Q I rv h
 obtain ⟨a,bs,rfl,hq,q⟩:=h
 obtain ⟨u,rfl,ru⟩:=rv.one
 cases ru
 obtain ⟨its,r,pl,hz⟩:=I.list hq
 obtain rfl:=q5g r
 have ha:a≠s.heap.objs.size:=by
  obtain ⟨o,ho,_⟩:=pl.isList
  exact Nat.ne_of_lt (Heap.lt_size ho)
 have W:=Walks.list (prog:=X.prog) (w:=X.w) (A:=X.A.in1) (show X.A.in1.handled=none from I.ok.hd hc) s.heap.objs.size a ha (bs.map Value.bool).toArray
 refine call_any_walk (wpAny_pyIter_list pl.isList ⟨_,_,_,_,_,_,λi=>bs.getD i false,rfl,W,⟨⟨_,Heap.get?_push_size _ rfl,rfl,rfl⟩,?_⟩,q6o bs,λh' tk hk=>?_⟩)
 ·obtain ⟨o,ho,r'⟩:=pl.isList
  exact ⟨o,Heap.get?_push_of_some _ ho,r'⟩
 ·have I2:=Inv.walked (s:=s) (tk:=tk) I hk
  refine ⟨.bl (bs.any id),H,I2,?_,q⟩
  rw [List.size_toArray,List.length_map,j0t]
  rfl
noncomputable def isum:List Int->Int
 | []=>0
 | i::is=>i+isum is
theorem q1Q (is:List Int):∀j,j<=is.length->preSum (λi=>is.getD i 0) j=isum (is.take j):=by
 intro j
 induction j with
 | zero=>intro _;simp [preSum,isum]
 | succ j ih=>
  intro h
  rw [preSum,ih (by omega)]
  have e:is.take (j+1)=is.take j++[is.getD j 0]:=by
   rw [List.take_succ_eq_append_getElem (by omega),List.getD_eq_getElem?_getD,List.getElem?_eq_getElem (by omega)]
   rfl
  rw [e]
  have:∀(xs:List Int) (y:Int),isum (xs++[y])=isum xs+y:=by
   intro xs y
   induction xs with
   | nil=>simp [isum]
   | cons x xs ih=>simp [isum,ih];omega
  rw [this]
theorem q30:∀{is:List Int} {us:List Value},Vals (is.map V.int) us->us.length=is.length/\∀(i:Nat) (v:Value),us[i]?=some v->∃t,v=.int (is.getD i 0) t
 | [],_,.nil=>⟨rfl,λi v e=>by simp at e⟩
 | j::is,_,.cons r t=>by
  obtain ⟨l,g⟩:=q30 t
  refine ⟨by simp [l],λi v e=>?_⟩
  cases i with
  | zero=>
   obtain ⟨tk,rfl⟩:=r
   cases e
   exact ⟨tk,rfl⟩
  | succ i=>exact g i v e
theorem j1r (hc:X.calm=true):q1V X (.builtin "sum") (λxs H Q=>∃(a:Addr) (is:List Int),xs=[.ref a]/\SqL X.K H a (is.map V.int)/\(∀j,j < is.length->InLong (is.getD j 0)/\InLong (isum (is.take (j+1))))/\Q (.int (isum is)) H):=by
 intro pins s σ H xs us Q I rv h
 obtain ⟨a,is,rfl,hq,hf,q⟩:=h
 obtain ⟨u,rfl,ru⟩:=rv.one
 cases ru
 obtain ⟨its,r,pl,hz⟩:=I.list hq
 obtain ⟨hl,hg⟩:=q30 r
 have ha:a≠s.heap.objs.size:=by
  obtain ⟨o,ho,_⟩:=pl.isList
  exact Nat.ne_of_lt (Heap.lt_size ho)
 have hlt:a < s.heap.objs.size:=by
  obtain ⟨o,ho,_⟩:=pl.isList
  exact Heap.lt_size ho
 have W:=Walks.list (prog:=X.prog) (w:=X.w) (A:=X.A.in1) (show X.A.in1.handled=none from I.ok.hd hc) s.heap.objs.size a ha its.toArray
 refine call_sum_walk (wpAny_pyIter_list pl.isList ⟨_,_,_,_,_,_,λi=>is.getD i 0,rfl,W,⟨⟨_,Heap.get?_push_size _ rfl,rfl,rfl⟩,?_⟩,?_,?_,?_,λh' tk t' hk=>?_⟩)
 ·obtain ⟨o,ho,r'⟩:=pl.isList
  exact ⟨o,Heap.get?_push_of_some _ ho,r'⟩
 ·intro b hb
  show b < (s.heap.push _).objs.size
  rw [Heap.size_push]
  simp only [List.mem_cons,List.not_mem_nil,or_false] at hb
  rcases hb with rfl | rfl
  ·exact Nat.lt_succ_self _
  ·exact Nat.lt_succ_of_lt hlt
 ·intro i v e
  exact hg i v (by rw [<-e];simp)
 ·intro j hj
  rw [List.size_toArray,hl] at hj
  rw [q1Q is (j+1) hj]
  exact hf j hj
 ·have I2:=Inv.walked (s:=s) (tk:=tk) I hk
  refine ⟨.int (isum is),H,I2,⟨t',?_⟩,q⟩
  rw [List.size_toArray,hl,q1Q is is.length (Nat.le_refl _),List.take_length]
end
section
variable {T:Tb} {X:Cx}
noncomputable def j0w:List D->Option (List Bool)
 | []=>some []
 | .bl b::ds=>(match j0w ds with | some bs=>some (b::bs) | none=>none)
 | _=>none
theorem q3T {K:PySem.W.Frag} {H:Hp}:∀{ds:List D} {bs:List Bool} {vs:List V},j0w ds=some bs->RepL T K H ds vs->vs=bs.map V.bl
 | [],bs,vs,h,r=>by cases h;exact r
 | d::ds,bs,vs,h,r=>by
  cases d with
  | bl b=>
   have h:(match j0w ds with | some bs=>some (b::bs) | none=>none)=some bs:=h
   cases q:j0w ds with
   | none=>rw [q] at h;cases h
   | some bs'=>
    rw [q] at h;cases h
    obtain ⟨v,r',rfl,r1,r2⟩:=r
    rw [q3T q r2,show v=V.bl b from r1];rfl
  | _=>cases h
noncomputable def q2u:List D->Option (List Int)
 | []=>some []
 | .int b::ds=>(match q2u ds with | some bs=>some (b::bs) | none=>none)
 | _=>none
theorem q14 {K:PySem.W.Frag} {H:Hp}:∀{ds:List D} {bs:List Int} {vs:List V},q2u ds=some bs->RepL T K H ds vs->vs=bs.map V.int
 | [],bs,vs,h,r=>by cases h;exact r
 | d::ds,bs,vs,h,r=>by
  cases d with
  | int b=>
   have h:(match q2u ds with | some bs=>some (b::bs) | none=>none)=some bs:=h
   cases q:q2u ds with
   | none=>rw [q] at h;cases h
   | some bs'=>
    rw [q] at h;cases h
    obtain ⟨v,r',rfl,r1,r2⟩:=r
    rw [q14 q r2,show v=V.int b from r1];rfl
  | _=>cases h
noncomputable def j5y:List D->Out D
 | [.lst ds]=>(match j0w ds with | some bs=>.ok (.bl (bs.all id)) | none=>.bad)
 | _=>.bad
noncomputable def j6N:List D->Out D
 | [.lst ds]=>(match j0w ds with | some bs=>.ok (.bl (bs.any id)) | none=>.bad)
 | _=>.bad
theorem j51 (hc:X.calm=true):CaD T X (.builtin "all") j5y:=λE=>⟨_,j0A hc,λds vs σ H Q r h=>by
 unfold j5y at h
 split at h
 ·rename_i ds'
  obtain ⟨v,rfl,a,ws,rfl,fz,rl⟩:=r.one
  cases q:j0w ds' with
  | none=>rw [q] at h;exact h.elim
  | some bs=>
   rw [q] at h
   obtain rfl:=q3T q rl
   exact ⟨a,bs,rfl,fz.sq,h _ H (Same.refl H) rfl⟩
 ·exact h.elim⟩
theorem j6n (hc:X.calm=true):CaD T X (.builtin "any") j6N:=λE=>⟨_,j1S hc,λds vs σ H Q r h=>by
 unfold j6N at h
 split at h
 ·rename_i ds'
  obtain ⟨v,rfl,a,ws,rfl,fz,rl⟩:=r.one
  cases q:j0w ds' with
  | none=>rw [q] at h;exact h.elim
  | some bs=>
   rw [q] at h
   obtain rfl:=q3T q rl
   exact ⟨a,bs,rfl,fz.sq,h _ H (Same.refl H) rfl⟩
 ·exact h.elim⟩
noncomputable def q3c (is:List Int):Bool:=decide (is.length<=1000) && is.all λi=>decide (-1000000000<=i) && decide (i<=1000000000)
theorem q8x:∀(is:List Int),(∀i∈is,-1000000000<=i/\i<=1000000000)->-(1000000000*(is.length:Int))<=isum is/\isum is<=1000000000*(is.length:Int)
 | [],_=>by simp [isum]
 | i::is,h=>by
  have h1:=q8x is λj hj=>h j (by simp [hj])
  have h2:=h i (by simp)
  simp only [isum,List.length_cons,Int.natCast_add,Int.natCast_one]
  omega
theorem q3B {is:List Int} (h:q3c is=true):∀j,j < is.length->InLong (is.getD j 0)/\InLong (isum (is.take (j+1))):=by
 unfold q3c at h
 simp only [Bool.and_eq_true,decide_eq_true_eq,List.all_eq_true] at h
 intro j hj
 constructor
 ·rw [List.getD_eq_getElem?_getD,List.getElem?_eq_getElem hj]
  have:=h.2 _ (List.getElem_mem hj)
  unfold InLong
  show _<=is[j]/\is[j] < _
  omega
 ·have:=q8x (is.take (j+1)) λi hi=>h.2 i (List.mem_of_mem_take hi)
  have l:(is.take (j+1)).length<=1000:=by rw [List.length_take];omega
  unfold InLong
  omega
noncomputable def q8U:List D->Out D
 | [.lst ds]=>(match q2u ds with | some is=>if q3c is=true then .ok (.int (isum is)) else .bad | none=>.bad)
 | _=>.bad
theorem q4H (hc:X.calm=true):CaD T X (.builtin "sum") q8U:=λE=>⟨_,j1r hc,λds vs σ H Q r h=>by
 unfold q8U at h
 split at h
 ·rename_i ds'
  obtain ⟨v,rfl,a,ws,rfl,fz,rl⟩:=r.one
  cases q:q2u ds' with
  | none=>rw [q] at h;exact h.elim
  | some is=>
   rw [q] at h
   have h:Acc T X E σ H (if q3c is=true then .ok (.int (isum is)) else .bad) (kE T X.K H Q):=h
   by_cases c:q3c is=true
   ·rw [if_pos c] at h
    obtain rfl:=q14 q rl
    exact ⟨a,is,rfl,fz.sq,q3B c,h _ H (Same.refl H) rfl⟩
   ·rw [if_neg c] at h;exact h.elim
 ·exact h.elim⟩
noncomputable def q2p:D->Option V
 | .non=>some .non
 | .bl b=>some (.bl b)
 | .int i=>some (.int i)
 | .str x=>some (.str x)
 | _=>none
theorem q2w {K:PySem.W.Frag} {H:Hp} {d:D} {v w:V} (h:q2p d=some w) (r:Rep T K H d v):v=w/\q2q w=true:=by
 cases d<;>first | (cases h;done) | (cases h;exact ⟨r,rfl⟩)
noncomputable def q04:List D->Option (List V)
 | []=>some []
 | d::ds=>(match q2p d,q04 ds with | some v,some vs=>some (v::vs) | _,_=>none)
theorem q2d {K:PySem.W.Frag} {H:Hp}:∀{ds:List D} {vs ws:List V},q04 ds=some ws->RepL T K H ds vs->vs=ws/\ws.all q2q=true
 | [],vs,ws,h,r=>by cases h;exact ⟨r,rfl⟩
 | d::ds,vs,ws,h,r=>by
  rw [q04] at h
  cases q1:q2p d with
  | none=>rw [q1] at h;cases h
  | some v=>
   cases q2:q04 ds with
   | none=>rw [q1,q2] at h;cases h
   | some vs'=>
    rw [q1,q2] at h;cases h
    obtain ⟨v',r',rfl,r1,r2⟩:=r
    obtain ⟨e1,e2⟩:=q2d q2 r2
    obtain ⟨e3,e4⟩:=q2w q1 r1
    rw [e1,e3]
    exact ⟨rfl,by rw [List.all_cons,e4,e2];rfl⟩
noncomputable def inD (neg:Bool):D->D->Out D
 | .str i,.str j=>.ok (.bl (if neg then !(!(Builtin.Str.occurrences j i 0 j.length 1).isEmpty) else (!(Builtin.Str.occurrences j i 0 j.length 1).isEmpty)))
 | d,.lst ds=>(match q2p d,q04 ds with | some x,some xs=>.ok (.bl (if neg then !inV x xs else inV x xs)) | _,_=>.bad)
 | d,.tup ds=>(match q2p d,q04 ds with | some x,some xs=>.ok (.bl (if neg then !inV x xs else inV x xs)) | _,_=>.bad)
 | _,_=>.bad
theorem j2C (neg:Bool) (op:CmpOp) (h1:∀E,OpR (X.wish E) (compareOp op) (λx y H Q=>∃i j,x=.str i/\y=.str j/\Q (.bl (if neg then !(!(Builtin.Str.occurrences j i 0 j.length 1).isEmpty) else (!(Builtin.Str.occurrences j i 0 j.length 1).isEmpty))) H))
 (h2:∀E,OpR (X.wish E) (compareOp op) (rIn X.K neg)):OpD T X (compareOp op) (inD neg):=λE=>⟨_,OpR.or (h1 E) (h2 E),λdx dy x y σ H Q rx ry q=>by
 cases dy with
 | str j=>
  cases dx with
  | str i=>exact .inl ⟨i,j,rx,ry,q _ H (Same.refl H) rfl⟩
  | _=>exact q.elim
 | lst ds=>
  right
  have q:Acc T X E σ H (match q2p dx,q04 ds with | some x,some xs=>.ok (.bl (if neg then !inV x xs else inV x xs)) | _,_=>.bad) (kE T X.K H Q):=by cases dx<;>exact q
  cases q1:q2p dx with
  | none=>rw [q1] at q;exact q.elim
  | some v=>
   cases q2:q04 ds with
   | none=>rw [q1,q2] at q;exact q.elim
   | some vs=>
    rw [q1,q2] at q
    obtain ⟨a,ws,rfl,fz,rl⟩:=ry
    obtain ⟨rfl,f2⟩:=q2d q2 rl
    obtain ⟨rfl,f1⟩:=q2w q1 rx
    exact ⟨a,_,rfl,.inl fz.sq,f1,f2,q _ H (Same.refl H) rfl⟩
 | tup ds=>
  right
  have q:Acc T X E σ H (match q2p dx,q04 ds with | some x,some xs=>.ok (.bl (if neg then !inV x xs else inV x xs)) | _,_=>.bad) (kE T X.K H Q):=by cases dx<;>exact q
  cases q1:q2p dx with
  | none=>rw [q1] at q;exact q.elim
  | some v=>
   cases q2:q04 ds with
   | none=>rw [q1,q2] at q;exact q.elim
   | some vs=>
    rw [q1,q2] at q
    obtain ⟨a,ws,rfl,fz,rl⟩:=ry
    obtain ⟨rfl,f2⟩:=q2d q2 rl
    obtain ⟨rfl,f1⟩:=q2w q1 rx
    exact ⟨a,_,rfl,.inr fz,f1,f2,q _ H (Same.refl H) rfl⟩
 | _=>cases dx<;>exact q.elim⟩
theorem j9h:OpD T X (compareOp .In) (inD false):=j2C false .In (λE=>q9s) λE=>q8a
theorem q6h:OpD T X (compareOp .NotIn) (inD true):=j2C true .NotIn (λE=>q4s) λE=>q4S
end
section
variable {X:Cx}
theorem q9l:∀{xs:List V} {us:List Value},Vals xs us->∀(j:Nat) (h:j < us.length),RelV (xs.getD j .non) us[j]
 | _,_,.nil,j,h=>by simp at h
 | _,_,.cons r t,0,_=>r
 | _,_,.cons r t,j+1,h=>by
  have:=q9l t j (by simpa using h)
  simpa using this
theorem q9t:∀{xs:List V},xs.all q2q=true->∀j,q2q (xs.getD j .non)=true
 | [],_,j=>by simp [q2q]
 | x::xs,h,0=>by rw [List.all_cons,Bool.and_eq_true] at h;exact h.1
 | x::xs,h,j+1=>by
  rw [List.all_cons,Bool.and_eq_true] at h
  simpa using q9t h.2 j
end
section
variable {T:Tb} {X:Cx} {x:Str} {pos:Pos}
noncomputable def j4J (K:PySem.W.Frag) (mg:Str->Option Value) (x:Str) (ds:List D):Prop:=∃(a:Addr) (vs:List V),mg x=some (.ref a)/\(∀H,SqT K H a vs)/\q04 ds=some vs
theorem q4U {K:PySem.W.Frag} {H:Hp}:∀{ds:List D} {vs:List V},q04 ds=some vs->RepL T K H ds vs
 | [],vs,h=>by cases h;exact rfl
 | d::ds,vs,h=>by
  rw [q04] at h
  cases q1:q2p d with
  | none=>rw [q1] at h;cases h
  | some v=>
   cases q2:q04 ds with
   | none=>rw [q1,q2] at h;cases h
   | some ws=>
    rw [q1,q2] at h
    cases h
    refine ⟨v,ws,rfl,?_,q4U q2⟩
    cases d<;>first | (cases q1;done) | (cases q1;exact rfl)
theorem j1Q {ds:List D} (hg:Gl X x) (h:j4J X.K X.mg x ds) (hd:(x==("__debug__" : Str))=false:=by decide):DE T X (.Name x pos) (eC (.tup ds)):=by
 obtain ⟨a,vs,hm,sq,hf⟩:=h
 exact q42 (v:=.ref a) hg hm rfl (λH=>⟨a,vs,rfl,sq H,q4U hf⟩) hd
theorem j1W {K:PySem.W.Frag} {mg:Str->Option Value} {a:Addr} {od:Option Addr} {its:Array Value} {n:Nat} {sl:Array (Option Value)} {ds:List D} {vs:List V} (hm:mg x=some (.ref a)) (hk:K.lookup a=some ⟨.type "tuple",od,.seq its n,sl⟩)
 (hz:its.size<=1000000) (hv:Vals vs its.toList) (hf:q04 ds=some vs):j4J K mg x ds:=
 ⟨a,vs,hm,λH=>.inr ⟨_,its,n,hk,rfl,rfl,line6 hz,hv⟩,hf⟩
structure w0m (K:PySem.W.Frag) (x qual:Str) (st:Stmt) (f:Addr) (fd:FuncData):Prop where
 ex:∃(oc:Value) (od:Option Addr) (dV kV doc pm:Value) (an:Option Addr) (cdv ct:Value) (osl:Array (Option Value)),
  fd=PySem.W.fnOf x qual (q1E st) (q1l st) (q0l st) dV kV doc pm an cdv ct/\K.lookup f=some ⟨oc,od,.func fd,osl⟩/\PySem.W.codeIn K cdv qual=true
 kp:PySem.W.keepIn K (.ref f)=true
theorem q9a {K:PySem.W.Frag} {x qual:Str} {st:Stmt} {f:Addr} {oc:Value} {od an:Option Addr} {osl:Array (Option Value)} {dV kV doc pm cdv ct:Value} (l:K.lookup f=some ⟨oc,od,.func (PySem.W.fnOf x qual (q1E st) (q1l st) (q0l st) dV kV doc pm an cdv ct),osl⟩)
 (c:PySem.W.codeIn K cdv qual=true) (k:PySem.W.keepIn K (.ref f)=true):w0m K x qual st f (PySem.W.fnOf x qual (q1E st) (q1l st) (q0l st) dV kV doc pm an cdv ct):=⟨⟨oc,od,dV,kV,doc,pm,an,cdv,ct,osl,rfl,l,c⟩,k⟩
theorem q3r {K:PySem.W.Frag} {fd:FuncData} {ps:List Str} {ds:List Value} {dt:Addr} {oc:Value} {od:Option Addr} {items:Array Value} {n:Nat} {sl:Array (Option Value)} (hd:fd.defaults=.ref dt) (lk:K.lookup dt=some ⟨oc,od,.seq items n,sl⟩)
 (m:Nat) (hm:m+ds.length=ps.length) (h:∀us:List Value,us.length=m->∃k,bindArgs fd ⟨us,[]⟩=seqItems? fd.defaults >>= k/\k (some items)=pure (ps.zip (us++ds))):Binds K fd ps ds:=λs us kin hl=>by
 obtain ⟨k,h1,h2⟩:=h us (by rw [List.length_append] at hl;omega)
 exact BindsTo.of_defaults hd (kin dt _ lk) rfl h1 h2
end
end L3
namespace L3
open PySem L2
theorem j7G {X:Cx} {scope:Scope} {x:Str} (ys:List Str) (caps:List Nat) (hk:scope.kind=.function:=by rfl) (own:scope.names.lookup x=some .local:=by rfl)
 (h:(scope.names.all λy=>!(y.2==.cell) && (!(y.2==.local) || scope.names.lookup y.1==some .local))=true:=by decide +kernel) (hf:(scope.names.all λy=>!(y.2==.free) || X.env.kindOf y.1==some .cell)=true:=by rfl)
 (hn:(x::ys).Nodup:=by decide) (hl:caps.length=ys.length:=by rfl)
 (hc:∀(j:Nat) (y:Str) (i:Nat),ys[j]?=some y->caps[j]?=some i->X.N[i]?=some y/\X.env.kindOf y=some .cell/\scope.names.lookup y=some .free):Cap X scope x ys caps where
 kind:=hk
 own:=own
 nocell:=λy hy e=>by
  have:=List.all_eq_true.mp h y hy
  rw [e] at this;simp at this
 names:=λy hy e=>by
  have:=List.all_eq_true.mp h y hy
  rw [e] at this;simpa using this
 free:=λy hy e=>by
  have:=List.all_eq_true.mp hf y hy
  rw [e] at this;exact .inl (by simpa using this)
 nodup:=hn
 len:=hl
 cap:=λj y i e1 e2=>let ⟨a,b,c⟩:=hc j y i e1 e2;⟨a,.inl b,c⟩
theorem cap0 {X:Cx} {scope:Scope} {x:Str} (hk:scope.kind=.function:=by rfl) (own:scope.names.lookup x=some .local:=by rfl)
 (h:(scope.names.all λy=>!(y.2==.cell) && !(y.2==.free) && (!(y.2==.local) || scope.names.lookup y.1==some .local))=true:=by decide +kernel):Cap X scope x [] [] where
 kind:=hk
 own:=own
 nocell:=λy hy e=>by
  have:=List.all_eq_true.mp h y hy
  rw [e] at this;simp at this
 names:=λy hy e=>by
  have:=List.all_eq_true.mp h y hy
  rw [e] at this;simpa using this
 free:=λy hy e=>by
  have:=List.all_eq_true.mp h y hy
  rw [e] at this;simp at this
 nodup:=by simp
 len:=rfl
 cap:=λj y i e1 _=>by simp at e1
theorem q4p {X:Cx} {scope:Scope}:∀(j:Nat) (y:Str) (i:Nat),([]:List Str)[j]?=some y->([]:List Nat)[j]?=some i->X.N[i]?=some y/\X.env.kindOf y=some .cell/\scope.names.lookup y=some .free:=λj y i e _=>by simp at e
theorem q1I {X:Cx} {scope:Scope} {y0:Str} {ys:List Str} {i0:Nat} {caps:List Nat} (h1:X.N[i0]?=some y0) (h2:X.env.kindOf y0=some .cell) (h3:scope.names.lookup y0=some .free)
 (h:∀(j:Nat) (y:Str) (i:Nat),ys[j]?=some y->caps[j]?=some i->X.N[i]?=some y/\X.env.kindOf y=some .cell/\scope.names.lookup y=some .free) :
 ∀(j:Nat) (y:Str) (i:Nat),(y0::ys)[j]?=some y->(i0::caps)[j]?=some i->X.N[i]?=some y/\X.env.kindOf y=some .cell/\scope.names.lookup y=some .free:=λj y i e1 e2=>by
 cases j with
 | zero=>cases e1;cases e2;exact ⟨h1,h2,h3⟩
 | succ j=>exact h j y i e1 e2
theorem vcS {z:Str} {k:Tok} {xs:List V} {us:List Value} (h:Vals xs us):Vals (.str z::xs) (.str z k::us):=.cons ⟨k,rfl⟩ h
end L3
namespace L3
open PySem PySem.Spec PyProof.Rows L2
theorem q2c {m:Str}:∀{fs:List (Str×V)},m∉fs.map (·.1)->fs.lookup m=none
 | [],_=>rfl
 | (n,v)::fs,h=>by
  simp only [List.map_cons,List.mem_cons,not_or] at h
  rw [List.lookup_cons,show (m==n)=false by simpa using h.1]
  exact q2c h.2
section
variable {T:Tb} {X:Cx} {e o:Expr} {es:List Expr} {m:Str} {pos apos:Pos} {fo:Ev} {fs:Ro->Out (List Sl)} {F:Fn} {k n c:Nat} {f:Addr} {fd:FuncData} {ps:List Str}
@[simp] noncomputable def q6z (c:Nat) (F:Fn) (fo:Ev) (ρ:Ro):Out Rv:=(fo ρ).bind λd=>match d with
 | .ins c' xs=>if c'=c then F [.sh (.ins c' xs)] else .bad
 | _=>.bad
theorem q3S {pl:Sem Bool} (he:DE T X o fo) (cls:Cls X.K (T.ca c)) (hm:Meth X.K (T.ca c) m f) (hmf:m∉T.fl c) (FO:q1f X.prog X.w X.K X.mg X.base (CXE T X.prog X.w) k f fd ps (spD T X.K ps.length F)) (hr:Room k X.A) (hb:Binds X.K fd ps []) (hn:ps.length=1)
 (ht:eval (.Call (.Attribute o m apos) [] [] pos) X.env=(do
  let ov <-eval o X.env
  standAt apos.atName
  let (f,first) <-holding [ov] (getMethod ov m pl)
  callWith pos f first (backTo pos (starEach [] X.env)) (backToKw pos (keywordEach [] X.env))):=by rfl) :
 DR T X (.Call (.Attribute o m apos) [] [] pos) (q6z c F fo):=.mk λG E hp=>by
 rintro pins s σ H Q I ⟨ρ,fr,h⟩
 refine PySem.W.methodCall_KW (pl:=pl) (thn (he.run G E hp pins s σ H (λx H1=>∃ds,Same H H1/\Rep T X.K H1 (.ins c ds) x/\Acc T X E σ H1 (F [.sh (.ins c ds)]) (λr=>∀v H',Same H1 H'->q49 T X.K H1 H' v r->Q v H')) I ⟨ρ,fr,?_⟩) λu s1 ⟨x,H1,I1,rx,ds,sm,rp,q⟩=>?_) ht
 ·refine Acc.mono (Acc.bind h) λd _ hd v H1 s1 r1=>?_
  cases d with
  | ins c' xs=>
   have hd:Acc T X E σ H (if c'=c then F [.sh (.ins c' xs)] else .bad) _:=hd
   by_cases hc:c'=c
   ·subst hc
    rw [if_pos rfl] at hd
    exact ⟨xs,s1,r1,Acc.mono (Acc.heap s1 hd) λr _ hr' v H' s2 r2=>hr' v H' (s1.trans s2) (q3t s1 r2)⟩
   ·rw [if_neg hc] at hd;exact hd.elim
  | _=>exact hd.elim
 ·obtain ⟨a,dx,fl,rfl,ha,hf,rl⟩:=id rp
  obtain rfl:u=Value.ref a:=rx
  refine q3z (X:=X.wish E) I1 ha cls hm (q2c (by rw [hf];exact hmf)) ?_
  exact PySem.W.callWith_K0 (first:=[.ref a]) I1.kIn hm.kp (j5n (X:=X) (us:=[.ref a]) (vs:=[.ref a]) (dvs:=[]) (ds:=[]) (ss:=[.sh (.ins c ds)]) FO hr hb .nil I1 (.cons rfl .nil) (show ArgsOk T X.K H1 [.ref a] [.sh (.ins c ds)] from ⟨_,[],rfl,rp,rfl⟩) (by simp [hn]) q)
@[simp] noncomputable def j4A (c:Nat) (F:Fn) (fo:Ev) (fs:Ro->Out (List Sl)) (ρ:Ro):Out Rv:=(fo ρ).bind λd=>match d with
 | .ins c' xs=>if c'=c then (fs ρ).bind λss=>if ss.length+1=n then F (.sh (.ins c' xs)::ss) else .bad else .bad
 | _=>.bad
theorem q9o {pl:Sem Bool} (he:DE T X o fo) (cls:Cls X.K (T.ca c)) (hm:Meth X.K (T.ca c) m f) (hmf:m∉T.fl c) (FO:q1f X.prog X.w X.K X.mg X.base (CXE T X.prog X.w) k f fd ps (spD T X.K ps.length F)) (hr:Room k X.A) (hb:Binds X.K fd ps []) (hn:n=ps.length) (ha:DG T X (e::es) fs)
 (hst:starEach (e::es) X.env=(false,eval e X.env)::starEach es X.env:=by exact q0D rfl) (hpl:(backTo pos (starEach es X.env)).any (·.1)=false:=by exact q0H rfl)
 (ht:eval (.Call (.Attribute o m apos) (e::es) [] pos) X.env=(do
  let ov <-eval o X.env
  standAt apos.atName
  let (f,first) <-holding [ov] (getMethod ov m pl)
  callWith pos f first (backTo pos (starEach (e::es) X.env)) (backToKw pos (keywordEach [] X.env))):=by rfl) :
 DR T X (.Call (.Attribute o m apos) (e::es) [] pos) (j4A (n:=n) c F fo fs):=.mk λG E hp=>by
 rintro pins s σ H Q I ⟨ρ,fr,h⟩
 refine PySem.W.methodCall_KW (pl:=pl) (thn (he.run G E hp pins s σ H (λx H1=>∃ds,Same H H1/\Rep T X.K H1 (.ins c ds) x/\Acc T X E σ H1 ((fs ρ).bind λss=>if ss.length+1=n then F (.sh (.ins c ds)::ss) else .bad) (λr=>∀v H',Same H1 H'->q49 T X.K H1 H' v r->Q v H')) I ⟨ρ,fr,?_⟩) λu s1 ⟨x,H1,I1,rx,ds,sm,rp,q⟩=>?_) ht
 ·refine Acc.mono (Acc.bind h) λd _ hd v H1 s1 r1=>?_
  cases d with
  | ins c' xs=>
   have hd:Acc T X E σ H (if c'=c then (fs ρ).bind λss=>if ss.length+1=n then F (.sh (.ins c' xs)::ss) else .bad else .bad) _:=hd
   by_cases hc:c'=c
   ·subst hc
    rw [if_pos rfl] at hd
    exact ⟨xs,s1,r1,Acc.mono (Acc.heap s1 hd) λr _ hr' v H' s2 r2=>hr' v H' (s1.trans s2) (q3t s1 r2)⟩
   ·rw [if_neg hc] at hd;exact hd.elim
  | _=>exact hd.elim
 ·obtain ⟨a,dx,fl,rfl,ha',hf,rl⟩:=id rp
  obtain rfl:u=Value.ref a:=rx
  refine q3z (X:=X.wish E) I1 ha' cls hm (q2c (by rw [hf];exact hmf)) ?_
  refine PySem.W.callWith_K (first:=[.ref a]) (h₀:=X.base) I.ok.mod.kin hm.kp (thn (ha.run G E hp pos pins s1 σ H1 (λvs H2=>∃ss,ArgsOk T X.K H2 vs ss/\ss.length+1=n/\Same H1 H2/\Acc T X E σ H2 (F (.sh (.ins c ds)::ss)) (λr=>∀v H',Same H2 H'->q49 T X.K H2 H' v r->Q v H')) I1 ⟨ρ,fr.mono sm,?_⟩) λus s2 ⟨vs,H2,I2,r,ss,ha2,hl2,s2',q2⟩=>⟨I2.kIn,?_⟩) hst hpl
  ·refine Acc.mono (Acc.bind q) λss _ hss vs H2 s2 r2=>?_
   by_cases hl:ss.length+1=n
   ·rw [if_pos hl] at hss
    exact ⟨ss,r2,hl,s2,Acc.mono (Acc.heap s2 hss) λr _ hr' v H' s3 r3=>hr' v H' (s2.trans s3) (q3t s2 r3)⟩
   ·rw [if_neg hl] at hss;exact hss.elim
  ·have la:=ArgsOk.length ss vs ha2
   have lr:=r.length
   exact j5n (X:=X) (us:=.ref a::us) (vs:=.ref a::vs) (dvs:=[]) (ds:=[]) FO hr hb .nil I2 (.cons rfl r) (by rw [List.append_nil];exact ⟨_,vs,rfl,Rep.mono s2' _ _ rp,ha2⟩) (by simp only [List.length_append,List.length_cons,List.length_nil];omega) q2
end
open Sem (wp)
theorem q7t:typeLookup (.type "str") "__int__" = pure none:=by rw [typeLookup_type,builtinLookup_eq_fast];kernel_rfl
theorem q4X:typeLookup (.type "str") "__index__" = pure none:=by rw [typeLookup_type,builtinLookup_eq_fast];kernel_rfl
theorem q4L:typeLookup (.type "str") "__trunc__" = pure none:=by rw [typeLookup_type,builtinLookup_eq_fast];kernel_rfl
noncomputable def dgV (c:Nat):Option Nat:=
 if 48<=c && c<=57 then some (c-48)
 else if 97<=c && c<=122 then some (c-87)
 else if 65<=c && c<=90 then some (c-55)
 else none
noncomputable def blk (c:Nat):Bool:=c==32 || (9<=c && c<=13)
noncomputable def dgS (base:Nat) (cs:List Nat):Option (Array Nat):=do
 let (ds,afterDigit) <-cs.foldlM (init:=((#[]:Array Nat),false)) λ(ds,afterDigit) c=>
  if c==95 then (if afterDigit then some (ds,false) else none)
  else match dgV c with
   | some d=>if d < base then some (ds.push d,true) else none
   | none=>none
 if afterDigit then some ds else none
noncomputable def pfx:List Nat->Option Nat
 | 48::c::_=>
  if c==120 || c==88 then some 16 else if c==111 || c==79 then some 8 else if c==98 || c==66 then some 2 else none
 | _=>none
noncomputable def sgn (t:List Nat):Bool×List Nat:=match t with
 | 45::r=>(true,r)
 | 43::r=>(false,r)
 | _=>(false,t)
noncomputable def pr2 (t:List Nat):List Nat:=match t.drop 2 with
 | 95::r=>r
 | r=>r
noncomputable def rdN {N:Type} (inv:N) (tl:Nat->N) (lib:N) (val:Int->N) (limit base:Nat) (text:List Nat):N:=
 let t:=text.dropWhile blk
 let (negative,t):=sgn t
 let afterPrefix:=pr2 t
 let (b,zeroOnly,t):=match pfx t with
  | some p=>if base==0 || base==p then (p,false,afterPrefix) else (base,false,t)
  | none=>if base==0 then (10,t.head?==some 48,t) else (base,false,t)
 match dgS b (t.reverse.dropWhile blk).reverse with
 | none=>inv
 | some ds=>
  if ![2,4,8,16,32].contains b && limit != 0 && ds.size > limit then tl ds.size else
  if b==10 && ds.size > 6000 then lib else
  let n:=ds.foldl (λacc d=>acc*b+d) 0
  if zeroOnly && n != 0 then inv else val (if negative then -(n:Int) else n)
noncomputable def rd0 {N:Type} (inv:N) (tl:Nat->N) (lib:N) (val:Int->N) (limit base:Nat) (text:List Nat):N:=
 let t:=text.dropWhile blk
 let (negative,t):=match t with
  | 45::r=>(true,r)
  | 43::r=>(false,r)
  | _=>(false,t)
 let afterPrefix:=match t.drop 2 with
  | 95::r=>r
  | r=>r
 let (b,zeroOnly,t):=match pfx t with
  | some p=>if base==0 || base==p then (p,false,afterPrefix) else (base,false,t)
  | none=>if base==0 then (10,t.head?==some 48,t) else (base,false,t)
 match dgS b (t.reverse.dropWhile blk).reverse with
 | none=>inv
 | some ds=>
  if ![2,4,8,16,32].contains b && limit != 0 && ds.size > limit then tl ds.size else
  if b==10 && ds.size > 6000 then lib else
  let n:=ds.foldl (λacc d=>acc*b+d) 0
  if zeroOnly && n != 0 then inv else val (if negative then -(n:Int) else n)
theorem q5P {N:Type} (inv:N) (tl:Nat->N) (lib:N) (val:Int->N) (limit base:Nat) (text:List Nat):rd0 inv tl lib val limit base text=rdN inv tl lib val limit base text:=by
 unfold rd0 rdN sgn pr2
 rfl
noncomputable def figs (cs:List Nat):Bool:=cs.all λc=>decide (48<=c) && decide (c<=57)
noncomputable def j3E (cs:List Nat):Nat:=cs.foldl (λacc c=>acc*10+(c-48)) 0
theorem q3i {cs:List Nat} (h:figs cs=true) {c:Nat} (hc:c∈cs):48<=c/\c<=57:=by
 have:=List.all_eq_true.mp h c hc
 simpa using this
theorem j2c:∀(cs:List Nat),figs cs=true->∀(ds:Array Nat) (a:Bool),(cs.foldlM (init:=(ds,a)) λ(x:Array Nat×Bool) c=>
 (if c==95 then (if x.2 then some (x.1,false) else none) else match dgV c with | some d=>if d < 10 then some (x.1.push d,true) else none | none=>none:Option (Array Nat×Bool)))=some ((ds.toList++cs.map (· - 48)).toArray,a || !cs.isEmpty)
 | [],_,ds,a=>by simp
 | c::cs,h,ds,a=>by
  have hc:=q3i h (c:=c) (by simp)
  have hr:figs cs=true:=by
   unfold figs at h ⊢
   rw [List.all_cons,Bool.and_eq_true] at h
   exact h.2
  have e1:(c==95)=false:=by simp;omega
  have e2:dgV c=some (c-48):=by unfold dgV;rw [if_pos (by simp;omega)]
  have e3:c-48 < 10:=by omega
  rw [List.foldlM_cons]
  simp only [e1,e2,e3,Bool.false_eq_true,if_false,if_true]
  show ((some (ds.push (c-48),true):Option _) >>= _)=_
  rw [Option.bind_eq_bind,Option.bind_some,j2c cs hr]
  simp
theorem j1R {cs:List Nat} (h:figs cs=true) (hn:cs≠[]):dgS 10 cs=some (cs.map (· - 48)).toArray:=by
 unfold dgS
 have:=j2c cs h #[] false
 have e:(!cs.isEmpty)=true:=by cases cs<;>simp at hn ⊢
 show (cs.foldlM (init:=((#[]:Array Nat),false)) _ >>= _)=_
 rw [show (cs.foldlM (init:=((#[]:Array Nat),false)) λ(x:Array Nat×Bool) c=>(match x with | (ds,afterDigit)=>if c==95 then (if afterDigit then some (ds,false) else none) else match dgV c with | some d=>if d < 10 then some (ds.push d,true) else none | none=>none:Option (Array Nat×Bool)))=_ from this]
 simp [e]
theorem q6N {cs:List Nat} (h:figs cs=true):cs.dropWhile blk=cs:=by
 cases cs with
 | nil=>rfl
 | cons c cs=>
  have hc:=q3i h (c:=c) (by simp)
  have:blk c=false:=by unfold blk;simp;omega
  rw [List.dropWhile_cons,this]
  rfl
theorem j01 {cs:List Nat} (h:figs cs=true):figs cs.reverse=true:=by
 unfold figs at *
 rw [List.all_reverse];exact h
theorem j1L {N:Type} (inv:N) (tl:Nat->N) (lib:N) (val:Int->N) {cs:List Nat} (h:figs cs=true) (hn:cs≠[]) (hl:cs.length<=600):rdN inv tl lib val 0 10 cs=val (j3E cs):=by
 have e0:=q6N h
 have e1:(cs.reverse.dropWhile blk).reverse=cs:=by rw [q6N (j01 h),List.reverse_reverse]
 have e2:=j1R h hn
 have e3:pfx cs=none:=by
  unfold pfx
  split
  ·rename_i c r
   have hc:=q3i h (c:=c) (by simp)
   rw [if_neg (by simp;omega),if_neg (by simp;omega),if_neg (by simp;omega)]
  ·rfl
 have sg:sgn cs=(false,cs):=by
  cases cs with
  | nil=>rfl
  | cons c r=>
   have hc:=q3i h (c:=c) (by simp)
   unfold sgn
   split
   ·rename_i e;cases e;omega
   ·rename_i e;cases e;omega
   ·rfl
 unfold rdN
 simp only [e0,sg,e3]
 rw [show ((10:Nat)==0)=false from rfl]
 simp only [Bool.false_eq_true,if_false,e1,e2]
 have s1:(cs.map (· - 48)).toArray.size=cs.length:=by simp
 rw [s1]
 rw [if_neg (by simp),if_neg (by simp;omega),if_neg (by simp)]
 congr 2
 rw [j3E]
 simp [List.foldl_map]
theorem q8N:∀{cs:List Nat},figs cs=true->cs.takeWhile (λc=>c != 0)=cs
 | [],_=>rfl
 | c::cs,h=>by
  have hc:=q3i h (c:=c) (by simp)
  have hr:figs cs=true:=by
   unfold figs at h ⊢
   rw [List.all_cons,Bool.and_eq_true] at h
   exact h.2
  have e:(c != 0)=true:=by simp;omega
  rw [List.takeWhile_cons,e]
  simp [q8N hr]
set_option maxHeartbeats 2000000 in
theorem q3G (x:Str) (u:Tok) (h:figs x.cps.toList=true) (hn:x.cps.toList≠[]) (hl:x.length<=600):Meets (Builtin.«int.__new__» ⟨[.type "int",.str x u],[]⟩) (Made.int (j3E x.cps.toList)).spec:=
 Meets.of_wp λprog w A R s hs=>by
  obtain ⟨hp,g,d,tk,os⟩:=s
  have f1:=F.conv_sub_int
  have f2:=F.madeHere_int
  have hT:(⟨hp,g,d,tk,os⟩:Shared).TypeIs (.str x u) "str":=rfl
  have g1:=q7t
  have g2:=q4X
  have g3:=q4L
  have a1:(x.cps.all λc=>decide (c < 128))=true:=by
   rw [<-Array.all_toList,List.all_eq_true]
   intro c hc
   have:=q3i h hc
   simp;omega
  have a2:List.takeWhile (λc=>c != 0) x.cps.toList=x.cps.toList:=q8N h
  have a4:x.cps.toList.length=x.length:=by simp [Str.length]
  have a3:x.cps.toList.length<=640:=by omega
  have rd:∀{N:Type} (inv:N) (tl:Nat->N) (lib:N) (val:Int->N),rdN inv tl lib val 0 10 x.cps.toList=val (j3E x.cps.toList):=λinv tl lib val=>j1L inv tl lib val h hn (by omega)
  repeat (any_goals (first | assumption | wp_step))
  all_goals (rw [a1];simp only [if_true,a2,if_pos a3,pure_bind])
  split
  ·rename_i m heq
   have h2:=(show rd0 _ _ _ _ 0 10 x.cps.toList=_ from heq)
   rw [q5P,rd] at h2
   cases h2
  ·rename_i heq
   have h2:=(show rd0 _ _ _ _ 0 10 x.cps.toList=_ from heq)
   rw [q5P,rd] at h2
   cases h2
  ·rename_i i heq
   have h2:=(show rd0 _ _ _ _ 0 10 x.cps.toList=_ from heq)
   rw [q5P,rd] at h2
   cases h2
   rw [if_pos (by simp)]
   repeat (any_goals (first | assumption | wp_step))
   all_goals first | exact ⟨_,rfl,hs⟩ | skip
  ·rename_i heq
   have h2:=(show rd0 _ _ _ _ 0 10 x.cps.toList=_ from heq)
   rw [q5P,rd] at h2
   cases h2
section
variable {X:Cx}
theorem q9q:q1V X (.type "int") (λxs H Q=>∃x,xs=[.str x]/\figs x.cps.toList=true/\x.cps.toList≠[]/\x.length<=600/\Q (.int (j3E x.cps.toList)) H):=by
 intro pins s σ H xs us Q I rv h
 obtain ⟨x,rfl,h1,h2,h3,q⟩:=h
 obtain ⟨u,rfl,ru⟩:=rv.one
 obtain ⟨t,rfl⟩:=ru
 refine call_int_1 (q3G x t h1 h2 h3) (show (Made.int (j3E x.cps.toList)).post _ s from ⟨rfl,?_⟩)
 exact ⟨.int _,H,I.tok _,⟨_,rfl⟩,q⟩
end
end L3
namespace L3
open PySem PySem.Spec PyProof.Rows L2
section
variable {T:Tb} {X:Cx} {e o:Expr} {es:List Expr} {pos cpos apos p:Pos} {fe fo:Ev} {fs:Ro->Out (List D)}
@[simp] noncomputable def j3Y:List D->Out D
 | [.int i]=>.ok (.int i)
 | [.bl b]=>.ok (.int (if b then 1 else 0))
 | [.str x]=>if figs x.cps.toList=true/\x.cps.toList≠[]/\x.length<=600 then .ok (.int (j3E x.cps.toList)) else .bad
 | _=>.bad
theorem j44:CaD T X (.type "int") j3Y:=λE=>⟨λvs H Q=>((∃i,vs=[.int i]/\Q (.int i) H)∨∃k,vs=[.bl k]/\Q (.int (if k then 1 else 0)) H)∨∃x,vs=[.str x]/\figs x.cps.toList=true/\x.cps.toList≠[]/\x.length<=600/\Q (.int (j3E x.cps.toList)) H,
 λpins s σ H xs us Q I rv h=>h.elim (λh=>q9W (X:=X.wish E) pins s σ H xs us Q I rv h) (λh=>q9q (X:=X.wish E) pins s σ H xs us Q I rv h),λds vs σ H Q r h=>by
 unfold j3Y at h
 split at h
 ·rename_i i
  obtain ⟨v,rfl,rv⟩:=r.one
  exact .inl (.inl ⟨i,by rw [show v=V.int i from rv],h _ H (Same.refl H) rfl⟩)
 ·rename_i b
  obtain ⟨v,rfl,rv⟩:=r.one
  exact .inl (.inr ⟨b,by rw [show v=V.bl b from rv],h _ H (Same.refl H) rfl⟩)
 ·rename_i x
  obtain ⟨v,rfl,rv⟩:=r.one
  by_cases c:figs x.cps.toList=true/\x.cps.toList≠[]/\x.length<=600
  ·rw [if_pos c] at h
   exact .inr ⟨x,by rw [show v=V.str x from rv],c.1,c.2.1,c.2.2,h _ H (Same.refl H) rfl⟩
  ·rw [if_neg c] at h;exact h.elim
 ·exact h.elim⟩
noncomputable def q2o:List D->Option (List Str)
 | []=>some []
 | .str x::ds=>(match q2o ds with | some xs=>some (x::xs) | none=>none)
 | _=>none
theorem q2A {K:PySem.W.Frag} {H:Hp}:∀{ds:List D} {xs:List Str} {vs:List V},q2o ds=some xs->RepL T K H ds vs->vs=xs.map V.str
 | [],xs,vs,h,r=>by cases h;exact r
 | d::ds,xs,vs,h,r=>by
  cases d with
  | str b=>
   have h:(match q2o ds with | some bs=>some (b::bs) | none=>none)=some xs:=h
   cases q:q2o ds with
   | none=>rw [q] at h;cases h
   | some bs'=>
    rw [q] at h;cases h
    obtain ⟨v,r',rfl,r1,r2⟩:=r
    rw [q2A q r2,show v=V.str b from r1];rfl
  | _=>cases h
theorem q5Z:∀{xs:List Str} {us:List Value},Vals (xs.map V.str) us->∃l:List (Str×Tok),us=strValues l/\l.map (·.1)=xs
 | [],_,.nil=>⟨[],rfl,rfl⟩
 | x::xs,_,.cons r t=>by
  obtain ⟨l,rfl,e⟩:=q5Z t
  obtain ⟨k,rfl⟩:=r
  exact ⟨(x,k)::l,rfl,by rw [List.map_cons,e]⟩
noncomputable def q8C:D->List D->Out D
 | .str x,[.lst ds]=>(match q2o ds with | some ts=>if JoinOk x ts=true then .ok (.str (Txt.join x ts)) else .bad | none=>.bad)
 | _,_=>.bad
theorem j4p:MtD T X "str" "str.join" q8C:=λE=>by
 refine ⟨λv vs H Q=>∃x a ts,v=.str x/\vs=[.ref a]/\SqL X.K H a (ts.map V.str)/\JoinOk x ts=true/\Q (.str (Txt.join x ts)) H,?_,?_⟩
 ·intro pins s σ H x xs v us Q I rx rv h
  obtain ⟨z,a,ts,rfl,rfl,hq,ok,q⟩:=h
  obtain ⟨t,rfl⟩:=rx
  obtain ⟨u,rfl,ru⟩:=rv.one
  cases ru
  obtain ⟨its,r,pl,hz⟩:=I.list hq
  obtain ⟨l,rfl,e⟩:=q5Z r
  exact SC.join pl.isList e ok λt' k=>⟨.str _,H,I.tok k,⟨t',rfl⟩,q⟩
 ·intro d ds v vs σ H Q rd rl q
  unfold q8C at q
  split at q
  ·rename_i x ds'
   obtain ⟨w,rfl,a,ws,rfl,fz,rl'⟩:=rl.one
   cases e:q2o ds' with
   | none=>rw [e] at q;exact q.elim
   | some ts=>
    rw [e] at q
    have q:Acc T X E σ H (if JoinOk x ts=true then .ok (.str (Txt.join x ts)) else .bad) (kE T X.K H Q):=q
    obtain rfl:=q2A e rl'
    by_cases c:JoinOk x ts=true
    ·rw [if_pos c] at q
     exact ⟨x,a,ts,rd,rfl,fz.sq,c,q _ H (Same.refl H) rfl⟩
    ·rw [if_neg c] at q;exact q.elim
  ·exact q.elim
end
theorem q1L:∀{is:List Int} {us:List Value},Vals (is.map V.int) us->∃l:List (Int×Tok),us=l.map (λp=>Value.int p.1 p.2)/\l.map (·.1)=is
 | [],_,.nil=>⟨[],rfl,rfl⟩
 | x::xs,_,.cons r t=>by
  obtain ⟨l,rfl,e⟩:=q1L t
  obtain ⟨k,rfl⟩:=r
  exact ⟨(x,k)::l,rfl,by rw [List.map_cons,e]⟩
noncomputable def q0G (gt:Bool) (is:List Int):Int:=is.getD (argBest (λi j=>if gt then decide (is.getD i 0 > is.getD j 0) else decide (is.getD i 0 < is.getD j 0)) (is.length-1)) 0
section
variable {X:Cx}
theorem q2F (l:List (Int×Tok)) (i:Nat):numAt l.toArray i=(l.map (·.1)).getD i 0:=by
 unfold numAt
 rw [List.getD_eq_getElem?_getD,List.getElem?_map]
 simp
theorem q9P (hc:X.calm=true):q1V X (.builtin "max") (λxs H Q=>∃(a:Addr) (is:List Int),xs=[.ref a]/\SqL X.K H a (is.map V.int)/\is≠[]/\Q (.int (q0G true is)) H):=by
 intro pins s σ H xs us Q I rv h
 obtain ⟨a,is,rfl,hq,hne,q⟩:=h
 obtain ⟨u,rfl,ru⟩:=rv.one
 cases ru
 obtain ⟨its,r,pl,hz⟩:=I.list hq
 obtain ⟨l,rfl,e⟩:=q1L r
 have hi:(l.map λp=>Value.int p.1 p.2).toArray=intItems l.toArray:=by simp [intItems]
 have hl:s.heap.IsList a (intItems l.toArray):=hi ▸ pl.isList
 refine max_intList (I.ok.hd hc) hl (by subst e;cases l with | nil=>exact absurd rfl hne | cons _ _=>simp) λv h' tk hv hk=>?_
 obtain ⟨t,rfl⟩:=intItems_at hv
 refine ⟨.int (q0G true is),H,I.kept (t':=tk) hk,⟨t,?_⟩,q⟩
 subst e
 congr 1
 unfold q0G
 rw [q2F]
 simp only [if_true,List.length_map]
 congr 2
 ·funext i j;rw [q2F,q2F]
theorem q7V (hc:X.calm=true):q1V X (.builtin "min") (λxs H Q=>∃(a:Addr) (is:List Int),xs=[.ref a]/\SqL X.K H a (is.map V.int)/\is≠[]/\Q (.int (q0G false is)) H):=by
 intro pins s σ H xs us Q I rv h
 obtain ⟨a,is,rfl,hq,hne,q⟩:=h
 obtain ⟨u,rfl,ru⟩:=rv.one
 cases ru
 obtain ⟨its,r,pl,hz⟩:=I.list hq
 obtain ⟨l,rfl,e⟩:=q1L r
 have hi:(l.map λp=>Value.int p.1 p.2).toArray=intItems l.toArray:=by simp [intItems]
 have hl:s.heap.IsList a (intItems l.toArray):=hi ▸ pl.isList
 refine min_intList (I.ok.hd hc) hl (by subst e;cases l with | nil=>exact absurd rfl hne | cons _ _=>simp) λv h' tk hv hk=>?_
 obtain ⟨t,rfl⟩:=intItems_at hv
 refine ⟨.int (q0G false is),H,I.kept (t':=tk) hk,⟨t,?_⟩,q⟩
 subst e
 congr 1
 unfold q0G
 rw [q2F]
 simp only [Bool.false_eq_true,if_false,List.length_map]
 congr 2
 ·funext i j;rw [q2F,q2F]
end
section
variable {T:Tb} {X:Cx}
noncomputable def q7f:List D->Out D
 | [.lst ds]=>(match q2u ds with | some is=>if is≠[] then .ok (.int (q0G false is)) else .bad | none=>.bad)
 | _=>.bad
noncomputable def q3Z:List D->Out D
 | [.lst ds]=>(match q2u ds with | some is=>if is≠[] then .ok (.int (q0G true is)) else .bad | none=>.bad)
 | _=>.bad
theorem q4a (hc:X.calm=true):CaD T X (.builtin "max") q3Z:=λE=>⟨_,q9P hc,λds vs σ H Q r h=>by
 unfold q3Z at h
 split at h
 ·rename_i ds'
  obtain ⟨v,rfl,a,ws,rfl,fz,rl⟩:=r.one
  cases q:q2u ds' with
  | none=>rw [q] at h;exact h.elim
  | some is=>
   rw [q] at h
   have h:Acc T X E σ H (if is≠[] then .ok (.int (q0G true is)) else .bad) (kE T X.K H Q):=h
   by_cases c:is≠[]
   ·rw [if_pos c] at h
    obtain rfl:=q14 q rl
    exact ⟨a,is,rfl,fz.sq,c,h _ H (Same.refl H) rfl⟩
   ·rw [if_neg c] at h;exact h.elim
 ·exact h.elim⟩
theorem j33 (hc:X.calm=true):CaD T X (.builtin "min") q7f:=λE=>⟨_,q7V hc,λds vs σ H Q r h=>by
 unfold q7f at h
 split at h
 ·rename_i ds'
  obtain ⟨v,rfl,a,ws,rfl,fz,rl⟩:=r.one
  cases q:q2u ds' with
  | none=>rw [q] at h;exact h.elim
  | some is=>
   rw [q] at h
   have h:Acc T X E σ H (if is≠[] then .ok (.int (q0G false is)) else .bad) (kE T X.K H Q):=h
   by_cases c:is≠[]
   ·rw [if_pos c] at h
    obtain rfl:=q14 q rl
    exact ⟨a,is,rfl,fz.sq,c,h _ H (Same.refl H) rfl⟩
   ·rw [if_neg c] at h;exact h.elim
 ·exact h.elim⟩
end
section
variable {T:Tb} {X:Cx} {elt iter:Expr} {x:Str} {px pos:Pos} {scope:Scope} {ys:List Str} {caps:List Nat} {fe:Ev} {ft:Ro->Out Bool} {tst:Expr} {cl:List (Str×Addr)} {pins:List (Addr×Obj)} {σ:L2.St} {G H2:Hp} {s2:Shared} {J:It} {fp:List Addr} {it:Addr} {tn:Nat->Heap->Prop} {ρ:Ro} {ds es:List D}
end
section
variable {T:Tb} {X:Cx} {elt iter tst:Expr} {x:Str} {px pos spos py:Pos} {scope:Scope} {ys:List Str} {caps:List Nat} {fe:Ev} {ft:Ro->Out Bool} {fl:Ro->Out (List D)}
variable {ib:Bool} {y:Str}
end
section
variable {X:Cx}
noncomputable def rLE (K:PySem.W.Frag) (neg:Bool):R2:=λx y H Q=>∃(a b:Addr) (xs:List V),x=.ref a/\y=.ref b/\SqL K H a xs/\SqL K H b []/\Q (.bl (if neg then !xs.isEmpty else xs.isEmpty)) H
theorem j3S (hu:X.A.units < cLine):OpR X (compareOp .NotEq) (rLE X.K true):=by
 intro pins s σ H x y v u Q I rx ry h
 obtain ⟨a,b,xs,rfl,rfl,h1,h2,q⟩:=h
 cases rx
 cases ry
 obtain ⟨its,r,pl,hz⟩:=I.list h1
 obtain ⟨its2,r2,pl2,hz2⟩:=I.list h2
 cases r2
 cases xs with
 | nil=>
  cases r
  exact SeqAt.RcNeAt.lists (e:=λ_=>true) pl.isList pl2.isList rfl hu (λj h1=>by simp at h1) X.prog X.w X.xe _ ⟨.bl false,H,I,rfl,q⟩
 | cons x xs=>
  cases r
  exact SeqAt.RcNeAt.lists_lengths pl.isList pl2.isList (by simp) hu X.prog X.w X.xe _ ⟨.bl true,H,I,rfl,q⟩
end
section
variable {T:Tb} {X:Cx} {e o:Expr} {es:List Expr} {cpos apos:Pos} {fe fo:Ev} {fs:Ro->Out (List D)}
noncomputable def j2W (neg:Bool):D->D->Out D
 | .lst ds,.lst []=>.ok (.bl (if neg then !ds.isEmpty else ds.isEmpty))
 | _,_=>.bad
theorem j6R (neg:Bool) (op:CmpOp) (h:∀E,OpR (X.wish E) (compareOp op) (rLE X.K neg)):OpD T X (compareOp op) (j2W neg):=λE=>⟨_,h E,λdx dy x y σ H Q rx ry q=>by
 cases dx with
 | lst ds=>
  cases dy with
  | lst ds2=>
   cases ds2 with
   | nil=>
    obtain ⟨a,us,rfl,s1,r1⟩:=rx
    obtain ⟨b,us2,rfl,s2,r2⟩:=ry
    cases r2
    have hl:=RepL.length _ _ r1
    have he:us.isEmpty=ds.isEmpty:=by cases us<;>cases ds<;>first | rfl | (simp at hl)
    exact ⟨a,b,us,rfl,rfl,s1.sq,s2.sq,by rw [he];exact q _ H (Same.refl H) rfl⟩
   | cons _ _=>exact q.elim
  | _=>exact q.elim
 | _=>first | exact q.elim | (cases dy<;>exact q.elim)⟩
theorem j0i {k:Nat} (hr:Room k X.A):OpD T X (compareOp .NotEq) (j2W true):=j6R true .NotEq λE=>j3S (X:=X.wish E) hr.units0
theorem q8E:MtR X "list.index" (λv vs H Q=>∃(a:Addr) (x:V) (xs:List V) (j:Nat),v=.ref a/\vs=[x]/\SqL X.K H a xs/\q2q x=true/\xs.all q2q=true/\j < xs.length/\eqV (xs.getD j .non) x=true/\(∀m,m < j->eqV (xs.getD m .non) x=false)/\Q (.int j) H):=by
 intro pins s σ H x xs v us Q I rx rv h
 obtain ⟨a,y,ys,j,rfl,rfl,hq,fy,fs,hj,hit,hno,q⟩:=h
 cases rx
 obtain ⟨u,rfl,ru⟩:=rv.one
 obtain ⟨its,r,pl,hz⟩:=I.list hq
 have hl:=r.length
 obtain ⟨⟨cls,dd,data,sl⟩,ho,hc,n,hd⟩:=pl.isList
 simp only at hc hd
 subst hc hd
 have ev:∀m (hm:m < its.length),eqU y its[m]=eqV (ys.getD m .non) y:=λm hm=>q8A (q9l r m hm) (q9t fs m)
 refine call_meets F.slot_list_index ⟨_,ho,rfl⟩ F.entry_list_index (F.args_list_index_2 _ _)
  (SeqAt.list_indexAt a its.toArray n dd sl u (eqU y) j (by rw [List.size_toArray];omega) ?_ ?_ ?_) ⟨ho,λw hw=>q2e ru fy r fs w (by simpa using hw),?_⟩
 ·have:ys.length<=16777216:=by rw [<-sizeLine_eq];exact hz
  omega
 ·have:=ev j (by omega)
  simp only [List.getElem_toArray]
  rw [this];exact hit
 ·intro m hm hlt
  have:=ev m (by rw [List.size_toArray] at hm;exact hm)
  simp only [List.getElem_toArray]
  rw [this];exact hno m hlt
 ·exact ⟨.int j,H,I.tok _,⟨_,rfl⟩,q⟩
noncomputable def q7E (x:V):List V->Option Nat
 | []=>none
 | y::ys=>if eqV y x=true then some 0 else (q7E x ys).map (· + 1)
theorem j0o {x:V}:∀{ys:List V} {j:Nat},q7E x ys=some j->j < ys.length/\eqV (ys.getD j .non) x=true/\∀m,m < j->eqV (ys.getD m .non) x=false
 | [],j,h=>by cases h
 | y::ys,j,h=>by
  rw [q7E] at h
  by_cases c:eqV y x=true
  ·rw [if_pos c] at h
   cases h
   exact ⟨by simp,c,λm hm=>by omega⟩
  ·rw [if_neg c] at h
   cases e:q7E x ys with
   | none=>rw [e] at h;cases h
   | some k=>
    rw [e] at h
    cases h
    obtain ⟨h1,h2,h3⟩:=j0o e
    refine ⟨by show k+1 < _;simp;omega,by simpa using h2,λm hm=>?_⟩
    have hm:m < k+1:=hm
    cases m with
    | zero=>simpa using c
    | succ m=>simpa using h3 m (by omega)
noncomputable def q22:D->List D->Out D
 | .lst ds,[d]=>(match q2p d,q04 ds with | some x,some xs=>(match q7E x xs with | some j=>.ok (.int j) | none=>.bad) | _,_=>.bad)
 | _,_=>.bad
@[simp] noncomputable def q6L:D->Bool
 | .lst _=>true
 | _=>false
theorem q9A (ho:DE T X o fo) (ha:DE T X e fe) (hbase:attributeBase o "index" X.env (eval o X.env)=eval o X.env:=by rfl)
 (hfew:((backTo cpos (starEach [e] X.env)).all (λx=>!x.1) && (backToKw cpos (keywordEach [] X.env)).all (λx=>x.1.isSome)
  && decide (([e]:List Expr).length+([]:List Keyword).length+(if ([]:List Keyword).isEmpty then 0 else 1) < 30))=true:=by exact j0g rfl rfl)
 (hline:(apos.endLine==cpos.line)=true:=by rfl) (hs:starEach [e] X.env=(false,eval e X.env)::starEach [] X.env:=by exact q0D rfl) (hplain:(backTo cpos (starEach ([]:List Expr) X.env)).any (·.1)=false:=by exact q0H rfl) :
 DE T X (.Call (.Attribute o "index" apos) [e] [] cpos) (eMt q6L q22 fo (q0i fe q0B)):=.mk λG E hp=>by
 refine PE.imp (j4G (X:=X.wish E) PySem.F.plainAttrs_list PySem.F.slot_list_index PySem.F.type_list_index q8E (ho.run G E hp) (q0O (X:=X.wish E) (ha.run G E hp) q1p hs) hbase hfew hline hs hplain) fun σ H Q ⟨ρ,fr,q⟩=>?_
 have q:Acc T X E σ H ((fo ρ).bind λd=>if q6L d=true then (q0i fe q0B ρ).bind λds=>q22 d ds else .bad) (kE T X.K H Q):=q
 refine ⟨ρ,fr,Acc.mono (Acc.bind q) λd _ hd v H1 s1 rd=>?_⟩
 cases d with
 | lst ds=>
  rw [if_pos (show q6L (.lst ds)=true from rfl)] at hd
  obtain ⟨a,ws,rfl,fz,rl⟩:=rd
  refine ⟨.inl ⟨rfl,ws,fz.sq⟩,ρ,fr.mono s1,?_⟩
  have hd2:Acc T X E σ H ((fe ρ).bind λd=>q22 (.lst ds) [d]) (kE T X.K H Q):=by
   cases ef:fe ρ with
   | ok d'=>simp only [q0i,q0B,ef,Out.ok_bind] at hd ⊢; exact hd
   | exc c=>simp only [q0i,q0B,ef,Out.exc_bind] at hd ⊢; exact hd
   | bad=>simp only [q0i,q0B,ef,Out.bad_bind] at hd ⊢; exact hd
  refine Acc.mono (Acc.bind (Acc.heap s1 hd2)) λd' _ hd' v' H2 s2 rd'=>?_
  have hd':Acc T X E σ H1 (match q2p d',q04 ds with | some x,some xs=>(match q7E x xs with | some j=>.ok (.int j) | none=>.bad) | _,_=>.bad) (kE T X.K H Q):=hd'
  cases q1:q2p d' with
  | none=>rw [q1] at hd';exact hd'.elim
  | some x=>
   cases q2:q04 ds with
   | none=>rw [q1,q2] at hd';exact hd'.elim
   | some xs=>
    rw [q1,q2] at hd'
    cases q3:q7E x xs with
    | none=>simp only [q3] at hd';exact hd'.elim
    | some j=>
     simp only [q3] at hd'
     obtain ⟨rfl,f2⟩:=q2d q2 rl
     obtain ⟨rfl,f1⟩:=q2w q1 rd'
     obtain ⟨k1,k2,k3⟩:=j0o q3
     exact ⟨a,_,_,j,rfl,rfl,((Pers.of s2:Pers T false _ _).fz fz).sq,f1,f2,k1,k2,k3,hd' _ H2 (s1.trans s2) rfl⟩
 | _=>exact hd.elim
end
section
variable {T:Tb} {X:Cx} {o:Expr} {cpos apos:Pos} {fo:Ev}
end
theorem Inv.unfrz {X:Cx} {pins:List (Addr×Obj)} {σ:L2.St} {H:Hp} {s:Shared} {b:Addr} {ws:List V} (I:Inv X pins σ H s) (h:H b=some (.lst ws)):∀o u,X.H₀ b≠some (.frz o u):=λo u z=>by
 have:=I.base.frzs b o u z
 rw [h] at this;cases this
theorem Inv.thaw {X:Cx} {pins:List (Addr×Obj)} {σ:L2.St} {H:Hp} {s:Shared} {b:Addr} {ws:List V} {o:Obj} (I:Inv X pins σ H s) (h:H b=some (.frz o (.lst ws))) (hx:∀o u,X.H₀ b≠some (.frz o u)):Inv X pins σ (upd H b (.lst ws)) s:=by
 have no:∀c,H c=none->upd H b (.lst ws) c=none:=λc q=>by
  rw [q0j (λz=>by rw [z,h] at q;cases q)];exact q
 have own:∀c y,H c=some (.own y)->upd H b (.lst ws) c=some (.own y):=λc y q=>by
  rw [q0j (λz=>by rw [z,h] at q;cases q)];exact q
 have tup:∀c xs,H c=some (.tup xs)->upd H b (.lst ws) c=some (.tup xs):=λc y q=>by
  rw [q0j (λz=>by rw [z,h] at q;cases q)];exact q
 refine ⟨I.ok,I.os,I.bare,⟨I.base.keep,I.base.slot,λc ob e n q=>no c (I.base.free c ob e n q),I.base.there,λc xs e=>tup c xs (I.base.tups c xs e),λc ob u e=>?_,λc ps e=>?_⟩,I.loc,I.cell,no _ I.free,λx c e=>no c (I.freeC x c e),λp hp=>?_,λc u e=>?_,I.len⟩
 ·have q:=I.base.frzs c ob u e
  rw [q0j (λz=>by subst z;exact hx ob u e)];exact q
 ·obtain ⟨more,q⟩:=I.base.tbls c ps e
  exact ⟨more,by rw [q0j (λz=>by rw [z,h] at q;cases q)];exact q⟩
 ·obtain ⟨p1,p2,p3⟩:=I.pin p hp
  exact ⟨p1,no _ p2,p3⟩
 ·by_cases hc:c=b
  ·subst hc
   rw [q0w] at e;cases e
   exact ((I.hok _ _ h).2).stay (λ_ _ _ q=>q) (λc=>own c _) tup
  ·rw [q0j hc] at e
   exact (I.hok c u e).stay (λ_ _ _ q=>q) (λc=>own c _) tup
theorem q8e {H H':Hp} {b:Addr} {ws:List V} {o:Obj} (h:H b=some (.lst ws)) (s1:Same (upd H b (.frz o (.lst ws))) H'):Same H (upd H' b (.lst ws)):=λc u e=>by
 by_cases hc:c=b
 ·subst hc;rw [q0w,<-h];exact e
 ·rw [q0j hc];exact s1 c u (by rw [q0j hc];exact e)
theorem XW.thaw {T:Tb} {X:Cx} {E:Value->Shared->Prop} {σ:L2.St} {H:Hp} {c:Nat} {b:Addr} {ws:List V} {o:Obj} (h:XW T X E σ H c) (hb:H b=some (.lst ws)) (hx:∀o u,X.H₀ b≠some (.frz o u)):XW T X E σ (upd H b (.frz o (.lst ws))) c:=λpins s u H' I sm fl=>by
 have hb':H' b=some (.frz o (.lst ws)):=sm b _ q0w
 have no:∀c,H' c=none->upd H' b (.lst ws) c=none:=λc q=>by
  rw [q0j (λz=>by rw [z,hb'] at q;cases q)];exact q
 refine h pins s u _ (Inv.thaw I hb' hx) (q8e hb sm) ?_
 obtain ⟨ea,rfl,h1,h2,nc,oe,vs,a0,he,hc,hd,h0,ht⟩:=fl
 refine ⟨ea,rfl,no _ h1,h2,nc,oe,vs,a0,he,hc,hd,h0,?_⟩
 rcases ht with ht | ⟨tb,ot,ts,t1,t2,t3,t4,t5,t6,t7⟩
 ·exact .inl ht
 ·exact .inr ⟨tb,ot,ts,t1,t2,t3,t4,t5,no _ t6,t7⟩
mutual
noncomputable def nl:D->Bool
 | .lst _=>false
 | .tup ds=>nlL ds
 | .ins _ ds=>nlL ds
 | _=>true
noncomputable def nlL:List D->Bool
 | []=>true
 | d::ds=>nl d && nlL ds
end
mutual
theorem Rep.thaw {T:Tb} {K:PySem.W.Frag} {H:Hp} {b:Addr} {ws:List V} {o:Obj} {u:HO} (h:H b=some (.frz o (.lst ws))):∀(d:D) (v:V),nl d=true->Rep T K H d v->Rep T K (upd H b u) d v
 | .non,_,_,q=>q
 | .bl _,_,_,q=>q
 | .int _,_,_,q=>q
 | .str _,_,_,q=>q
 | .tup ds,_,n,q=>by
  obtain ⟨a,vs,r1,r2,r3⟩:=q
  refine ⟨a,vs,r1,?_,RepL.thaw h ds vs n r3⟩
  rcases r2 with (r2 | ⟨o',r2⟩) | r2
  ·exact .inl (.inl (by rw [q0j (λz=>by rw [z,h] at r2;cases r2)];exact r2))
  ·exact .inl (.inr ⟨o',by rw [q0j (λz=>by rw [z,h] at r2;cases r2)];exact r2⟩)
  ·exact .inr r2
 | .lst ds,_,n,_=>by cases n
 | .ins c ds,_,n,q=>by
  obtain ⟨a,dx,fs,r1,r2,r3,r4⟩:=q
  exact ⟨a,dx,fs,r1,by rw [q0j (λz=>by rw [z,h] at r2;cases r2)];exact r2,r3,RepL.thaw h ds _ n r4⟩
 | .exc c,_,_,q=>by
  obtain ⟨a,o',r1,r2,r3⟩:=q
  exact ⟨a,o',r1,by rw [q0j (λz=>by rw [z,h] at r2;cases r2)];exact r2,r3⟩
theorem RepL.thaw {T:Tb} {K:PySem.W.Frag} {H:Hp} {b:Addr} {ws:List V} {o:Obj} {u:HO} (h:H b=some (.frz o (.lst ws))):∀(ds:List D) (vs:List V),nlL ds=true->RepL T K H ds vs->RepL T K (upd H b u) ds vs
 | [],_,_,q=>q
 | d::ds,_,n,q=>by
  obtain ⟨v,r,r1,r2,r3⟩:=q
  have n:(nl d && nlL ds)=true:=n
  rw [Bool.and_eq_true] at n
  exact ⟨v,r,r1,Rep.thaw h d v n.1 r2,RepL.thaw h ds r n.2 r3⟩
end
@[simp] noncomputable def vwR (i:Nat) (ρ:Ro):Ro:=match ρ[i]? with
 | some (.ox t pre ds post)=>ρ.set i (.sh (mkO t (pre++.lst ds::post)))
 | _=>ρ
section
variable {T:Tb} {ib:Bool} {X:Cx} {e:Expr} {f:Ro->Out Bool} {fe:Ev} {ff:Ro->Out (List D)}
theorem look {α:Type} {G H:Hp} {E:Value->Shared->Prop} {σ:L2.St} {ρ:Ro} {pins:List (Addr×Obj)} {s:Shared} (i:Nat) {g:Ro->Out α} {k:α->Prop} (I:Inv (X.wish E) pins σ H s) (fr:FR T X.K G H σ ρ) (q:Acc T X E σ H (g (vwR i ρ)) k) :
 (FR T X.K G H σ ρ/\Acc T X E σ H (g ρ) k/\vwR i ρ=ρ)∨∃(b:Addr) (ws:List V) (o:Obj),H b=some (.lst ws)/\(∀o u,X.H₀ b≠some (.frz o u))/\Inv (X.wish E) pins σ (upd H b (.frz o (.lst ws))) s/\FR T X.K G (upd H b (.frz o (.lst ws))) σ (vwR i ρ)/\Acc T X E σ (upd H b (.frz o (.lst ws))) (g (vwR i ρ)) k:=by
 cases e0:ρ[i]? with
 | none=>left;have z:vwR i ρ=ρ:=by simp [e0]
         rw [z] at q;exact ⟨fr,q,z⟩
 | some w=>
  cases w with
  | ox t pre ds post=>
   right
   obtain ⟨a,vp,b,vq,ws,e1,e2,r1,r2,e3,e4,r3⟩:=fr.sl i _ e0
   obtain ⟨o,I2⟩:=Inv.freeze I e3
   have hx:=Inv.unfrz I.unwish e3
   have z:vwR i ρ=ρ.set i (.sh (mkO t (pre++.lst ds::post))):=by simp [e0]
   refine ⟨b,ws,o,e3,hx,I2,?_,?_⟩
   ·rw [z];exact j3z fr e0 e1 e2 r1 r2 e3 e4 r3
   ·cases eg:g (vwR i ρ) with
    | ok a=>rw [eg] at q;exact q
    | exc c=>rw [eg] at q;exact XW.thaw q e3 hx
    | bad=>rw [eg] at q;exact q
  | _=>left;have z:vwR i ρ=ρ:=by simp [e0]
       rw [z] at q;exact ⟨fr,q,z⟩
end
section
variable {T:Tb} {ib:Bool} {X:Cx} {e:Expr} {es:List Expr} {pos p:Pos} {fe:Ev} {fs:Ro->Out (List D)} {fr':Ro->Out Rv} {x:Str}
end
section
variable {T:Tb} {ib:Bool} {X:Cx} {e:Expr} {pos p:Pos} {fr':Ro->Out Rv} {x:Str}
end
section
variable {T:Tb} {K:PySem.W.Frag} {G H:Hp} {σ:L2.St} {ρ:Ro}
end
section
variable {T:Tb} {ib:Bool} {X:Cx} {e b:Expr} {pos p p2 p3 pc ps:Pos} {fe fb:Ev} {x:Str} {c:Int} {j:Nat}
end
section
variable {P:Program} {w:World} {A:Around}
noncomputable abbrev two (x:Value) (c:Nat):Obj:=⟨.type "list",none,.seq #[x,x] c,#[]⟩
end
open AutoSeq1 (wpAny_loadPart')
open SeqAt
end L3
namespace L3
open PySem PySem.Spec PyProof.Rows L2
section
variable {X:Cx}
end
section
variable {T:Tb} {X:Cx}
end
section
variable {T:Tb} {ib:Bool} {X:Cx} {e b:Expr} {pos pos' p p2:Pos} {fe fb:Ev} {x:Str}
end
section
variable {X:Cx}
theorem q9w (hc:X.calm=true):q1V X (.builtin "sum") (λxs H Q=>∃(a:Addr) (is:List Int),xs=[.ref a]/\SqT X.K H a (is.map V.int)/\(∀j,j < is.length->InLong (is.getD j 0)/\InLong (isum (is.take (j+1))))/\Q (.int (isum is)) H):=by
 intro pins s σ H xs us Q I rv h
 obtain ⟨a,is,rfl,hq,hf,q⟩:=h
 obtain ⟨u,rfl,ru⟩:=rv.one
 cases ru
 obtain ⟨its,r,pl,hz⟩:=I.tuple hq
 have pl:s.heap.IsTuple a its.toArray:=pl
 obtain ⟨hl,hg⟩:=q30 r
 have hlt:a < s.heap.objs.size:=by
  obtain ⟨o,ho,_⟩:=pl
  exact Heap.lt_size ho
 have W:=Walks.tuple (prog:=X.prog) (w:=X.w) (A:=X.A.in1) (show X.A.in1.handled=none from I.ok.hd hc) s.heap.objs.size a (Nat.ne_of_lt hlt) its.toArray
 refine call_sum_walk (wpAny_pyIter_tuple pl ⟨_,_,_,_,_,_,λi=>is.getD i 0,rfl,W,⟨⟨_,Heap.get?_push_size _ rfl,rfl,rfl⟩,?_⟩,?_,?_,?_,λh' tk t' hk=>?_⟩)
 ·obtain ⟨o,ho,r'⟩:=pl
  exact ⟨o,Heap.get?_push_of_some _ ho,r'⟩
 ·intro b hb
  show b < (s.heap.push _).objs.size
  rw [Heap.size_push]
  simp only [List.mem_cons,List.not_mem_nil,or_false] at hb
  rcases hb with rfl | rfl
  ·exact Nat.lt_succ_self _
  ·exact Nat.lt_succ_of_lt hlt
 ·intro i v e
  exact hg i v (by rw [<-e];simp)
 ·intro j hj
  rw [List.size_toArray,hl] at hj
  rw [q1Q is (j+1) hj]
  exact hf j hj
 ·have I2:=Inv.walked (s:=s) (tk:=tk) I hk
  refine ⟨.int (isum is),H,I2,⟨t',?_⟩,q⟩
  rw [List.size_toArray,hl,q1Q is is.length (Nat.le_refl _),List.take_length]
end
section
variable {T:Tb} {X:Cx}
noncomputable def q9N:List D->Out D
 | [.tup ds]=>(match q2u ds with | some is=>if q3c is=true then .ok (.int (isum is)) else .bad | none=>.bad)
 | _=>.bad
theorem j4B (hc:X.calm=true):CaD T X (.builtin "sum") q9N:=λE=>⟨_,q9w hc,λds vs σ H Q r h=>by
 unfold q9N at h
 split at h
 ·rename_i ds'
  obtain ⟨v,rfl,a,ws,rfl,fz,rl⟩:=r.one
  cases q:q2u ds' with
  | none=>rw [q] at h;exact h.elim
  | some is=>
   rw [q] at h
   have h:Acc T X E σ H (if q3c is=true then .ok (.int (isum is)) else .bad) (kE T X.K H Q):=h
   by_cases c:q3c is=true
   ·rw [if_pos c] at h
    obtain rfl:=q14 q rl
    exact ⟨a,is,rfl,fz,q3B c,h _ H (Same.refl H) rfl⟩
   ·rw [if_neg c] at h;exact h.elim
 ·exact h.elim⟩
end
section
variable {K:Type} [DecidableEq K]
noncomputable def inK (σ:List K) (k:K):Bool:=σ.any λx=>decide (x=k)
noncomputable def q1G (σ:List K) (k:K):List K:=if inK σ k=true then σ else σ++[k]
noncomputable def dk (ks:List K):List K:=ks.foldl q1G []
theorem j31 (ks:List K) (k:K):dk (ks++[k])=q1G (dk ks) k:=by
 unfold dk;rw [List.foldl_append];rfl
theorem q2n {σ:List K} {k:K}:inK σ k=true↔k∈σ:=by
 unfold inK;simp
theorem q8r {σ:List K} {v k:K}:k∈q1G σ v↔k∈σ∨k=v:=by
 unfold q1G
 split
 ·rename_i h
  rw [q2n] at h
  constructor
  ·exact .inl
  ·rintro (z | rfl)
   ·exact z
   ·exact h
 ·simp
theorem j1e (σ:List K) (v k:K):inK (q1G σ v) k=(inK σ k || decide (k=v)):=by
 rw [Bool.eq_iff_iff,q2n,q8r,Bool.or_eq_true,q2n,decide_eq_true_eq]
theorem q6P (σ:List K) (v:K):(q1G σ v).length=if inK σ v=true then σ.length else σ.length+1:=by
 unfold q1G
 split<;>simp
theorem q3J:∀(ks σ:List K),(ks.foldl q1G σ).length<=σ.length+ks.length
 | [],σ=>Nat.le_refl _
 | k::ks,σ=>by
  have h1:=q3J ks (q1G σ k)
  have h2:=q6P σ k
  rw [List.foldl_cons,List.length_cons]
  split at h2<;>omega
theorem j53 (ks:List K):(dk ks).length<=ks.length:=by
 have:=q3J ks []
 simpa [dk] using this
theorem q5y {σ:List K} {v:K} (h:σ.Nodup):(q1G σ v).Nodup:=by
 unfold q1G
 split
 ·exact h
 ·rename_i z
  rw [q2n] at z
  rw [List.nodup_append]
  exact ⟨h,by simp,λa ha b hb e=>z (by rw [List.mem_singleton.mp hb] at e;exact e ▸ ha)⟩
theorem q4q:∀(ks σ:List K),(σ++ks).Nodup->ks.foldl q1G σ=σ++ks
 | [],σ,_=>by simp
 | k::ks,σ,h=>by
  have hk:k∉σ:=λz=>by
   rw [List.nodup_append] at h
   exact h.2.2 k z k (by simp) rfl
  have e:q1G σ k=σ++[k]:=by
   unfold q1G
   rw [if_neg (λz=>hk (q2n.mp z))]
  rw [List.foldl_cons,e,q4q ks (σ++[k]) (by simpa using h)]
  simp
theorem q6t:∀(ks σ:List K),¬(σ++ks).Nodup->σ.Nodup->(ks.foldl q1G σ).length < σ.length+ks.length
 | [],σ,h,hs=>absurd (by simpa using hs) h
 | k::ks,σ,h,hs=>by
  by_cases hk:k∈σ
  ·have e:q1G σ k=σ:=by
    unfold q1G
    rw [if_pos (q2n.mpr hk)]
   rw [List.foldl_cons,e,List.length_cons]
   have:=q3J ks σ
   omega
  ·have e:q1G σ k=σ++[k]:=by
    unfold q1G
    rw [if_neg (λz=>hk (q2n.mp z))]
   have:=q6t ks (σ++[k]) (by simpa using h) (by rw [<-e];exact q5y hs)
   rw [List.foldl_cons,e,List.length_cons]
   simp at this
   omega
theorem q6V (ks:List K):(dk ks).length=ks.length↔ks.Nodup:=by
 constructor
 ·intro h
  refine Classical.byContradiction λz=>?_
  have:=q6t ks [] (by simpa using z) (by simp)
  simp only [List.length_nil,Nat.zero_add] at this
  have e:ks.foldl q1G []=dk ks:=rfl
  rw [e] at this
  omega
 ·intro h
  have:=q4q ks [] (by simpa using h)
  have e:ks.foldl q1G []=dk ks:=rfl
  rw [e] at this
  rw [this];simp
end
section
variable {K:Type} [DecidableEq K] {P:Program} {w:World} {knd:PySem.KeyKind P w K}
theorem q6J {h:Heap} {a:Addr} {S S':K->Bool} {n n':Nat} (x:h.SetOf knd a S n) (e1:∀k,S k=S' k) (e2:n=n'):h.SetOf knd a S' n':=by
 cases funext e1;cases e2;exact x
noncomputable def j3m (knd:PySem.KeyKind P w K) (items:Array Value) (ks:List K):Prop:=items.size=ks.length/\∀(i:Nat) (v:Value),items[i]?=some v->∃k,ks[i]?=some k/\knd.is k v=true/\v.scannable=true
theorem q8Z {ks:List K} {i:Nat} {k:K} (h:ks[i]?=some k):ks.take (i+1)=ks.take i++[k]:=by
 obtain ⟨hi,e⟩:=List.getElem?_eq_some_iff.mp h
 rw [List.take_succ_eq_append_getElem hi,e]
section
variable {A:Around} {R:Result->Shared->Prop} {J:Addr} {fp wr:List Addr} {G:Array GenState->Array GenState->Prop} {St:Nat->Shared->Prop}
theorem q27 {S:Addr} {G:Array GenState->Array GenState->Prop} {wr:List Addr} {s s':Shared} {f:K->Bool} {n:Nat} (h:s.heap.SetOf knd S f n) (m:Moved wr G s s') (hS:S∉wr):s'.heap.SetOf knd S f n:=by
 obtain ⟨o,es,ep,t,ho,more⟩:=h
 exact ⟨o,es,ep,t,m.heap S _ hS ho,more⟩
theorem j0H {items:Array Value} {ks:List K} (W:WalksS P w A.in1 J fp wr G items.size (λi v=>items[i]?=some v) St) (S:Addr) (hSf:S∉fp) (hk:j3m knd items ks) (hb:ks.length+1 < scanBound) :
 ∀(m i:Nat) (s:Shared),i+m=items.size->St i s->s.heap.SetOf knd S (inK (dk (ks.take i))) (dk (ks.take i)).length ->
  (∀s',Moved (S::wr) G s s'->s'.heap.SetOf knd S (inK (dk ks)) (dk ks).length->R (.ok (.ret .none)) s')->codeAny (model P w) A (.builtin "set.update.loop" ⟨[.ref S,.ref J],[]⟩) R s:=by
 have nw:S∉wr:=λz=>hSf (W.sub _ z)
 have more:∀b∈wr,b∈S::wr:=λb z=>List.mem_cons_of_mem _ z
 intro m
 induction m with
 | zero=>
  intro i s hi hst hset fin
  obtain rfl:i=items.size:=by omega
  refine codeAny_builtin PyProof.Rows.F.entry_set_update_loop ?_
  rw [Around.under_plainId PyProof.Rows.F.plain_set_update_loop _]
  show wpAny _ A.in1 (pyNext (.ref J) >>= _) _ _ s
  refine wpAny_bind (W.done s _ _ hst λs' mv=>?_)
  show wpAny _ A.in1 (ret Value.none) _ _ s'
  refine wpAny_pure (fin s' (mv.mono more) ?_)
  have:=q27 hset mv nw
  rwa [List.take_of_length_le (by rw [hk.1];exact Nat.le_refl _)] at this
 | succ m ih=>
  intro i s hi hst hset fin
  refine codeAny_builtin PyProof.Rows.F.entry_set_update_loop ?_
  rw [Around.under_plainId PyProof.Rows.F.plain_set_update_loop _]
  show wpAny _ A.in1 (pyNext (.ref J) >>= _) _ _ s
  refine wpAny_bind (W.item i s _ _ (by omega) hst λv s' hv hst' mv=>?_)
  obtain ⟨k,ek,isk,sck⟩:=hk.2 i v hv
  have hset':=q27 hset mv nw
  show wpAny _ A.in1 (holding [v] (setAdd S v) >>= _) _ _ s'
  refine wpAny_bind (wpAny_holding ?_)
  unfold setAdd
  refine wpAny_holding (wpAny_bind (knd.pyHash (k:=k) isk ?_))
  have room:(dk (ks.take i)).length+1 < scanBound:=by
   have:=j53 (ks.take i)
   rw [List.length_take] at this;omega
  refine wpAny_setAddHashed_of (knd:=knd) (s:={ s' with toks:=s'.toks+1 }) isk sck hset' room λh' sb hset2=>?_
  have hset3:h'.SetOf knd S (inK (dk (ks.take (i+1)))) (dk (ks.take (i+1))).length:=by
   rw [q8Z ek,j31]
   exact q6J hset2 (λq=>(j1e _ _ _).symm) (q6P _ _).symm
  refine wpAny_pure ⟨plainId_quiet PyProof.Rows.F.plain_set_update_loop _,ih (i+1) _ (by omega) (W.frame _ s' _ _ hst' (Nat.le_succ _) λb hb' o e=>?_) hset3 λs2 mv2 hs2=>fin s2 ?_ hs2⟩
  ·rw [sb.2 b (λz:b=S=>hSf (z ▸ hb'))];exact e
  ·refine Moved.trans W.gtrans ((mv.mono more).then_heap (Nat.le_succ _) λb o hb' e=>?_) mv2
   rw [sb.2 b (λz:b=S=>hb' (z ▸ List.mem_cons_self))];exact e
end
section
variable {A:Around} {E:Value->Shared->Prop} {s:Shared}
set_option maxHeartbeats 3200000 in
theorem j0z {l:Addr} {items:Array Value} {ks:List K} {Q:Value->Shared->Prop} (hh:A.handled=none) (hl:s.heap.IsList l items) (hk:j3m knd items ks) (hb:ks.length+1 < scanBound)
 (fin:∀(h':Heap) (tk:Nat),h'.SetOf knd s.heap.objs.size (inK (dk ks)) (dk ks).length->(∀b o,s.heap.get? b=some o->h'.get? b=some o)->Q (.ref s.heap.objs.size) { s with heap:=h',toks:=tk }) :
 wpAny (model P w) A (call (.type "set") [.ref l]) Q E s:=by
 obtain ⟨c,tl,mro⟩:=PySem.F.called_set.mro
 have made:=PySem.F.called_set.made
 have subs:=PySem.F.called_set.sub
 refine wpAny_call (codeAny_of_tree ?_)
 show wpAny _ _ (callAny (.type "set") _) _ _ _
 refine wpAny_pure ⟨Code.quiet_builtin _ (by decide +kernel),codeAny_builtin PySem.F.entry_type_call ?_⟩
 rw [Around.under_plain (weight_type_call_type "set" [.ref l] []) rfl]
 have notT:=PySem.F.called_set.notType
 have canC:=PySem.F.called_set.canCreate
 have tcall:=PySem.F.typeCall_set_1 (.ref l)
 repeat (any_goals (first | assumption | wp_step))
 refine codeAny_mono (code_set_new_1 (.ref l) (E:=E) (Q₁:=λobj s₁=>∃led:Bool,obj=.ref s.heap.objs.size/\s₁={ s with heap:=s.heap.push { cls:=.type "set",dict:=none,data:=.set #[] 0 (.fresh 0 0 led) } }) λled=>⟨led,rfl,rfl⟩) λr s₁ hr=>?_
 rcases r with e | fl
 ·exact hr
 rcases fl with _ | _ | _ | obj
 any_goals exact hr.elim
 obtain ⟨led,rfl,rfl⟩:=hr
 generalize hO:({ cls:=.type "set",dict:=none,data:=.set #[] 0 (.fresh 0 0 led) }:Obj)=O
 have gO:(s.heap.push O).get? s.heap.objs.size=some O:=Heap.get?_push_size _ (by rw [<-hO];rfl)
 have tO:Shared.TypeIs { s with heap:=s.heap.push O } (.ref s.heap.objs.size) "set":=⟨_,gO,by rw [<-hO]⟩
 have look:=PySem.F.called_set.init.lookup
 have bnd:=PySem.F.called_set.init.bind (.ref s.heap.objs.size)
 repeat (any_goals (first | assumption | wp_step))
 refine codeAny_mono (codeAny_call_builtin (R:=wants (λr s₂=>r=.none/\∃h' tk,s₂={ s with heap:=h',toks:=tk }/\h'.SetOf knd s.heap.objs.size (inK (dk ks)) (dk ks).length/\∀b o,s.heap.get? b=some o->h'.get? b=some o) E) PySem.F.called_set.init.plain PySem.F.entry_set_init (check_set_init_1 tO ?_)) λr₂ s₂ hr₂=>?_
 ·obtain ⟨⟨oc,od,odt,osl⟩,ho,hc,n,hd⟩:=hl
  simp only at hc hd
  subst hc hd
  have lt:l < s.heap.objs.size:=Heap.lt_size ho
  have ho':(s.heap.push O).get? l=some { cls:=.type "list",dict:=od,data:=.seq items n,slots:=osl }:=Heap.get?_push_of_some _ ho
  have n1:=PySem.F.sub_list_set
  have n2:=PySem.F.sub_list_frozenset
  have n3:(Value.type "list"==Value.type "dict")=false:=by decide
  have isl:(s.heap.push O).IsList l items:=⟨_,ho',rfl,n,rfl⟩
  have sz:(s.heap.push O).objs.size=s.heap.objs.size+1:=Heap.size_push ..
  subst hO
  unfold Builtin.«set.__init__» noKeywords Builtin.Frozenset.updateFrom
  generalize hPI:pyIter=PI
  wp_walk
  subst hPI
  refine wpAny_pyIter_list isl ?_
  refine wpAny_bind (wpAny_runValue ?_)
  have h3:A.in1.in1.in1.handled=none:=by simp [hh]
  have ne1:l≠(s.heap.push { cls:=.type "set",dict:=none,data:=.set #[] 0 (.fresh 0 0 led) }).objs.size:=by rw [sz];exact Nat.ne_of_lt (Nat.lt_succ_of_lt lt)
  have nf:s.heap.objs.size∉[(s.heap.push { cls:=.type "set",dict:=none,data:=.set #[] 0 (.fresh 0 0 led) }).objs.size,l]:=by
   rw [sz];simp only [List.mem_cons,List.not_mem_nil,or_false,not_or]
   exact ⟨Nat.ne_of_lt (Nat.lt_succ_self _),Nat.ne_of_gt lt⟩
  refine j0H ((Walks.list h3 _ l ne1 items).toS) s.heap.objs.size nf hk hb items.size 0 _ (by simp) ⟨⟨_,Heap.get?_push_size _ rfl,rfl,rfl⟩,isl.push _⟩ ?_ λs' mv hs'=>?_
  ·exact q6J ((PyProof.Rows.setObjOf_fresh (knd:=knd) led).setOf (Heap.get?_push_of_some _ gO) (by unfold scanBound;omega)) (λ_=>rfl) rfl
  ·obtain ⟨h',g',d',tk',os'⟩:=s'
   obtain rfl:g'=s.gens:=mv.gens
   obtain rfl:d'=s.drawn:=mv.drawn
   obtain rfl:os'=s.os:=mv.os
   refine wpAny_pure (?_:wpAny _ _ (ret Value.none) _ _ _)
   refine wpAny_pure ⟨rfl,h',tk',rfl,hs',λb o e=>?_⟩
   have hb0:=Heap.lt_size e
   exact mv.heap b o (by rw [sz];simp only [List.mem_cons,List.not_mem_nil,or_false,not_or];exact ⟨Nat.ne_of_lt hb0,Nat.ne_of_lt (Nat.lt_succ_of_lt hb0)⟩) (Heap.get?_push_of_some _ (Heap.get?_push_of_some _ e))
 ·rcases r₂ with e | fl₂
  ·exact hr₂
  rcases fl₂ with _ | _ | _ | r
  any_goals exact hr₂.elim
  obtain ⟨rfl,h',tk,rfl,hs',kk⟩:=hr₂
  repeat (any_goals (first | assumption | wp_step))
  exact fin _ _ hs' kk
end
end
section
variable {X:Cx} {pins:List (Addr×Obj)} {σ:L2.St} {H:Hp} {s:Shared}
theorem Inv.enter {ea:Addr} {φ:Heap->Prop} {ob:Obj} (I:Inv X pins σ H s) (hn:H ea=none) (fe:Free X pins ea) (ho:s.heap.get? ea=some ob) (hφ:φ s.heap) (st:∀h1 h2:Heap,φ h1->(∀o,h1.get? ea=some o->h2.get? ea=some o)->φ h2) :
 Inv X pins σ (upd H ea (.ext φ)) s:=by
 obtain ⟨f1,f2,f3,f4⟩:=fe
 have ne:∀b o,H b=some o->b≠ea:=λb o e z=>by rw [z,hn] at e;cases e
 refine ⟨I.ok,I.os,I.bare,⟨I.base.keep,I.base.slot,λb o e n hx=>?_,I.base.there,λb xs e=>?_,λb o v e=>?_,λb ps e=>?_⟩,I.loc,I.cell,?_,λy cc e=>?_,λp hp=>?_,λb o e=>?_,I.len⟩
 ·rw [q0j (λz=>?_)]
  ·exact I.base.free b o e n hx
  ·rcases f1 with f1 | f1
   ·exact hx (z ▸ f1)
   ·rw [z] at e;rw [f1] at e;cases e
 ·have q:=I.base.tups b xs e;rw [q0j (ne b _ q)];exact q
 ·have q:=I.base.frzs b o v e;rw [q0j (ne b _ q)];exact q
 ·obtain ⟨more,q⟩:=I.base.tbls b ps e
  exact ⟨more,by rw [q0j (ne b _ q)];exact q⟩
 ·rw [q0j (Ne.symm f2)];exact I.free
 ·rw [q0j (f3 y cc e)];exact I.freeC y cc e
 ·obtain ⟨a1,a2,a3⟩:=I.pin p hp
  exact ⟨a1,by rw [q0j (f4 p hp)];exact a2,a3⟩
 ·have ow:∀b y,H b=some (.own y)->upd H ea (.ext φ) b=some (.own y):=λb y q=>by rw [q0j (ne b _ q)];exact q
  have tu:∀b y,H b=some (.tup y)->upd H ea (.ext φ) b=some (.tup y):=λb y q=>by rw [q0j (ne b _ q)];exact q
  by_cases hb:b=ea
  ·subst hb
   rw [q0w] at e;cases e
   exact ⟨hφ,⟨ob,ho⟩,st⟩
  ·rw [q0j hb] at e
   exact (I.hok b o e).stay (λ_ _ _ q=>q) (λcc=>ow cc _) tu
theorem j1p (I:Inv X pins σ H s) {b:Addr} (hb:s.heap.objs.size<=b):Free X pins b:=q9C I (Heap.get?_none_of_le hb)
end
section
variable {K:Type} [DecidableEq K] {X:Cx} {knd:PySem.KeyKind X.prog X.w K}
noncomputable def q75 (knd:PySem.KeyKind X.prog X.w K) (p:Addr) (ks:List K) (h:Heap):Prop:=h.SetOf knd p (inK (dk ks)) (dk ks).length
theorem j0C {p:Addr} {ks:List K} {h1 h2:Heap} (x:q75 knd p ks h1) (k:∀o,h1.get? p=some o->h2.get? p=some o):q75 knd p ks h2:=by
 obtain ⟨o,es,ep,t,ho,more⟩:=x
 exact ⟨o,es,ep,t,k _ ho,more⟩
theorem Free.later {pins:List (Addr×Obj)} {σ:L2.St} {H:Hp} {s:Shared} (I:Inv X pins σ H s):Free X pins s.heap.objs.size:=j1p I (Nat.le_refl _)
theorem q8R {kv:K->V} (hc:X.calm=true) (hkv:∀(k:K) (v:Value),RelV (kv k) v->knd.is k v=true/\v.scannable=true):q1V X (.type "set") (λxs H Q=>∃(a:Addr) (ks:List K),xs=[.ref a]/\SqL X.K H a (ks.map kv)/\ks.length<=4000/\∀p,H p=none->Q (.ref p) (upd H p (.ext (q75 knd p ks)))):=by
 intro pins s σ H xs us Q I rv h
 obtain ⟨a,ks,rfl,hq,hl,q⟩:=h
 obtain ⟨u,rfl,ru⟩:=rv.one
 cases ru
 obtain ⟨its,r,pl,hz⟩:=I.list hq
 have len:=r.length
 rw [List.length_map] at len
 have fr:=I.fresh
 refine j0z (knd:=knd) (items:=its.toArray) (ks:=ks) (I.ok.hd hc) pl.isList ⟨by simp [len],λi v e=>?_⟩ (by unfold scanBound;omega) λh' tk hs kk=>?_
 ·have e':its[i]?=some v:=by simpa using e
  obtain ⟨hi,e2⟩:=List.getElem?_eq_some_iff.mp e'
  have hi':i < ks.length:=by omega
  obtain ⟨u,hu,ru⟩:=r.get (show (ks.map kv)[i]?=some (kv ks[i]) by simp [hi'])
  rw [e'] at hu;cases hu
  exact ⟨ks[i],by simp [hi'],hkv _ _ ru⟩
 ·have I2:Inv X pins σ H { s with heap:=h',toks:=tk }:=I.kept kk
  have f2:Free X pins s.heap.objs.size:=Free.later I
  obtain ⟨o,es,ep,t,ho,more⟩:=hs
  have hs':q75 knd s.heap.objs.size ks h':=⟨o,es,ep,t,ho,more⟩
  exact ⟨.ref s.heap.objs.size,_,Inv.enter I2 fr f2 ho hs' (λh1 h2 x k=>j0C x k),rfl,q _ fr⟩
theorem q44:q1V X (.builtin "len") (λxs H Q=>∃(a:Addr) (ks:List K) (φ:Heap->Prop),xs=[.ref a]/\H a=some (.ext φ)/\(∀h,φ h->q75 knd a ks h)/\ks.length<=4000/\Q (.int (dk ks).length) H):=by
 intro pins s σ H xs us Q I rv h
 obtain ⟨a,ks,φ,rfl,ha,hφ,hl,q⟩:=h
 obtain ⟨u,rfl,ru⟩:=rv.one
 cases ru
 obtain ⟨p,_⟩:=(show ObjOk X.prog X.w H s.heap a (.ext φ) from I.hok a _ ha)
 obtain ⟨o,es,ep,t,ho,hex,hd,hel,hmem,hb,hf,hn⟩:=hφ _ p
 have:=j53 ks
 refine call_len_set ho hex hd hf (by rw [hn];omega) ?_
 rw [hn]
 exact ⟨.int _,H,I.tok _,⟨_,rfl⟩,q⟩
end
section
variable {T:Tb} {X:Cx} {e:Expr} {pos p pos2 p2:Pos} {fl:Ro->Out (List D)}
@[simp] noncomputable def q8z (fl:Ro->Out (List D)) (ρ:Ro):Out D:=(fl ρ).bind λds=>match q2o ds with
 | some ts=>if ts.length<=4000 then .ok (.int (dk ts).length) else .bad
 | none=>.bad
theorem q9Q (hc:X.calm=true) (hg:Gl X "len") (hm:X.mg "len" = none) (hg2:Gl X "set") (hm2:X.mg "set" = none) (hl:DL T X e fl)
 (hs:starEach [e] X.env=(false,eval e X.env)::starEach [] X.env:=by exact q0D rfl) (hpl:(backTo pos2 (starEach ([]:List Expr) X.env)).any (·.1)=false:=by exact q0H rfl)
 (hsO:starEach [.Call (.Name "set" p2) [e] [] pos2] X.env=(false,eval (.Call (.Name "set" p2) [e] [] pos2) X.env)::starEach [] X.env:=by exact q0D rfl) (hplO:(backTo pos (starEach ([]:List Expr) X.env)).any (·.1)=false:=by exact q0H rfl) :
 DE T X (.Call (.Name "len" p) [.Call (.Name "set" p2) [e] [] pos2] [] pos) (q8z fl):=.mk λG E hp=>
 PE.imp (q3X (X:=X.wish E) (q44 (X:=X.wish E) (knd:=strKind (X.wish E).prog (X.wish E).w)) hg hm rfl (q0O (X:=X.wish E) (q11 (X:=X.wish E) (q8R (X:=X.wish E) (knd:=strKind (X.wish E).prog (X.wish E).w) (kv:=V.str) hc (λk v r=>by
  obtain ⟨t,rfl⟩:=r
  exact ⟨strKind_is _ _ _ _,rfl⟩)) hg2 hm2 rfl (q0O (X:=X.wish E) (hl.run G E hp) q1p hs) (by decide) (by decide) hs hpl) q1p hsO) (by decide) (by decide) hsO hplO) fun σ H Q ⟨ρ,fr,h⟩=>⟨ρ,fr,Acc.mono (Acc.bind h) λds _ hd l vs H1 s1 sq r=>by
  cases q:q2o ds with
  | none=>rw [q] at hd;exact hd.elim
  | some ts=>
   rw [q] at hd
   have hd:Acc T X E σ H (if ts.length<=4000 then Out.ok (.int (dk ts).length) else .bad) (kE T X.K H Q):=hd
   by_cases z:ts.length<=4000
   ·rw [if_pos z] at hd
    obtain rfl:=q2A q r
    exact ⟨l,ts,rfl,sq,z,λp hp=>⟨p,ts,_,rfl,q0w,λh x=>x,z,hd _ _ (s1.trans (q0F hp)) rfl⟩⟩
   ·rw [if_neg z] at hd;exact hd.elim⟩
end
noncomputable def q3e (tu:Bool) (l:Addr):Obj:={ cls:=.type (if tu then "tuple_iterator" else "list_iterator"),data:=.fields #[.ref l,.int 0 0] }
noncomputable def q1X (it:Addr) (i:Int) (old:Value):Obj:={ cls:=.type "enumerate",data:=.fields #[.none,.bool false,.ref it,rawInt i,.none,old] }
noncomputable def j3P (tu:Bool) (h:Heap) (l:Addr) (its:Array Value):Prop:=if tu=true then h.IsTuple l its else h.IsList l its
theorem q9D {P:Program} {w:World} {A:Around} {E:Value->Shared->Prop} {s:Shared} {tu:Bool} {l:Addr} {its:Array Value} {Q:Value->Shared->Prop} (h:j3P tu s.heap l its) (q:Q (.ref s.heap.objs.size) { s with heap:=s.heap.push (q3e tu l) }):wpAny (model P w) A (pyIter (.ref l)) Q E s:=by
 cases tu with
 | true=>exact wpAny_pyIter_tuple h q
 | false=>exact wpAny_pyIter_list h q
set_option maxHeartbeats 2000000 in
theorem j1D (tu:Bool) (l:Addr) (its:Array Value) (t:Tok) :
 Meets (Builtin.«enumerate.__new__» ⟨[.type "enumerate",.ref l],[(("start" : Str),.int 1 t)]⟩) (λ_ R s=>j3P tu s.heap l its /\
  R (.ok (.ret (.ref (s.heap.objs.size+1)))) { s with heap:=(s.heap.push (q3e tu l)).push (q1X s.heap.objs.size 1 .none) }):=
 .of_wp λprog w A R s h=>by
  obtain ⟨hp,g,d,tk,os⟩:=s
  obtain ⟨hl,h⟩:=h
  have sub:=sub_enumerate
  have sz:(hp.push (q3e tu l)).objs.size=hp.objs.size+1:=Heap.size_push ..
  wp_walk
  refine wpAny_stack_any λst=>wpAny_pure ?_
  split
  ·rename_i c _ _ _ _ _
   cases (c==Value.type "enumerate")<;>(wp_walk using q9D hl;exact ⟨_,rfl,by simp only [sz];exact h⟩)
  ·wp_walk using q9D hl
   exact ⟨_,rfl,by simp only [sz];exact h⟩
noncomputable def IsIt (tu:Bool) (h:Heap) (it l:Addr) (i:Nat):Prop:=if tu=true then h.IsTupleIter it l i else h.IsListIter it l i
section
variable {P:Program} {w:World} {A:Around} {E:Value->Shared->Prop} {s:Shared} {tu:Bool} {it l e:Addr} {i:Nat} {its:Array Value}
theorem IsIt.kept {h h':Heap} (x:IsIt tu h it l i) (k:∀o,h.get? it=some o->h'.get? it=some o):IsIt tu h' it l i:=by
 cases tu with
 | true=>
  obtain ⟨o,ho,r⟩:=(x:h.IsTupleIter it l i)
  exact (⟨o,k o ho,r⟩:h'.IsTupleIter it l i)
 | false=>
  obtain ⟨o,ho,r⟩:=(x:h.IsListIter it l i)
  exact (⟨o,k o ho,r⟩:h'.IsListIter it l i)
theorem IsIt.obj {h:Heap} (x:IsIt tu h it l i):∃o,h.get? it=some o/\∃vs,o.data=.fields vs:=by
 cases tu with
 | true=>
  obtain ⟨o,ho,_,d⟩:=(x:h.IsTupleIter it l i)
  exact ⟨o,ho,_,d⟩
 | false=>
  obtain ⟨o,ho,_,d⟩:=(x:h.IsListIter it l i)
  exact ⟨o,ho,_,d⟩
theorem q62 {x:Value} {Q:Value->Shared->Prop} (a:s.heap.IsTupleIter it l i) (b:s.heap.IsTuple l its) (c:its[i]?=some x) (q:∀h',h'.IsTupleIter it l (i+1)->Heap.SameBut it s.heap h'->Q x { s with heap:=h' }) :
 wpAny (model P w) A (Builtin.SmallTypes.nextOf (.ref it)) Q E s:=by
 obtain ⟨o,ho,hcl,hd⟩:=id a
 obtain ⟨ot,hot,_,n,hdt⟩:=b
 unfold Builtin.SmallTypes.nextOf
 refine wpAny_bind (wpAny_callSpecial?_slot (name:=Str.ofString "__next__") a.typeIs PySem.F.slot_tuple_iterator_next (wpAny_call_entry PySem.F.slot_tuple_iterator_next a.typeIs PySem.F.entry_tuple_iterator_next (show wpAny _ _ (field (.ref it) 0 >>= _) _ _ s from wpAny_bind (wpAny_field ho hd (x:=.ref l) rfl ?_)) (PySem.F.args_tuple_iterator_next_1 _)))
 show wpAny _ _ (if (Value.ref l==.none)=true then _ else field (.ref it) 1 >>= _) _ _ s
 rw [if_neg (λz=>by cases z)]
 refine wpAny_bind (wpAny_field ho hd (x:=.int i 0) rfl (show wpAny _ _ (seqItems? (.ref l) >>= _) _ _ s from wpAny_bind (wpAny_seqItems hot hdt ?_)))
 simp only [Int.toNat_natCast,c]
 refine wpAny_bind (wpAny_setField ho hd (by simp) (wpAny_pure ⟨x,rfl,wpAny_pure (q _ ⟨_,Heap.get?_update_self _ ho (Obj.isFreed_of_fields (Obj.data_mapFields hd _)),(Obj.cls_mapFields ..).trans hcl,?_⟩ (Heap.SameBut.update ..))⟩))
 rw [Obj.data_mapFields hd]
 simp [rawInt]
end
section
variable {P:Program} {w:World} {A:Around} {E:Value->Shared->Prop} {s:Shared} {tu:Bool} {it l e:Addr} {i:Nat} {its:Array Value}
theorem j0p {Q:Value->Shared->Prop} (hh:A.handled=none) (a:s.heap.IsTupleIter it l i) (b:s.heap.IsTuple l its) (c:its[i]?=none)
 (q:∀h' e,Heap.ExtBut it s.heap h'->(∃o,h'.get? e=some o/\o.cls=.type "StopIteration")->E (.ref e) { s with heap:=h' }):wpAny (model P w) A (Builtin.SmallTypes.nextOf (.ref it)) Q E s:=by
 obtain ⟨o,ho,hcl,hd⟩:=id a
 obtain ⟨ot,hot,_,n,hdt⟩:=b
 unfold Builtin.SmallTypes.nextOf
 refine wpAny_bind (wpAny_callSpecial?_slot (name:=Str.ofString "__next__") a.typeIs PySem.F.slot_tuple_iterator_next (wpAny_call_entry PySem.F.slot_tuple_iterator_next a.typeIs PySem.F.entry_tuple_iterator_next (show wpAny _ _ (field (.ref it) 0 >>= _) _ _ s from wpAny_bind (wpAny_field ho hd (x:=.ref l) rfl ?_)) (PySem.F.args_tuple_iterator_next_1 _)))
 show wpAny _ _ (if (Value.ref l==.none)=true then _ else field (.ref it) 1 >>= _) _ _ s
 rw [if_neg (λz=>by cases z)]
 refine wpAny_bind (wpAny_field ho hd (x:=.int i 0) rfl (show wpAny _ _ (seqItems? (.ref l) >>= _) _ _ s from wpAny_bind (wpAny_seqItems hot hdt ?_)))
 simp only [Int.toNat_natCast,c]
 refine wpAny_bind (wpAny_rule (wpAny_bind (wpAny_setField ho hd (by simp) (show wpAny _ _ (newExc (.type "StopIteration") [] >>= _) _ _ _ from wpAny_bind ?_))))
 simp only [newExc,newTuple]
 refine wpAny_bind (wpAny_newObj_type (wpAny_bind (m:=firstArgMember _ _) (wpAny_of_eq (a:=Value.none) (by first | rfl | (simp only [firstArgMember];rfl)) (wpAny_newObj_type ?_ (by size_fits)))) (by size_fits))
 simp only [raiseNew]
 refine wpAny_bind (wpAny_handled ?_)
 first | rw [show A.in1.handled=none from hh] | rw [hh]
 exact wpAny_bind (wpAny_pure (wpAny_throw (q _ _ (((Heap.SameBut.update ..).extBut.push _).push _) ⟨_,Heap.get?_push_size _ rfl,rfl⟩)))
theorem j4Q {x:Value} {Q:Value->Shared->Prop} (a:IsIt tu s.heap it l i) (b:j3P tu s.heap l its) (c:its[i]?=some x) (q:∀h',IsIt tu h' it l (i+1)->Heap.SameBut it s.heap h'->Q x { s with heap:=h' }) :
 wpAny (model P w) A (Builtin.SmallTypes.nextOf (.ref it)) Q E s:=by
 cases tu with
 | true=>exact q62 a b c q
 | false=>exact wpAny_nextOf_list_item a b c q
theorem j5Y {Q:Value->Shared->Prop} (hh:A.handled=none) (a:IsIt tu s.heap it l i) (b:j3P tu s.heap l its) (c:its[i]?=none)
 (q:∀h' e,Heap.ExtBut it s.heap h'->(∃o,h'.get? e=some o/\o.cls=.type "StopIteration")->E (.ref e) { s with heap:=h' }):wpAny (model P w) A (Builtin.SmallTypes.nextOf (.ref it)) Q E s:=by
 cases tu with
 | true=>exact j0p hh a b c q
 | false=>exact wpAny_nextOf_list_end hh a b c q
noncomputable def j1P (it:Addr) (n:Int) (x:Value) (a:Addr):Obj:={ cls:=.type "enumerate",data:=.fields #[rawInt a,.bool false,.ref it,rawInt n,.none,x] }
theorem j4l {n:Int} {x old:Value} {Q:Option Value->Shared->Prop} (he:s.heap.get? e=some (q1X it n old)) (a:IsIt tu s.heap it l i) (b:j3P tu s.heap l its) (c:its[i]?=some x) (ne:e≠it)
 (q:∀h',h'.get? e=some (j1P it (n+1) x s.heap.objs.size)->IsIt tu h' it l (i+1)->h'.get? s.heap.objs.size=some { cls:=.type "tuple",data:=.seq #[.int n s.toks,x] } ->
  (∀b o,b≠e->b≠it->s.heap.get? b=some o->h'.get? b=some o)->Q (some (.ref s.heap.objs.size)) { s with heap:=h',toks:=s.toks+1 }):wpAny (model P w) A (pyNext (.ref e)) Q E s:=by
 have ty:s.TypeIs (.ref e) "enumerate":=⟨_,he,rfl⟩
 unfold pyNext
 refine wpAny_bind (wpAny_attempt (wpAny_callSpecial?_slot (name:=Str.ofString "__next__") ty PySem.F.slot_enumerate_next (wpAny_call_entry PySem.F.slot_enumerate_next ty PySem.F.entry_enumerate_next ?_ (PySem.F.args_enumerate_next_1 _))))
 obtain ⟨hp,g,d,tk,os⟩:=s
 refine wpAny_bind (m:=field (.ref e) 2) (wpAny_field he rfl (x:=.ref it) rfl (wpAny_bind (j4Q a b c λh1 a1 sb1=>?_)))
 have sb1:Heap.SameBut it hp h1:=sb1
 have e1:h1.get? e=some (q1X it n old):=(sb1.2 e ne).trans he
 refine wpAny_bind (m:=field (.ref e) 3) (wpAny_field (s:=⟨h1,g,d,tk,os⟩) e1 rfl (x:=rawInt n) rfl (wpAny_bind (m:=field (.ref e) 4) (wpAny_field (s:=⟨h1,g,d,tk,os⟩) e1 rfl (x:=.none) rfl ?_)))
 refine wpAny_bind (m:=mkInt n) (wpAny_mkInt (wpAny_bind (m:=setField (.ref e) 3 (rawInt (n+1))) (wpAny_setField_rec e1 (by simp) λh2 e2 sb2=>?_)))
 have sb2:Heap.SameBut e h1 h2:=sb2
 have e2:h2.get? e=some (q1X it (n+1) old):=e2
 refine wpAny_bind (m:=setField (.ref e) 4 .none) (wpAny_setField_rec (s:=⟨h2,g,d,tk+1,os⟩) e2 (by simp) λh3 e3 sb3=>?_)
 have sb3:Heap.SameBut e h2 h3:=sb3
 have e3:h3.get? e=some (q1X it (n+1) old):=e3
 refine wpAny_bind (m:=newTuple [.int n tk,x]) (wpAny_newTuple ?_)
 have sz:h3.objs.size=hp.objs.size:=by rw [sb3.1,sb2.1,sb1.1]
 have lt:e < hp.objs.size:=Heap.lt_size he
 obtain ⟨h4,hh4⟩:∃h4,h4=h3.push { cls:=.type "tuple",data:=.seq #[.int n tk,x] }:=⟨_,rfl⟩
 have e4:h4.get? e=some (q1X it (n+1) old):=by rw [hh4];exact Heap.get?_push_of_some _ e3
 have t4:h4.get? hp.objs.size=some { cls:=.type "tuple",data:=.seq #[.int n tk,x] }:=by rw [hh4,<-sz];exact Heap.get?_push_size _ rfl
 have a4:IsIt tu h4 it l (i+1):=a1.kept λo ho=>by
  rw [hh4];exact Heap.get?_push_of_some _ ((sb3.2 it (Ne.symm ne)).trans ((sb2.2 it (Ne.symm ne)).trans ho))
 have k4:∀b o,b≠e->b≠it->hp.get? b=some o->h4.get? b=some o:=λb o b1 b2 hb=>by
  rw [hh4];exact Heap.get?_push_of_some _ ((sb3.2 b b1).trans ((sb2.2 b b1).trans ((sb1.2 b b2).trans hb)))
 show wpAny _ _ (Builtin.SmallTypes.ownedTupleIsFree (.ref e) >>= _) _ _ ⟨h3.push { cls:=.type "tuple",data:=.seq #[.int n tk,x] },g,d,tk+1,os⟩
 rw [<-hh4,sz]
 clear hh4 sb1 sb2 sb3 e1 e2 e3 a1 sz
 refine wpAny_bind ?_
 unfold Builtin.SmallTypes.ownedTupleIsFree
 refine wpAny_bind (wpAny_field (s:=⟨h4,g,d,tk+1,os⟩) e4 rfl (x:=.none) rfl (wpAny_pure ?_))
 simp only [if_true]
 refine wpAny_bind (wpAny_rule (wpAny_bind (wpAny_field (s:=⟨h4,g,d,tk+1,os⟩) e4 rfl (x:=old) rfl (wpAny_bind (wpAny_setField_rec (s:=⟨h4,g,d,tk+1,os⟩) e4 (by simp) λh5 e5 sb5=>?_)))))
 have sb5:Heap.SameBut e h4 h5:=sb5
 have e5:h5.get? e=some (q1X it (n+1) x):=e5
 refine wpAny_bind (m:=Builtin.SmallTypes.ownedTupleHandOut (.ref e) (.ref hp.objs.size)) ?_
 unfold Builtin.SmallTypes.ownedTupleHandOut
 refine wpAny_bind (wpAny_setField_rec (s:=⟨h5,g,d,tk+1,os⟩) e5 (by simp) λh6 e6 sb6=>?_)
 have sb6:Heap.SameBut e h5 h6:=sb6
 have e6:h6.get? e=some (j1P it (n+1) x hp.objs.size):=e6
 refine wpAny_setField_rec (s:=⟨h6,g,d,tk+1,os⟩) e6 (by simp) λh7 e7 sb7=>?_
 have sb7:Heap.SameBut e h6 h7:=sb7
 have e7:h7.get? e=some (j1P it (n+1) x hp.objs.size):=e7
 have kk:∀b o,b≠e->h4.get? b=some o->h7.get? b=some o:=λb o b1 hb=>(sb7.2 b b1).trans ((sb6.2 b b1).trans ((sb5.2 b b1).trans hb))
 exact wpAny_bind (wpAny_letGo (wpAny_pure ⟨_,rfl,wpAny_pure (q h7 e7 (a4.kept λo ho=>kk it o (Ne.symm ne) ho) (kk _ _ (Nat.ne_of_gt lt) t4) λb o b1 b2 hb=>kk b o b1 (k4 b o b1 b2 hb))⟩))
theorem j5H {n:Int} {old:Value} {Q:Option Value->Shared->Prop} (hh:A.handled=none) (he:s.heap.get? e=some (q1X it n old)) (a:IsIt tu s.heap it l i) (b:j3P tu s.heap l its) (c:its[i]?=none)
 (q:∀h',Heap.ExtBut it s.heap h'->Q none { s with heap:=h' }):wpAny (model P w) A (pyNext (.ref e)) Q E s:=by
 have ty:s.TypeIs (.ref e) "enumerate":=⟨_,he,rfl⟩
 unfold pyNext
 refine wpAny_bind (wpAny_attempt (wpAny_callSpecial?_slot (name:=Str.ofString "__next__") ty PySem.F.slot_enumerate_next (wpAny_call_entry PySem.F.slot_enumerate_next ty PySem.F.entry_enumerate_next ?_ (PySem.F.args_enumerate_next_1 _))))
 refine wpAny_bind (m:=field (.ref e) 2) (wpAny_field he rfl (x:=.ref it) rfl (wpAny_bind (j5Y hh a b c λh' x ex ⟨o,ho,hc⟩=>?_)))
 exact wpAny_bind (wpAny_isInstance (T:="StopIteration") (b:=true) ⟨o,ho,hc⟩ isSubtype_stop (wpAny_pure (q _ ex)))
theorem j9R {elts:List Expr} {x1:Nat} {pos:Pos} {a:Addr} {n:Int} {x:Value} {Q:Unit->Shared->Prop} (he:s.heap.get? e=some (j1P it n x a)) (q:∀h',h'.get? e=some (q1X it n x)->Heap.SameBut e s.heap h'->Q () { s with heap:=h' }) :
 wpAny (model P w) A (letOwnedTupleGo (.Tuple elts x1 pos) (.ref e) (.ref a)) Q E s:=wpAny_letOwnedTupleGo_enum he q
theorem q8s {n:Int} {old:Value} {Q:Value->Shared->Prop} (he:s.heap.get? e=some (q1X it n old)) (h:Q (.ref e) s):wpAny (model P w) A (pyIter (.ref e)) Q E s:=wpAny_pyIter_enum he h
end
noncomputable def SqE (K:PySem.W.Frag) (tu:Bool) (H:Hp) (a:Addr) (xs:List V):Prop:=if tu=true then SqT K H a xs else SqL K H a xs
theorem q3M {X:Cx} {pins:List (Addr×Obj)} {σ:L2.St} {H:Hp} {s:Shared} {tu:Bool} {a:Addr} {xs:List V} (I:Inv X pins σ H s) (h:SqE X.K tu H a xs):∃its:List Value,Vals xs its/\j3P tu s.heap a its.toArray/\xs.length<=sizeLine:=by
 cases tu with
 | true=>
  obtain ⟨its,r,p,z⟩:=I.tuple (show SqT X.K H a xs from h)
  exact ⟨its,r,p,z⟩
 | false=>
  obtain ⟨its,r,p,z⟩:=I.list (show SqL X.K H a xs from h)
  exact ⟨its,r,p.isList,z⟩
theorem j5a {X:Cx} {pins:List (Addr×Obj)} {σ:L2.St} {H:Hp} {s:Shared} {tu:Bool} {a:Addr} {xs ys:List V} (I:Inv X pins σ H s) (h:SqE X.K tu H a xs) (h':SqE X.K tu H a ys):xs=ys:=by
 cases tu with
 | true=>exact I.tuple_inj (show SqT X.K H a xs from h) h'
 | false=>exact I.list_inj (show SqL X.K H a xs from h) h'
noncomputable def Ite (K:PySem.W.Frag) (tu:Bool) (a:Addr):It:=⟨λi H=>∃xs x,SqE K tu H a xs/\xs[i]?=some x,
 λi H v H'=>∃x p,(∀xs,SqE K tu H a xs->xs[i]?=some x)/\v=.ref p/\H p=none/\H'=upd H p (.tup [.int ((i:Int)+1),x]),
 λi H=>∃xs,SqE K tu H a xs/\xs[i]?=none⟩
theorem j0k {P:Program} {w:World} {K:PySem.W.Frag} {elts:List Expr} {x1:Nat} {tp:Pos} (tu:Bool) (a e it:Addr) (ne:e≠it) :
 Turn P w K (.Tuple elts x1 tp) (Ite K tu a) [e,it] e (λi h=>(∃old,h.get? e=some (q1X it ((i:Int)+1) old))/\IsIt tu h it a i) where
 mem:=by simp
 obj:=λi h st c hc=>by
  obtain ⟨⟨old,s1⟩,s2⟩:=st
  simp only [List.mem_cons,List.not_mem_nil,or_false] at hc
  rcases hc with rfl | rfl
  ·exact ⟨_,s1,λv z=>by have z':Data.fields _=Data.cell v:=z;cases z'⟩
  ·obtain ⟨o,eo,vs,d⟩:=s2.obj
   exact ⟨o,eo,λv z=>by rw [d] at z;cases z⟩
 keep:=λi h h' st k=>by
  obtain ⟨⟨old,s1⟩,s2⟩:=st
  exact ⟨⟨old,k e (by simp) _ s1⟩,s2.kept λo eo=>k it (by simp) o eo⟩
 item:=by
  intro X hP hw hK hc i pins s σ H E I hf st hg
  subst hP hw hK
  obtain ⟨xs,x,hq,hx⟩:=hg
  obtain ⟨⟨old,t1⟩,t2⟩:=st
  obtain ⟨its,rv,pl,hz⟩:=q3M I hq
  obtain ⟨u,hu,ru⟩:=rv.get hx
  refine j4l t1 t2 pl (x:=u) (by simpa using hu) ne λh' a1 a2 a3 a4=>⟨_,rfl,?_⟩
  refine j9R (s:={ s with heap:=h',toks:=s.toks+1 }) a1 λh'' b1 sb=>?_
  have sb:Heap.SameBut e h' h'':=sb
  have hfresh:H s.heap.objs.size=none:=I.hok.fresh (Nat.le_refl _)
  have sze:s.heap.objs.size≠e:=λz=>absurd (Heap.lt_size t1) (by rw [<-z];exact Nat.lt_irrefl _)
  have kk:∀c o,c∉[e,it]->s.heap.get? c=some o->h''.get? c=some o:=λc o hcm q=>by
   simp only [List.mem_cons,List.not_mem_nil,or_false,not_or] at hcm
   exact (sb.2 c hcm.1).trans (a4 c o hcm.1 hcm.2 q)
  have nfp:∀c v,H c=some v->c∉[e,it]:=λc v q hm=>by rw [(hf c hm).1] at q;cases q
  have nsz:∀c v,H c=some v->c≠s.heap.objs.size:=λc v q z=>by rw [z,hfresh] at q;cases q
  have tup:h''.get? s.heap.objs.size=some { cls:=.type "tuple",data:=.seq #[.int ((i:Int)+1) s.toks,u] }:=(sb.2 _ sze).trans a3
  have I1:Inv X pins σ (upd H s.heap.objs.size (.tup [.int ((i:Int)+1),x])) { s with heap:=h'',toks:=s.toks+1 }:=by
   refine I.step (g':=s.gens) (d':=s.drawn) (t':=s.toks+1) (ch:=[e,it]) (λc hcm=>?_) (λc o _ _ hcm q _=>kk c o hcm q) (λc o _ _ hcm q _=>⟨o.slots,kk c o hcm q⟩) (λc o _ q n=>?_)
    (λc o hcm q=>⟨o,kk c o hcm q⟩) (λc xs q=>?_) (λc o v q=>?_) (λc ps q=>⟨#[],?_⟩) (λm hm=>?_) (λc v q=>?_) I.bare
   ·obtain ⟨f0,f1,f2,f3,f4,f5⟩:=hf c hcm
    exact ⟨f3,f1,f4,f5⟩
   ·rw [q0j (Nat.ne_of_lt (Heap.lt_size q))];exact n
   ·rw [q0j (nsz c _ q)];exact q
   ·rw [q0j (nsz c _ q)];exact q
   ·rw [q0j (nsz c _ q),q];simp
   ·obtain ⟨o,es,ep,ho,r⟩:=hm
    exact ⟨o,es,ep,kk _ o (λhm=>(hf _ hm).2.1 rfl) ho,r⟩
   ·by_cases hcz:c=s.heap.objs.size
    ·subst hcz
     rw [q0w] at q;cases q
     exact ⟨by show 2<=sizeLine;decide,[.int ((i:Int)+1) s.toks,u],.cons ⟨_,rfl⟩ (.cons ru .nil),⟨_,tup,rfl,_,rfl⟩⟩
    ·rw [q0j hcz] at q
     refine (I.hok c v q).stay (λc' w' hc' z=>kk c' w' ?_ z) (λc' z=>?_) λc' xs z=>?_
     ·rcases hc' with hc' | hc'
      ·rw [hc'];exact nfp _ _ q
      ·exact nfp _ _ hc'
     ·rw [q0j (nsz c' _ z)];exact z
     ·rw [q0j (nsz c' _ z)];exact z
  refine ⟨.ref s.heap.objs.size,_,I1,rfl,⟨x,_,λws hw=>by rw [j5a I hw hq];exact hx,rfl,hfresh,rfl⟩,⟨⟨u,?_⟩,?_⟩,λc hcm=>?_⟩
  ·rw [show (((i+1:Nat):Int)+1)=(i:Int)+1+1 by omega]
   exact b1
  ·exact a2.kept λo eo=>(sb.2 _ (Ne.symm ne)).trans eo
  ·rw [q0j]
   ·exact (hf c hcm).1
   ·rintro rfl
    simp only [List.mem_cons,List.not_mem_nil,or_false] at hcm
    rcases hcm with z | z
    ·exact sze z
    ·obtain ⟨o,eo,_⟩:=t2.obj
     exact absurd (Heap.lt_size eo) (by rw [<-z];exact Nat.lt_irrefl _)
 done:=by
  intro X hP hw hK hc i pins s σ H E I hf st hg
  subst hP hw hK
  obtain ⟨xs,hq,hend⟩:=hg
  obtain ⟨⟨old,t1⟩,t2⟩:=st
  obtain ⟨its,rv,pl,hz⟩:=q3M I hq
  have l1:=rv.length
  refine j5H (I.ok.hd hc) t1 t2 pl ?_ λh' ex=>⟨rfl,?_⟩
  ·rw [List.getElem?_eq_none_iff] at hend
   simp;omega
  ·have kk:∀c o,c∉[e,it]->s.heap.get? c=some o->h'.get? c=some o:=λc o hcm q=>by
    simp only [List.mem_cons,List.not_mem_nil,or_false,not_or] at hcm
    exact ex c o hcm.2 q
   have nfp:∀c v,H c=some v->c∉[e,it]:=λc v q hm=>by rw [(hf c hm).1] at q;cases q
   refine I.step (g':=s.gens) (d':=s.drawn) (t':=s.toks) (ch:=[e,it]) (λc hcm=>?_) (λc o _ _ hcm q _=>kk c o hcm q) (λc o _ _ hcm q _=>⟨o.slots,kk c o hcm q⟩) (λc o _ q n=>n)
    (λc o hcm q=>⟨o,kk c o hcm q⟩) (λc xs q=>q) (λc o v q=>q) (λc ps q=>⟨#[],by rw [q];simp⟩) (λm hm=>?_) (λc v q=>?_) I.bare
   ·obtain ⟨f0,f1,f2,f3,f4,f5⟩:=hf c hcm
    exact ⟨f3,f1,f4,f5⟩
   ·obtain ⟨o,es,ep,ho,r⟩:=hm
    exact ⟨o,es,ep,kk _ o (λhm=>(hf _ hm).2.1 rfl) ho,r⟩
   ·refine (I.hok c v q).stay (λc' w' hc' z=>kk c' w' ?_ z) (λc' z=>z) λc' xs z=>z
    rcases hc' with hc' | hc'
    ·rw [hc'];exact nfp _ _ q
    ·exact nfp _ _ hc'
 self:=λ_ _ _ _ _ st h=>by
  obtain ⟨⟨old,t1⟩,_⟩:=st
  exact q8s t1 h
section
variable {P:Program} {w:World} {A:Around} {E:Value->Shared->Prop} {s:Shared}
theorem q7q (v:Value) (t:Tok):checkTypeCall "enumerate" ⟨[v],[(("start" : Str),.int 1 t)]⟩=pure ():=by kernel_rfl
theorem q6Y (v:Value) (t:Tok):checkBuiltinCall "enumerate.__new__" ⟨[.type "enumerate",v],[(("start" : Str),.int 1 t)]⟩=pure ():=by kernel_rfl
theorem j4Z {self v:Value} {kw:List (Str×Value)} (hl:typeLookup (.type "enumerate") "__init__" = pure (some (.builtin "object.__init__"))) (hm:Bind.madeBy (.type "enumerate")=pure (some "enumerate.__new__")) :
 Meets (Builtin.«object.__init__» ⟨[self,v],kw⟩) (λ_ R s=>s.TypeIs self "enumerate"/\R (.ok (.ret .none)) s):=
 .of_wp λprog w A R s hs=>by
  obtain ⟨hT,hq⟩:=hs
  have hne:(some "enumerate.__new__" != some "object.__new__")=true:=by decide
  repeat (any_goals (first | assumption | wp_step))
  exact ⟨_,rfl,hq⟩
end
section
variable {P:Program} {w:World} {A:Around} {E:Value->Shared->Prop} {s:Shared}
theorem q97 (obj v:Value) (t:Tok):argsOk "object.__init__" ⟨[obj,v],[(("start" : Str),.int 1 t)]⟩:=by kernel_rfl
set_option maxHeartbeats 2000000 in
theorem q6W {tu:Bool} {l:Addr} {its:Array Value} {t:Tok} {Q:Value->Shared->Prop} (hl:j3P tu s.heap l its)
 (q:∀h',h'.get? (s.heap.objs.size+1)=some (q1X s.heap.objs.size 1 .none)->IsIt tu h' s.heap.objs.size l 0->(∀b o,s.heap.get? b=some o->h'.get? b=some o)->Q (.ref (s.heap.objs.size+1)) { s with heap:=h' }) :
 wpAny (model P w) A (call (.type "enumerate") [.ref l] [(("start" : Str),.int 1 t)]) Q E s:=by
 obtain ⟨c,tl,mro⟩:=PySem.F.called_enumerate.mro
 have made:=PySem.F.called_enumerate.made
 have subs:=PySem.F.called_enumerate.sub
 refine wpAny_call (codeAny_of_tree ?_)
 show wpAny _ _ (callAny (.type "enumerate") _) _ _ _
 refine wpAny_pure ⟨Code.quiet_builtin _ (by decide +kernel),codeAny_builtin PySem.F.entry_type_call ?_⟩
 rw [Around.under_plain (weight_type_call_type "enumerate" [.ref l] _) (units_type_call_type "enumerate" [.ref l] _)]
 have notT:=PySem.F.called_enumerate.notType
 have canC:=PySem.F.called_enumerate.canCreate
 have tcall:=q7q (.ref l) t
 repeat (any_goals (first | assumption | wp_step))
 refine codeAny_mono (codeAny_call_builtin PySem.F.called_enumerate.plain PySem.F.entry_enumerate_new (wpAny_of_eq (q6Y (.ref l) t) (j1D tu l its t P w A.in1 (wants (λobj s₁=>obj=.ref (s.heap.objs.size+1)/\s₁={ s with heap:=(s.heap.push (q3e tu l)).push (q1X s.heap.objs.size 1 .none) }) E) s ⟨hl,rfl,rfl⟩))) λr s₁ hr=>?_
 rcases r with e | fl
 ·exact hr
 rcases fl with _ | _ | _ | obj
 any_goals exact hr.elim
 obtain ⟨rfl,rfl⟩:=hr
 have sz:(s.heap.push (q3e tu l)).objs.size=s.heap.objs.size+1:=Heap.size_push ..
 have g1:((s.heap.push (q3e tu l)).push (q1X s.heap.objs.size 1 .none)).get? (s.heap.objs.size+1)=some (q1X s.heap.objs.size 1 .none):=by
  rw [<-sz];exact Heap.get?_push_size _ rfl
 have ty:Shared.TypeIs { s with heap:=(s.heap.push (q3e tu l)).push (q1X s.heap.objs.size 1 .none) } (.ref (s.heap.objs.size+1)) "enumerate":=⟨_,g1,rfl⟩
 have look:=PySem.F.called_enumerate.init.lookup
 have bnd:=PySem.F.called_enumerate.init.bind (.ref (s.heap.objs.size+1))
 repeat (any_goals (first | assumption | wp_step))
 refine codeAny_mono (codeAny_call_builtin PySem.F.called_enumerate.init.plain PySem.F.entry_object_init (PySem.F.called_enumerate.init.check _ _ _ _ _ _ _ _ ty (q97 _ _ t) (j4Z look made P w A.in1 (wants (λr s₂=>r=.none/\s₂={ s with heap:=(s.heap.push (q3e tu l)).push (q1X s.heap.objs.size 1 .none) }) E) _ ⟨ty,rfl,rfl⟩))) λr₂ s₂ hr₂=>?_
 rcases r₂ with e | fl₂
 ·exact hr₂
 rcases fl₂ with _ | _ | _ | r
 any_goals exact hr₂.elim
 obtain ⟨rfl,rfl⟩:=hr₂
 repeat (any_goals (first | assumption | wp_step))
 refine q _ g1 ?_ λb o e=>Heap.get?_push_of_some _ (Heap.get?_push_of_some _ e)
 have gi:((s.heap.push (q3e tu l)).push (q1X s.heap.objs.size 1 .none)).get? s.heap.objs.size=some (q3e tu l):=Heap.get?_push_of_some _ (Heap.get?_push_size _ rfl)
 cases tu with
 | true=>exact (⟨_,gi,rfl,rfl⟩:Heap.IsTupleIter _ _ _ _)
 | false=>exact (⟨_,gi,rfl,rfl⟩:Heap.IsListIter _ _ _ _)
end
section
variable {M:Model} {A:Around} {E:Value->Shared->Prop} {s:Shared} {env:Env}
theorem q5w {pos:Pos} {T:String} {e:Expr} {rest:List Expr} {kws:List Keyword} {Q:Value->Shared->Prop}
 (h:wpAny M A (spliced (backTo pos (starEach (e::rest) env))) (λvs s₁=>wpAny M A (evalAll ((backToKw pos (keywordEach kws env)).map (·.2))) (λkvs s₂=>wpAny M A (call (.type T) vs (((backToKw pos (keywordEach kws env)).filterMap (·.1)).zip kvs)) Q E s₂) E s₁) E s)
 (he:backTo pos (starEach (e::rest) env)=(false,eval e env)::backTo pos (starEach rest env)) (hp:(backTo pos (starEach (e::rest) env)).any (·.1)=false)
 (ha:(backToKw pos (keywordEach kws env)).all (·.1.isSome)=true) (hk:(backToKw pos (keywordEach kws env)).any (·.1.isNone)=false) :
 wpAny M A (callWith pos (.type T) [] (backTo pos (starEach (e::rest) env)) (backToKw pos (keywordEach kws env))) Q E s:=by
 have h':wpAny M A (evalArgs (.type T) true (backTo pos (starEach (e::rest) env)) (backToKw pos (keywordEach kws env))) (λa s₁=>wpAny M A (call (.type T) ([]++a.pos) a.kw) Q E s₁) E s:=by
  rw [he] at h ⊢
  exact evalArgs_kwB ha h
 unfold callWith
 refine wpAny_bind (wpAny_holding (wpAny_mono h' (λa s₁ h₁=>wpAny_bind (wpAny_standAt ?_)) λ_ _ z=>z))
 rw [hp,hk]
 exact wpAny_bind (wpAny_pure (wpAny_bind (wpAny_mono h₁ (λr s₂ hr=>wpAny_bind (wpAny_holding (wpAny_point (wpAny_pure hr)))) λ_ _ z=>z)))
end
noncomputable def q7l:Int->List D->List D
 | _,[]=>[]
 | n,d::ds=>.tup [.int n,d]::q7l (n+1) ds
theorem q52:∀(n:Int) (ds:List D),(q7l n ds).length=ds.length
 | _,[]=>rfl
 | n,d::ds=>by simp [q7l,q52 (n+1) ds]
theorem q8Y:∀(n:Int) (ds:List D) (i:Nat),(q7l n ds)[i]?=ds[i]?.map λd=>D.tup [.int (n+(i:Int)),d]
 | _,[],i=>by simp [q7l]
 | n,d::ds,0=>by simp [q7l]
 | n,d::ds,i+1=>by
  simp only [q7l,List.getElem?_cons_succ,q8Y (n+1) ds i]
  rw [show n+1+(i:Int)=n+((i+1:Nat):Int) by omega]
section
variable {T:Tb} {X:Cx} {a:Expr} {pos p tp cp kp:Pos} {fl:Ro->Out (List D)} {fe:Ev} {elts:List Expr} {x1:Nat} {ck:Nat}
noncomputable def StE (K:PySem.W.Frag) (tu:Bool) (G H:Hp) (l:Addr) (vs:List V):Prop:=if tu=true then SqT K H l vs else Stb K G H l vs
theorem StE.pers {K:PySem.W.Frag} {tu:Bool} {G H H':Hp} {l:Addr} {vs:List V} (p:Pers T false H H') (h:StE K tu G H l vs):StE K tu G H' l vs:=by
 cases tu with
 | true=>exact q6d p (show SqT K H l vs from h)
 | false=>exact (show Stb K G H l vs from h).pers p
theorem StE.sq {K:PySem.W.Frag} {tu:Bool} {G H:Hp} {l:Addr} {vs:List V} (h:StE K tu G H l vs) (sm:Same G H):SqE K tu H l vs:=by
 cases tu with
 | true=>exact (show SqT K H l vs from h)
 | false=>exact (show Stb K G H l vs from h).sq sm
theorem j0j {tu:Bool} {G H1:Hp} {l:Addr} {vs:List V} {ds:List D} (st:StE X.K tu G H1 l vs) (r:RepL T X.K H1 ds vs):Walk T X.K G (Ite X.K tu l) (q7l 1 ds) H1:=λi H p sm=>by
 have sq:=(st.pers p).sq sm
 have r':=RepL.pers p _ _ r
 have hl:=RepL.length _ _ r'
 refine ⟨λd e=>?_,λh=>⟨vs,sq,?_⟩⟩
 ·rw [q8Y] at e
  cases ed:ds[i]? with
  | none=>rw [ed] at e;cases e
  | some d1=>
   rw [ed] at e
   have e':D.tup [.int (1+(i:Int)),d1]=d:=Option.some.inj e
   subst e'
   obtain ⟨v,e1,rd⟩:=RepL.get _ _ _ _ r' ed
   refine ⟨⟨vs,v,sq,e1⟩,λx H2 ⟨x',q,h1,hx,hq,hH⟩=>?_⟩
   have z1:=h1 vs sq
   rw [e1] at z1;cases z1
   subst hx hH
   refine ⟨q0F hq,q,[.int ((i:Int)+1),v],rfl,SqT.of q0w,.int ((i:Int)+1),[v],rfl,?_,v,[],rfl,Rep.mono (q0F hq) _ _ rd,rfl⟩
   show V.int ((i:Int)+1)=.int (1+(i:Int))
   rw [Int.add_comm]
 ·rw [q52] at h
  rw [List.getElem?_eq_none_iff]
  omega
theorem j34 {tu:Bool} {E:Value->Shared->Prop} {pins:List (Addr×Obj)} {σ:L2.St} {H1:Hp} {s1:Shared} {l:Addr} {vs:List V} {R:It->Hp->Prop} {t:Tok} (I1:Inv (X.wish E) pins σ H1 s1) (sq:SqE X.K tu H1 l vs) (q:R (Ite X.K tu l) H1) :
 wpAny (model X.prog X.w) X.A (call (.type "enumerate") [.ref l] [(("start" : Str),.int 1 t)]) (λv s2=>wpAny (model X.prog X.w) X.A (pyIter v) (PIE (X.wish E) pins σ (.Tuple elts x1 tp) R) E s2) E s1:=by
 obtain ⟨its,rv,pl,hz⟩:=q3M I1 sq
 refine q6W pl λh' z1 z2 kp=>?_
 have I2:Inv (X.wish E) pins σ H1 { s1 with heap:=h' }:=I1.kept (t':=s1.toks) kp
 have ne:s1.heap.objs.size+1≠s1.heap.objs.size:=Nat.succ_ne_self _
 refine q8s z1 ⟨_,_,_,_,H1,rfl,I2,j0k tu l _ _ ne,⟨⟨.none,?_⟩,z2⟩,λc hcm=>?_,q⟩
 ·exact z1
 ·have ge:s1.heap.objs.size<=c:=by
   simp only [List.mem_cons,List.not_mem_nil,or_false] at hcm
   rcases hcm with rfl | rfl
   ·exact Nat.le_succ _
   ·exact Nat.le_refl _
  exact I1.fpOk ge (I1.hok.fresh ge)
@[simp] noncomputable def w0I (fl:Ro->Out (List D)) (ρ:Ro):Out (List D):=(fl ρ).bind λds=>.ok (q7l 1 ds)
theorem j1M (hg:Gl X "enumerate") (hm:X.mg "enumerate" = none) (hl:DP T X a fl) (hs:starEach [a] X.env=(false,eval a X.env)::starEach [] X.env:=by exact q0D rfl) (hpl:(backTo pos (starEach ([a]:List Expr) X.env)).any (·.1)=false:=by exact q0H rfl) :
 DI T X (.Tuple elts x1 tp) (.Call (.Name "enumerate" p) [a] [⟨some "start",.Constant (.int 1) ck cp,kp⟩] pos) (w0I fl):=.mk λG E hp=>by
 rintro pins s σ H R I ⟨ρ,fr,h⟩
 refine wpAny_Call_Name_kw (q2v (X:=X.wish E) I hg hm rfl (q5w (thn ((q0O (X:=X.wish E) (hl.run G E hp) q1p hs) pos pins s σ H (λus H1=>∃l vs,us=[.ref l]/\SqE X.K false H1 l vs/\R (Ite X.K false l) H1) I ⟨ρ,fr,Acc.mono (Acc.bind h) λds _ hd l vs H1 s1 st r=>⟨l,vs,rfl,st.sq (fr.same.trans s1),hd _ H1 s1 (j0j (tu:=false) st r)⟩⟩) λus s1 ⟨xs,H1,I1,r1,l,vs,e1,sq,q⟩=>?_) (by rw [hs];rfl) hpl rfl rfl))
 subst e1
 obtain ⟨u,rfl,ru⟩:=Vals.one r1
 cases ru
 refine kws_cons (wpAny_Constant_int (kws_nil ?_))
 exact j34 (I1.tok _) sq q
end
noncomputable def gtL (K:PySem.W.Frag):V->V->Hp->VK->Prop:=λx y H Q=>∃(p:Addr) (xs:List V) (i:Nat) (z:V),x=.ref p/\y=.int i/\SqL K H p xs/\xs[i]?=some z/\Q z H
theorem q8H {X:Cx}:w0C X (gtL X.K):=by
 intro pins s σ H o i ov iv Q I ro ri h
 obtain ⟨p,xs,n,z,rfl,rfl,hq,he,q⟩:=h
 cases ro
 obtain ⟨t,rfl⟩:=ri
 obtain ⟨its,r,pl,hz⟩:=I.list hq
 obtain ⟨w,ew,rw'⟩:=r.get he
 have lt:n < its.length:=(List.getElem?_eq_some_iff.mp ew).1
 have ln:=r.length
 have hn:=line63
 exact wpAny_getItem_list pl.isList (by omega) (by omega) (by simpa using ew) ⟨z,H,I,rw',q⟩
section
variable {T:Tb} {ib:Bool} {X:Cx} {e b:Expr} {pos p p2:Pos} {fe fb:Ev} {x:Str}
@[simp] noncomputable def j30 (i:Nat) (fb fe:Ev) (ρ:Ro):Fl:=match ρ[i]? with
 | some (.ow ds)=>(fb ρ).fl ρ λk=>(match k with
  | .int k=>if 0<=k then (match ds[k.toNat]? with
   | some (.int a)=>(fe ρ).fl ρ λd=>(match d with
    | .int c=>.nx (ρ.set i (.ow (ds.set k.toNat (.int (a+c)))))
    | _=>.bad)
   | _=>.bad) else .bad
  | _=>.bad)
 | _=>.bad
theorem j4s (i:Nat) (hb:DE T X b fb) (he:DE T X e fe) (hN:X.N[i]?=some x:=by rfl) (hv:Vis X.env.scope x:=by walk_at "v0") (hd:(x==("__debug__" : Str))=false:=by decide)
 (hcd:(x==("__classdict__" : Str))=false:=by decide) (ha:∀ov iv new,augStore b ov iv new=(do holding [new,ov,iv] (setItem ov iv new);release [new,ov,iv] [];pure .next):=by intros;rfl) :
 DS T ib X (.AugAssign (.Subscript (.Name x p) b p2) .Add e pos) (j30 i fb fe):=.mk λG E hp=>
 PS.imp (j4m (X:=X.wish E) (q2i (X:=X.wish E) hN hv hd hcd) (hb.run G E hp) (q8H (X:=X.wish E)) (he.run G E hp) j52 q55 ha) λDD σ H ⟨ρ,fr,h⟩=>by
  unfold j30 at h
  split at h
  ·rename_i ds e0
   obtain ⟨l,vs,e1,e2,e3,r⟩:=fr.sl i _ e0
   refine ⟨_,e1,ρ,fr,Acc.mono (AccS.fl fr h) λk _ hk u H1 s1 r1=>?_⟩
   cases k with
   | int k=>
    have hk:AccS T ib X G E H (if 0<=k then (match ds[k.toNat]? with | some (.int a)=>(fe ρ).fl ρ λd=>(match d with | .int c=>Fl.nx (ρ.set i (.ow (ds.set k.toNat (.int (a+c))))) | _=>.bad) | _=>.bad) else .bad) DD:=hk
    by_cases h0:0<=k
    ·rw [if_pos h0] at hk
     obtain ⟨n,rfl⟩:=Int.eq_ofNat_of_zero_le h0
     rw [Int.toNat_natCast] at hk
     cases ed:ds[n]? with
     | none=>rw [ed] at hk;exact hk.elim
     | some d0=>
      rw [ed] at hk
      cases d0 with
      | int a=>
       have hk:AccS T ib X G E H ((fe ρ).fl ρ λd=>(match d with | .int c=>Fl.nx (ρ.set i (.ow (ds.set n (.int (a+c))))) | _=>.bad)) DD:=hk
       have r':=RepL.mono s1 _ _ r
       obtain ⟨v,e4,rd⟩:=RepL.get _ _ _ _ r' ed
       have rd:v=V.int a:=rd
       subst rd
       have fr1:=fr.mono s1
       refine ⟨l,vs,n,.int a,rfl,r1,SqL.of (s1 _ _ e2),e4,ρ,fr1,Acc.mono (AccS.fl fr1 (AccS.heap (Pers.of s1) hk)) λd _ hd2 w H2 s2 r2=>?_⟩
       cases d with
       | int c=>
        have hl:=RepL.length _ _ r
        have lt:n < ds.length:=(List.getElem?_eq_some_iff.mp ed).1
        have r3:RepL T X.K H2 (ds.set n (.int (a+c))) (vs.set n (.int (a+c))):=RepL.set _ _ n _ _ (RepL.mono s2 _ _ r') rfl
        have ix:ixN vs.length (n:Int)=some n:=by
         unfold ixN;simp;omega
        exact ⟨a,c,rfl,r2,l,vs,n,n,rfl,r1,s2 _ _ (s1 _ _ e2),ix,hd2 σ _ ((fr1.mono s2).own_upd e0 e1 (s2 _ _ (s1 _ _ e2)) e3 r3) ((Pers.of s2).trans (q2y (s2 _ _ (s1 _ _ e2))))⟩
       | _=>exact hd2.elim
      | _=>exact hk.elim
    ·rw [if_neg h0] at hk;exact hk.elim
   | _=>exact hk.elim
  ·exact h.elim
end
end L3
namespace L3
open PySem L2
theorem q9V {is:List Int} (h:is≠[]):q0G false is∈is/\∀x∈is,q0G false is<=x:=by
 have l:0 < is.length:=List.length_pos_iff.mpr h
 have e:q0G false is=is.getD (argBest (λi j=>decide (is.getD i 0 < is.getD j 0)) (is.length-1)) 0:=by
  unfold q0G;simp
 obtain ⟨a1,a2⟩:=argBest_lt (λi=>is.getD i 0) (is.length-1)
 rw [e]
 generalize argBest (λi j=>decide (is.getD i 0 < is.getD j 0)) (is.length-1)=k at *
 have hk:k < is.length:=by omega
 refine ⟨?_,λx hx=>?_⟩
 ·rw [List.getD_eq_getElem?_getD,List.getElem?_eq_getElem hk];exact List.getElem_mem hk
 ·obtain ⟨j,hj,rfl⟩:=List.getElem_of_mem hx
  have:=a2 j (by omega)
  rw [List.getD_eq_getElem?_getD (l:=is) (i:=j),List.getElem?_eq_getElem hj] at this
  exact this
theorem q2z {is:List Int} (h:is≠[]):q0G true is∈is/\∀x∈is,x<=q0G true is:=by
 have l:0 < is.length:=List.length_pos_iff.mpr h
 have e:q0G true is=is.getD (argBest (λi j=>decide (is.getD i 0 > is.getD j 0)) (is.length-1)) 0:=by
  unfold q0G;simp
 obtain ⟨a1,a2⟩:=argBest_gt (λi=>is.getD i 0) (is.length-1)
 rw [e]
 generalize argBest (λi j=>decide (is.getD i 0 > is.getD j 0)) (is.length-1)=k at *
 have hk:k < is.length:=by omega
 refine ⟨?_,λx hx=>?_⟩
 ·rw [List.getD_eq_getElem?_getD,List.getElem?_eq_getElem hk];exact List.getElem_mem hk
 ·obtain ⟨j,hj,rfl⟩:=List.getElem_of_mem hx
  have:=a2 j (by omega)
  rw [List.getD_eq_getElem?_getD (l:=is) (i:=j),List.getElem?_eq_getElem hj] at this
  exact this
theorem q2O (is:List Int):q2u (is.map D.int)=some is:=by
 induction is with
 | nil=>rfl
 | cons i is ih=>rw [List.map_cons,q2u,ih]
theorem j00 {is:List Int} (h:is≠[]):q7f [.lst (is.map D.int)]=.ok (.int (q0G false is)):=by
 rw [q7f,q2O]
 show (if is≠[] then _ else _)=_
 rw [if_pos h]
theorem q33 {is:List Int} (h:is≠[]):q3Z [.lst (is.map D.int)]=.ok (.int (q0G true is)):=by
 rw [q3Z,q2O]
 show (if is≠[] then _ else _)=_
 rw [if_pos h]
theorem q6l {is:List Int} (hl:is.length<=1000) (h:∀i∈is,-1000000000<=i/\i<=1000000000):q3c is=true:=by
 unfold q3c
 simp only [Bool.and_eq_true,decide_eq_true_eq,List.all_eq_true]
 exact ⟨hl,λi hi=>h i hi⟩
theorem j04 {is:List Int} (hl:is.length<=1000) (h:∀i∈is,-1000000000<=i/\i<=1000000000):q9N [.tup (is.map D.int)]=.ok (.int (isum is)):=by
 rw [q9N,q2O]
 show (if _ then _ else _)=_
 rw [if_pos (q6l hl h)]
theorem q3U {is:List Int} (hl:is.length<=1000) (h:∀i∈is,-1000000000<=i/\i<=1000000000):q8U [.lst (is.map D.int)]=.ok (.int (isum is)):=by
 rw [q8U,q2O]
 show (if _ then _ else _)=_
 rw [if_pos (q6l hl h)]
theorem j4I {is:List Int} (h:∀i∈is,0<=i):0<=isum is:=by
 induction is with
 | nil=>simp [isum]
 | cons x a ih=>
  have h1:=ih λi hi=>h i (by simp [hi])
  have h2:=h x (by simp)
  simp only [isum];omega
theorem q2P {α:Type} {f:D->Out D} {g:α->D} {k:α->D}:∀(l:List α),(∀a∈l,f (g a)=.ok (k a))->q6n f (l.map g)=some (l.map k)
 | [],_=>rfl
 | a::l,h=>by
  rw [List.map_cons,q6n,h a (by simp),q2P l λb hb=>h b (by simp [hb])];rfl
theorem q1c {α:Type} {fl:Ro->Out (List D)} {caps:List Nat} {fe:Ev} {ρ:Ro} {g:α->D} {k:α->D} {l:List α} (h:fl ρ=.ok (l.map g)) (hl:l.length<=1000000) (he:∀a∈l,fe (q1m caps ρ (g a))=.ok (k a)) :
 q0T fl caps fe ρ=.ok (l.map k):=by
 rw [q0T,h,Out.ok_bind,if_pos (by simpa using hl),q2P l he]
theorem q12 {i:Nat} {f:Ev} {ρ:Ro} {v:D} (h:f ρ=.ok v):q08 i f ρ=.nx (ρ.set i (.sh v)):=by
 rw [q08,h,Out.ok_fl]
theorem q2B {i:Nat} {f:Ro->Out Rv} {ρ:Ro} {v:List D} (h:f ρ=.ok (.fr v)):q13 i f ρ=.nx (ρ.set i (.ow v)):=by
 rw [q13,h,Out.ok_fl]
theorem q0S {α:Type} (a:α) (l:List α):atI (a::l) 0=some a:=q0z (j:=0) rfl
theorem q0V {α:Type} (a b:α) (l:List α):atI (a::b::l) 1=some b:=q0z (j:=1) rfl
theorem q1M {α:Type} (a b c:α) (l:List α):atI (a::b::c::l) 2=some c:=q0z (j:=2) rfl
theorem q2l {α:Type} (a b c d:α) (l:List α):atI (a::b::c::d::l) 3=some d:=q0z (j:=3) rfl
theorem q6Q {α:Type} (a b c d e:α) (l:List α):atI (a::b::c::d::e::l) 4=some e:=q0z (j:=4) rfl
theorem q2Q {α:Type} (a b c d e f:α) (l:List α):atI (a::b::c::d::e::f::l) 5=some f:=q0z (j:=5) rfl
structure Tz (n:Nat) (z:Str):Prop where
 len:z.length<=n
 cps:∀c∈z.cps.toList,c < 128
theorem Tz.mono {n m:Nat} {z:Str} (h:Tz n z) (e:n<=m):Tz m z:=⟨Nat.le_trans h.len e,h.cps⟩
theorem Tz.repr {n:Nat} {z:Str} (h:Tz n z) (hn:n<=1000):(reprText z).length<=200000:=by
 have:=PySem.StrLaws.reprText_len z λc hc=>Nat.lt_of_lt_of_le (h.cps c hc) (by decide)
 have:=h.len
 omega
theorem j6a {α:Type} {xs:List α} {i:Int} (h0:0<=i) (h1:i < xs.length):∃v,atI xs i=some v/\v∈xs:=by
 obtain ⟨k,rfl⟩:=Int.eq_ofNat_of_zero_le h0
 have hk:k < xs.length:=by omega
 exact ⟨xs[k],q0z (by simp [hk]),List.getElem_mem hk⟩
theorem j80:(Str.ofString "")=⟨#[]⟩:=by decide +kernel
theorem q4y:∀cs:List Nat,q2o (cs.map λc=>D.str ⟨#[c]⟩)=some (cs.map λc=>(⟨#[c]⟩:Str))
 | []=>rfl
 | c::cs=>by rw [List.map_cons,q2o,q4y cs];rfl
theorem q6E (sep:Str) (hs:sep.length=0):∀(cs:List Nat) (n:Nat),(cs.map λc=>(⟨#[c]⟩:Str)).foldl (λa t=>a+t.length+sep.length) n=n+cs.length
 | [],n=>rfl
 | c::cs,n=>by
  rw [List.map_cons,List.foldl_cons,q6E sep hs cs]
  have:(Str.mk #[c]).length=1:=rfl
  rw [this,hs]
  simp;omega
theorem j0V (cs:List Nat) (hl:cs.length<=100):q8C (.str (Str.ofString "")) [.lst (cs.map λc=>D.str ⟨#[c]⟩)]=.ok (.str ⟨cs.toArray⟩):=by
 have s0:(Str.ofString "").length=0:=by decide +kernel
 have ok:JoinOk (Str.ofString "") (cs.map λc=>(⟨#[c]⟩:Str))=true:=by
  unfold JoinOk
  rw [List.foldl_toArray',q6E _ s0]<;>try rfl
  unfold Builtin.Str.tooLong
  rw [sizeLine_eq]
  simp;omega
 have jn:Txt.join (Str.ofString "") (cs.map λc=>(⟨#[c]⟩:Str))=⟨cs.toArray⟩:=by
  show Builtin.Str.glued (Str.ofString "") _=_
  rw [PySem.StrLaws.glued_eq_join,j80]
  exact PyProof.Rows.join_ones cs
 rw [q8C,q4y]
 show (if _ then _ else _)=_
 rw [if_pos ok,jn]
theorem q3y {z:Str} {n:Nat} (h:Tz n z) (hn:n<=1000) {α:Type} {f:D->Out D} {g:α->D} {ix:α->Int}:∀(l:List α),(∀a∈l,0<=ix a/\ix a < z.length/\f (g a)=ixD (.str z) (.int (ix a)))->∃cs:List Nat,cs.length=l.length/\(∀c∈cs,c∈z.cps.toList)/\q6n f (l.map g)=some (cs.map λc=>D.str ⟨#[c]⟩)
 | [],_=>⟨[],rfl,by simp,rfl⟩
 | a::l,hl=>by
  obtain ⟨cs,h1,h2,h3⟩:=q3y h hn (f:=f) (g:=g) (ix:=ix) l λb hb=>hl b (by simp [hb])
  obtain ⟨p0,p1,p2⟩:=hl a (by simp)
  obtain ⟨c,e,m⟩:=j6a (xs:=z.cps.toList) p0 (by rw [q46];exact p1)
  have hz:z.length<=1000000:=by have:=h.len;omega
  refine ⟨c::cs,by simp [h1],λd hd=>?_,?_⟩
  ·rcases List.mem_cons.mp hd with rfl | hd
   ·exact m
   ·exact h2 d hd
  ·rw [List.map_cons,q6n,p2,h3]
   simp only [ixD,if_pos hz,e,List.map_cons]
theorem q6u {β:Type}:∀(bs:List (Str×β)) (k:Nat) (b:Str×β),(bs.map (·.1)).Nodup->bs[k]?=some b->bs.find? (λx=>decide (x.1=b.1))=some b
 | [],k,b,_,h=>by simp at h
 | x::bs,0,b,_,h=>by
  have e:x=b:=by simpa using h
  subst e
  rw [List.find?_cons_of_pos (by simp)]
 | x::bs,k+1,b,nd,h=>by
  have h:bs[k]?=some b:=by simpa using h
  rw [List.map_cons,List.nodup_cons] at nd
  have ne:x.1≠b.1:=λz=>nd.1 (z ▸ List.mem_map.mpr ⟨b,List.mem_of_getElem? h,rfl⟩)
  rw [List.find?_cons_of_neg (by simpa using ne),q6u bs k b nd.2 h]
theorem q1H {n:Nat} {f:Ro->Fl} {ss:List Sl} {r:Rv} (ρ:Ro) (e:ss++List.replicate (n-ss.length) .no=ρ) (h:f ρ=.rt r):fnF n f ss=.ok r:=by
 rw [fnF,e,h]
theorem j9G {n:Nat} {f:Ro->Fl} {ss:List Sl} {ρ':Ro} (ρ:Ro) (e:ss++List.replicate (n-ss.length) .no=ρ) (h:f ρ=.nx ρ'):fnF n f ss=.ok (.sh .non):=by
 rw [fnF,e,h]
theorem q9X {body:Ro->D->Fl} (S:Nat->Ro->Prop):∀(n i:Nat),(∀j ρ,i<=j->j < i+n->S j ρ->∃ρ',body ρ (.int j)=.nx ρ'/\S (j+1) ρ')->∀ρ,S i ρ->∃ρ',q2E body (rgD (i:Int) n) ρ=.nx ρ'/\S (i+n) ρ'
 | 0,i,_,ρ,h=>⟨ρ,by rw [j1X,q1S],h⟩
 | n+1,i,hb,ρ,h=>by
  obtain ⟨ρ1,e1,h1⟩:=hb i ρ (Nat.le_refl _) (by omega) h
  obtain ⟨ρ2,e2,h2⟩:=q9X S n (i+1) (λj ρ a b=>hb j ρ (by omega) (by omega)) ρ1 h1
  refine ⟨ρ2,?_,by rw [show i+(n+1)=i+1+n by omega];exact h2⟩
  rw [j1c,q2r e1]
  exact e2
theorem q7x {body:Ro->D->Fl} (S:Nat->Ro->Prop) (n:Nat) (hb:∀j ρ,j < n->S j ρ->∃ρ',body ρ (.int j)=.nx ρ'/\S (j+1) ρ') {ρ:Ro} (h:S 0 ρ):∃ρ',q2E body (rgD 0 n) ρ=.nx ρ'/\S n ρ':=by
 obtain ⟨ρ',e,h'⟩:=q9X S n 0 (λj ρ _ b=>hb j ρ (by omega)) ρ h
 exact ⟨ρ',e,by rwa [Nat.zero_add] at h'⟩
theorem q9K {α:Type} {body:Ro->D->Fl} (g:α->D) (S:Nat->Ro->Prop):∀(l:List α) (i:Nat),(∀j a ρ,l[j]?=some a->S (i+j) ρ->∃ρ',body ρ (g a)=.nx ρ'/\S (i+j+1) ρ')->∀ρ,S i ρ->∃ρ',q2E body (l.map g) ρ=.nx ρ'/\S (i+l.length) ρ'
 | [],i,_,ρ,h=>⟨ρ,by rw [List.map_nil,q1S],h⟩
 | a::l,i,hb,ρ,h=>by
  obtain ⟨ρ1,e1,h1⟩:=hb 0 a ρ rfl h
  obtain ⟨ρ2,e2,h2⟩:=q9K g S l (i+1) (λj a ρ e q=>by
   have:=hb (j+1) a ρ (by simpa using e) (by rwa [show i+(j+1)=i+1+j by omega])
   rwa [show i+(j+1)=i+1+j by omega] at this) ρ1 h1
  refine ⟨ρ2,by rw [List.map_cons,q2r e1,e2],?_⟩
  rwa [List.length_cons,show i+(l.length+1)=i+1+l.length by omega]
theorem j6q {α:Type} {body:Ro->D->Fl} (g:α->D) (S:Nat->Ro->Prop) (l:List α) (hb:∀j a ρ,l[j]?=some a->S j ρ->∃ρ',body ρ (g a)=.nx ρ'/\S (j+1) ρ') {ρ:Ro} (h:S 0 ρ):∃ρ',q2E body (l.map g) ρ=.nx ρ'/\S l.length ρ':=by
 obtain ⟨ρ',e,h'⟩:=q9K g S l 0 (λj a ρ e q=>by rw [Nat.zero_add] at q ⊢; exact hb j a ρ e q) ρ h
 exact ⟨ρ',e,by rwa [Nat.zero_add] at h'⟩
theorem j2x {t:Ro->Out Bool} {b:Ro->Fl} (S:Nat->Ro->Prop):∀(n i m:Nat),n < m->(∀j ρ,i<=j->j < i+n->S j ρ->t ρ=.ok true/\∃ρ',b ρ=.nx ρ'/\S (j+1) ρ')->(∀ρ,S (i+n) ρ->t ρ=.ok false)->∀ρ,S i ρ->∃ρ',whD t b m ρ=.nx ρ'/\S (i+n) ρ'
 | _,_,0,h,_,_,_,_=>absurd h (by omega)
 | 0,i,m+1,_,_,he,ρ,h=>⟨ρ,by rw [whD,he ρ h];rfl,h⟩
 | n+1,i,m+1,hm,hb,he,ρ,h=>by
  obtain ⟨et,ρ1,e1,h1⟩:=hb i ρ (Nat.le_refl _) (by omega) h
  obtain ⟨ρ2,e2,h2⟩:=j2x S n (i+1) m (by omega) (λj ρ a b=>hb j ρ (by omega) (by omega)) (fun ρ q=>he ρ (by rwa [show i+(n+1)=i+1+n by omega])) ρ1 h1
  refine ⟨ρ2,?_,by rwa [show i+(n+1)=i+1+n by omega]⟩
  rw [whD,et,Out.ok_fl,if_pos rfl,e1]
  exact e2
theorem whR {t:Ro->Out Bool} {b:Ro->Fl} (S:Nat->Ro->Prop) (n m:Nat) (hm:n < m) (hb:∀j ρ,j < n->S j ρ->t ρ=.ok true/\∃ρ',b ρ=.nx ρ'/\S (j+1) ρ') (he:∀ρ,S n ρ->t ρ=.ok false) {ρ:Ro} (h:S 0 ρ):∃ρ',whD t b m ρ=.nx ρ'/\S n ρ':=by
 obtain ⟨ρ',e,h'⟩:=j2x S n 0 m hm (λj ρ _ b=>hb j ρ (by omega)) (fun ρ q=>he ρ (by rwa [Nat.zero_add] at q)) ρ h
 exact ⟨ρ',e,by rwa [Nat.zero_add] at h'⟩
theorem pick2 (a b i:Int):∃v,atI [D.int a,D.int b] (i % 2)=some (.int v)/\(v=a∨v=b):=by
 have:i % 2=0∨i % 2=1:=by omega
 rcases this with h | h<;>rw [h]
 ·exact ⟨a,q0S _ _,.inl rfl⟩
 ·exact ⟨b,q0V _ _ _,.inr rfl⟩
theorem pick3 (a b c i:Int):∃v,atI [D.int a,D.int b,D.int c] (i % 3)=some (.int v)/\(v=a∨v=b∨v=c):=by
 have:i % 3=0∨i % 3=1∨i % 3=2:=by omega
 rcases this with h | h | h<;>rw [h]
 ·exact ⟨a,q0S _ _,.inl rfl⟩
 ·exact ⟨b,q0V _ _ _,.inr (.inl rfl)⟩
 ·exact ⟨c,q1M _ _ _ _,.inr (.inr rfl)⟩
theorem pick4 (a b c d i:Int):∃v,atI [D.int a,D.int b,D.int c,D.int d] (i % 4)=some (.int v)/\(v=a∨v=b∨v=c∨v=d):=by
 have:i % 4=0∨i % 4=1∨i % 4=2∨i % 4=3:=by omega
 rcases this with h | h | h | h<;>rw [h]
 ·exact ⟨a,q0S _ _,.inl rfl⟩
 ·exact ⟨b,q0V _ _ _,.inr (.inl rfl)⟩
 ·exact ⟨c,q1M _ _ _ _,.inr (.inr (.inl rfl))⟩
 ·exact ⟨d,q2l _ _ _ _ _,.inr (.inr (.inr rfl))⟩
theorem q10 {i j:Int} (h:-1000000<=i/\i<=1000000):q1x i j=true:=by
 unfold q1x
 simp only [Bool.or_eq_true,Bool.and_eq_true,decide_eq_true_eq]
 left;constructor<;>omega
theorem q2t:∀is:List Int,q04 (is.map D.int)=some (is.map V.int)
 | []=>rfl
 | i::is=>by rw [List.map_cons,q04,q2t is];rfl
theorem q5n (a b:Int):eqV (.int a) (.int b)=decide (a=b):=by
 show (a==b)=_
 rw [Bool.eq_iff_iff,beq_iff_eq,decide_eq_true_eq]
theorem q53 (i:Int):∀is:List Int,inV (.int i) (is.map V.int)=decide (i∈is)
 | []=>by simp [inV]
 | j::is=>by
  have ih:=q53 i is
  unfold inV at ih ⊢
  rw [List.map_cons,List.any_cons,ih,q5n,Bool.eq_iff_iff,Bool.or_eq_true,decide_eq_true_eq,decide_eq_true_eq,decide_eq_true_eq,List.mem_cons]
  exact ⟨λh=>h.elim (λe=>.inl e.symm) .inr,λh=>h.elim (λe=>.inl e.symm) .inr⟩
theorem j1d (neg:Bool) (i:Int) (is:List Int):inD neg (.int i) (.lst (is.map D.int))=.ok (.bl (if neg then !decide (i∈is) else decide (i∈is))):=by
 show (match q2p (.int i),q04 (is.map D.int) with | some x,some xs=>Out.ok (D.bl (if neg then !inV x xs else inV x xs)) | _,_=>.bad)=_
 rw [q2t,<-q53]
 rfl
theorem q4F (i:Int):∀(is:List Int),i∈is->∃k,k < is.length/\q7E (.int i) (is.map V.int)=some k
 | [],h=>by simp at h
 | j::is,h=>by
  by_cases e:j=i
  ·exact ⟨0,by simp,by rw [List.map_cons,q7E,q5n,if_pos (by simpa using e)]⟩
  ·obtain ⟨k,hk,ek⟩:=q4F i is (by
    rcases List.mem_cons.mp h with h | h
    ·exact absurd h.symm e
    ·exact h)
   exact ⟨k+1,by simpa using hk,by rw [List.map_cons,q7E,q5n,if_neg (by simpa using e),ek];rfl⟩
theorem q5h (i:Int) (is:List Int) (h:i∈is):∃k,k < is.length/\q22 (.lst (is.map D.int)) [.int i]=.ok (.int (k:Nat)):=by
 obtain ⟨k,hk,e⟩:=q4F i is h
 refine ⟨k,hk,?_⟩
 show (match q2p (.int i),q04 (is.map D.int) with | some x,some xs=>(match q7E x xs with | some j=>Out.ok (D.int j) | none=>.bad) | _,_=>.bad)=_
 rw [q2t]
 show (match q7E (.int i) (is.map V.int) with | some j=>Out.ok (D.int j) | none=>.bad)=_
 rw [e]
theorem q20 {α:Type} {l:List α} {j:Nat} {a:α} (h:l[j]?=some a):l.take (j+1)=l.take j++[a]:=by
 rw [List.take_succ,h]
 rfl
end L3
namespace L3
open PySem PySem.Spec PyProof.Rows L2
section
variable {P:Program} {w:World} {A:Around} {E:Value->Shared->Prop} {s:Shared} {tu tv:Bool} {z TI TO i1 i2 l1 l2:Addr} {k:Nat} {xs ys:Array Value}
end
section
variable {P:Program} {w:World} {A:Around} {E:Value->Shared->Prop} {s:Shared} {tu tv:Bool} {l1 l2:Addr} {xs ys:Array Value}
end
section
variable {T:Tb} {X:Cx} {a b:Expr} {pos p tp:Pos} {fe:Ev} {fm:Ro->Out (List D)} {elts:List Expr} {x1:Nat}
end
noncomputable def q2Y (ts:List Str):Str:=(PyData.list (ts.map PyData.str)).shown
theorem q3w {h:Heap}:∀{ts:List Str} {us:List Value},Vals (ts.map V.str) us->ReadsAll h us (ts.map PyData.str) []
 | [],_,.nil=>.nil
 | t::ts,_,.cons r q=>by
  obtain ⟨k,rfl⟩:=r
  exact .cons (.str t k) (q3w q)
theorem q4g:∀ts:List Str,PyData.showableAll (ts.map PyData.str)=true
 | []=>rfl
 | t::ts=>by simp [PyData.showableAll,PyData.showable,q4g ts]
theorem q4e:∀ts:List Str,PyData.hasDictAll (ts.map PyData.str)=false
 | []=>rfl
 | t::ts=>by simp [PyData.hasDictAll,PyData.hasDict,q4e ts]
theorem q3j:∀ts:List Str,PyData.depthAll (ts.map PyData.str)=0
 | []=>rfl
 | t::ts=>by simp [PyData.depthAll,PyData.depth,q3j ts]
section
variable {T:Tb} {X:Cx} {v:Expr} {es:List Expr} {pos:Pos} {fl:Ro->Out (List D)} {fs:Ro->Option (List Str)} {k:Nat}
@[simp] noncomputable def j8n (fl:Ro->Out (List D)) (fs:Ro->Option (List Str)) (ρ:Ro):Option (List Str):=match fl ρ with
 | .ok ds=>(match q2o ds with
  | some ts=>if (q2Y ts).length<=200000 then (match fs ρ with | some xs=>some (q2Y ts::xs) | none=>none) else none
  | none=>none)
 | _=>none
theorem j1z {ρ:Ro} {ys:List Str} (e:j8n fl fs ρ=some ys):∃ds ts xs,fl ρ=.ok ds/\q2o ds=some ts/\(q2Y ts).length<=200000/\fs ρ=some xs/\ys=q2Y ts::xs:=by
 unfold j8n at e
 cases ed:fl ρ with
 | ok ds=>
  rw [ed] at e
  cases et:q2o ds with
  | some ts=>
   simp only [et] at e
   by_cases h:(q2Y ts).length<=200000
   ·rw [if_pos h] at e
    cases ef:fs ρ with
    | some xs=>rw [ef] at e;cases e;exact ⟨ds,ts,xs,rfl,et,h,rfl,rfl⟩
    | none=>rw [ef] at e;cases e
   ·rw [if_neg h] at e;cases e
  | none=>simp only [et] at e;cases e
 | exc c=>rw [ed] at e;cases e
 | bad=>rw [ed] at e;cases e
theorem j1b (hr:Room k X.A) (he:DL T X v fl) (hj:DJ T X es fs):DJ T X (.FormattedValue v 114 none pos::es) (j8n fl fs):=.mk λG E hp pins s σ H acc Q I ⟨ρ,ys,fr,e,z,kk⟩=>by
 obtain ⟨ds,ts,xs,ed,et,hl,ef,rfl⟩:=j1z e
 refine wpAny_FormattedValue_repr (thn (he.run G E hp pins s σ H (λw H1=>∃l vs,w=.ref l/\Same H H1/\SqL X.K H1 l vs/\RepL T X.K H1 ds vs) I ⟨ρ,fr,?_⟩) λu s1 ⟨w,H1,I1,rv,l,vs,ew,sm,sq,rl⟩=>?_)
 ·rw [ed];exact λl vs H1 sm sq rl=>⟨l,vs,rfl,sm,sq,rl⟩
 ·subst ew
  cases rv
  obtain rfl:=q2A et rl
  obtain ⟨its,r,pl,hz⟩:=I1.list sq
  obtain ⟨o,ho,hc,n,hd⟩:=pl.isList
  have un:=hr.un
  refine pyReprObj_of_reads (d:=.list (ts.map PyData.str)) (.list ho hc hd (q3w r)) (by simp [PyData.showable,q4g]) (λq=>by simp [PyData.hasDict,q4e] at q) hr.gd (by simp only [PyData.depth,q3j];omega) (λb o q=>q) (λh' u tk kp=>?_) (by rw [sizeLine_eq];show (q2Y ts).length<=_;omega)
  refine formatField_str (λt' tk'=>?_) (by rw [sizeLine_eq];show (q2Y ts).length<=_;omega)
  have I2:Inv (X.wish E) pins σ H1 { s1 with heap:=h',toks:=tk' }:=I1.kept kp
  exact q3W hp hj I2 (fr.mono sm) sm hl ef z kk
end
section
variable {T:Tb} {ib:Bool} {X:Cx} {e:Expr} {pos pos':Pos} {x:Str}
end
section
variable {T:Tb} {X:Cx} {a b c:Expr} {pos p p2 pos2:Pos} {fa fe fc:Ev}
end
theorem q2T {prog:Program} {w:World} {A:Around} {R:Result->Shared->Prop} {s:Shared} {elt target iter:Expr} {ifs:List Expr} {scope:Scope} {pos:Pos} {it acc:Value} {env:Env} (I:Nat->Shared->Prop)
 (turn:∀n s,I n s->wpAny (model prog w) A (pyNext it) (λr s₁=>match r with
  | none=>R (.ok .next) s₁
  | some v=>wpAny (model prog w) A (letOwnedTupleGo target it v) (λ_ s₁=>wpAny (model prog w) A (assign target env v) (λ_ s₂=>
   wpAny (model prog w) A (forIn ifs true λc r=>if r=true then do let ok <-isTrue c env (eval c env);pure (ForInStep.yield ok) else pure (ForInStep.yield r)) (λok s₃=>
    if ok=true then wpAny (model prog w) A (eval elt env) (λx s₄=>
     wpAny (model prog w) A (call (.builtin "list.append") [acc,x]) (λ_ s₅=>∃m,m < n/\I m s₅) (notedBy (model prog w) A env λe s'=>R (.error e) s') s₄) (notedBy (model prog w) A env λe s'=>R (.error e) s') s₃
    else ∃m,m < n/\I m s₃) (notedBy (model prog w) A env λe s'=>R (.error e) s') s₂) (notedBy (model prog w) A env λe s'=>R (.error e) s') s₁) (notedBy (model prog w) A env λe s'=>R (.error e) s') s₁) (notedBy (model prog w) A env λe s'=>R (.error e) s') s)
 (n:Nat) (h:I n s):codeAny (model prog w) A (.compLoop (.ListComp elt [⟨target,iter,ifs,0⟩] scope pos) 0 it acc env) R s:=by
 refine codeAny_loop rfl I (λn s hI=>?_) n h
 show wpAny _ A ((compTurn (.ListComp elt [⟨target,iter,ifs,0⟩] scope pos) 0 it acc env).onRaise (λx=>do noteFrame x env;theTreesLotGoes x)) _ _ s
 refine wpAny_noted ?_
 rw [compTurn_list]
 refine wpAny_bind (wpAny_standAt (wpAny_bind (wpAny_mono (turn n s hI) (λr s₁ h₁=>?_) λ_ _ h'=>h')))
 cases r with
 | none=>exact wpAny_pure h₁
 | some v=>
  refine wpAny_bind (wpAny_mono h₁ (λ_ s₀ h₀=>?_) λ_ _ h'=>h')
  refine wpAny_bind (wpAny_mono h₀ (λ_ s₂ h₂=>wpAny_bind (wpAny_mono h₂ (λok s₃ h₃=>?_) λ_ _ h'=>h')) λ_ _ h'=>h')
  cases ok with
  | false=>exact wpAny_pure ⟨rfl,h₃⟩
  | true=>
   exact wpAny_bind (wpAny_bind (wpAny_mono h₃ (λx s₄ h₄=>wpAny_bind (wpAny_mono h₄ (λ_ s₅ h₅=>wpAny_pure (wpAny_pure ⟨rfl,h₅⟩)) λ_ _ h'=>h')) λ_ _ h'=>h'))
section
variable {T:Tb} {X:Cx} {elt iter:Expr} {x x2:Str} {px px2 pos pt:Pos} {kk:Nat} {scope:Scope} {ys:List Str} {caps:List Nat} {fe:Ev} {ft:Ro->Out Bool} {tst:Expr} {cl:List (Str×Addr)} {pins:List (Addr×Obj)} {σ:L2.St} {G H2:Hp} {s2:Shared} {J:It} {fp:List Addr} {it:Addr} {tn:Nat->Heap->Prop} {ρ:Ro} {ds es:List D}
end
section
variable {T:Tb} {X:Cx} {elt iter tst:Expr} {x x2:Str} {px px2 pos pt:Pos} {kk:Nat} {scope:Scope} {ys:List Str} {caps:List Nat} {fe:Ev} {ft:Ro->Out Bool} {fl:Ro->Out (List D)}
end
section
open PySem.SeqAt
open PySem.AutoSeq1 (wpAny_loadPart')
end
section
variable {T:Tb} {X:Cx} {o e:Expr} {cpos apos:Pos} {fo fe:Ev}
end
section
variable {T:Tb} {X:Cx}
end
end L3
namespace L3
open PySem PySem.Spec PyProof.Rows L2
section
variable {P:Program} {w:World} {A:Around} {E:Value->Shared->Prop} {s:Shared}
end
section
variable {P:Program} {w:World} {A:Around} {E:Value->Shared->Prop} {s:Shared}
end
section
variable {P:Program} {w:World} {A:Around} {E:Value->Shared->Prop} {s:Shared}
end
section
variable {T:Tb} {X:Cx} {e:Expr} {pos p pos2 p2:Pos} {fl:Ro->Out (List D)}
end
section
variable {P:Program} {w:World} {A:Around} {E:Value->Shared->Prop} {s:Shared}
noncomputable abbrev lit (l:Addr) (k:Int):Obj:={ cls:=.type "list_iterator",data:=.fields #[.ref l,.int k 0] }
end
section
variable {T:Tb} {X:Cx} {a d:Expr} {pos p kp:Pos} {fl:Ro->Out (List D)} {fd:Ev}
end
section
variable {P:Program} {w:World} {A:Around} {E:Value->Shared->Prop} {s:Shared}
end
section
variable {T:Tb} {X:Cx} {a d:Expr} {pos p px kp kp2:Pos} {fl:Ro->Out (List D)} {fv:Ev} {k:Nat} {f:Addr} {fd:FuncData} {ps:List Str} {F:Fn} {x:Str}
end
end L3
namespace L3
open PySem L2
end L3
namespace L3
open PySem PySem.Spec PyProof.Rows L2
section
variable {P:Program} {w:World} {A:Around} {E:Value->Shared->Prop} {s:Shared}
end
section
variable {P:Program} {w:World} {K:PySem.W.Frag} {mg:Str->Option Value} {base:Heap} {T:Tb}
end
section
variable {T:Tb} {X:Cx} {e:Expr} {es:List Expr} {pos p:Pos} {fs:Ro->Out (List Sl)} {k n:Nat} {f:Addr} {fd:FuncData} {ps:List Str} {F:Fn} {x:Str}
end
section
variable {T:Tb} {X:Cx} {elt a tst:Expr} {x:Str} {px pos p rpos:Pos} {scope:Scope} {ys:List Str} {caps:List Nat} {fe fa:Ev} {ft:Ro->Out Bool}
end
theorem _root_.L2.Room.le {j k:Nat} {A:Around} (r:Room k A) (h:j<=k:=by decide):Room j A:=r.mono h
noncomputable def FoC (T:Tb) (K:PySem.W.Frag) (at_:Str) (q:Nat×Nat):Prop:=Cls K (T.ca q.1)/\NoAttr K (T.ca q.1) at_/\(T.fl q.1).Nodup/\(T.fl q.1)[q.2]?=some at_
theorem foN {T:Tb} {K:PySem.W.Frag} {a:Str}:∀q∈([]:List (Nat×Nat)),FoC T K a q:=List.forall_mem_nil _
theorem foC {T:Tb} {K:PySem.W.Frag} {a:Str} {c j:Nat} {l:List Str} {r:List (Nat×Nat)} (cl:Cls K (T.ca c)) (na:NoAttr K (T.ca c) a) (e:T.fl c=l) (h:∀q∈r,FoC T K a q) (hd:l.Nodup:=by decide) (hj:l[j]?=some a:=by rfl):∀q∈(c,j)::r,FoC T K a q:=
 List.forall_mem_cons.mpr ⟨⟨cl,na,by show (T.fl c).Nodup;rw [e];exact hd,by show (T.fl c)[j]?=_;rw [e];exact hj⟩,h⟩
theorem flA {T:Tb} {c j:Nat} {l:List Str} {a:Str} (e:T.fl c=l) (h:l[j]?=some a:=by rfl):(T.fl c)[j]?=some a:=by rw [e];exact h
theorem flN {T:Tb} {c:Nat} {l:List Str} (e:T.fl c=l) (h:l.Nodup:=by decide):(T.fl c).Nodup:=by rw [e];exact h
@[simp] noncomputable abbrev eI (i:Int):Ev:=eC (.int i)
noncomputable def hid (H:Hp) (y:Addr) (m:Option Addr):Hp:=λa=>if a=y∨m=some a then none else H a
section
variable {T:Tb} {K:PySem.W.Frag} {G H H':Hp} {σ:L2.St} {ρ:Ro} {y:Addr} {m:Option Addr} {c:Nat} {ds ks:List D}
end
section
variable {T:Tb} {z u:Option Addr} {K:PySem.W.Frag}
end
section
variable {P:Program} {w:World} {K:PySem.W.Frag} {mg:Str->Option Value} {base:Heap} {T:Tb}
end
section
variable {T:Tb} {X:Cx} {G H:Hp} {σ:L2.St} {E:Value->Shared->Prop} {Q:VK} {D₀:Ends}
end
section
variable {T:Tb} {X:Cx} {e a b:Expr} {es:List Expr} {pos p p2 p3 apos:Pos} {fe fa fb:Ev} {fs:Ro->Out (List Sl)} {k n c ar:Nat} {f:Addr} {fd:FuncData} {ps:List Str} {x z:Str} {body:List Stmt} {fbo:Ro->Fl}
end
section
variable {T:Tb} {ib:Bool} {X:Cx} {e o a b:Expr} {es:List Expr} {pos pos' p p1 p2 p3 p4 apos:Pos} {fe fa fb:Ev} {fs:Ro->Out (List Sl)} {k n c ar:Nat} {f:Addr} {fd:FuncData} {ps:List Str} {x z:Str} {fl:Ro->Out (List D)}
end
section
variable {T:Tb} {X:Cx} {e o a b:Expr} {es:List Expr} {pos pos' p p1 p2 p3 p4 apos:Pos} {fe fa fb:Ev} {fs:Ro->Out (List Sl)} {fl:Ro->Out (List D)} {k n c ar:Nat} {f:Addr} {fd:FuncData} {ps:List Str} {x z:Str}
end
section
variable {T:Tb} {X:Cx} {e o a b:Expr} {es:List Expr} {pos pos' p p1 p2 p3 p4 apos:Pos} {fe fa fb:Ev} {fs:Ro->Out (List Sl)} {k n c ar:Nat} {f:Addr} {fd:FuncData} {ps:List Str} {x z:Str}
end
section
variable {P:Program} {w:World} {h h':Heap}
noncomputable def j7K (P:Program) (w:World):KI->Int
 | .inl i=>(intKind P w).hash i
 | .inr is=>tupleKeyHash (intKind P w) is
variable {A:Around} {E:Value->Shared->Prop} {s:Shared}
noncomputable def keyHash (P:Program) (w:World) (ks:List KI):Int:=reduceHash (Builtin.Tuple.tupleHashOf (ks.map (j7K P w)))
end
namespace Fd
end Fd
section
variable {P:Program} {w:World} {h h':Heap}
variable {A:Around} {R:Result->Shared->Prop} {J:Addr} {fp wr:List Addr} {G:Array GenState->Array GenState->Prop} {St:Nat->Shared->Prop}
end
section
variable {P:Program} {w:World} {A:Around} {E:Value->Shared->Prop} {s:Shared}
end
section
variable {T:Tb} {X:Cx} {pins:List (Addr×Obj)} {σ:L2.St} {H:Hp} {s:Shared}
end
section
variable {T:Tb} {K:PySem.W.Frag} {G H H':Hp} {σ:L2.St} {ρ:Ro}
end
section
variable {T:Tb} {X:Cx}
end
section
variable {T:Tb} {ib:Bool} {X:Cx} {e ew:Expr} {pos p p2 p3 p4 pos':Pos} {fl:Ro->Out (List D)} {fe ff:Ev} {k:Nat}
end
end L3
set_option maxHeartbeats 1600000
namespace L3
open PySem PySem.Spec PyProof.Rows L2
section
variable {P:Program} {w:World} {A:Around} {R:Result->Shared->Prop} {l I S:Addr} {xs:Array (Int×Tok)} {d:Value} {h0:Heap}
end
section
variable {T:Tb} {X:Cx} {a d:Expr} {pos p kp:Pos} {fl:Ro->Out (List D)} {fd:Ev}
end
section
variable {step:D->Option (Option D)}
noncomputable def q1j (step:D->Option (Option D)):List D->Option (List D)
 | []=>some []
 | d::ds=>match step d with
  | some r=>(match q1j step ds with | some es=>some (r.toList++es) | none=>none)
  | none=>none
theorem q4i:∀{a b es:List D},q1j step (a++b)=some es->∃xs,q1j step a=some xs
 | [],_,_,_=>⟨[],rfl⟩
 | d::a,b,es,h=>by
  rw [List.cons_append,q1j] at h
  cases e:step d with
  | none=>rw [e] at h;cases h
  | some r=>
   rw [e] at h
   cases e2:q1j step (a++b) with
   | none=>simp only [e2] at h;cases h
   | some ys=>
    obtain ⟨xs,q⟩:=q4i e2
    exact ⟨r.toList++xs,by rw [q1j,e,q]⟩
theorem q3k {d:D}:∀{a xs es:List D},q1j step a=some xs->q1j step (a++[d])=some es->∃r,step d=some r/\es=xs++r.toList
 | [],xs,es,h,h2=>by
  cases h
  cases e:step d with
  | none=>rw [List.nil_append,q1j,e] at h2;cases h2
  | some r=>rw [List.nil_append,q1j,e] at h2;cases h2;exact ⟨r,rfl,by simp⟩
 | c::a,xs,es,h,h2=>by
  rw [List.cons_append,q1j] at h2
  rw [q1j] at h
  cases e:step c with
  | none=>rw [e] at h;cases h
  | some q=>
   rw [e] at h h2
   cases e1:q1j step a with
   | none=>simp only [e1] at h;cases h
   | some ys=>
    cases e2:q1j step (a++[d]) with
    | none=>simp only [e2] at h2;cases h2
    | some zs=>
     simp only [e1] at h
     simp only [e2] at h2
     cases h;cases h2
     obtain ⟨r,er,rfl⟩:=q3k e1 e2
     exact ⟨r,er,by rw [List.append_assoc]⟩
theorem q4A:∀{a xs:List D},q1j step a=some xs->xs.length<=a.length
 | [],xs,h=>by cases h;exact Nat.le_refl _
 | c::a,xs,h=>by
  rw [q1j] at h
  cases e:step c with
  | none=>rw [e] at h;cases h
  | some q=>
   rw [e] at h
   cases e1:q1j step a with
   | none=>simp only [e1] at h;cases h
   | some ys=>
    simp only [e1] at h
    cases h
    have:=q4A e1
    cases q<;>simp<;>omega
end
noncomputable def q8M (X:Cx) (T:Tb) (N:List Str) (scope:Scope) (cl:List (Str×Addr)) (fp:List Addr) (H2:Hp) (cs:L2.St) (pre:Nat) (tg elt:Expr) (ifs:List Expr) (step:D->Option (Option D)):Prop:=
 ∀(C:Addr) (s₀:Shared) (H₀:Hp) (pn:List (Addr×Obj)) (w:L2.St) (H5:Hp) (s5:Shared) (y:V) (u:Value) (d:D) (r:Option D),w.length=pre->Inv ((CxC X N scope cl C s₀ H₀ fp).wish λ_ _=>False) pn (w++cs) H5 s5->RelV y u->Rep T X.K H5 d y->Same H2 H5->step d=some r ->
  wpAny (model X.prog X.w) X.A (assign tg (compEnvC scope cl C X.env) u) (λ_ s6=>wpAny (model X.prog X.w) X.A (forIn ifs true λc r=>if r=true then do let ok <-isTrue c (compEnvC scope cl C X.env) (eval c (compEnvC scope cl C X.env));pure (ForInStep.yield ok) else pure (ForInStep.yield r)) (λok s7=>
   ∃(w':L2.St) (H7:Hp),w'.length=pre/\Inv ((CxC X N scope cl C s₀ H₀ fp).wish λ_ _=>False) pn (w'++cs) H7 s7/\Same H5 H7/\(match r with
    | none=>ok=false
    | some e=>ok=true/\wpAny (model X.prog X.w) X.A (eval elt (compEnvC scope cl C X.env)) (λu7 s8=>∃v7 H8,Inv ((CxC X N scope cl C s₀ H₀ fp).wish λ_ _=>False) pn (w'++cs) H8 s8/\RelV v7 u7/\Same H7 H8/\Rep T X.K H8 e v7) (λ_ _=>False) s7)) (λ_ _=>False) s6) (λ_ _=>False) s5
section
variable {T:Tb} {X:Cx} {elt tg iter:Expr} {ifs:List Expr} {x:Str} {N ys:List Str} {pos:Pos} {pre:Nat} {scope:Scope} {caps:List Nat} {step:D->Option (Option D)} {cl:List (Str×Addr)} {pins:List (Addr×Obj)} {σ:L2.St} {G H2:Hp} {s2:Shared} {J:It} {fp:List Addr} {it:Addr} {tn:Nat->Heap->Prop} {ρ:Ro} {ds es:List D}
theorem q7d {RR:Value->Addr->Result->Shared->Prop} {E:Value->Shared->Prop} (hc:X.calm=true) (cp:Cap X scope x ys caps) (h1:∀y c,cl.lookup y=some c->X.env.cells.lookup y=some c) (h2:∀y∈scope.names,y.2=.free->∃c,cl.lookup y.1=some c)
 (hI:∀{C:Addr} {s₀:Shared} {H₀ H:Hp} {s:Shared},Inv (CxC X (x::ys) scope cl C s₀ H₀ fp) [] (none::caps.map λi=>σ.getD i none) H s->∃w0:L2.St,w0.length=pre/\Inv (CxC X N scope cl C s₀ H₀ fp) [] (w0++caps.map λi=>σ.getD i none) H s)
 (body:q8M X T N scope cl fp H2 (caps.map λi=>σ.getD i none) pre tg elt ifs step)
 (hun:∀{C:Addr} {s₀ s':Shared} {H₀ H':Hp} {σ':L2.St},Inv X pins σ H₀ s₀->Inv (CxC X N scope cl C s₀ H₀ fp) [] σ' H' s'->(∀b∈fp,q4N X pins H₀ b)->Inv X pins σ H' s')
 (I2:Inv X pins σ H2 s2) (Tn:Turn X.prog X.w X.K tg J fp it tn) (t0:tn 0 s2.heap) (f2:∀b∈fp,q4N X pins H2 b)
 (fr:Same G H2) (wk:Walk T X.K G J ds H2) (hm:q1j step ds=some es) (hl:ds.length<=1000000)
 (hRR:∀(a C:Addr) (s':Shared) (m':Str->Option Value) (Hn:Hp) (vs:List V),Inv X pins σ Hn s'->q4N X pins Hn C->s'.heap.Ns C m'->Same H2 Hn->H2 a=none->Hn a=some (.lst vs)->RepL T X.K Hn es vs->RR (.ref a) C (.ok .next) s') :
 wpAny (model X.prog X.w) X.A (newList []) (λacc s3=>wpAny (model X.prog X.w) X.A (newFunctionEnv scope X.env.globals cl [] X.env.qual none .none (some X.env)) (λcenv s4=>
  codeAny (model X.prog X.w) X.A (.compStart (.ListComp elt [⟨tg,iter,ifs,0⟩] scope pos) 0 (.ref it) acc { cenv with scope:=relabel scope X.env }) (RR acc cenv.locals) s4) E s3) E s2:=by
 refine wpAny_newList (wpAny_newFunctionEnv cp.nocell (by intro y hy;simp at hy) (λh' hns hsb=>?_) cp.kind)
 have I3:Inv X pins σ (upd H2 s2.heap.objs.size (.lst [])) { s2 with heap:=s2.heap.push { cls:=.type "list",data:=.seq ([]:List Value).toArray } }:=I2.lnew (t':=s2.toks) .nil (Nat.zero_le _)
 have bl:∀b∈fp,b < s2.heap.objs.size:=λb hb=>by
  obtain ⟨o,e,_⟩:=Tn.obj 0 _ t0 b hb
  exact Heap.lt_size e
 have ha0:H2 s2.heap.objs.size=none:=I2.hok.fresh (Nat.le_refl _)
 generalize hA:s2.heap.objs.size=a at *
 have f3:∀b∈fp,q4N X pins (upd H2 a (.lst [])) b:=λb hb=>⟨by rw [q0j (Nat.ne_of_lt (bl b hb))];exact (f2 b hb).1,(f2 b hb).2⟩
 have hs3:(s2.heap.push { cls:=.type "list",data:=.seq ([]:List Value).toArray }).objs.size=a+1:=by rw [Heap.size_push,hA]
 generalize hH:s2.heap.push { cls:=.type "list",data:=.seq ([]:List Value).toArray }=hp3 at *
 have up3:∀b o,s2.heap.get? b=some o->hp3.get? b=some o:=λb o e=>hH ▸ Heap.get?_push_of_some _ e
 have k3:∀b o,hp3.get? b=some o->h'.get? b=some o:=λb o e=>
  hsb.extBut b o (Nat.ne_of_lt (Heap.lt_size e)) (Heap.get?_push_of_some _ e)
 have t1:tn 0 h':=Tn.keep 0 _ _ t0 λb hb o e=>k3 b o (up3 b o e)
 generalize hC:hp3.objs.size=C at *
 have I4:∃w0:L2.St,w0.length=pre/\Inv (CxC X N scope cl C { s2 with heap:=hp3 } (upd H2 a (.lst [])) fp) [] (w0++caps.map λi=>σ.getD i none) (upd H2 a (.lst [])) { s2 with heap:=h',toks:=s2.toks+([]:List (Str×Value)).length }:=by
  have:=j0W (ex:=fp) (tk:=s2.toks+([]:List (Str×Value)).length) (h':=h') I3 cp h1 h2 (λb hb=>⟨f3 b hb,by show b < hp3.objs.size;rw [hC,hs3];exact Nat.lt_succ_of_lt (bl b hb)⟩) (by show h'.Ns hp3.objs.size _;rw [hC];exact hns) k3
  have e:({ s2 with heap:=hp3 }:Shared).heap.objs.size=C:=hC
  rw [e] at this
  exact hI this
 obtain ⟨w0,hw0,I4⟩:=I4
 have sm0:Same H2 (upd H2 a (.lst [])):=λb o e=>by
  have:b≠a:=λz=>by rw [z,ha0] at e;cases e
  rw [q0j this];exact e
 have Icf:q4N X pins (upd H2 a (.lst [])) C:=I3.fpOk (by show hp3.objs.size<=C;rw [hC];exact Nat.le_refl _) I4.free
 have fpc:∀{pn:List (Addr×Obj)} {H:Hp},(∀b∈fp,H b=none)->(∀b∈fp,∀p∈pn,p.1≠b)->∀b∈fp,q4N (CxC X N scope cl C { s2 with heap:=hp3 } (upd H2 a (.lst [])) fp) pn H b:=λhn hp b hb=>
  ⟨hn b hb,(I4.ok.exf b hb).1,I4.ok.exfs b hb,.inl hb,(I4.ok.exf b hb).2,hp b hb⟩
 have loop:∀s':Shared,s'={ s2 with heap:=h',toks:=s2.toks+([]:List (Str×Value)).length } ->
  codeAny (model X.prog X.w) X.A (.compLoop (.ListComp elt [⟨tg,iter,ifs,0⟩] scope pos) 0 (.ref it) (.ref a) (compEnvC scope cl C X.env)) (RR (.ref a) C) s':=by
  rintro s' rfl
  refine q2T (λn s'=>∃(i:Nat) (w:L2.St) (H':Hp) (vs:List V),n=ds.length-i/\i<=ds.length/\w.length=pre/\Inv (CxC X N scope cl C { s2 with heap:=hp3 } (upd H2 a (.lst [])) fp) [] (w++caps.map λi=>σ.getD i none) H' s'/\tn i s'.heap/\(∀b∈fp,H' b=none) /\
   Same H2 H'/\H' a=some (.lst vs)/\∃xs,q1j step (ds.take i)=some xs/\RepL T X.K H' xs vs) ?_ ds.length ⟨0,w0,_,[],rfl,Nat.zero_le _,hw0,I4,t1,λb hb=>(f3 b hb).1,sm0,q0w,[],by rw [List.take_zero];rfl,rfl⟩
  rintro n s' ⟨i,w,H',vs,rfl,hi,hw,I',ti,fn,sm,hv,xs,ex,rp⟩
  obtain ⟨w1,w2⟩:=wk i H' (Pers.of sm) (fr.trans sm)
  by_cases hlt:i < ds.length
  ·obtain ⟨d,e1⟩:∃d,ds[i]?=some d:=⟨ds[i],by simp [hlt]⟩
   obtain ⟨go,yl⟩:=w1 d e1
   have tk1:ds.take (i+1)=ds.take i++[d]:=by
    obtain ⟨q1,q2⟩:=List.getElem?_eq_some_iff.mp e1
    rw [List.take_succ_eq_append_getElem q1,q2]
   obtain ⟨xs',ex'⟩:=q4i (a:=ds.take (i+1)) (b:=ds.drop (i+1)) (by rw [List.take_append_drop];exact hm)
   have stp:=q3k ex (by rw [<-tk1];exact ex')
   refine wpAny_mono (Tn.item ((CxC X N scope cl C { s2 with heap:=hp3 } (upd H2 a (.lst [])) fp).wish λ_ _=>False) rfl rfl rfl hc i [] s' _ H' (λ_ _=>False) (I'.wish _) (fpc fn λ_ _ p hp=>by cases hp) ti go) (λr s1 h=>?_) λ_ _ z=>z.elim
   obtain ⟨u,rfl,h⟩:=h
   refine wpAny_mono h (λ_ s5 h5=>?_) λ_ _ z=>z.elim
   obtain ⟨y,H5,I5,r5,y5,t5,f5⟩:=h5
   obtain ⟨s5',rd⟩:=yl y H5 y5
   have I5':=I5.pinned (fpc f5 λ_ _ p hp=>by cases hp) (Tn.obj _ _ t5)
   obtain ⟨r,er,rfl⟩:=stp
   have lv:vs.length<=i:=by rw [RepL.length _ _ rp];exact Nat.le_trans (q4A ex) (by rw [List.length_take];exact Nat.min_le_left _ _)
   refine wpAny_mono (body C { s2 with heap:=hp3 } (upd H2 a (.lst [])) _ w H5 s5 y u d r hw I5' r5 rd (sm.trans s5') er) (λ_ s6 h6=>wpAny_mono h6 (λok s7 h7=>?_) λ_ _ z=>z.elim) λ_ _ z=>z.elim
   obtain ⟨w',H7,hw',I7,sm7,h7⟩:=h7
   cases r with
   | none=>
    obtain rfl:ok=false:=h7
    show ∃m,m < ds.length-i/\_
    refine ⟨ds.length-(i+1),by omega,i+1,w',H7,vs,rfl,hlt,hw',I7.unwish.unpinned,?_,λb hb=>?_,λb o q=>sm7 _ _ (s5' _ _ (sm _ _ q)),sm7 _ _ (s5' _ _ hv),_,ex',by rw [Option.toList_none,List.append_nil];exact RepL.mono sm7 _ _ (RepL.mono s5' _ _ rp)⟩
    ·exact Tn.keep _ _ _ t5 λb hb o q=>(I7.pin (b,o) (List.mem_append_right _ (List.mem_append_right _ (q1r hb q)))).1
    ·obtain ⟨o,q,d'⟩:=Tn.obj _ _ t5 b hb
     exact (I7.pin (b,o) (List.mem_append_right _ (List.mem_append_right _ (q1r hb q)))).2.1
   | some e=>
    obtain ⟨rfl,h7⟩:ok=true/\_:=h7
    show wpAny (model X.prog X.w) X.A (eval elt (compEnvC scope cl C X.env)) _ _ s7
    refine wpAny_mono h7 (λu7 s8 h8=>?_) λ_ _ z=>z.elim
    obtain ⟨v7,H8,I8,r7,sm8,rp7⟩:=h8
    have hv7:H8 a=some (.lst vs):=sm8 _ _ (sm7 _ _ (s5' _ _ hv))
    refine wpAny_mono (q4E (X:=(CxC X N scope cl C { s2 with heap:=hp3 } (upd H2 a (.lst [])) fp).wish λ_ _=>False) _ s8 _ H8 (.ref a) [v7] (.ref a) [u7] (λ_ H9=>H9=upd H8 a (.lst (vs++[v7]))) I8 rfl (.cons r7 .nil) ⟨a,vs,v7,rfl,rfl,hv7,Nat.lt_of_le_of_lt lv (Nat.lt_of_lt_of_le hlt (Nat.le_trans hl (by unfold sizeLine;decide))),rfl⟩) (λ_ s9 h9=>?_) λ_ _ z=>z.elim
    obtain ⟨_,H9,I9,_,rfl⟩:=h9
    have p8:Pers T false H8 (upd H8 a (.lst (vs++[v7]))):=q2y hv7
    refine ⟨ds.length-(i+1),by omega,i+1,w',_,vs++[v7],rfl,hlt,hw',I9.unwish.unpinned,?_,λb hb=>?_,λb o q=>?_,q0w,xs++[e],ex',?_⟩
    ·exact Tn.keep _ _ _ t5 λb hb o q=>(I9.pin (b,o) (List.mem_append_right _ (List.mem_append_right _ (q1r hb q)))).1
    ·obtain ⟨o,q,d'⟩:=Tn.obj _ _ t5 b hb
     exact (I9.pin (b,o) (List.mem_append_right _ (List.mem_append_right _ (q1r hb q)))).2.1
    ·have:b≠a:=λz=>by rw [z,ha0] at q;cases q
     rw [q0j this]
     exact sm8 _ _ (sm7 _ _ (s5' _ _ (sm _ _ q)))
    ·exact RepL.append _ _ _ _ (RepL.pers p8 _ _ (RepL.mono sm8 _ _ (RepL.mono sm7 _ _ (RepL.mono s5' _ _ rp)))) ⟨v7,[],rfl,Rep.pers p8 _ _ rp7,rfl⟩
  ·have e:i=ds.length:=by omega
   refine wpAny_mono (Tn.done ((CxC X N scope cl C { s2 with heap:=hp3 } (upd H2 a (.lst [])) fp).wish λ_ _=>False) rfl rfl rfl hc i [] s' _ H' (λ_ _=>False) (I'.wish _) (fpc fn λ_ _ p hp=>by cases hp) ti (w2 (by omega))) (λr s1 h=>?_) λ_ _ z=>z.elim
   obtain ⟨rfl,I1⟩:=h
   have I1:=I1.unwish
   obtain ⟨m',hn,_⟩:=I1.loc
   refine hRR a C s1 m' H' vs (hun I3 I1 f3) ⟨I1.free,Icf.2⟩ hn sm ha0 hv ?_
   have:ds.take i=ds:=by rw [List.take_of_length_le (by omega)]
   rw [this,hm] at ex
   cases ex
   exact rp
 exact codeAny_compStart_list (loop _ rfl) (Tn.self _ 0 _ _ _ t1 (loop _ rfl))
end
@[simp] noncomputable def j5u:Out D->Option (Option D)
 | .ok e=>some (some e)
 | _=>none
theorem q4C (f:D->Out D):∀ds:List D,q6n f ds=q1j (λd=>j5u (f d)) ds
 | []=>rfl
 | d::ds=>by
  rw [q6n,q1j,q4C f ds]
  cases f d with
  | ok e=>show _=(match q1j (λd=>j5u (f d)) ds with | some es=>some ([e]++es) | none=>none);cases q1j (λd=>j5u (f d)) ds<;>rfl
  | exc c=>rfl
  | bad=>rfl
section
variable {T T0:Tb} {X:Cx} {elt iter tst:Expr} {ifs:List Expr} {x x2:Str} {px px2 pos pt:Pos} {kk:Nat} {N ys:List Str} {pre:Nat} {scope:Scope} {caps:List Nat} {stp:Ro->Option (Option D)} {cl:List (Str×Addr)} {σ:L2.St} {G H2:Hp} {fp:List Addr} {ρ:Ro} {cs:L2.St} {fe:Ev} {ft:Ro->Out Bool}
noncomputable def Tail (X:Cx) (T T0:Tb) (N:List Str) (scope:Scope) (cl:List (Str×Addr)) (fp:List Addr) (elt:Expr) (ifs:List Expr) (stp:Ro->Option (Option D)):Prop:=
 ∀(C:Addr) (s₀:Shared) (H₀:Hp) (pn:List (Addr×Obj)) (w:L2.St) (H6:Hp) (s6:Shared) (ρ6:Ro) (r:Option D),Inv ((CxC X N scope cl C s₀ H₀ fp).wish λ_ _=>False) pn w H6 s6->FR T0 X.K (λ_=>none) H6 w ρ6->stp ρ6=some r ->
  wpAny (model X.prog X.w) X.A (forIn ifs true λc r=>if r=true then do let ok <-isTrue c (compEnvC scope cl C X.env) (eval c (compEnvC scope cl C X.env));pure (ForInStep.yield ok) else pure (ForInStep.yield r)) (λok s7=>
   ∃(H7:Hp),Inv ((CxC X N scope cl C s₀ H₀ fp).wish λ_ _=>False) pn w H7 s7/\Same H6 H7/\(match r with
    | none=>ok=false
    | some e=>ok=true/\wpAny (model X.prog X.w) X.A (eval elt (compEnvC scope cl C X.env)) (λu7 s8=>∃v7 H8,Inv ((CxC X N scope cl C s₀ H₀ fp).wish λ_ _=>False) pn w H8 s8/\RelV v7 u7/\Same H7 H8/\Rep T X.K H8 e v7) (λ_ _=>False) s7)) (λ_ _=>False) s6
theorem j5s (hT:T0={ T with me:=none }) (he:∀(cl:List (Str×Addr)) (C:Addr) (s₀:Shared) (H₀:Hp) (ex:List Addr),DE T0 (CxC X N scope cl C s₀ H₀ ex) elt fe) {C:Addr} {s₀:Shared} {H₀ H6:Hp} {pn:List (Addr×Obj)} {w:L2.St} {s6:Shared} {ρ6:Ro} {e:D}
 (I6:Inv ((CxC X N scope cl C s₀ H₀ fp).wish λ_ _=>False) pn w H6 s6) (fr6:FR T0 X.K (λ_=>none) H6 w ρ6) (ef:fe ρ6=.ok e) :
 wpAny (model X.prog X.w) X.A (eval elt (compEnvC scope cl C X.env)) (λu7 s8=>∃v7 H8,Inv ((CxC X N scope cl C s₀ H₀ fp).wish λ_ _=>False) pn w H8 s8/\RelV v7 u7/\Same H6 H8/\Rep T X.K H8 e v7) (λ_ _=>False) s6:=by
 refine wpAny_mono ((he cl C s₀ H₀ fp).run (λ_=>none) (λ_ _=>False) PassesOwn.never pn s6 w H6 (λv H7=>Same H6 H7/\Rep T0 X.K H7 e v) I6 ⟨ρ6,fr6,by rw [ef];exact λv H7 s7 r7=>⟨s7,r7⟩⟩) (λu7 s7 h7=>?_) λ_ _ z=>z.elim
 obtain ⟨v7,H7,I7,r7,sm7,rp7⟩:=h7
 exact ⟨v7,H7,I7,r7,sm7,by subst hT;exact (q2H _ _).mp rp7⟩
theorem tail0 (hT:T0={ T with me:=none }) (he:∀(cl:List (Str×Addr)) (C:Addr) (s₀:Shared) (H₀:Hp) (ex:List Addr),DE T0 (CxC X N scope cl C s₀ H₀ ex) elt fe):Tail X T T0 N scope cl fp elt [] fun ρ6=>j5u (fe ρ6):=λC s₀ H₀ pn w H6 s6 ρ6 r I6 fr6 er=>by
 have er:j5u (fe ρ6)=some r:=er
 cases ef:fe ρ6 with
 | ok e=>
  rw [ef] at er;cases er
  exact wpAny_pure ⟨H6,I6,Same.refl H6,rfl,j5s hT he I6 fr6 ef⟩
 | exc c=>rw [ef] at er;cases er
 | bad=>rw [ef] at er;cases er
theorem head1 (hT:T0={ T with me:=none }) (cp:Cap X scope x ys caps) (fr:FR T X.K G H2 σ ρ) (tl:Tail X T T0 (x::ys) scope cl fp elt ifs stp):q8M X T (x::ys) scope cl fp H2 (caps.map λi=>σ.getD i none) 1 (.Name x px) elt ifs (λd=>stp (q1m caps ρ d)):=λC s₀ H₀ pn w H5 s5 y u d r hw I5 r5 rd sm er=>by
 obtain ⟨w0,rfl⟩:=List.length_eq_one_iff.mp hw
 have own:(CxC X (x::ys) scope cl C s₀ H₀ fp).env.scope.names.lookup x=some .local:=lookup_relabel_local cp.own
 refine wpAny_mono (q38 (X:=(CxC X (x::ys) scope cl C s₀ H₀ fp).wish λ_ _=>False) (i:=0) cp.nodup rfl (.inl own) (.inr own) pn s5 _ H5 y u (fun σ' H''=>σ'=some y::caps.map (λi=>σ.getD i none)/\H''=H5) I5 r5 ⟨rfl,rfl⟩) (λ_ s6 h6=>?_) λ_ _ z=>z.elim
 obtain ⟨σ6,H6,I6,rfl,rfl⟩:=h6
 refine wpAny_mono (tl C s₀ H₀ pn _ H6 s6 (q1m caps ρ d) r I6 (j4u (w:=w0) hT fr (Pers.of sm) rd) er) (λok s7 h7=>?_) λ_ _ z=>z
 obtain ⟨H7,I7,sm7,h7⟩:=h7
 exact ⟨[some y],H7,rfl,I7,sm7,h7⟩
end
structure DC (T:Tb) (X:Cx) (e:Expr) (scope:Scope) (gs:List Comprehension) (pos:Pos) (f:Ro->Out (List D)):Prop where
 mk ::
 run:∀(G:Hp) (E:Value->Shared->Prop),PassesOwn (model X.prog X.w) X.A X.env E->CompOk (X.wish E) (.ListComp e gs scope pos) scope (firstIterPos gs pos) (firstIter gs X.env) (tF T X G E f)
noncomputable def q8o (fl:Ro->Out (List D)) (step:Ro->D->Option (Option D)) (ρ:Ro):Out (List D):=(fl ρ).bind λds=>if ds.length<=1000000 then (match q1j (step ρ) ds with | some es=>.ok es | none=>.bad) else .bad
section
variable {T T0:Tb} {X:Cx} {elt tg iter tst:Expr} {ifs:List Expr} {x x2 y:Str} {px px2 pos pt py spos:Pos} {kk:Nat} {N ys zs:List Str} {pre:Nat} {scope:Scope} {caps:List Nat} {fe:Ev} {ft:Ro->Out Bool} {fl f:Ro->Out (List D)} {step:Ro->D->Option (Option D)} {gs:List Comprehension}
theorem w1T (hc:X.calm=true) (hi:DI T X tg iter fl) (cp:Cap X scope x ys caps)
 (hI:∀{cl:List (Str×Addr)} {fp:List Addr} {cs:L2.St} {C:Addr} {s₀:Shared} {H₀ H:Hp} {s:Shared},Inv (CxC X (x::ys) scope cl C s₀ H₀ fp) [] (none::cs) H s->∃w0:L2.St,w0.length=pre/\Inv (CxC X (x::zs) scope cl C s₀ H₀ fp) [] (w0++cs) H s)
 (body:∀{cl:List (Str×Addr)} {fp:List Addr} {G H2:Hp} {σ:L2.St} {ρ:Ro},FR T X.K G H2 σ ρ->q8M X T (x::zs) scope cl fp H2 (caps.map λi=>σ.getD i none) pre tg elt ifs (step ρ))
 (hs:∀x,foldedSetIterable iter X.env x=pure x):DC T X elt scope [⟨tg,iter,ifs,0⟩] pos (q8o fl step):=.mk λG E hp=>by
 rintro pins s σ H Q use QQ I ⟨ρ,fr,h⟩ k
 obtain ⟨cl,hclos,h1,h2⟩:=q6X X.env scope λy hy hf=>I.ok.has y.1 (cp.free y hy hf)
 refine wpAny_comprehension_free rfl hs hclos cp.kind cp.names ?_
 refine wpAny_mono (hi.run G E hp pins s σ H (λJ H'=>∃ds es,Same H H'/\Walk T X.K G J ds H'/\q1j (step ρ) ds=some es/\ds.length<=1000000/\∀a vs H'',Same H H''->H a=none->H'' a=some (.lst vs)->RepL T X.K H'' es vs->Q (.ref a) H'') I
  ⟨ρ,fr,Acc.mono (Acc.bind h) λds _ hd J H1 s1 wk=>?_⟩) (λv s1 h1'=>wpAny_mono h1' (λitv s2 h2'=>?_) λ_ _ z=>z) λ_ _ z=>z
 ·by_cases hl:ds.length<=1000000
  ·rw [if_pos hl] at hd
   cases hm:q1j (step ρ) ds with
   | none=>rw [hm] at hd;exact hd.elim
   | some es=>
    rw [hm] at hd
    exact ⟨ds,es,s1,wk,hm,hl,hd⟩
  ·rw [if_neg hl] at hd;exact hd.elim
 ·obtain ⟨it,fp,tn,J,H2,rfl,I2,Tn,t0,f2,ds,es,sm,wk,hm,hl,kq⟩:=h2'
  refine q7d (X:=X) (E:=E) (G:=G) (RR:=λacc C=>compPost (model X.prog X.w) X.A E use QQ acc C) hc cp h1 h2 hI (body (fr.mono sm)) (λa b c=>q7e a b c) I2.unwish Tn t0 f2 (fr.same.trans sm) wk hm hl ?_
  intro a C s' m' Hn vs I' f hn smn ha hv rp
  exact k a C s' m' Hn (I'.wish E) f hn (kq a vs Hn (sm.trans smn) (sm.free ha) hv rp)
theorem j96 (fl:Ro->Out (List D)) (caps:List Nat) (fe:Ev):q0T fl caps fe=q8o fl fun ρ d=>j5u (fe (q1m caps ρ d)):=by
 funext ρ
 unfold q0T q8o
 simp only [q4C]<;>rfl
theorem q07 (hT:T0={ T with me:=none }) (hc:X.calm=true) (hi:DI T X (.Name x px) iter fl) (cp:Cap X scope x ys caps)
 (he:∀(cl:List (Str×Addr)) (C:Addr) (s₀:Shared) (H₀:Hp) (ex:List Addr),DE T0 (CxC X (x::ys) scope cl C s₀ H₀ ex) elt fe) (hs:∀x,foldedSetIterable iter X.env x=pure x:=by intro _;rfl):DC T X elt scope [⟨.Name x px,iter,[],0⟩] pos (q0T fl caps fe):=by
 rw [j96]
 exact w1T hc hi cp (λI=>⟨[none],rfl,I⟩) (λfr=>head1 hT cp fr (tail0 hT he)) hs
theorem DC.df (h:DC T X elt scope gs pos f) (ha:firstAsync gs=false:=by rfl):DF T X (.ListComp elt gs scope pos) f:=.mk λG E hp=>CompOk.pe (X:=X.wish E) (h.run G E hp) ha
variable {ib:Bool}
theorem DC.setF (i:Nat) (hN:X.N.Nodup) (h:DC T X elt scope gs pos f) (hiN:X.N[i]?=some y:=by rfl) (hy:Loc X.env.scope y:=by walk_at "v3")
 (hf:X.fn y=true∨X.env.scope.names.lookup y=some .local:=by walk_at "v2")
 (hz:T.me=none∨i≠0:=by walk_at "v1")
 (hsw:swapsWith (.ListComp elt gs scope pos) (some (.Name y py)) spos.line X.env=pure true:=by rfl) (ha:firstAsync gs=false:=by rfl) :
 DS T ib X (.Assign [.Name y py] (.ListComp elt gs scope pos) spos) (q08 i (q1z f)):=.mk λG E hp=>
 PS.imp (CompOk.ps (X:=X.wish E) (i:=i) (CompOk.freeze (h.run G E hp)) hN hiN hy hf hsw ha) λD σ H ⟨ρ,fr,h⟩=>⟨ρ,fr,Acc.mono (Acc.bind (AccS.fl fr h)) λds _ hd a vs H1 s1 ha ha' r=>⟨a,vs,rfl,ha',λo=>by
  have s2:Same H (upd H1 a (.frz o (.lst vs))):=λb u e=>by
   rw [q0j (λz=>by rw [z,ha] at e;cases e)];exact s1 b u e
  exact hd _ _ ((fr.mono s2).set_sh ⟨a,vs,rfl,.inl ⟨o,q0w⟩,RepL.froz ha' _ _ r⟩ hz) (Pers.of s2)⟩⟩
end
structure Cal (K:PySem.W.Frag) (mg:Str->Option Value) (f:Addr) (fd:FuncData) (x:Str) (ps:List Str):Prop where
 m:mg x=some (.ref f)
 k:PySem.W.keepIn K (.ref f)=true
 b:Binds K fd ps []
theorem q0g {T:Tb} {X:Cx} {e:Expr} {es:List Expr} {pos p:Pos} {fs:Ro->Out (List Sl)} {k n:Nat} {f:Addr} {fd:FuncData} {ps:List Str} {F:Fn} {x:Str} (FO:q1f X.prog X.w X.K X.mg X.base (CXE T X.prog X.w) k f fd ps (spD T X.K ps.length F)) (hr:Room k X.A) (c:Cal X.K X.mg f fd x ps) (ha:DG T X (e::es) fs)
 (hg:Gl X x:=by rfl) (hn:n=ps.length:=by rfl) (hdb:(x==("__debug__" : Str))=false:=by decide) (he:starEach (e::es) X.env=(false,eval e X.env)::starEach es X.env:=by exact q0D rfl) (hpl:(backTo pos (starEach es X.env)).any (·.1)=false:=by exact q0H rfl) :
 DR T X (.Call (.Name x p) (e::es) [] pos) (q0r (n:=n) F [] fs):=j5e FO hr hg c.m c.k c.b .nil (λ_=>rfl) hn ha hdb he hpl
section
variable {P:Program} {w:World} {K:PySem.W.Frag} {mg:Str->Option Value} {base:Heap} {T:Tb}
end
section
variable {T:Tb} {X:Cx} {K:PySem.W.Frag} {G H:Hp} {σ:L2.St} {ρ:Ro} {y:Addr}
end
section
variable {T:Tb} {X:Cx} {e:Expr} {pos pos':Pos} {x:Str} {k:Ro->Fl} {rest:List Stmt}
end
end L3
namespace L3
open PySem L2
theorem j5Z {l:PySem.W.OpenLaw} {k:Nat} {q:Program} {loose:List Str} {XP:(Str->Option Value)->Heap->Prop} {YP:World->Heap->Prop} {d:DefRec} {x:Str} {F:Fn}
 (hn:l.most=some 63) (hdf:d.params.defaults=[]) (hr:Room k callerA)
 (FF:∀(w:World) (mg:Str->Option Value) (fa:Addr) (h:Heap),YP w h->h.Ns mainGlobals mg->mg d.name=some (.ref fa) ->
  ∃K:PySem.W.Frag,K.In h/\∃fd:FuncData,(∀(s:Shared) (u:Value),BindsTo s fd ⟨[u],[]⟩ [(x,u)])/\∃T:Tb,∀base:Heap,K.In base->base.Ns mainGlobals mg->q1f l.prog w K mg base (CXE T l.prog w) k fa fd [x] (spD T K 1 F))
 (hL:∀ns:List Int,ns.length<=63->F [.sh (.lst (ns.map D.int))]=.ok (.sh (.bl true))) :
 PySem.W.WalkO q loose XP YP l.row.toRowW d [] (λf vs=>PySem.call f vs):=by
 refine Att.attach_call hn hdf λw s₀ s₁ mg mb fa o pm cd doc a vs ns G Y ho hd hcd hmg hobj hints hlen hg=>?_
 obtain ⟨K,KX,fd,hb,T,hF⟩:=FF w mg fa _ Y G.T.g hmg
 refine j1C KX G.T.g G.T.b G.T.builtins G.T.nolimit hg hobj hints (Nat.le_trans hlen (by rw [sizeLine_eq];decide)) hr hF hb (λH hO hS=>?_) λH e s' h=>?_
 ·refine ⟨[.sh (.lst (ns.map D.int))],⟨_,[],rfl,⟨a,ns.map V.int,rfl,?_,RepL.ints ns⟩,rfl⟩,rfl,?_⟩
  ·rcases hS with (h | ⟨ob,h⟩) | h
   ·rcases hO a with z | ⟨_,_,z⟩
    ·rw [h] at z;cases z
    ·rw [h] at z;cases z
   ·exact .inl ⟨ob,h⟩
   ·exact .inr h
  ·rw [hL ns hlen]
   exact λv H' _ r=>r
 ·obtain ⟨_,_,_,_,_,_,_,_,_,z⟩:=h
  exact z
end L3
namespace Lw
open PySem L2 L3
structure Tx (K:PySem.W.Frag) (mg:Str->Option Value) (fa:Nat->Addr) (fd:Nat->FuncData) (T:Tb):Prop where
 me:T.me=none
 F1:L2.Fun K "check_name" "check_name" s_1 (fa 1) (fd 1)
 c1:Cal K mg (fa 1) (fd 1) "check_name" ["name"]
 F2:L2.Fun K "check_number" "check_number" s_2 (fa 2) (fd 2)
 c2:Cal K mg (fa 2) (fd 2) "check_number" ["number","lowest","highest"]
 F3:L2.Fun K "check_count" "check_count" s_3 (fa 3) (fd 3)
 c3:Cal K mg (fa 3) (fd 3) "check_count" ["count","lowest","highest"]
 F4:L2.Fun K "__init__" "Order.__init__" s_4 (fa 4) (fd 4)
 b4:Binds K (fd 4) ["self","bread","loaves","due"] []
 F5:L2.Fun K "__init__" "Batch.__init__" s_5 (fa 5) (fd 5)
 b5:Binds K (fd 5) ["self","order","first","loaves"] []
 F6:L2.Fun K "greatest" "greatest" s_6 (fa 6) (fd 6)
 c6:Cal K mg (fa 6) (fd 6) "greatest" ["bakery"]
 F7:L2.Fun K "check_due" "check_due" s_7 (fa 7) (fd 7)
 c7:Cal K mg (fa 7) (fd 7) "check_due" ["due","night"]
 F8:L2.Fun K "accept" "accept" s_8 (fa 8) (fd 8)
 c8:Cal K mg (fa 8) (fd 8) "accept" ["bakery","orders"]
 F9:L2.Fun K "batches_of" "batches_of" s_9 (fa 9) (fd 9)
 c9:Cal K mg (fa 9) (fd 9) "batches_of" ["orders","most"]
 F10:L2.Fun K "cut" "cut" j8f (fa 10) (fd 10)
 c10:Cal K mg (fa 10) (fd 10) "cut" ["bakery","orders"]
 F11:w0m K "__init__" "Run.__init__" j8l (fa 11) (fd 11)
 b11:Binds K (fd 11) ["self","begin","lengths","oven"] []
 F12:L2.Fun K "end" "Run.end" j8G (fa 12) (fd 12)
 b12:Binds K (fd 12) ["self"] []
 mt12:Meth K (T.ca 12) "end" (fa 12)
 F14:L2.Fun K "check_run" "check_run" j8X (fa 14) (fd 14)
 c14:Cal K mg (fa 14) (fd 14) "check_run" ["bakery","bread","run"]
 F15:L2.Fun K "fitted" "fitted" j8O (fa 15) (fd 15)
 c15:Cal K mg (fa 15) (fd 15) "fitted" ["bakery","orders","plan"]
 F16:L2.Fun K "bread_in" "bread_in" j8E (fa 16) (fd 16)
 c16:Cal K mg (fa 16) (fd 16) "bread_in" ["bakery","orders","batch"]
 F17:L2.Fun K "stand" "stand" j8Z (fa 17) (fd 17)
 c17:Cal K mg (fa 17) (fd 17) "stand" ["bakery","orders","plan","minute"]
 F18:L2.Fun K "__init__" "Bakery.__init__" j74 (fa 18) (fd 18)
 b18:Binds K (fd 18) ["self","night","hands","benches","ovens","breads"] []
 F19:L2.Fun K "bread_of" "Bakery.bread_of" j79 (fa 19) (fd 19)
 b19:Binds K (fd 19) ["self","name"] []
 mt19:Meth K (T.ca 13) "bread_of" (fa 19)
 F20:L2.Fun K "check_names_apart" "check_names_apart" j8j (fa 20) (fd 20)
 c20:Cal K mg (fa 20) (fd 20) "check_names_apart" ["names"]
 F21:w0m K "__init__" "Stage.__init__" j8s (fa 21) (fd 21)
 b21:Binds K (fd 21) ["self","name","least","most","want","heat"] []
 F22:L2.Fun K "__init__" "Bread.__init__" j8R (fa 22) (fd 22)
 b22:Binds K (fd 22) ["self","name","stages"] []
 F25:L2.Fun K "bakes" "Bread.bakes" j8u (fa 25) (fd 25)
 b25:Binds K (fd 25) ["self"] []
 mt25:Meth K (T.ca 15) "bakes" (fa 25)
 F26:L2.Fun K "__init__" "Oven.__init__" j8W (fa 26) (fd 26)
 b26:Binds K (fd 26) ["self","room","rate","heat"] []
 F27:L2.Fun K "_law_pick" "_law_pick" j77 (fa 27) (fd 27)
 c27:Cal K mg (fa 27) (fd 27) "_law_pick" ["_law_script","_law_k"]
 F28:L2.Fun K "_law_is" "_law_is" j8y (fa 28) (fd 28)
 c28:Cal K mg (fa 28) (fd 28) "_law_is" ["_law_found","_law_due_here"]
 F29:L2.Fun K "_law_row" "_law_row" j8S (fa 29) (fd 29)
 c29:Cal K mg (fa 29) (fd 29) "_law_row" ["_law_found","_law_due_here"]
 F30:L2.Fun K "_law_names" "_law_names" j8a (fa 30) (fd 30)
 c30:Cal K mg (fa 30) (fd 30) "_law_names" ["_law_cell","_law_many"]
 F31:L2.Fun K "_law_wide_kilns" "_law_wide_kilns" j8e (fa 31) (fd 31)
 c31:Cal K mg (fa 31) (fd 31) "_law_wide_kilns" ["_law_script"]
 F32:L2.Fun K "_law_wide_kinds" "_law_wide_kinds" j8K (fa 32) (fd 32)
 c32:Cal K mg (fa 32) (fd 32) "_law_wide_kinds" ["_law_script"]
 F33:L2.Fun K "_law_wide_scene" "_law_wide_scene" j78 (fa 33) (fd 33)
 c33:Cal K mg (fa 33) (fd 33) "_law_wide_scene" ["_law_script"]
 F34:L2.Fun K "_law_oven_of" "_law_oven_of" j8d (fa 34) (fd 34)
 c34:Cal K mg (fa 34) (fd 34) "_law_oven_of" ["_law_script","_law_scene","_law_batch","_law_k"]
 F35:L2.Fun K "_law_wide_run" "_law_wide_run" j8x (fa 35) (fd 35)
 c35:Cal K mg (fa 35) (fd 35) "_law_wide_run" ["_law_script","_law_scene","_law_batch","_law_k","_law_begin"]
 F36:L2.Fun K "_law_wide_plan" "_law_wide_plan" j8U (fa 36) (fd 36)
 c36:Cal K mg (fa 36) (fd 36) "_law_wide_plan" ["_law_script","_law_scene","_law_batches_here"]
 F37:L2.Fun K "_law_batches" "_law_batches" j8z (fa 37) (fd 37)
 c37:Cal K mg (fa 37) (fd 37) "_law_batches" ["_law_scene"]
 F38:L2.Fun K "_law_bakery" "_law_bakery" j8L (fa 38) (fd 38)
 c38:Cal K mg (fa 38) (fd 38) "_law_bakery" ["_law_scene","_law_names_here"]
 F39:L2.Fun K "_law_orders" "_law_orders" j8Y (fa 39) (fd 39)
 c39:Cal K mg (fa 39) (fd 39) "_law_orders" ["_law_asked","_law_names_here"]
 F40:L2.Fun K "_law_runs" "_law_runs" j8k (fa 40) (fd 40)
 c40:Cal K mg (fa 40) (fd 40) "_law_runs" ["_law_rows"]
 F41:L2.Fun K "_law_runs_stayed" "_law_runs_stayed" j8p (fa 41) (fd 41)
 c41:Cal K mg (fa 41) (fd 41) "_law_runs_stayed" ["_law_plan","_law_rows"]
 F42:L2.Fun K "_law_stayed" "_law_stayed" j8v (fa 42) (fd 42)
 c42:Cal K mg (fa 42) (fd 42) "_law_stayed" ["_law_orders_here","_law_asked","_law_names_here"]
 F43:L2.Fun K "_law_later" "_law_later" j8r (fa 43) (fd 43)
 c43:Cal K mg (fa 43) (fd 43) "_law_later" ["_law_script","_law_rows"]
 F44:L2.Fun K "_law_due" "_law_due" j8H (fa 44) (fd 44)
 c44:Cal K mg (fa 44) (fd 44) "_law_due" ["_law_scene","_law_batches_here","_law_rows","_law_minute"]
 F45:L2.Fun K "law" "law" j8c (fa 45) (fd 45)
 c45:Cal K mg (fa 45) (fd 45) "law" ["_law_script"]
 mC0:mg "DoughError" = some (.ref (T.ca 0))
 xc0:q7i K (T.ca 0)
 mC1:mg "BadName" = some (.ref (T.ca 1))
 xc1:q7i K (T.ca 1)
 mC2:mg "BadWant" = some (.ref (T.ca 2))
 xc2:q7i K (T.ca 2)
 mC3:mg "BadNumber" = some (.ref (T.ca 3))
 xc3:q7i K (T.ca 3)
 mC4:mg "BadCount" = some (.ref (T.ca 4))
 xc4:q7i K (T.ca 4)
 mC5:mg "TwiceNamed" = some (.ref (T.ca 5))
 xc5:q7i K (T.ca 5)
 mC6:mg "NoBread" = some (.ref (T.ca 6))
 xc6:q7i K (T.ca 6)
 mC7:mg "BeyondNight" = some (.ref (T.ca 7))
 xc7:q7i K (T.ca 7)
 mC8:mg "TooMany" = some (.ref (T.ca 8))
 xc8:q7i K (T.ca 8)
 mC9:mg "BadPlan" = some (.ref (T.ca 9))
 xc9:q7i K (T.ca 9)
 mC10:mg "Order" = some (.ref (T.ca 10))
 cC10:Cls K (T.ca 10)
 mk10:Mk K (T.ca 10) (fa 4)
 fl10:T.fl 10=(["bread","loaves","due"]:List Str)
 na10_bread:NoAttr K (T.ca 10) "bread"
 na10_loaves:NoAttr K (T.ca 10) "loaves"
 na10_due:NoAttr K (T.ca 10) "due"
 mC11:mg "Batch" = some (.ref (T.ca 11))
 cC11:Cls K (T.ca 11)
 mk11:Mk K (T.ca 11) (fa 5)
 fl11:T.fl 11=(["order","first","loaves"]:List Str)
 na11_order:NoAttr K (T.ca 11) "order"
 na11_first:NoAttr K (T.ca 11) "first"
 na11_loaves:NoAttr K (T.ca 11) "loaves"
 mC12:mg "Run" = some (.ref (T.ca 12))
 cC12:Cls K (T.ca 12)
 mk12:Mk K (T.ca 12) (fa 11)
 fl12:T.fl 12=(["begin","lengths","oven"]:List Str)
 na12_begin:NoAttr K (T.ca 12) "begin"
 na12_lengths:NoAttr K (T.ca 12) "lengths"
 na12_oven:NoAttr K (T.ca 12) "oven"
 mC13:mg "Bakery" = some (.ref (T.ca 13))
 cC13:Cls K (T.ca 13)
 mk13:Mk K (T.ca 13) (fa 18)
 fl13:T.fl 13=(["night","hands","benches","ovens","breads"]:List Str)
 na13_night:NoAttr K (T.ca 13) "night"
 na13_hands:NoAttr K (T.ca 13) "hands"
 na13_benches:NoAttr K (T.ca 13) "benches"
 na13_ovens:NoAttr K (T.ca 13) "ovens"
 na13_breads:NoAttr K (T.ca 13) "breads"
 mC14:mg "Stage" = some (.ref (T.ca 14))
 cC14:Cls K (T.ca 14)
 mk14:Mk K (T.ca 14) (fa 21)
 fl14:T.fl 14=(["name","least","most","want","heat"]:List Str)
 na14_name:NoAttr K (T.ca 14) "name"
 na14_least:NoAttr K (T.ca 14) "least"
 na14_most:NoAttr K (T.ca 14) "most"
 na14_want:NoAttr K (T.ca 14) "want"
 na14_heat:NoAttr K (T.ca 14) "heat"
 mC15:mg "Bread" = some (.ref (T.ca 15))
 cC15:Cls K (T.ca 15)
 mk15:Mk K (T.ca 15) (fa 22)
 fl15:T.fl 15=(["name","stages"]:List Str)
 na15_name:NoAttr K (T.ca 15) "name"
 na15_stages:NoAttr K (T.ca 15) "stages"
 mC16:mg "Oven" = some (.ref (T.ca 16))
 cC16:Cls K (T.ca 16)
 mk16:Mk K (T.ca 16) (fa 26)
 fl16:T.fl 16=(["room","rate","heat"]:List Str)
 na16_room:NoAttr K (T.ca 16) "room"
 na16_rate:NoAttr K (T.ca 16) "rate"
 na16_heat:NoAttr K (T.ca 16) "heat"
 c_FASTEST:∃t,mg "FASTEST" = some (.int 300 t)
 c_HOTTEST:∃t,mg "HOTTEST" = some (.int 300 t)
 c_LETTERS:∃t,mg "LETTERS" = some (.str "abcdefghijklmnopqrstuvwxyz" t)
 c_LONGEST_NAME:∃t,mg "LONGEST_NAME" = some (.int 12 t)
 c_MOST_BATCHES:∃t,mg "MOST_BATCHES" = some (.int 24 t)
 c_MOST_BENCHES:∃t,mg "MOST_BENCHES" = some (.int 6 t)
 c_MOST_BREADS:∃t,mg "MOST_BREADS" = some (.int 8 t)
 c_MOST_HANDS:∃t,mg "MOST_HANDS" = some (.int 6 t)
 c_MOST_LOAVES:∃t,mg "MOST_LOAVES" = some (.int 60 t)
 c_MOST_ORDERS:∃t,mg "MOST_ORDERS" = some (.int 12 t)
 c_MOST_OVENS:∃t,mg "MOST_OVENS" = some (.int 3 t)
 c_MOST_ROOM:∃t,mg "MOST_ROOM" = some (.int 30 t)
 c_MOST_STAGES:∃t,mg "MOST_STAGES" = some (.int 6 t)
 c_NIGHT:∃t,mg "NIGHT" = some (.int 720 t)
 c_WANTS:j4J K mg "WANTS" [.str "nothing",.str "hands",.str "bench",.str "oven"]
 n_all:mg "all" = none
 n_any:mg "any" = none
 n_bool:mg "bool" = none
 n_enumerate:mg "enumerate" = none
 n_int:mg "int" = none
 n_isinstance:mg "isinstance" = none
 n_len:mg "len" = none
 n_list:mg "list" = none
 n_max:mg "max" = none
 n_min:mg "min" = none
 n_range:mg "range" = none
 n_set:mg "set" = none
 n_sum:mg "sum" = none
 n_tuple:mg "tuple" = none
 n_zip:mg "zip" = none
local macro_rules | `(tactic| walk_at "sc")=>`(tactic| exact ⟨rfl,rfl,rfl,by decide +kernel,rfl,by decide +kernel,by decide +kernel⟩)
section
variable {P:Program} {w:World} {K:PySem.W.Frag} {mg:Str->Option Value} {base:Heap} {fa:Nat->Addr} {fd:Nat->FuncData} {T:Tb}
theorem fo0 (x:Tx K mg fa fd T):∀q∈[(14,0),(15,0)],FoC T K "name" q:=foC x.cC14 x.na14_name x.fl14 (foC x.cC15 x.na15_name x.fl15 foN)
theorem fo1 (x:Tx K mg fa fd T):∀q∈[(11,0)],FoC T K "order" q:=foC x.cC11 x.na11_order x.fl11 foN
theorem fo2 (x:Tx K mg fa fd T):∀q∈[(10,1),(11,2)],FoC T K "loaves" q:=foC x.cC10 x.na10_loaves x.fl10 (foC x.cC11 x.na11_loaves x.fl11 foN)
theorem fo3 (x:Tx K mg fa fd T):∀q∈[(10,0)],FoC T K "bread" q:=foC x.cC10 x.na10_bread x.fl10 foN
theorem fo4 (x:Tx K mg fa fd T):∀q∈[(13,0)],FoC T K "night" q:=foC x.cC13 x.na13_night x.fl13 foN
theorem fo5 (x:Tx K mg fa fd T):∀q∈[(10,2)],FoC T K "due" q:=foC x.cC10 x.na10_due x.fl10 foN
theorem fo6 (x:Tx K mg fa fd T):∀q∈[(13,4)],FoC T K "breads" q:=foC x.cC13 x.na13_breads x.fl13 foN
theorem fo7 (x:Tx K mg fa fd T):∀q∈[(13,3)],FoC T K "ovens" q:=foC x.cC13 x.na13_ovens x.fl13 foN
theorem fo8 (x:Tx K mg fa fd T):∀q∈[(16,0)],FoC T K "room" q:=foC x.cC16 x.na16_room x.fl16 foN
theorem fo9 (x:Tx K mg fa fd T):∀q∈[(12,1)],FoC T K "lengths" q:=foC x.cC12 x.na12_lengths x.fl12 foN
theorem fo10 (x:Tx K mg fa fd T):∀q∈[(15,1)],FoC T K "stages" q:=foC x.cC15 x.na15_stages x.fl15 foN
theorem fo11 (x:Tx K mg fa fd T):∀q∈[(12,2)],FoC T K "oven" q:=foC x.cC12 x.na12_oven x.fl12 foN
theorem fo12 (x:Tx K mg fa fd T):∀q∈[(14,3)],FoC T K "want" q:=foC x.cC14 x.na14_want x.fl14 foN
theorem fo13 (x:Tx K mg fa fd T):∀q∈[(12,0)],FoC T K "begin" q:=foC x.cC12 x.na12_begin x.fl12 foN
theorem j99:q0q ["_law_script","_law_k"] ["_law_script","_law_k"] (q0l j77):=by walk_at "sc"
noncomputable def j2E (ρ:Ro):Fl:=(q2I (q0e 1)) ρ
noncomputable def j29 (ρ:Ro):Fl:=(q2I (e2 q1b (e2 ixD (q0e 0) (e2 (i2c q0C λi j=>.int (i % j)) (q0e 1) (eCB q1T (q0i (q0e 0) q0B)))) (e2 (i2c q1x λi j=>.int (i*j)) (eC (.int 7)) (e2 (i2c q1u λi j=>.int (i / j)) (q0e 1) (eCB q1T (q0i (q0e 0) q0B)))))) ρ
noncomputable def q9p (ρ:Ro):Fl:=((sIf (tB2 (λa b=>bD false (eqS a b)) (eCB q1T (q0i (q0e 0) q0B)) (eC (.int 0))) j2E Fl.nx) ρ).bind j29
noncomputable def q2j:Fn:=fnF 2 q9p
theorem q1g (x:Tx K mg fa fd T):q1f P w K mg base (CXE T P w) 1 (fa 27) (fd 27) ["_law_script","_law_k"] (spD T K 2 q2j):=
 have hT:=x.me
 have hT0:=q0s x.me
 q2a x.me x.F27 j99 λcdv A outer s H E hr=>
  (q0b (q05 (q00 q4v (q0n q0E rfl x.n_len rfl (q0d (q0a 0) q0k)) q0c (nomark _)) (q0h (q0Y (q0a 1))) q0y)
   (q0h (q0Y (q0m q0u (q0p (q0a 0) (q0m q0v (q0a 1) (q0n q0E rfl x.n_len rfl (q0d (q0a 0) q0k)))) (q0m q25 q0c (q0m q0Z (q0a 1) (q0n q0E rfl x.n_len rfl (q0d (q0a 0) q0k))))))))
theorem q7w:q0q ["_law_script","_law_rows","_law_k","_law_cell","_law_rate","_law_heat"] ["_law_script"] (q0l j8e):=by walk_at "sc"
noncomputable def j26 (ρ:Ro):Fl:=(q7D 1 (j47 (q0i (e2 q1b (eC (.int 1)) (e2 (i2c q0C λi j=>.int (i % j)) (q0e 3) (eC (.int 30)))) (q0i (q0e 4) (q0i (q0e 5) q0B))))) ρ
noncomputable def j2k (ρ:Ro):Fl:=((q08 5 (e2 ixD (q1z (q06 (q0i (eC (.int 200)) (q0i (eC (.int 200)) (q0i (eC (.int 230)) (q0i (e2 (i2c q0C λi j=>.int (i % j)) (rD (q0r (n:=2) q2j [] (gSh (q0e 0) (gSh (e2 q1b (eC (.int 11)) (q0e 2)) gN0)))) (eC (.int 301))) q0B)))))) (e2 (i2c q0C λi j=>.int (i % j)) (q0e 3) (eC (.int 4))))) ρ).bind j26
noncomputable def j3N (ρ:Ro):Fl:=((q08 4 (e2 ixD (q1z (q06 (q0i (eC (.int 300)) (q0i (eC (.int 40)) (q0i (e2 q1b (eC (.int 1)) (e2 (i2c q0C λi j=>.int (i % j)) (e2 (i2c q1u λi j=>.int (i / j)) (q0e 3) (eC (.int 90))) (eC (.int 300)))) q0B))))) (e2 (i2c q0C λi j=>.int (i % j)) (e2 (i2c q1u λi j=>.int (i / j)) (q0e 3) (eC (.int 30))) (eC (.int 3))))) ρ).bind j2k
noncomputable def q5T (ρ:Ro):Fl:=((q08 3 (rD (q0r (n:=2) q2j [] (gSh (q0e 0) (gSh (e2 q1b (eC (.int 8)) (q0e 2)) gN0))))) ρ).bind j3N
noncomputable def j24 (ρ:Ro):Fl:=(q3h 1) ρ
noncomputable def q7F (ρ:Ro):Fl:=((q2L (q3p (n1 (e2 q1b (eC (.int 1)) (e2 (i2c q0C λi j=>.int (i % j)) (rD (q0r (n:=2) q2j [] (gSh (q0e 0) (gSh (eC (.int 2)) gN0)))) (eC (.int 3)))))) (q1i 2) q5T) ρ).bind j24
noncomputable def j2l (ρ:Ro):Fl:=((q13 1 (fun ρ=>((q06 q0B) ρ).bind λds=>.ok (.fr ds))) ρ).bind q7F
noncomputable def j75:Fn:=fnF 6 j2l
theorem w0k (x:Tx K mg fa fd T):q1f P w K mg base (CXE T P w) 2 (fa 31) (fd 31) ["_law_script"] (spD T K 1 j75):=
 have hT:=x.me
 have hT0:=q0s x.me
 q2a x.me x.F31 q7w λcdv A outer s H E hr=>
  (q0b (q1d 1 q7w.nd (DF.dr (q0K q0k)))
   (q0b (q0Q rfl (q1t (q5x rfl x.n_range (q0m q0u q0c (q0m q0v (DR.de (q0g (q1g x) hr.le x.c27 (q0f (q0a 0) (q0f q0c q0o)))) q0c)))) (q0W 2 q7w.nd) (q0b (q0t 3 q7w.nd (DR.de (q0g (q1g x) hr.le x.c27 (q0f (q0a 0) (q0f (q0m q0u q0c (q0a 2)) q0o)))))
   (q0b (q0t 4 q7w.nd (q0p (DF.de (q0K (q0d q0c (q0d q0c (q0d (q0m q0u q0c (q0m q0v (q0m q0Z (q0a 3) q0c) q0c)) q0k))))) (q0m q0v (q0m q0Z (q0a 3) q0c) q0c)))
   (q0b (q0t 5 q7w.nd (q0p (DF.de (q0K (q0d q0c (q0d q0c (q0d q0c (q0d (q0m q0v (DR.de (q0g (q1g x) hr.le x.c27 (q0f (q0a 0) (q0f (q0m q0u q0c (q0a 2)) q0o)))) q0c) q0k)))))) (q0m q0v (q0a 3) q0c)))
   (q0h (q2k 1 (q3s (q0d (q0m q0u q0c (q0m q0v (q0a 3) q0c)) (q0d (q0a 4) (q0d (q0a 5) q0k))))))))))
   (q0h (q1Z 1))))
theorem q3g:q0q ["_law_script","_law_kinds","_law_size","_law_like","_law_k","_law_rows","_law_j","_law_cell","_law_least","_law_heat"] ["_law_script"] (q0l j8K):=by walk_at "sc"
noncomputable def q9M (ρ:Ro):Fl:=(q7D 5 (j47 (q0i (q0e 8) (q0i (e2 q1b (q0e 8) (e2 (i2c q0C λi j=>.int (i % j)) (e2 (i2c q1u λi j=>.int (i / j)) (q0e 7) (eC (.int 5))) (eC (.int 7)))) (q0i (e2 (i2c q0C λi j=>.int (i % j)) (q0e 7) (eC (.int 4))) (q0i (q0e 9) q0B)))))) ρ
noncomputable def q82 (ρ:Ro):Fl:=((q08 9 (e2 ixD (q1z (q06 (q0i (eC (.int 200)) (q0i (e2 ixD (q1z (q06 (q0i (eC (.int 200)) (q0i (eC (.int 200)) (q0i (eC (.int 230)) (q0i (e2 (i2c q0C λi j=>.int (i % j)) (rD (q0r (n:=2) q2j [] (gSh (q0e 0) (gSh (e2 q1b (e2 q1b (eC (.int 9)) (q0e 6)) (q0e 4)) gN0)))) (eC (.int 301))) q0B)))))) (e2 (i2c q0C λi j=>.int (i % j)) (e2 (i2c q1u λi j=>.int (i / j)) (q0e 7) (eC (.int 16))) (eC (.int 4)))) q0B)))) (eCB j3Y (q0i (e2 (λa b=>bD false (eqS a b)) (q0e 3) (eC (.int 1))) q0B)))) ρ).bind q9M
noncomputable def q8B (ρ:Ro):Fl:=((q08 8 (e2 q1b (eC (.int 1)) (e2 (i2c q0C λi j=>.int (i % j)) (e2 (i2c q1u λi j=>.int (i / j)) (q0e 7) (eC (.int 4))) (q0e 2)))) ρ).bind q82
noncomputable def q4P (ρ:Ro):Fl:=((q08 7 (rD (q0r (n:=2) q2j [] (gSh (q0e 0) (gSh (e2 q1b (e2 q1b (eC (.int 20)) (e2 (i2c q1x λi j=>.int (i*j)) (eC (.int 6)) (q0e 4))) (q0e 6)) gN0))))) ρ).bind q8B
noncomputable def j2d (ρ:Ro):Fl:=(q7D 1 (q0e 5)) ρ
noncomputable def j3i (ρ:Ro):Fl:=j6H 5 j2d ρ
noncomputable def q7G (ρ:Ro):Fl:=((q2L (q3p (n1 (e2 q1b (eC (.int 1)) (e2 (i2c q0C λi j=>.int (i % j)) (e2 q1b (rD (q0r (n:=2) q2j [] (gSh (q0e 0) (gSh (eC (.int 6)) gN0)))) (e2 (i2c q1x λi j=>.int (i*j)) (eC (.int 5)) (q0e 4))) (eC (.int 6)))))) (q1i 6) q4P) ρ).bind j3i
noncomputable def q3n (ρ:Ro):Fl:=((q13 5 (fun ρ=>((q06 q0B) ρ).bind λds=>.ok (.fr ds))) ρ).bind q7G
noncomputable def j2P (ρ:Ro):Fl:=(q3h 1) ρ
noncomputable def q3F (ρ:Ro):Fl:=((q2L (q3p (n1 (e2 q1b (eC (.int 1)) (e2 (i2c q0C λi j=>.int (i % j)) (rD (q0r (n:=2) q2j [] (gSh (q0e 0) (gSh (eC (.int 5)) gN0)))) (eC (.int 8)))))) (q1i 4) q3n) ρ).bind j2P
noncomputable def q9F (ρ:Ro):Fl:=((q08 3 (e2 (i2c q0C λi j=>.int (i % j)) (rD (q0r (n:=2) q2j [] (gSh (q0e 0) (gSh (eC (.int 7)) gN0)))) (eC (.int 3)))) ρ).bind q3F
noncomputable def q8J (ρ:Ro):Fl:=((q08 2 (e2 ixD (q1z (q06 (q0i (eC (.int 4)) (q0i (eC (.int 2)) (q0i (eC (.int 15)) (q0i (e2 ixD (q1z (q06 (j1F [.int 60,.int 700]))) (e2 (i2c q0C λi j=>.int (i % j)) (e2 (i2c q1u λi j=>.int (i / j)) (rD (q0r (n:=2) q2j [] (gSh (q0e 0) (gSh (eC (.int 3)) gN0)))) (eC (.int 4))) (eC (.int 2)))) q0B)))))) (e2 (i2c q0C λi j=>.int (i % j)) (rD (q0r (n:=2) q2j [] (gSh (q0e 0) (gSh (eC (.int 3)) gN0)))) (eC (.int 4))))) ρ).bind q9F
noncomputable def q5l (ρ:Ro):Fl:=((q13 1 (fun ρ=>((q06 q0B) ρ).bind λds=>.ok (.fr ds))) ρ).bind q8J
noncomputable def j8w:Fn:=fnF 10 q5l
theorem j9b (x:Tx K mg fa fd T):q1f P w K mg base (CXE T P w) 2 (fa 32) (fd 32) ["_law_script"] (spD T K 1 j8w):=
 have hT:=x.me
 have hT0:=q0s x.me
 q2a x.me x.F32 q3g λcdv A outer s H E hr=>
  (q0b (q1d 1 q3g.nd (DF.dr (q0K q0k)))
   (q0b (q0t 2 q3g.nd (q0p (DF.de (q0K (q0d q0c (q0d q0c (q0d q0c (q0d (q0p (DF.de (q0K (q3H rfl))) (q0m q0v (q0m q0Z (DR.de (q0g (q1g x) hr.le x.c27 (q0f (q0a 0) (q0f q0c q0o)))) q0c) q0c)) q0k)))))) (q0m q0v (DR.de (q0g (q1g x) hr.le x.c27 (q0f (q0a 0) (q0f q0c q0o)))) q0c)))
   (q0b (q0t 3 q3g.nd (q0m q0v (DR.de (q0g (q1g x) hr.le x.c27 (q0f (q0a 0) (q0f q0c q0o)))) q0c))
   (q0b (q0Q rfl (q1t (q5x rfl x.n_range (q0m q0u q0c (q0m q0v (DR.de (q0g (q1g x) hr.le x.c27 (q0f (q0a 0) (q0f q0c q0o)))) q0c)))) (q0W 4 q3g.nd) (q0b (q1d 5 q3g.nd (DF.dr (q0K q0k)))
   (q0b (q0Q rfl (q1t (q5x rfl x.n_range (q0m q0u q0c (q0m q0v (q0m q0u (DR.de (q0g (q1g x) hr.le x.c27 (q0f (q0a 0) (q0f q0c q0o)))) (q0m q25 q0c (q0a 4))) q0c)))) (q0W 6 q3g.nd) (q0b (q0t 7 q3g.nd (DR.de (q0g (q1g x) hr.le x.c27 (q0f (q0a 0) (q0f (q0m q0u (q0m q0u q0c (q0m q25 q0c (q0a 4))) (q0a 6)) q0o)))))
   (q0b (q0t 8 q3g.nd (q0m q0u q0c (q0m q0v (q0m q0Z (q0a 7) q0c) (q0a 2))))
   (q0b (q0t 9 q3g.nd (q0p (DF.de (q0K (q0d q0c (q0d (q0p (DF.de (q0K (q0d q0c (q0d q0c (q0d q0c (q0d (q0m q0v (DR.de (q0g (q1g x) hr.le x.c27 (q0f (q0a 0) (q0f (q0m q0u (q0m q0u q0c (q0a 6)) (q0a 4)) q0o)))) q0c) q0k)))))) (q0m q0v (q0m q0Z (q0a 7) q0c) q0c)) q0k)))) (q7U j44 rfl x.n_int rfl (q0d (q5O q4v (q0a 3) q0c (nomark _)) q0k))))
   (q0h (q2k 5 (q3s (q0d (q0a 8) (q0d (q0m q0u (q0a 8) (q0m q0v (q0m q0Z (q0a 7) q0c) q0c)) (q0d (q0m q0v (q0a 7) q0c) (q0d (q0a 9) q0k)))))))))))
   (q5r 5 (q0h (q2k 1 (q0a 5)))))))
   (q0h (q1Z 1))))))
theorem q2W:q0q ["_law_script","_law_cell","_law_night","_law_kilns","_law_kinds","_law_most","_law_asked","_law_k","_law_one","_law_loaves"] ["_law_script"] (q0l j78):=by walk_at "sc"
noncomputable def j3l (ρ:Ro):Fl:=(q7D 6 (j47 (q0i (e2 (i2c q0C λi j=>.int (i % j)) (e2 (i2c q0C λi j=>.int (i % j)) (q0e 8) (eC (.int 8))) (eCB q1T (q0i (q0e 4) q0B))) (q0i (q0e 9) (q0i (q0e 2) q0B))))) ρ
noncomputable def j27 (ρ:Ro):Fl:=((q08 9 (e2 q1b (eC (.int 1)) (e2 (i2c q0C λi j=>.int (i % j)) (e2 (i2c q1u λi j=>.int (i / j)) (q0e 8) (eC (.int 8))) (eCB j49 (q0i (eC (.int 60)) (q0i (e2 (i2c q1x λi j=>.int (i*j)) (eC (.int 2)) (q0e 5)) q0B)))))) ρ).bind j3l
noncomputable def q6R (ρ:Ro):Fl:=((q08 8 (rD (q0r (n:=2) q2j [] (gSh (q0e 0) (gSh (e2 q1b (eC (.int 30)) (q0e 7)) gN0))))) ρ).bind j27
noncomputable def j18 (ρ:Ro):Fl:=(q34 (fun ρ=>((q06 (q0i (q0e 2) (q0i (e2 q1b (eC (.int 1)) (e2 (i2c q0C λi j=>.int (i % j)) (q0e 1) (eC (.int 6)))) (q0i (e2 q1b (eC (.int 1)) (e2 (i2c q0C λi j=>.int (i % j)) (e2 (i2c q1u λi j=>.int (i / j)) (q0e 1) (eC (.int 6))) (eC (.int 6)))) (q0i (q0e 3) (q0i (q0e 4) (q0i (q0e 6) q0B))))))) ρ).bind λds=>.ok (.fr ds))) ρ
noncomputable def j3c (ρ:Ro):Fl:=j6H 6 j18 ρ
noncomputable def q9I (ρ:Ro):Fl:=((q2L (q3p (n1 (e2 (i2c q0C λi j=>.int (i % j)) (rD (q0r (n:=2) q2j [] (gSh (q0e 0) (gSh (eC (.int 4)) gN0)))) (eC (.int 13))))) (q1i 7) q6R) ρ).bind j3c
noncomputable def j2M (ρ:Ro):Fl:=((q13 6 (fun ρ=>((q06 q0B) ρ).bind λds=>.ok (.fr ds))) ρ).bind q9I
noncomputable def q6q (ρ:Ro):Fl:=((q08 5 (eCB q3Z (q0i (q1z (q0T (q1K (q0e 3)) [] (e2 ixD (q0e 0) (eC (.int 0))))) q0B))) ρ).bind j2M
noncomputable def j2a (ρ:Ro):Fl:=((q08 4 (rD (q0r (n:=1) j8w [] (gSh (q0e 0) gN0)))) ρ).bind q6q
noncomputable def q89 (ρ:Ro):Fl:=((q08 3 (rD (q0r (n:=1) j75 [] (gSh (q0e 0) gN0)))) ρ).bind j2a
noncomputable def q9O (ρ:Ro):Fl:=((q08 1 (rD (q0r (n:=2) q2j [] (gSh (q0e 0) (gSh (eC (.int 1)) gN0))))) ρ).bind q89
noncomputable def q7N (ρ:Ro):Fl:=((q08 2 (e2 ixD (q1z (q06 (q0i (eC (.int 720)) (q0i (e2 q1b (eC (.int 1)) (e2 (i2c q0C λi j=>.int (i % j)) (e2 (i2c q1u λi j=>.int (i / j)) (q0e 1) (eC (.int 3))) (eC (.int 720)))) (q0i (e2 q1b (eC (.int 1)) (e2 (i2c q0C λi j=>.int (i % j)) (e2 (i2c q1u λi j=>.int (i / j)) (q0e 1) (eC (.int 3))) (eC (.int 120)))) q0B))))) (e2 (i2c q0C λi j=>.int (i % j)) (q0e 1) (eC (.int 3))))) ρ).bind q9O
noncomputable def q5j (ρ:Ro):Fl:=((q08 1 (rD (q0r (n:=2) q2j [] (gSh (q0e 0) (gSh (eC (.int 0)) gN0))))) ρ).bind q7N
noncomputable def j8V:Fn:=fnF 10 q5j
theorem j9C (x:Tx K mg fa fd T):q1f P w K mg base (CXE T P w) 3 (fa 33) (fd 33) ["_law_script"] (spD T K 1 j8V):=
 have hT:=x.me
 have hT0:=q0s x.me
 q2a x.me x.F33 q2W λcdv A outer s H E hr=>
  (q0b (q0t 1 q2W.nd (DR.de (q0g (q1g x) hr.le x.c27 (q0f (q0a 0) (q0f q0c q0o)))))
   (q0b (q0t 2 q2W.nd (q0p (DF.de (q0K (q0d q0c (q0d (q0m q0u q0c (q0m q0v (q0m q0Z (q0a 1) q0c) q0c)) (q0d (q0m q0u q0c (q0m q0v (q0m q0Z (q0a 1) q0c) q0c)) q0k))))) (q0m q0v (q0a 1) q0c)))
   (q0b (q0t 1 q2W.nd (DR.de (q0g (q1g x) hr.le x.c27 (q0f (q0a 0) (q0f q0c q0o)))))
   (q0b (q0t 3 q2W.nd (DR.de (q0g (w0k x) hr.le x.c31 (q0f (q0a 0) q0o))))
   (q0b (q0t 4 q2W.nd (DR.de (q0g (j9b x) hr.le x.c32 (q0f (q0a 0) q0o))))
   (q0b (q0t 5 q2W.nd (q0n (q4a rfl) rfl x.n_max rfl (q0d (DF.de (DC.df (q07 hT0 rfl (q09 (DE.dp (q0a 3))) cap0 (λcl C s₀ H₀ ex=>(q0p (q0a 0) q0c))))) q0k)))
   (q0b (q1d 6 q2W.nd (DF.dr (q0K q0k)))
   (q0b (q0Q rfl (q1t (q5x rfl x.n_range (q0m q0v (DR.de (q0g (q1g x) hr.le x.c27 (q0f (q0a 0) (q0f q0c q0o)))) q0c))) (q0W 7 q2W.nd) (q0b (q0t 8 q2W.nd (DR.de (q0g (q1g x) hr.le x.c27 (q0f (q0a 0) (q0f (q0m q0u q0c (q0a 7)) q0o)))))
   (q0b (q0t 9 q2W.nd (q0m q0u q0c (q0m q0v (q0m q0Z (q0a 8) q0c) (q0n (q4d rfl) rfl x.n_min rfl (q0d q0c (q0d (q0m q25 q0c (q0a 5)) q0k))))))
   (q0h (q2k 6 (q3s (q0d (q0m q0v (q0m q0v (q0a 8) q0c) (q0n q0E rfl x.n_len rfl (q0d (q0a 4) q0k))) (q0d (q0a 9) (q0d (q0a 2) q0k)))))))))
   (q5r 6 (q0h (q18 (DF.dr (q0K (q0d (q0a 2) (q0d (q0m q0u q0c (q0m q0v (q0a 1) q0c)) (q0d (q0m q0u q0c (q0m q0v (q0m q0Z (q0a 1) q0c) q0c)) (q0d (q0a 3) (q0d (q0a 4) (q0d (q0a 6) q0k)))))))))))))))))))
theorem q66:q0q ["_law_scene","_law_most","_law_rows","_law_k","_law_left"] ["_law_scene"] (q0l j8z):=by walk_at "sc"
noncomputable def j3f (ρ:Ro):Fl:=(q08 4 (e2 (i2 λi j=>.int (i-j)) (q0e 4) (q0e 1))) ρ
noncomputable def q7R (ρ:Ro):Fl:=((q7D 2 (j47 (q0i (q0e 3) (q0i (eCB j49 (q0i (q0e 1) (q0i (q0e 4) q0B))) q0B)))) ρ).bind j3f
noncomputable def q6B (ρ:Ro):Fl:=(fun ρ=>whD (tB2 (i2 λi j=>.bl (decide (j < i))) (q0e 4) (eC (.int 0))) q7R 100000 ρ) ρ
noncomputable def q4I (ρ:Ro):Fl:=((q08 4 (e2 ixD (e2 ixD (e2 ixD (q0e 0) (eC (.int 5))) (q0e 3)) (eC (.int 1)))) ρ).bind q6B
noncomputable def j20 (ρ:Ro):Fl:=(q3h 2) ρ
noncomputable def q9Y (ρ:Ro):Fl:=((q2L (q3p (n1 (eCB q1T (q0i (e2 ixD (q0e 0) (eC (.int 5))) q0B)))) (q1i 3) q4I) ρ).bind j20
noncomputable def j2z (ρ:Ro):Fl:=((q13 2 (fun ρ=>((q06 q0B) ρ).bind λds=>.ok (.fr ds))) ρ).bind q9Y
noncomputable def q73 (ρ:Ro):Fl:=((q08 1 (eCB q3Z (q0i (q1z (q0T (q1K (e2 ixD (q0e 0) (eC (.int 3)))) [] (e2 ixD (q0e 0) (eC (.int 0))))) q0B))) ρ).bind j2z
noncomputable def j8D:Fn:=fnF 5 q73
theorem j9d (x:Tx K mg fa fd T):q1f P w K mg base (CXE T P w) 1 (fa 37) (fd 37) ["_law_scene"] (spD T K 1 j8D):=
 have hT:=x.me
 have hT0:=q0s x.me
 q2a x.me x.F37 q66 λcdv A outer s H E hr=>
  (q0b (q0t 1 q66.nd (q0n (q4a rfl) rfl x.n_max rfl (q0d (DF.de (DC.df (q07 hT0 rfl (q09 (DE.dp (q0p (q0a 0) q0c))) cap0 (λcl C s₀ H₀ ex=>(q0p (q0a 0) q0c))))) q0k)))
   (q0b (q1d 2 q66.nd (DF.dr (q0K q0k)))
   (q0b (q0Q rfl (q1t (q5x rfl x.n_range (q0n q0E rfl x.n_len rfl (q0d (q0p (q0a 0) q0c) q0k)))) (q0W 3 q66.nd) (q0b (q0t 4 q66.nd (q0p (q0p (q0p (q0a 0) q0c) (q0a 3)) q0c))
   (q0h (j08 100000 (q00 j4z (q0a 4) q0c (nomark _)) (q0b (q2k 2 (q3s (q0d (q0a 3) (q0d (q0n (q4d rfl) rfl x.n_min rfl (q0d (q0a 1) (q0d (q0a 4) q0k))) q0k))))
   (q0h (q0t 4 q66.nd (q0m q16 (q0a 4) (q0a 1)))))))))
   (q0h (q1Z 2)))))
theorem j09:q0q ["_law_script","_law_scene","_law_batch","_law_k","_law_oven","_law_rooms"] ["_law_script","_law_scene","_law_batch","_law_k"] (q0l j8d):=by walk_at "sc"
noncomputable def j2X (ρ:Ro):Fl:=(q2I (eC (.int 0))) ρ
noncomputable def j3O (ρ:Ro):Fl:=(q08 4 (e2 q1b (eC (.int 1)) (eMt q6L q22 (q0e 5) (q0i (eCB q3Z (q0i (q0e 5) q0B)) q0B)))) ρ
noncomputable def q4Y (ρ:Ro):Fl:=((q08 5 (q1z (q0T (q1K (e2 ixD (q0e 1) (eC (.int 3)))) [] (e2 ixD (q0e 0) (eC (.int 0)))))) ρ).bind j3O
noncomputable def q56 (ρ:Ro):Fl:=(q2I (q0e 4)) ρ
noncomputable def q54 (ρ:Ro):Fl:=((sIf (j0S (tB2 (i2 λi j=>.bl (decide (i < j))) (e2 ixD (e2 ixD (e2 ixD (q0e 1) (eC (.int 3))) (e2 (i2 λi j=>.int (i-j)) (q0e 4) (eC (.int 1)))) (eC (.int 0))) (e2 ixD (q0e 2) (eC (.int 1)))) (tB2 (i2 λi j=>.bl (decide (j < i))) (e2 (i2c q0C λi j=>.int (i % j)) (rD (q0r (n:=2) q2j [] (gSh (q0e 0) (gSh (eC (.int 51)) gN0)))) (eC (.int 5))) (eC (.int 0)))) q4Y Fl.nx) ρ).bind q56
noncomputable def q6i (ρ:Ro):Fl:=((q08 4 (e2 q1b (eC (.int 1)) (e2 (i2c q0C λi j=>.int (i % j)) (rD (q0r (n:=2) q2j [] (gSh (q0e 0) (gSh (e2 q1b (eC (.int 50)) (q0e 3)) gN0)))) (eCB q1T (q0i (e2 ixD (q0e 1) (eC (.int 3))) q0B))))) ρ).bind q54
noncomputable def q3a (ρ:Ro):Fl:=((sIf (tB2 (inD true) (eC (.int 3)) (q1z (q0T (q1K (e2 ixD (e2 ixD (q0e 1) (eC (.int 4))) (e2 ixD (e2 ixD (e2 ixD (q0e 1) (eC (.int 5))) (e2 ixD (q0e 2) (eC (.int 0)))) (eC (.int 0))))) [] (e2 ixD (q0e 0) (eC (.int 2)))))) j2X Fl.nx) ρ).bind q6i
noncomputable def j5A:Fn:=fnF 6 q3a
theorem j9s (x:Tx K mg fa fd T):q1f P w K mg base (CXE T P w) 2 (fa 34) (fd 34) ["_law_script","_law_scene","_law_batch","_law_k"] (spD T K 4 j5A):=
 have hT:=x.me
 have hT0:=q0s x.me
 q2a x.me x.F34 j09 λcdv A outer s H E hr=>
  (q0b (q05 (q00 q6h q0c (DF.de (DC.df (q07 hT0 rfl (q09 (DE.dp (q0p (q0p (q0a 1) q0c) (q0p (q0p (q0p (q0a 1) q0c) (q0p (q0a 2) q0c)) q0c)))) cap0 (λcl C s₀ H₀ ex=>(q0p (q0a 0) q0c))))) rfl) (q0h (q0Y q0c)) q0y)
   (q0b (q0t 4 j09.nd (q0m q0u q0c (q0m q0v (DR.de (q0g (q1g x) hr.le x.c27 (q0f (q0a 0) (q0f (q0m q0u q0c (q0a 3)) q0o)))) (q0n q0E rfl x.n_len rfl (q0d (q0p (q0a 1) q0c) q0k)))))
   (q0b (q05 (DW.dt (q87 (q00 j6s (q0p (q0p (q0p (q0a 1) q0c) (q0m q16 (q0a 4) q0c)) q0c) (q0p (q0a 2) q0c) (nomark _)) (q5i (q00 j4z (q0m q0v (DR.de (q0g (q1g x) hr.le x.c27 (q0f (q0a 0) (q0f q0c q0o)))) q0c) q0c (nomark _))))) (q0b (DC.setF 5 j09.nd (q07 hT0 rfl (q09 (DE.dp (q0p (q0a 1) q0c))) cap0 (λcl C s₀ H₀ ex=>(q0p (q0a 0) q0c))))
   (q0h (q0t 4 j09.nd (q0m q0u q0c (q9A (q0a 5) (q0n (q4a rfl) rfl x.n_max rfl (q0d (q0a 5) q0k))))))) q0y)
   (q0h (q0Y (q0a 4))))))
theorem q5d:q0q ["_law_script","_law_scene","_law_batch","_law_k","_law_begin","_law_stages","_law_lengths","_law_j","_law_cell","_law_length"] ["_law_script","_law_scene","_law_batch","_law_k","_law_begin"] (q0l j8x):=by walk_at "sc"
noncomputable def j14 (ρ:Ro):Fl:=(q08 9 (e2 ixD (q1z (q06 (q0i (eCB j73 (q0i (eC (.int 0)) (q0i (e2 (i2 λi j=>.int (i-j)) (e2 (i2 λi j=>.int (i-j)) (e2 ixD (e2 ixD (q0e 5) (q0e 7)) (eC (.int 0))) (eC (.int 1))) (e2 (i2c q0C λi j=>.int (i % j)) (q0e 8) (eC (.int 3)))) q0B))) (q0i (e2 q1b (e2 q1b (e2 ixD (e2 ixD (q0e 5) (q0e 7)) (eC (.int 1))) (eC (.int 1))) (e2 (i2c q0C λi j=>.int (i % j)) (q0e 8) (eC (.int 3)))) q0B)))) (e2 (i2c q0C λi j=>.int (i % j)) (e2 (i2c q1u λi j=>.int (i / j)) (q0e 8) (eC (.int 3))) (eC (.int 2))))) ρ
noncomputable def q84 (ρ:Ro):Fl:=(q7D 6 (q0e 9)) ρ
noncomputable def j0s (ρ:Ro):Fl:=((sIf (tB2 (λa b=>bD false (eqS a b)) (e2 (i2c q0C λi j=>.int (i % j)) (rD (q0r (n:=2) q2j [] (gSh (q0e 0) (gSh (eC (.int 19)) gN0)))) (eC (.int 97))) (e2 q1b (e2 (i2c q1x λi j=>.int (i*j)) (eC (.int 2)) (q0e 3)) (q0e 7))) j14 Fl.nx) ρ).bind q84
noncomputable def q79 (ρ:Ro):Fl:=((q08 9 (e2 q1b (e2 ixD (e2 ixD (q0e 5) (q0e 7)) (eC (.int 0))) (e2 (i2c q0C λi j=>.int (i % j)) (q0e 8) (e2 q1b (e2 (i2 λi j=>.int (i-j)) (e2 ixD (e2 ixD (q0e 5) (q0e 7)) (eC (.int 1))) (e2 ixD (e2 ixD (q0e 5) (q0e 7)) (eC (.int 0)))) (eC (.int 1)))))) ρ).bind j0s
noncomputable def q4B (ρ:Ro):Fl:=((q08 8 (rD (q0r (n:=2) q2j [] (gSh (q0e 0) (gSh (e2 q1b (e2 q1b (eC (.int 40)) (e2 (i2c q1x λi j=>.int (i*j)) (eC (.int 3)) (q0e 3))) (q0e 7)) gN0))))) ρ).bind q79
noncomputable def j10 (ρ:Ro):Fl:=(q2I (j47 (q0i (eCB j49 (q0i (q0e 4) (q0i (eC (.int 1440)) q0B))) (q0i (q0e 6) (q0i (rD (q0r (n:=4) j5A [] (gSh (q0e 0) (gSh (q0e 1) (gSh (q0e 2) (gSh (q0e 3) gN0)))))) q0B))))) ρ
noncomputable def j16 (ρ:Ro):Fl:=j6H 6 j10 ρ
noncomputable def q71 (ρ:Ro):Fl:=((q2L (q3p (n1 (eCB q1T (q0i (q0e 5) q0B)))) (q1i 7) q4B) ρ).bind j16
noncomputable def j21 (ρ:Ro):Fl:=((q13 6 (fun ρ=>((q06 q0B) ρ).bind λds=>.ok (.fr ds))) ρ).bind q71
noncomputable def q5b (ρ:Ro):Fl:=((q08 5 (e2 ixD (e2 ixD (q0e 1) (eC (.int 4))) (e2 ixD (e2 ixD (e2 ixD (q0e 1) (eC (.int 5))) (e2 ixD (q0e 2) (eC (.int 0)))) (eC (.int 0))))) ρ).bind j21
noncomputable def j8h:Fn:=fnF 10 q5b
theorem j9j (x:Tx K mg fa fd T):q1f P w K mg base (CXE T P w) 3 (fa 35) (fd 35) ["_law_script","_law_scene","_law_batch","_law_k","_law_begin"] (spD T K 5 j8h):=
 have hT:=x.me
 have hT0:=q0s x.me
 q2a x.me x.F35 q5d λcdv A outer s H E hr=>
  (q0b (q0t 5 q5d.nd (q0p (q0p (q0a 1) q0c) (q0p (q0p (q0p (q0a 1) q0c) (q0p (q0a 2) q0c)) q0c)))
   (q0b (q1d 6 q5d.nd (DF.dr (q0K q0k)))
   (q0b (q0Q rfl (q1t (q5x rfl x.n_range (q0n q0E rfl x.n_len rfl (q0d (q0a 5) q0k)))) (q0W 7 q5d.nd) (q0b (q0t 8 q5d.nd (DR.de (q0g (q1g x) hr.le x.c27 (q0f (q0a 0) (q0f (q0m q0u (q0m q0u q0c (q0m q25 q0c (q0a 3))) (q0a 7)) q0o)))))
   (q0b (q0t 9 q5d.nd (q0m q0u (q0p (q0p (q0a 5) (q0a 7)) q0c) (q0m q0v (q0a 8) (q0m q0u (q0m q16 (q0p (q0p (q0a 5) (q0a 7)) q0c) (q0p (q0p (q0a 5) (q0a 7)) q0c)) q0c))))
   (q0b (q05 (q00 q4v (q0m q0v (DR.de (q0g (q1g x) hr.le x.c27 (q0f (q0a 0) (q0f q0c q0o)))) q0c) (q0m q0u (q0m q25 q0c (q0a 3)) (q0a 7)) (nomark _)) (q0h (q0t 9 q5d.nd (q0p (DF.de (q0K (q0d (q0n (j2I rfl) rfl x.n_max rfl (q0d q0c (q0d (q0m q16 (q0m q16 (q0p (q0p (q0a 5) (q0a 7)) q0c) q0c) (q0m q0v (q0a 8) q0c)) q0k))) (q0d (q0m q0u (q0m q0u (q0p (q0p (q0a 5) (q0a 7)) q0c) q0c) (q0m q0v (q0a 8) q0c)) q0k)))) (q0m q0v (q0m q0Z (q0a 8) q0c) q0c)))) q0y)
   (q0h (q2k 6 (q0a 9)))))))
   (q5r 6 (q0h (q0Y (q3s (q0d (q0n (q4d rfl) rfl x.n_min rfl (q0d (q0a 4) (q0d q0c q0k))) (q0d (q0a 6) (q0d (DR.de (q0g (j9s x) hr.le x.c34 (q0f (q0a 0) (q0f (q0a 1) (q0f (q0a 2) (q0f (q0a 3) q0o)))))) q0k))))))))))
theorem q3f:q0q ["_law_script","_law_scene","_law_batches_here","_law_rows","_law_ends","_law_mode","_law_k","_law_cell","_law_lane","_law_begin","_law_row_here"] ["_law_script","_law_scene","_law_batches_here"] (q0l j8U):=by walk_at "sc"
noncomputable def j2K (ρ:Ro):Fl:=(q08 9 (e2 (i2c q0C λi j=>.int (i % j)) (q0e 7) (e2 q1b (e2 ixD (q0e 1) (eC (.int 0))) (eC (.int 1))))) ρ
noncomputable def j0c (ρ:Ro):Fl:=(q7D 3 (q0e 10)) ρ
noncomputable def q4G (ρ:Ro):Fl:=((q8D 4 (q0e 8) (e2 q1b (e2 ixD (q0e 10) (eC (.int 0))) (eCB q8U (q0i (e2 ixD (q0e 10) (eC (.int 1))) q0B)))) ρ).bind j0c
noncomputable def q4R (ρ:Ro):Fl:=((q08 10 (rD (q0r (n:=5) j8h [] (gSh (q0e 0) (gSh (q0e 1) (gSh (e2 ixD (q0e 2) (q0e 6)) (gSh (q0e 6) (gSh (q0e 9) gN0)))))))) ρ).bind q4G
noncomputable def q8g (ρ:Ro):Fl:=((sIf (tB2 (λa b=>bD false (eqS a b)) (q0e 5) (eC (.int 3))) j2K Fl.nx) ρ).bind q4R
noncomputable def q9L (ρ:Ro):Fl:=((q08 9 (e2 q1b (j8P (j3g 4) (q0e 8)) (e2 ixD (q1z (q06 (q0i (eC (.int 0)) (q0i (eC (.int 1)) (q0i (eC (.int 8)) (q0i (e2 (i2c q0C λi j=>.int (i % j)) (q0e 7) (eC (.int 31))) q0B)))))) (e2 (i2c q0C λi j=>.int (i % j)) (e2 (i2c q1u λi j=>.int (i / j)) (q0e 7) (eC (.int 4))) (eC (.int 4)))))) ρ).bind q8g
noncomputable def q8h (ρ:Ro):Fl:=((q08 8 (e2 ixD (q1z (q06 (q0i (eC (.int 0)) (q0i (e2 (i2c q0C λi j=>.int (i % j)) (q0e 6) (eC (.int 2))) (q0i (e2 (i2c q0C λi j=>.int (i % j)) (q0e 6) (eC (.int 3))) (q0i (eC (.int 0)) q0B)))))) (q0e 5))) ρ).bind q9L
noncomputable def q3m (ρ:Ro):Fl:=((q08 7 (rD (q0r (n:=2) q2j [] (gSh (q0e 0) (gSh (e2 q1b (eC (.int 14)) (q0e 6)) gN0))))) ρ).bind q8h
noncomputable def j3C (ρ:Ro):Fl:=(q3h 3) ρ
noncomputable def q4b (ρ:Ro):Fl:=((q2L (q3p (n1 (eCB q1T (q0i (q0e 2) q0B)))) (q1i 6) q3m) ρ).bind j3C
noncomputable def q8Q (ρ:Ro):Fl:=((q08 5 (e2 (i2c q0C λi j=>.int (i % j)) (rD (q0r (n:=2) q2j [] (gSh (q0e 0) (gSh (eC (.int 13)) gN0)))) (eC (.int 4)))) ρ).bind q4b
noncomputable def q7O (ρ:Ro):Fl:=((q13 4 (fun ρ=>((q06 (j1F [.int 0,.int 0,.int 0])) ρ).bind λds=>.ok (.fr ds))) ρ).bind q8Q
noncomputable def q5o (ρ:Ro):Fl:=((q13 3 (fun ρ=>((q06 q0B) ρ).bind λds=>.ok (.fr ds))) ρ).bind q7O
noncomputable def j76:Fn:=fnF 11 q5o
theorem j9N (x:Tx K mg fa fd T):q1f P w K mg base (CXE T P w) 4 (fa 36) (fd 36) ["_law_script","_law_scene","_law_batches_here"] (spD T K 3 j76):=
 have hT:=x.me
 have hT0:=q0s x.me
 q2a x.me x.F36 q3f λcdv A outer s H E hr=>
  (q0b (q1d 3 q3f.nd (DF.dr (q0K q0k)))
   (q0b (q1d 4 q3f.nd (DF.dr (q0K (q3H rfl))))
   (q0b (q0t 5 q3f.nd (q0m q0v (DR.de (q0g (q1g x) hr.le x.c27 (q0f (q0a 0) (q0f q0c q0o)))) q0c))
   (q0b (q0Q rfl (q1t (q5x rfl x.n_range (q0n q0E rfl x.n_len rfl (q0d (q0a 2) q0k)))) (q0W 6 q3f.nd) (q0b (q0t 7 q3f.nd (DR.de (q0g (q1g x) hr.le x.c27 (q0f (q0a 0) (q0f (q0m q0u q0c (q0a 6)) q0o)))))
   (q0b (q0t 8 q3f.nd (q0p (DF.de (q0K (q0d q0c (q0d (q0m q0v (q0a 6) q0c) (q0d (q0m q0v (q0a 6) q0c) (q0d q0c q0k)))))) (q0a 5)))
   (q0b (q0t 9 q3f.nd (q0m q0u (j0d (q3u 4) (q0a 8)) (q0p (DF.de (q0K (q0d q0c (q0d q0c (q0d q0c (q0d (q0m q0v (q0a 7) q0c) q0k)))))) (q0m q0v (q0m q0Z (q0a 7) q0c) q0c))))
   (q0b (q05 (q00 q4v (q0a 5) q0c (nomark _)) (q0h (q0t 9 q3f.nd (q0m q0v (q0a 7) (q0m q0u (q0p (q0a 1) q0c) q0c)))) q0y)
   (q0b (q0t 10 q3f.nd (DR.de (q0g (j9j x) hr.le x.c35 (q0f (q0a 0) (q0f (q0a 1) (q0f (q0p (q0a 2) (q0a 6)) (q0f (q0a 6) (q0f (q0a 9) q0o))))))))
   (q0b (q5c 4 (q0m q0u (q0p (q0a 10) q0c) (q0n (q4H rfl) rfl x.n_sum rfl (q0d (q0p (q0a 10) q0c) q0k))) (q0a 8))
   (q0h (q2k 3 (q0a 10))))))))))
   (q0h (q1Z 3))))))
theorem q7a:q0q ["_law_cell","_law_many","_law_letters","_law_shift","_law_stem","_law_place","_law_row_here"] ["_law_cell","_law_many"] (q0l j8a):=by walk_at "sc"
noncomputable def q59 (ρ:Ro):Fl:=(q34 (fun ρ=>((q0T (q3p (n1 (q0e 1))) [6,0] (q61 (q0e 1) oNo (oSo (e2 q1b (e2 q1b (q0e 0) (eC (.int 1))) (e2 (i2c q0C λi j=>.int (i % j)) (e2 (i2c q1u λi j=>.int (i / j)) (q0e 2) (eC (.int 2))) (eC (.int 3))))))) ρ).bind λds=>.ok (.fr ds))) ρ
noncomputable def j2g (ρ:Ro):Fl:=((q08 6 (e2 q1b (q61 (q0e 2) (oSo (q0e 3)) oNo) (q61 (q0e 2) oNo (oSo (q0e 3))))) ρ).bind q59
noncomputable def q6r (ρ:Ro):Fl:=(q34 (fun ρ=>((q0T (q3p (n1 (q0e 1))) [4,2,5,3] (e2 q1b (e2 q1b (q61 (q0e 1) oNo (oSo (q0e 3))) (e2 ixD (q0e 2) (e2 (i2c q0C λi j=>.int (i % j)) (e2 q1b (q0e 4) (q0e 0)) (eC (.int 26))))) (q61 (q0e 1) (oSo (q0e 3)) oNo))) ρ).bind λds=>.ok (.fr ds))) ρ
noncomputable def j15 (ρ:Ro):Fl:=((q08 5 (e2 (i2c q0C λi j=>.int (i % j)) (e2 (i2c q1u λi j=>.int (i / j)) (q0e 0) (eC (.int 24))) (e2 q1b (eCB q1T (q0i (q0e 4) q0B)) (eC (.int 1))))) ρ).bind q6r
noncomputable def q5G (ρ:Ro):Fl:=((q08 4 (eMt q6D q8C (eC (.str "")) (q0i (q1z (q0T (q3p (n1 (e2 (i2c q0C λi j=>.int (i % j)) (e2 (i2c q1u λi j=>.int (i / j)) (q0e 0) (eC (.int 2))) (eC (.int 12))))) [2,0] (e2 ixD (q0e 1) (e2 (i2c q0C λi j=>.int (i % j)) (e2 q1b (e2 (i2c q1u λi j=>.int (i / j)) (q0e 2) (eC (.int 7))) (e2 (i2c q1x λi j=>.int (i*j)) (q0e 0) (e2 q1b (q0e 0) (eC (.int 2))))) (eC (.int 26)))))) q0B))) ρ).bind j15
noncomputable def q9G (ρ:Ro):Fl:=((sIf (tB2 (λa b=>bD false (eqS a b)) (e2 (i2c q0C λi j=>.int (i % j)) (q0e 0) (eC (.int 2))) (eC (.int 1))) j2g Fl.nx) ρ).bind q5G
noncomputable def q8p (ρ:Ro):Fl:=((q08 3 (e2 (i2c q0C λi j=>.int (i % j)) (e2 (i2c q1u λi j=>.int (i / j)) (q0e 0) (eC (.int 288))) (eC (.int 26)))) ρ).bind q9G
noncomputable def q95 (ρ:Ro):Fl:=((q08 2 (eC (.str "abcdefghijklmnopqrstuvwxyz"))) ρ).bind q8p
noncomputable def j68:Fn:=fnF 7 q95
theorem j95 (x:Tx K mg fa fd T):q1f P w K mg base (CXE T P w) 1 (fa 30) (fd 30) ["_law_cell","_law_many"] (spD T K 2 j68):=
 have hT:=x.me
 have hT0:=q0s x.me
 q2a x.me x.F30 q7a λcdv A outer s H E hr=>
  (q0b (q0t 2 q7a.nd q2h)
   (q0b (q0t 3 q7a.nd (q0m q0v (q0m q0Z (q0a 0) q0c) q0c))
   (q0b (q05 (q00 q4v (q0m q0v (q0a 0) q0c) q0c (nomark _)) (q0b (q0t 6 q7a.nd (q0m q0u (q28 (q0a 2) (q7I (q0a 3)) q8L) (q28 (q0a 2) q8L (q7I (q0a 3)))))
   (q0h (q18 (DF.dr (DC.df (q07 hT0 rfl (q1t (q5x rfl x.n_range (q0a 1))) (j7G ["_law_row_here","_law_cell"] [6,0] (hc:=(q1I rfl rfl rfl (q1I rfl rfl rfl q4p)))) (λcl C s₀ H₀ ex=>(q28 (q0a 1) q8L (q7I (q0m q0u (q0m q0u (q0a 0) q0c) (q0m q0v (q0m q0Z (q0a 2) q0c) q0c))))))))))) q0y)
   (q0b (q0t 4 q7a.nd (j5V j4p PySem.F.slot_str_join PySem.F.type_str_join q2h (q0d (DF.de (DC.df (q07 hT0 rfl (q1t (q5x rfl x.n_range (q0m q0v (q0m q0Z (q0a 0) q0c) q0c))) (j7G ["_law_letters","_law_cell"] [2,0] (hc:=(q1I rfl rfl rfl (q1I rfl rfl rfl q4p)))) (λcl C s₀ H₀ ex=>(q0p (q0a 1) (q0m q0v (q0m q0u (q0m q0Z (q0a 2) q0c) (q0m q25 (q0a 0) (q0m q0u (q0a 0) q0c))) q0c)))))) q0k)))
   (q0b (q0t 5 q7a.nd (q0m q0v (q0m q0Z (q0a 0) q0c) (q0m q0u (q0n q0E rfl x.n_len rfl (q0d (q0a 4) q0k)) q0c)))
   (q0h (q18 (DF.dr (DC.df (q07 hT0 rfl (q1t (q5x rfl x.n_range (q0a 1))) (j7G ["_law_stem","_law_letters","_law_place","_law_shift"] [4,2,5,3] (hc:=(q1I rfl rfl rfl (q1I rfl rfl rfl (q1I rfl rfl rfl (q1I rfl rfl rfl q4p)))))) (λcl C s₀ H₀ ex=>(q0m q0u (q0m q0u (q28 (q0a 1) q8L (q7I (q0a 3))) (q0p (q0a 2) (q0m q0v (q0m q0u (q0a 4) (q0a 0)) q0c))) (q28 (q0a 1) (q7I (q0a 3)) q8L)))))))))))))
theorem w1y:q0q ["name"] ["name"] (q0l s_1):=by walk_at "sc"
noncomputable def j0R (ρ:Ro):Fl:=(q1C 1 (q0i (eJ (q4c q77 (q0e 0) (q50 " is not 1 to " (q4c q7p (eC (.int 12)) (q50 " small letters" jN0))))) q0B)) ρ
noncomputable def j1y (ρ:Ro):Fl:=(sIf (j5x (q1W (fun ρ=>(q23 (i2 λi j=>.bl (decide (i<=j))) (i2 λi j=>.bl (decide (i<=j))) (eC (.int 1)) (eCB q1T (q0i (q0e 0) q0B)) (eC (.int 12)) ρ).bind D.toB)) (q1W (q5S (eCB j5y (q0i (q1z (q0T (j5z (q0e 0)) [] (e2 (inD false) (q0e 0) (eC (.str "abcdefghijklmnopqrstuvwxyz"))))) q0B))))) j0R Fl.nx) ρ
noncomputable def F_1:Fn:=fnF 1 j1y
theorem w0q (x:Tx K mg fa fd T):q1f P w K mg base (CXE T P w) 1 (fa 1) (fd 1) ["name"] (spD T K 1 F_1):=
 have hT:=x.me
 have hT0:=q0s x.me
 q2a x.me x.F1 w1y λcdv A outer s H E hr=>
  (q0h (q05 (DW.dt (q92 (q1k (q2x q2M q2M q0c (q0n q0E rfl x.n_len rfl (q0d (q0a 0) q0k)) (q0L rfl x.c_LONGEST_NAME))) (q4o (q1k (q02 (q0n (j51 rfl) rfl x.n_all rfl (q0d (DF.de (DC.df (q07 hT0 rfl (j6Q (q0a 0)) cap0 (λcl C s₀ H₀ ex=>(q5O j9h (q0a 0) (j0Z rfl x.c_LETTERS) rfl))))) q0k))))))) (q0h (q03 (c:=1) rfl x.xc1 rfl x.mC1 (q0d (q19 (q5e (q0a 0) (q1U (q2b (q0L rfl x.c_LONGEST_NAME) (q1U q2J))))) q0k) hsh1)) q0y))
theorem w1a:q0q ["number","lowest","highest"] ["number","lowest","highest"] (q0l s_2):=by walk_at "sc"
noncomputable def j4X (ρ:Ro):Fl:=(q1C 3 (q0i (eJ (q4c q7p (q0e 0) (q50 " does not lie from " (q4c q7p (q0e 1) (q50 " to " (q4c q7p (q0e 2) jN0)))))) q0B)) ρ
noncomputable def j0X (ρ:Ro):Fl:=(sIf (q1W (fun ρ=>(q23 (i2 λi j=>.bl (decide (i<=j))) (i2 λi j=>.bl (decide (i<=j))) (q0e 1) (q0e 0) (q0e 2) ρ).bind D.toB)) j4X Fl.nx) ρ
noncomputable def F_2:Fn:=fnF 3 j0X
theorem j0x (x:Tx K mg fa fd T):q1f P w K mg base (CXE T P w) 1 (fa 2) (fd 2) ["number","lowest","highest"] (spD T K 3 F_2):=
 have hT:=x.me
 have hT0:=q0s x.me
 q2a x.me x.F2 w1a λcdv A outer s H E hr=>
  (q0h (q05 (q1k (q2x q2M q2M (q0a 1) (q0a 0) (q0a 2))) (q0h (q03 (c:=3) rfl x.xc3 rfl x.mC3 (q0d (q19 (q2b (q0a 0) (q1U (q2b (q0a 1) (q1U (q2b (q0a 2) q2J)))))) q0k) hsh1)) q0y))
theorem j81:q0q ["self","name","least","most","want","heat"] ["self","name","least","most","want","heat"] (q0l j8s):=by walk_at "sc"
noncomputable def j6c (ρ:Ro):Fl:=(q1C 2 (q0i (eJ (q50 "a stage can't want " (q4c q77 (q0e 4) jN0))) q0B)) ρ
noncomputable def j2L (ρ:Ro):Fl:=(q0U 14 4 (q0e 5)) ρ
noncomputable def j3H (ρ:Ro):Fl:=((q0U 14 3 (q0e 4)) ρ).bind j2L
noncomputable def j2n (ρ:Ro):Fl:=((q0U 14 2 (q0e 3)) ρ).bind j3H
noncomputable def j23 (ρ:Ro):Fl:=((q0U 14 1 (q0e 2)) ρ).bind j2n
noncomputable def j2V (ρ:Ro):Fl:=((q0U 14 0 (q0e 1)) ρ).bind j23
noncomputable def j3k (ρ:Ro):Fl:=((q1w (rD (q0r (n:=3) F_2 [] (gSh (q0e 5) (gSh (eC (.int 0)) (gSh (eC (.int 300)) gN0)))))) ρ).bind j2V
noncomputable def j3p (ρ:Ro):Fl:=((q1w (rD (q0r (n:=3) F_2 [] (gSh (q0e 3) (gSh (q0e 2) (gSh (eC (.int 720)) gN0)))))) ρ).bind j3k
noncomputable def j2p (ρ:Ro):Fl:=((q1w (rD (q0r (n:=3) F_2 [] (gSh (q0e 2) (gSh (eC (.int 1)) (gSh (eC (.int 720)) gN0)))))) ρ).bind j3p
noncomputable def q8t (ρ:Ro):Fl:=((sIf (tB2 (inD true) (q0e 4) (eC (.tup [.str "nothing",.str "hands",.str "bench",.str "oven"]))) j6c Fl.nx) ρ).bind j2p
noncomputable def q9b (ρ:Ro):Fl:=((q1w (rD (q0r (n:=1) F_1 [] (gSh (q0e 1) gN0)))) ρ).bind q8t
noncomputable def j8o:Fn:=q2R 6 14 5 q9b
theorem j9X (x:Tx K mg fa fd T):q1f P w K mg base (CXE T P w) 2 (fa 21) (fd 21) ["self","name","least","most","want","heat"] (spI T K 14 6 j8o):=
 have hT0:=q0s x.me
 j32 x.me (by rw [x.fl14];rfl) x.F21.ex j81 λy cdv A outer s H E hr=>
  (q0b (q0R (DR.de (q0g (q2g (w0q x)) hr.le x.c1 (q0f (q0a 1) q0o))))
   (q0b (q05 (q00 q6h (q0a 4) (j1Q rfl x.c_WANTS) rfl) (q0h (q03 (c:=2) rfl x.xc2 rfl x.mC2 (q0d (q19 (q1U (q5e (q0a 4) q2J))) q0k) hsh1)) q0y)
   (q0b (q0R (DR.de (q0g (q2g (j0x x)) hr.le x.c2 (q0f (q0a 2) (q0f q0c (q0f (q0L rfl x.c_NIGHT) q0o))))))
   (q0b (q0R (DR.de (q0g (q2g (j0x x)) hr.le x.c2 (q0f (q0a 3) (q0f (q0a 2) (q0f (q0L rfl x.c_NIGHT) q0o))))))
   (q0b (q0R (DR.de (q0g (q2g (j0x x)) hr.le x.c2 (q0f (q0a 5) (q0f q0c (q0f (q0L rfl x.c_HOTTEST) q0o))))))
   (q0b (q01 (c:=14) 0 x.cC14 x.na14_name (flA x.fl14) (flN x.fl14) (by decide) (q0a 1))
   (q0b (q01 (c:=14) 1 x.cC14 x.na14_least (flA x.fl14) (flN x.fl14) (by decide) (q0a 2))
   (q0b (q01 (c:=14) 2 x.cC14 x.na14_most (flA x.fl14) (flN x.fl14) (by decide) (q0a 3))
   (q0b (q01 (c:=14) 3 x.cC14 x.na14_want (flA x.fl14) (flN x.fl14) (by decide) (q0a 4))
   (q0h (q01 (c:=14) 4 x.cC14 x.na14_heat (flA x.fl14) (flN x.fl14) (by decide) (q0a 5))))))))))))
theorem w1m:q0q ["count","lowest","highest"] ["count","lowest","highest"] (q0l s_3):=by walk_at "sc"
noncomputable def j3U (ρ:Ro):Fl:=(q1C 4 (q0i (eJ (q4c q7p (q0e 0) (q50 " of them, not " (q4c q7p (q0e 1) (q50 " to " (q4c q7p (q0e 2) jN0)))))) q0B)) ρ
noncomputable def j1G (ρ:Ro):Fl:=(sIf (q1W (fun ρ=>(q23 (i2 λi j=>.bl (decide (i<=j))) (i2 λi j=>.bl (decide (i<=j))) (q0e 1) (q0e 0) (q0e 2) ρ).bind D.toB)) j3U Fl.nx) ρ
noncomputable def F_3:Fn:=fnF 3 j1G
theorem j8A (x:Tx K mg fa fd T):q1f P w K mg base (CXE T P w) 1 (fa 3) (fd 3) ["count","lowest","highest"] (spD T K 3 F_3):=
 have hT:=x.me
 have hT0:=q0s x.me
 q2a x.me x.F3 w1m λcdv A outer s H E hr=>
  (q0h (q05 (q1k (q2x q2M q2M (q0a 1) (q0a 0) (q0a 2))) (q0h (q03 (c:=4) rfl x.xc4 rfl x.mC4 (q0d (q19 (q2b (q0a 0) (q1U (q2b (q0a 1) (q1U (q2b (q0a 2) q2J)))))) q0k) hsh1)) q0y))
theorem j9J:q0q ["self","name","stages"] ["self","name","stages"] (q0l j8R):=by walk_at "sc"
noncomputable def j2m (ρ:Ro):Fl:=(q0U 15 1 (q4Q (q1K (q0e 2)))) ρ
noncomputable def j3s (ρ:Ro):Fl:=((q0U 15 0 (q0e 1)) ρ).bind j2m
noncomputable def j3e (ρ:Ro):Fl:=((q1w (rD (q0r (n:=3) F_3 [] (gSh (eCB q1T (q0i (q0e 2) q0B)) (gSh (eC (.int 1)) (gSh (eC (.int 6)) gN0)))))) ρ).bind j3s
noncomputable def j13 (ρ:Ro):Fl:=((q1w (rD (q0r (n:=1) F_1 [] (gSh (q0e 1) gN0)))) ρ).bind j3e
noncomputable def j8m:Fn:=q2R 3 15 2 j13
theorem j85 (x:Tx K mg fa fd T):q1f P w K mg base (CXE T P w) 2 (fa 22) (fd 22) ["self","name","stages"] (spI T K 15 3 j8m):=
 have hT0:=q0s x.me
 j32 x.me (by rw [x.fl15];rfl) (q4x x.F22) j9J λy cdv A outer s H E hr=>
  (q0b (q0R (DR.de (q0g (q2g (w0q x)) hr.le x.c1 (q0f (q0a 1) q0o))))
   (q0b (q0R (DR.de (q0g (q2g (j8A x)) hr.le x.c3 (q0f (q0n q0E rfl x.n_len rfl (q0d (q0a 2) q0k)) (q0f q0c (q0f (q0L rfl x.c_MOST_STAGES) q0o))))))
   (q0b (q01 (c:=15) 0 x.cC15 x.na15_name (flA x.fl15) (flN x.fl15) (by decide) (q0a 1))
   (q0h (q01 (c:=15) 1 x.cC15 x.na15_stages (flA x.fl15) (flN x.fl15) (by decide) (q3D rfl x.n_tuple (DE.dl (q0a 2))))))))
theorem j9n:q0q ["self","room","rate","heat"] ["self","room","rate","heat"] (q0l j8W):=by walk_at "sc"
noncomputable def j2F (ρ:Ro):Fl:=(q0U 16 2 (q0e 3)) ρ
noncomputable def j2H (ρ:Ro):Fl:=((q0U 16 1 (q0e 2)) ρ).bind j2F
noncomputable def j3A (ρ:Ro):Fl:=((q0U 16 0 (q0e 1)) ρ).bind j2H
noncomputable def j2h (ρ:Ro):Fl:=((q1w (rD (q0r (n:=3) F_2 [] (gSh (q0e 3) (gSh (eC (.int 0)) (gSh (eC (.int 300)) gN0)))))) ρ).bind j3A
noncomputable def j3L (ρ:Ro):Fl:=((q1w (rD (q0r (n:=3) F_2 [] (gSh (q0e 2) (gSh (eC (.int 1)) (gSh (eC (.int 300)) gN0)))))) ρ).bind j2h
noncomputable def j3I (ρ:Ro):Fl:=((q1w (rD (q0r (n:=3) F_2 [] (gSh (q0e 1) (gSh (eC (.int 1)) (gSh (eC (.int 30)) gN0)))))) ρ).bind j3L
noncomputable def j67:Fn:=q2R 4 16 3 j3I
theorem j9I (x:Tx K mg fa fd T):q1f P w K mg base (CXE T P w) 2 (fa 26) (fd 26) ["self","room","rate","heat"] (spI T K 16 4 j67):=
 have hT0:=q0s x.me
 j32 x.me (by rw [x.fl16];rfl) (q4x x.F26) j9n λy cdv A outer s H E hr=>
  (q0b (q0R (DR.de (q0g (q2g (j0x x)) hr.le x.c2 (q0f (q0a 1) (q0f q0c (q0f (q0L rfl x.c_MOST_ROOM) q0o))))))
   (q0b (q0R (DR.de (q0g (q2g (j0x x)) hr.le x.c2 (q0f (q0a 2) (q0f q0c (q0f (q0L rfl x.c_FASTEST) q0o))))))
   (q0b (q0R (DR.de (q0g (q2g (j0x x)) hr.le x.c2 (q0f (q0a 3) (q0f q0c (q0f (q0L rfl x.c_HOTTEST) q0o))))))
   (q0b (q01 (c:=16) 0 x.cC16 x.na16_room (flA x.fl16) (flN x.fl16) (by decide) (q0a 1))
   (q0b (q01 (c:=16) 1 x.cC16 x.na16_rate (flA x.fl16) (flN x.fl16) (by decide) (q0a 2))
   (q0h (q01 (c:=16) 2 x.cC16 x.na16_heat (flA x.fl16) (flN x.fl16) (by decide) (q0a 3))))))))
theorem j9W:q0q ["names"] ["names"] (q0l j8j):=by walk_at "sc"
noncomputable def j7c (ρ:Ro):Fl:=(q1C 5 (q0i (eJ (q50 "two breads of one name among " (j8n (q1K (q0e 0)) jN0))) q0B)) ρ
noncomputable def j2s (ρ:Ro):Fl:=(sIf (tB2 (λa b=>bD true (eqS a b)) (q8z (q1K (q0e 0))) (eCB q1T (q0i (q0e 0) q0B))) j7c Fl.nx) ρ
noncomputable def j8B:Fn:=fnF 1 j2s
theorem j9q (x:Tx K mg fa fd T):q1f P w K mg base (CXE T P w) 1 (fa 20) (fd 20) ["names"] (spD T K 1 j8B):=
 have hT:=x.me
 have hT0:=q0s x.me
 q2a x.me x.F20 j9W λcdv A outer s H E hr=>
  (q0h (q05 (q00 q4n (q9Q rfl rfl x.n_len rfl x.n_set (DE.dl (q0a 0))) (q0n q0E rfl x.n_len rfl (q0d (q0a 0) q0k)) (nomark _)) (q0h (q03 (c:=5) rfl x.xc5 rfl x.mC5 (q0d (q19 (q1U (j1b hr (DE.dl (q0a 0)) q2J))) q0k) hsh1)) q0y))
theorem w0h:q0q ["self","night","hands","benches","ovens","breads"] ["self","night","hands","benches","ovens","breads"] (q0l j74):=by walk_at "sc"
noncomputable def j2f (ρ:Ro):Fl:=(q0U 13 4 (q4Q (j3g 5))) ρ
noncomputable def j2y (ρ:Ro):Fl:=((q0U 13 3 (q4Q (q1K (q0e 4)))) ρ).bind j2f
noncomputable def j2Y (ρ:Ro):Fl:=((q0U 13 2 (q0e 3)) ρ).bind j2y
noncomputable def j3b (ρ:Ro):Fl:=((q0U 13 1 (q0e 2)) ρ).bind j2Y
noncomputable def j22 (ρ:Ro):Fl:=((q0U 13 0 (q0e 1)) ρ).bind j3b
noncomputable def j2q (ρ:Ro):Fl:=((q1w (rD (q0r (n:=1) j8B [] (gSh (q1z (q0T (j9g 5) [] (q1Y [(14,0),(15,0)] (q0e 0)))) gN0)))) ρ).bind j22
noncomputable def j2D (ρ:Ro):Fl:=((q1w (rD (q0r (n:=3) F_3 [] (gSh (j9B (j3g 5)) (gSh (eC (.int 1)) (gSh (eC (.int 8)) gN0)))))) ρ).bind j2q
noncomputable def j2t (ρ:Ro):Fl:=((q1w (rD (q0r (n:=3) F_3 [] (gSh (eCB q1T (q0i (q0e 4) q0B)) (gSh (eC (.int 1)) (gSh (eC (.int 3)) gN0)))))) ρ).bind j2D
noncomputable def j3v (ρ:Ro):Fl:=((q1w (rD (q0r (n:=3) F_2 [] (gSh (q0e 3) (gSh (eC (.int 1)) (gSh (eC (.int 6)) gN0)))))) ρ).bind j2t
noncomputable def q7Q (ρ:Ro):Fl:=((q1w (rD (q0r (n:=3) F_2 [] (gSh (q0e 2) (gSh (eC (.int 1)) (gSh (eC (.int 6)) gN0)))))) ρ).bind j3v
noncomputable def q8c (ρ:Ro):Fl:=((q1w (rD (q0r (n:=3) F_2 [] (gSh (q0e 1) (gSh (eC (.int 1)) (gSh (eC (.int 720)) gN0)))))) ρ).bind q7Q
noncomputable def j8i:Fn:=q2R 6 13 5 q8c
theorem j9S (x:Tx K mg fa fd T):q1f P w K mg base (CXE T P w) 2 (fa 18) (fd 18) ["self","night","hands","benches","ovens","breads"] (spI T K 13 6 j8i):=
 have hT0:=q0s x.me
 j32 x.me (by rw [x.fl13];rfl) (q4x x.F18) w0h λy cdv A outer s H E hr=>
  (q0b (q0R (DR.de (q0g (q2g (j0x x)) hr.le x.c2 (q0f (q0a 1) (q0f q0c (q0f (q0L rfl x.c_NIGHT) q0o))))))
   (q0b (q0R (DR.de (q0g (q2g (j0x x)) hr.le x.c2 (q0f (q0a 2) (q0f q0c (q0f (q0L rfl x.c_MOST_HANDS) q0o))))))
   (q0b (q0R (DR.de (q0g (q2g (j0x x)) hr.le x.c2 (q0f (q0a 3) (q0f q0c (q0f (q0L rfl x.c_MOST_BENCHES) q0o))))))
   (q0b (q0R (DR.de (q0g (q2g (j8A x)) hr.le x.c3 (q0f (q0n q0E rfl x.n_len rfl (q0d (q0a 4) q0k)) (q0f q0c (q0f (q0L rfl x.c_MOST_OVENS) q0o))))))
   (q0b (q0R (DR.de (q0g (q2g (j8A x)) hr.le x.c3 (q0f (q9h rfl x.n_len (q3u 5)) (q0f q0c (q0f (q0L rfl x.c_MOST_BREADS) q0o))))))
   (q0b (q0R (DR.de (q0g (q2g (j9q x)) hr.le x.c20 (q0f (DF.de (DC.df (q07 hT0 rfl (q09 (j60 5)) cap0 (λcl C s₀ H₀ ex=>(q0M (q0a 0) (fo0 x)))))) q0o))))
   (q0b (q01 (c:=13) 0 x.cC13 x.na13_night (flA x.fl13) (flN x.fl13) (by decide) (q0a 1))
   (q0b (q01 (c:=13) 1 x.cC13 x.na13_hands (flA x.fl13) (flN x.fl13) (by decide) (q0a 2))
   (q0b (q01 (c:=13) 2 x.cC13 x.na13_benches (flA x.fl13) (flN x.fl13) (by decide) (q0a 3))
   (q0b (q01 (c:=13) 3 x.cC13 x.na13_ovens (flA x.fl13) (flN x.fl13) (by decide) (q3D rfl x.n_tuple (DE.dl (q0a 4))))
   (q0h (q01 (c:=13) 4 x.cC13 x.na13_breads (flA x.fl13) (flN x.fl13) (by decide) (q3D rfl x.n_tuple (q3u 5))))))))))))))
theorem q7c:q0q ["_law_scene","_law_names_here","_law_wants","_law_kinds","_law_k","_law_kilns","_law_rows"] ["_law_scene","_law_names_here"] (q0l j8L):=by walk_at "sc"
noncomputable def j3n (ρ:Ro):Fl:=(q7D 3 (rD (q0r (n:=2) j8m [] (gSh (e2 ixD (q0e 1) (q0e 4)) (gSh (q0e 6) gN0))))) ρ
noncomputable def q3v (ρ:Ro):Fl:=((q08 6 (q1z (q0T (q1K (e2 ixD (e2 ixD (q0e 0) (eC (.int 4))) (q0e 4))) [2] (rD (q0r (n:=5) j8o [] (gSh (eC (.str "stage")) (gSh (e2 ixD (q0e 0) (eC (.int 0))) (gSh (e2 ixD (q0e 0) (eC (.int 1))) (gSh (e2 ixD (q0e 1) (e2 ixD (q0e 0) (eC (.int 2)))) (gSh (e2 ixD (q0e 0) (eC (.int 3))) gN0)))))))))) ρ).bind j3n
noncomputable def j11 (ρ:Ro):Fl:=(q34 (q0r (n:=5) j8i [] (gSh (e2 ixD (q0e 0) (eC (.int 0))) (gSh (e2 ixD (q0e 0) (eC (.int 1))) (gSh (e2 ixD (q0e 0) (eC (.int 2))) (gSh (q0e 5) (gBo 3 gN0))))))) ρ
noncomputable def j3M (ρ:Ro):Fl:=((q08 5 (q1z (q0T (q1K (e2 ixD (q0e 0) (eC (.int 3)))) [] (rD (q0r (n:=3) j67 [] (gSh (e2 ixD (q0e 0) (eC (.int 0))) (gSh (e2 ixD (q0e 0) (eC (.int 1))) (gSh (e2 ixD (q0e 0) (eC (.int 2))) gN0)))))))) ρ).bind j11
noncomputable def q6A (ρ:Ro):Fl:=((q2L (q3p (n1 (eCB q1T (q0i (e2 ixD (q0e 0) (eC (.int 4))) q0B)))) (q1i 4) q3v) ρ).bind j3M
noncomputable def j3y (ρ:Ro):Fl:=((q13 3 (fun ρ=>((q06 q0B) ρ).bind λds=>.ok (.fr ds))) ρ).bind q6A
noncomputable def q9u (ρ:Ro):Fl:=((q08 2 (q1z (q06 (j1F [.str "nothing",.str "hands",.str "bench",.str "oven"])))) ρ).bind j3y
noncomputable def j8T:Fn:=fnF 7 q9u
theorem j9m (x:Tx K mg fa fd T):q1f P w K mg base (CXE T P w) 4 (fa 38) (fd 38) ["_law_scene","_law_names_here"] (spD T K 2 j8T):=
 have hT:=x.me
 have hT0:=q0s x.me
 q2a x.me x.F38 q7c λcdv A outer s H E hr=>
  (q0b (q0t 2 q7c.nd (DF.de (q0K (q3H rfl))))
   (q0b (q1d 3 q7c.nd (DF.dr (q0K q0k)))
   (q0b (q0Q rfl (q1t (q5x rfl x.n_range (q0n q0E rfl x.n_len rfl (q0d (q0p (q0a 0) q0c) q0k)))) (q0W 4 q7c.nd) (q0b (DC.setF 6 q7c.nd (q07 hT0 rfl (q09 (DE.dp (q0p (q0p (q0a 0) q0c) (q0a 4)))) (j7G ["_law_wants"] [2] (hc:=(q1I rfl rfl rfl q4p))) (λcl C s₀ H₀ ex=>(DR.de (q2s x.mk14 (j9X x) q1R hr.le rfl x.mC14 x.b21 .nil (λ_=>rfl) rfl (q0f q2h (q0f (q0p (q0a 0) q0c) (q0f (q0p (q0a 0) q0c) (q0f (q0p (q0a 1) (q0p (q0a 0) q0c)) (q0f (q0p (q0a 0) q0c) q0o))))))))))
   (q0h (q2k 3 (DR.de (q2s x.mk15 (j85 x) q1R hr.le rfl x.mC15 x.b22 .nil (λ_=>rfl) rfl (q0f (q0p (q0a 1) (q0a 4)) (q0f (q0a 6) q0o))))))))
   (q0b (DC.setF 5 q7c.nd (q07 hT0 rfl (q09 (DE.dp (q0p (q0a 0) q0c))) cap0 (λcl C s₀ H₀ ex=>(DR.de (q2s x.mk16 (j9I x) q1R hr.le rfl x.mC16 x.b26 .nil (λ_=>rfl) rfl (q0f (q0p (q0a 0) q0c) (q0f (q0p (q0a 0) q0c) (q0f (q0p (q0a 0) q0c) q0o))))))))
   (q0h (q18 (q2s x.mk13 (j9S x) q1R hr.le rfl x.mC13 x.b18 .nil (λ_=>rfl) rfl (q0f (q0p (q0a 0) q0c) (q0f (q0p (q0a 0) q0c) (q0f (q0p (q0a 0) q0c) (q0f (q0a 5) (j6B 3 q0o))))))))))))
theorem w1k:q0q ["self","bread","loaves","due"] ["self","bread","loaves","due"] (q0l s_4):=by walk_at "sc"
noncomputable def j7t (ρ:Ro):Fl:=(q0U 10 2 (q0e 3)) ρ
noncomputable def j6m (ρ:Ro):Fl:=((q0U 10 1 (q0e 2)) ρ).bind j7t
noncomputable def j7H (ρ:Ro):Fl:=((q0U 10 0 (q0e 1)) ρ).bind j6m
noncomputable def j4W (ρ:Ro):Fl:=((q1w (rD (q0r (n:=3) F_2 [] (gSh (q0e 2) (gSh (eC (.int 1)) (gSh (eC (.int 60)) gN0)))))) ρ).bind j7H
noncomputable def F_4:Fn:=q2R 4 10 3 j4W
theorem w1h (x:Tx K mg fa fd T):q1f P w K mg base (CXE T P w) 2 (fa 4) (fd 4) ["self","bread","loaves","due"] (spI T K 10 4 F_4):=
 have hT0:=q0s x.me
 j32 x.me (by rw [x.fl10];rfl) (q4x x.F4) w1k λy cdv A outer s H E hr=>
  (q0b (q0R (DR.de (q0g (q2g (j0x x)) hr.le x.c2 (q0f (q0a 2) (q0f q0c (q0f (q0L rfl x.c_MOST_LOAVES) q0o))))))
   (q0b (q01 (c:=10) 0 x.cC10 x.na10_bread (flA x.fl10) (flN x.fl10) (by decide) (q0a 1))
   (q0b (q01 (c:=10) 1 x.cC10 x.na10_loaves (flA x.fl10) (flN x.fl10) (by decide) (q0a 2))
   (q0h (q01 (c:=10) 2 x.cC10 x.na10_due (flA x.fl10) (flN x.fl10) (by decide) (q0a 3))))))
theorem j9w:q0q ["_law_asked","_law_names_here"] ["_law_asked","_law_names_here"] (q0l j8Y):=by walk_at "sc"
noncomputable def j0b (ρ:Ro):Fl:=(q34 (fun ρ=>((q0T (q1K (q0e 0)) [1] (rD (q0r (n:=3) F_4 [] (gSh (e2 ixD (q0e 1) (e2 ixD (q0e 0) (eC (.int 0)))) (gSh (e2 ixD (q0e 0) (eC (.int 1))) (gSh (e2 ixD (q0e 0) (eC (.int 2))) gN0)))))) ρ).bind λds=>.ok (.fr ds))) ρ
noncomputable def j8q:Fn:=fnF 2 j0b
theorem j9y (x:Tx K mg fa fd T):q1f P w K mg base (CXE T P w) 4 (fa 39) (fd 39) ["_law_asked","_law_names_here"] (spD T K 2 j8q):=
 have hT:=x.me
 have hT0:=q0s x.me
 q2a x.me x.F39 j9w λcdv A outer s H E hr=>
  (q0h (q18 (DF.dr (DC.df (q07 hT0 rfl (q09 (DE.dp (q0a 0))) (j7G ["_law_names_here"] [1] (hc:=(q1I rfl rfl rfl q4p))) (λcl C s₀ H₀ ex=>(DR.de (q2s x.mk10 (w1h x) q1R hr.le rfl x.mC10 x.b4 .nil (λ_=>rfl) rfl (q0f (q0p (q0a 1) (q0p (q0a 0) q0c)) (q0f (q0p (q0a 0) q0c) (q0f (q0p (q0a 0) q0c) q0o)))))))))))
theorem j9z:q0q ["self","begin","lengths","oven"] ["self","begin","lengths","oven"] (q0l j8l):=by walk_at "sc"
noncomputable def j2N (ρ:Ro):Fl:=(q1C 3 (q0i (eC (.str "a run has no number below 0")) q0B)) ρ
noncomputable def j3D (ρ:Ro):Fl:=(q0U 12 2 (q0e 3)) ρ
noncomputable def j3K (ρ:Ro):Fl:=((q0U 12 1 (q4Q (q1K (q0e 2)))) ρ).bind j3D
noncomputable def j1Z (ρ:Ro):Fl:=((q0U 12 0 (q0e 1)) ρ).bind j3K
noncomputable def q9g (ρ:Ro):Fl:=((sIf (tB2 (i2 λi j=>.bl (decide (i < j))) (eCB q7f (q0i (q1z (w0f (q06 (q0i (q0e 1) (q0i (q0e 3) q0B))) (q5Q (q1K (q0e 2))))) q0B)) (eC (.int 0))) j2N Fl.nx) ρ).bind j1Z
noncomputable def j7R:Fn:=q2R 4 12 3 q9g
theorem j9P (x:Tx K mg fa fd T):q1f P w K mg base (CXE T P w) 1 (fa 11) (fd 11) ["self","begin","lengths","oven"] (spI T K 12 4 j7R):=
 have hT0:=q0s x.me
 j32 x.me (by rw [x.fl12];rfl) x.F11.ex j9z λy cdv A outer s H E hr=>
  (q0b (q05 (q00 j6s (q0n (j33 rfl) rfl x.n_min rfl (q0d (DF.de (j3u (DF.dl (q0K (q0d (q0a 1) (q0d (q0a 3) q0k)))) (DF.dl (q36 rfl x.n_list (DE.dl (q0a 2)))))) q0k)) q0c (nomark _)) (q0h (q03 (c:=3) rfl x.xc3 rfl x.mC3 (q0d q2h q0k) hsh1)) q0y)
   (q0b (q01 (c:=12) 0 x.cC12 x.na12_begin (flA x.fl12) (flN x.fl12) (by decide) (q0a 1))
   (q0b (q01 (c:=12) 1 x.cC12 x.na12_lengths (flA x.fl12) (flN x.fl12) (by decide) (q3D rfl x.n_tuple (DE.dl (q0a 2))))
   (q0h (q01 (c:=12) 2 x.cC12 x.na12_oven (flA x.fl12) (flN x.fl12) (by decide) (q0a 3))))))
theorem j9i:q0q ["_law_rows"] ["_law_rows"] (q0l j8k):=by walk_at "sc"
noncomputable def q9e (ρ:Ro):Fl:=(q34 (fun ρ=>((q0T (q1K (q0e 0)) [] (rD (q0r (n:=3) j7R [] (gSh (e2 ixD (q0e 0) (eC (.int 0))) (gSh (q1z (q5Q (q1K (e2 ixD (q0e 0) (eC (.int 1)))))) (gSh (e2 ixD (q0e 0) (eC (.int 2))) gN0)))))) ρ).bind λds=>.ok (.fr ds))) ρ
noncomputable def j5U:Fn:=fnF 1 q9e
theorem j6G (x:Tx K mg fa fd T):q1f P w K mg base (CXE T P w) 3 (fa 40) (fd 40) ["_law_rows"] (spD T K 1 j5U):=
 have hT:=x.me
 have hT0:=q0s x.me
 q2a x.me x.F40 j9i λcdv A outer s H E hr=>
  (q0h (q18 (DF.dr (DC.df (q07 hT0 rfl (q09 (DE.dp (q0a 0))) cap0 (λcl C s₀ H₀ ex=>(DR.de (q2s x.mk12 (j9P x) q1R hr.le rfl x.mC12 x.b11 .nil (λ_=>rfl) rfl (q0f (q0p (q0a 0) q0c) (q0f (DF.de (q36 rfl x.n_list (DE.dl (q0p (q0a 0) q0c)))) (q0f (q0p (q0a 0) q0c) q0o)))))))))))
theorem q65:q0q ["_law_script","_law_rows","_law_more","_law_cell","_law_begin","_law_lengths","_law_oven"] ["_law_script","_law_rows"] (q0l j8r):=by walk_at "sc"
noncomputable def j2Z (ρ:Ro):Fl:=(q8D 2 (e2 (i2c q0C λi j=>.int (i % j)) (q0e 3) (eCB q1T (q0i (q0e 1) q0B))) (j47 (q0i (eCB j49 (q0i (eC (.int 1440)) (q0i (e2 q1b (e2 q1b (q0e 4) (eC (.int 1))) (e2 (i2c q0C λi j=>.int (i % j)) (rD (q0r (n:=2) q2j [] (gSh (q0e 0) (gSh (eC (.int 58)) gN0)))) (eC (.int 30)))) q0B))) (q0i (q0e 5) (q0i (q0e 6) q0B))))) ρ
noncomputable def j3x (ρ:Ro):Fl:=((j9O [4,5,6] (e2 ixD (q0e 1) (e2 (i2c q0C λi j=>.int (i % j)) (q0e 3) (eCB q1T (q0i (q0e 1) q0B))))) ρ).bind j2Z
noncomputable def j2o (ρ:Ro):Fl:=((q08 3 (rD (q0r (n:=2) q2j [] (gSh (q0e 0) (gSh (eC (.int 57)) gN0))))) ρ).bind j3x
noncomputable def q7Z (ρ:Ro):Fl:=(q3h 2) ρ
noncomputable def q98 (ρ:Ro):Fl:=((sIf (tB2 (j2W true) (q0e 1) (q1z (q06 q0B))) j2o Fl.nx) ρ).bind q7Z
noncomputable def q93 (ρ:Ro):Fl:=((q13 2 (fun ρ=>((q5Q (q1K (q0e 1))) ρ).bind λds=>.ok (.fr ds))) ρ).bind q98
noncomputable def j5C:Fn:=fnF 7 q93
theorem w0n (x:Tx K mg fa fd T):q1f P w K mg base (CXE T P w) 2 (fa 43) (fd 43) ["_law_script","_law_rows"] (spD T K 2 j5C):=
 have hT:=x.me
 have hT0:=q0s x.me
 q2a x.me x.F43 q65 λcdv A outer s H E hr=>
  (q0b (q1d 2 q65.nd (DF.dr (q36 rfl x.n_list (DE.dl (q0a 1)))))
   (q0b (q05 (q00 (j0i hr) (q0a 1) (DF.de (q0K q0k)) (nomark _)) (q0b (q0t 3 q65.nd (DR.de (q0g (q1g x) hr.le x.c27 (q0f (q0a 0) (q0f q0c q0o)))))
   (q0b (j3a (q0p (q0a 1) (q0m q0v (q0a 3) (q0n q0E rfl x.n_len rfl (q0d (q0a 1) q0k)))) (q4t rfl (q1e 4 q65.nd (q1e 5 q65.nd (q1e 6 q65.nd q2X)))))
   (q0h (q5c 2 (q3s (q0d (q0n (q4d rfl) rfl x.n_min rfl (q0d q0c (q0d (q0m q0u (q0m q0u (q0a 4) q0c) (q0m q0v (DR.de (q0g (q1g x) hr.le x.c27 (q0f (q0a 0) (q0f q0c q0o)))) q0c)) q0k))) (q0d (q0a 5) (q0d (q0a 6) q0k)))) (q0m q0v (q0a 3) (q0n q0E rfl x.n_len rfl (q0d (q0a 1) q0k))))))) q0y)
   (q0h (q1Z 2))))
theorem q7S:q0q ["_law_scene","_law_batches_here","_law_rows","_law_minute","_law_due_here","_law_k","_law_place","_law_loaves"] ["_law_scene","_law_batches_here","_law_rows","_law_minute"] (q0l j8H):=by walk_at "sc"
noncomputable def j3J (ρ:Ro):Fl:=(q8D 4 (q0e 6) (e2 q1b (j8P (j3g 4) (q0e 6)) (q0e 7))) ρ
noncomputable def j3o (ρ:Ro):Fl:=((j9O [6,7] (e2 ixD (q0e 1) (q0e 5))) ρ).bind j3J
noncomputable def q6e (ρ:Ro):Fl:=(sIf (tB2 (i2 λi j=>.bl (decide (i<=j))) (e2 q1b (e2 ixD (e2 ixD (q0e 2) (q0e 5)) (eC (.int 0))) (eCB q8U (q0i (e2 ixD (e2 ixD (q0e 2) (q0e 5)) (eC (.int 1))) q0B))) (q0e 3)) j3o Fl.nx) ρ
noncomputable def j6W (ρ:Ro):Fl:=(q3h 4) ρ
noncomputable def q6I (ρ:Ro):Fl:=((q2L (q3p (n1 (eCB q1T (q0i (q0e 1) q0B)))) (q1i 5) q6e) ρ).bind j6W
noncomputable def q76 (ρ:Ro):Fl:=((q13 4 (fun ρ=>((j9T (q06 (q0i (eC (.int 0)) q0B)) (eCB q1T (q0i (e2 ixD (q0e 0) (eC (.int 5))) q0B))) ρ).bind λds=>.ok (.fr ds))) ρ).bind q6I
noncomputable def j8t:Fn:=fnF 8 q76
theorem j9t (x:Tx K mg fa fd T):q1f P w K mg base (CXE T P w) 1 (fa 44) (fd 44) ["_law_scene","_law_batches_here","_law_rows","_law_minute"] (spD T K 4 j8t):=
 have hT:=x.me
 have hT0:=q0s x.me
 q2a x.me x.F44 q7S λcdv A outer s H E hr=>
  (q0b (q1d 4 q7S.nd (DF.dr (j3r (q0K (q0d q0c q0k)) (q0n q0E rfl x.n_len rfl (q0d (q0p (q0a 0) q0c) q0k)))))
   (q0b (q0Q rfl (q1t (q5x rfl x.n_range (q0n q0E rfl x.n_len rfl (q0d (q0a 1) q0k)))) (q0W 5 q7S.nd) (q0h (q05 (q00 q2M (q0m q0u (q0p (q0p (q0a 2) (q0a 5)) q0c) (q0n (q4H rfl) rfl x.n_sum rfl (q0d (q0p (q0p (q0a 2) (q0a 5)) q0c) q0k))) (q0a 3) (nomark _)) (q0b (j3a (q0p (q0a 1) (q0a 5)) (q4t rfl (q1e 6 q7S.nd (q1e 7 q7S.nd q2X))))
   (q0h (q5c 4 (q0m q0u (j0d (q3u 4) (q0a 6)) (q0a 7)) (q0a 6)))) q0y)))
   (q0h (q1Z 4))))
theorem j56:q0q ["self","name","bread"] ["self","name"] (q0l j79):=by walk_at "sc"
noncomputable def q7L (ρ:Ro):Fl:=(q2I (q0e 2)) ρ
noncomputable def q6O (ρ:Ro):Fl:=(sIf (tB2 (λa b=>bD false (eqS a b)) (q1Y [(14,0),(15,0)] (q0e 2)) (q0e 1)) q7L Fl.nx) ρ
noncomputable def j2u (ρ:Ro):Fl:=(q1C 6 (q0i (eJ (q50 "the bakery has no bread " (q4c q77 (q0e 1) jN0))) q0B)) ρ
noncomputable def q6x (ρ:Ro):Fl:=((q2L (q63 (q1Y [(13,4)] (q0e 0))) (q1i 2) q6O) ρ).bind j2u
noncomputable def j6g:Fn:=fnF 3 q6x
theorem j59 (x:Tx K mg fa fd T):q1f P w K mg base (CXE T P w) 1 (fa 19) (fd 19) ["self","name"] (spD T K 2 j6g):=
 have hT:=x.me
 have hT0:=q0s x.me
 q2a x.me x.F19 j56 λcdv A outer s H E hr=>
  (q0b (q0Q rfl (j0e (q0M (q0a 0) (fo6 x))) (q0W 2 j56.nd) (q0h (q05 (q00 q4v (q0M (q0a 2) (fo0 x)) (q0a 1) (nomark _)) (q0h (q0Y (q0a 2))) q0y)))
   (q0h (q03 (c:=6) rfl x.xc6 rfl x.mC6 (q0d (q19 (q1U (q5e (q0a 1) q2J))) q0k) hsh1)))
theorem w1J:q0q ["due","night"] ["due","night"] (q0l s_7):=by walk_at "sc"
noncomputable def j86 (ρ:Ro):Fl:=(q1C 7 (q0i (eJ (q50 "minute " (q4c q7p (q0e 0) (q50 " does not lie from 0 to " (q4c q7p (q0e 1) jN0))))) q0B)) ρ
noncomputable def j7U (ρ:Ro):Fl:=(sIf (q1W (fun ρ=>(q23 (i2 λi j=>.bl (decide (i<=j))) (i2 λi j=>.bl (decide (i<=j))) (eC (.int 0)) (q0e 0) (q0e 1) ρ).bind D.toB)) j86 Fl.nx) ρ
noncomputable def F_7:Fn:=fnF 2 j7U
theorem w1t (x:Tx K mg fa fd T):q1f P w K mg base (CXE T P w) 1 (fa 7) (fd 7) ["due","night"] (spD T K 2 F_7):=
 have hT:=x.me
 have hT0:=q0s x.me
 q2a x.me x.F7 w1J λcdv A outer s H E hr=>
  (q0h (q05 (q1k (q2x q2M q2M q0c (q0a 0) (q0a 1))) (q0h (q03 (c:=7) rfl x.xc7 rfl x.mC7 (q0d (q19 (q1U (q2b (q0a 0) (q1U (q2b (q0a 1) q2J))))) q0k) hsh1)) q0y))
theorem w07:q0q ["self","order","first","loaves"] ["self","order","first","loaves"] (q0l s_5):=by walk_at "sc"
noncomputable def j6L (ρ:Ro):Fl:=(q0U 11 2 (q0e 3)) ρ
noncomputable def j7v (ρ:Ro):Fl:=((q0U 11 1 (q0e 2)) ρ).bind j6L
noncomputable def j54 (ρ:Ro):Fl:=((q0U 11 0 (q0e 1)) ρ).bind j7v
noncomputable def F_5:Fn:=q2R 4 11 3 j54
theorem w1M (x:Tx K mg fa fd T):q1f P w K mg base (CXE T P w) 1 (fa 5) (fd 5) ["self","order","first","loaves"] (spI T K 11 4 F_5):=
 have hT0:=q0s x.me
 j32 x.me (by rw [x.fl11];rfl) (q4x x.F5) w07 λy cdv A outer s H E hr=>
  (q0b (q01 (c:=11) 0 x.cC11 x.na11_order (flA x.fl11) (flN x.fl11) (by decide) (q0a 1))
   (q0b (q01 (c:=11) 1 x.cC11 x.na11_first (flA x.fl11) (flN x.fl11) (by decide) (q0a 2))
   (q0h (q01 (c:=11) 2 x.cC11 x.na11_loaves (flA x.fl11) (flN x.fl11) (by decide) (q0a 3)))))
theorem j5v:q0q ["orders","most","row","number","order","first","left"] ["orders","most"] (q0l s_9):=by walk_at "sc"
noncomputable def j6p (ρ:Ro):Fl:=(q7D 2 (rD (q0r (n:=3) F_5 [] (gSh (q0e 3) (gSh (q0e 5) (gSh (eCB j49 (q0i (q0e 1) (q0i (q0e 6) q0B))) gN0)))))) ρ
noncomputable def j4q (ρ:Ro):Fl:=((q08 6 (e2 q1b (e2 (i2 λi j=>.int (i-j)) (q1Y [(10,1),(11,2)] (q0e 4)) (q0e 5)) (eC (.int 1)))) ρ).bind j6p
noncomputable def j4T (ρ:Ro):Fl:=(q2L (j0G (eC (.int 1)) (e2 q1b (q1Y [(10,1),(11,2)] (q0e 4)) (eC (.int 1))) (q0e 1)) (q1i 5) j4q) ρ
noncomputable def j50 (ρ:Ro):Fl:=(q3h 2) ρ
noncomputable def j1V (ρ:Ro):Fl:=((q2L (w0I (q1K (q0e 0))) (q7z [3,4]) j4T) ρ).bind j50
noncomputable def j5I (ρ:Ro):Fl:=((q13 2 (fun ρ=>((q06 q0B) ρ).bind λds=>.ok (.fr ds))) ρ).bind j1V
noncomputable def F_9:Fn:=fnF 7 j5I
theorem w0L (x:Tx K mg fa fd T):q1f P w K mg base (CXE T P w) 3 (fa 9) (fd 9) ["orders","most"] (spD T K 2 F_9):=
 have hT:=x.me
 have hT0:=q0s x.me
 q2a x.me x.F9 j5v λcdv A outer s H E hr=>
  (q0b (q1d 2 j5v.nd (DF.dr (q0K q0k)))
   (q0b (q0Q rfl (j1M rfl x.n_enumerate (DE.dp (q0a 0))) (q4t rfl (q1e 3 j5v.nd (q1e 4 j5v.nd q2X))) (q0h (q0Q rfl (j3T rfl x.n_range q0c (q0m q0u (q0M (q0a 4) (fo2 x)) q0c) (q0a 1)) (q0W 5 j5v.nd) (q0b (q0t 6 j5v.nd (q0m q0u (q0m q16 (q0M (q0a 4) (fo2 x)) (q0a 5)) q0c))
   (q0h (q2k 2 (DR.de (q2s x.mk11 (w1M x) q1R hr.le rfl x.mC11 x.b5 .nil (λ_=>rfl) rfl (q0f (q0a 3) (q0f (q0a 5) (q0f (q0n (q4d rfl) rfl x.n_min rfl (q0d (q0a 1) (q0d (q0a 6) q0k))) q0o)))))))))))
   (q0h (q1Z 2))))
theorem w1n:q0q ["bakery"] ["bakery"] (q0l s_6):=by walk_at "sc"
noncomputable def j6i (ρ:Ro):Fl:=(q2I (eCB q3Z (q0i (q1z (q0T (q63 (q1Y [(13,3)] (q0e 0))) [] (q1Y [(16,0)] (q0e 0)))) q0B))) ρ
noncomputable def F_6:Fn:=fnF 1 j6i
theorem w0t (x:Tx K mg fa fd T):q1f P w K mg base (CXE T P w) 1 (fa 6) (fd 6) ["bakery"] (spD T K 1 F_6):=
 have hT:=x.me
 have hT0:=q0s x.me
 q2a x.me x.F6 w1n λcdv A outer s H E hr=>
  (q0h (q0Y (q0n (q4a rfl) rfl x.n_max rfl (q0d (DF.de (DC.df (q07 hT0 rfl (j0e (q0M (q0a 0) (fo7 x))) cap0 (λcl C s₀ H₀ ex=>(q0M (q0a 0) (fo8 x)))))) q0k))))
theorem j8I:q0q ["bakery","orders","order","count"] ["bakery","orders"] (q0l s_8):=by walk_at "sc"
noncomputable def j3X (ρ:Ro):Fl:=(q1w (rD (j4A (n:=2) 13 j6g (q0e 0) (gSh (q1Y [(10,0)] (q0e 2)) gN0)))) ρ
noncomputable def j4c (ρ:Ro):Fl:=(q1w (rD (q0r (n:=2) F_7 [] (gSh (q1Y [(10,2)] (q0e 2)) (gSh (q1Y [(13,0)] (q0e 0)) gN0))))) ρ
noncomputable def w0a (ρ:Ro):Fl:=(q1C 8 (q0i (eJ (q4c q7p (q0e 3) (q50 " batches, not at most " (q4c q7p (eC (.int 24)) jN0)))) q0B)) ρ
noncomputable def j6Z (ρ:Ro):Fl:=(sIf (tB2 (i2 λi j=>.bl (decide (j < i))) (q0e 3) (eC (.int 24))) w0a Fl.nx) ρ
noncomputable def j4y (ρ:Ro):Fl:=((q08 3 (eCB q1T (q0i (rD (q0r (n:=2) F_9 [] (gSh (q0e 1) (gSh (rD (q0r (n:=1) F_6 [] (gSh (q0e 0) gN0))) gN0)))) q0B))) ρ).bind j6Z
noncomputable def j7T (ρ:Ro):Fl:=((q2L (q1K (q0e 1)) (q1i 2) j4c) ρ).bind j4y
noncomputable def j02 (ρ:Ro):Fl:=((q2L (q1K (q0e 1)) (q1i 2) j3X) ρ).bind j7T
noncomputable def j7Y (ρ:Ro):Fl:=((q1w (rD (q0r (n:=3) F_3 [] (gSh (eCB q1T (q0i (q0e 1) q0B)) (gSh (eC (.int 0)) (gSh (eC (.int 12)) gN0)))))) ρ).bind j02
noncomputable def F_8:Fn:=fnF 4 j7Y
theorem w1P (x:Tx K mg fa fd T):q1f P w K mg base (CXE T P w) 4 (fa 8) (fd 8) ["bakery","orders"] (spD T K 2 F_8):=
 have hT:=x.me
 have hT0:=q0s x.me
 q2a x.me x.F8 j8I λcdv A outer s H E hr=>
  (q0b (q0R (DR.de (q0g (j8A x) hr.le x.c3 (q0f (q0n q0E rfl x.n_len rfl (q0d (q0a 1) q0k)) (q0f q0c (q0f (q0L rfl x.c_MOST_ORDERS) q0o))))))
   (q0b (q0Q rfl (q09 (DE.dp (q0a 1))) (q0W 2 j8I.nd) (q0h (q0R (DR.de (q9o (q0a 0) x.cC13 x.mt19 (by rw [x.fl13];decide) (j59 x) hr.le x.b19 rfl (q0f (q0M (q0a 2) (fo3 x)) q0o))))))
   (q0b (q0Q rfl (q09 (DE.dp (q0a 1))) (q0W 2 j8I.nd) (q0h (q0R (DR.de (q0g (w1t x) hr.le x.c7 (q0f (q0M (q0a 2) (fo5 x)) (q0f (q0M (q0a 0) (fo4 x)) q0o)))))))
   (q0b (q0t 3 j8I.nd (q0n q0E rfl x.n_len rfl (q0d (DR.de (q0g (w0L x) hr.le x.c9 (q0f (q0a 1) (q0f (DR.de (q0g (w0t x) hr.le x.c6 (q0f (q0a 0) q0o))) q0o)))) q0k)))
   (q0h (q05 (q00 j4z (q0a 3) (q0L rfl x.c_MOST_BATCHES) (nomark _)) (q0h (q03 (c:=8) rfl x.xc8 rfl x.mC8 (q0d (q19 (q2b (q0a 3) (q1U (q2b (q0L rfl x.c_MOST_BATCHES) q2J)))) q0k) hsh1)) q0y))))))
theorem j9Q:q0q ["bakery","orders"] ["bakery","orders"] (q0l j8f):=by walk_at "sc"
noncomputable def j12 (ρ:Ro):Fl:=(q34 (q0r (n:=2) F_9 [] (gSh (q0e 1) (gSh (rD (q0r (n:=1) F_6 [] (gSh (q0e 0) gN0))) gN0)))) ρ
noncomputable def j2O (ρ:Ro):Fl:=((q1w (rD (q0r (n:=2) F_8 [] (gSh (q0e 0) (gSh (q0e 1) gN0))))) ρ).bind j12
noncomputable def j6Y:Fn:=fnF 2 j2O
theorem j88 (x:Tx K mg fa fd T):q1f P w K mg base (CXE T P w) 5 (fa 10) (fd 10) ["bakery","orders"] (spD T K 2 j6Y):=
 have hT:=x.me
 have hT0:=q0s x.me
 q2a x.me x.F10 j9Q λcdv A outer s H E hr=>
  (q0b (q0R (DR.de (q0g (w1P x) hr.le x.c8 (q0f (q0a 0) (q0f (q0a 1) q0o)))))
   (q0h (q18 (q0g (w0L x) hr.le x.c9 (q0f (q0a 1) (q0f (DR.de (q0g (w0t x) hr.le x.c6 (q0f (q0a 0) q0o))) q0o))))))
theorem j9V:q0q ["self"] ["self"] (q0l j8u):=by walk_at "sc"
noncomputable def q9m (ρ:Ro):Fl:=(q2I (eCB j6N (q0i (q1z (q0T (q63 (q1Y [(15,1)] (q0e 0))) [] (e2 (λa b=>bD false (eqS a b)) (q1Y [(14,3)] (q0e 0)) (eC (.str "oven"))))) q0B))) ρ
noncomputable def j6D:Fn:=fnF 1 q9m
theorem j7n (x:Tx K mg fa fd T):q1f P w K mg base (CXE T P w) 1 (fa 25) (fd 25) ["self"] (spD T K 1 j6D):=
 have hT:=x.me
 have hT0:=q0s x.me
 q2a x.me x.F25 j9V λcdv A outer s H E hr=>
  (q0h (q0Y (q0n (j6n rfl) rfl x.n_any rfl (q0d (DF.de (DC.df (q07 hT0 rfl (j0e (q0M (q0a 0) (fo10 x))) cap0 (λcl C s₀ H₀ ex=>(q5O q4v (q0M (q0a 0) (fo12 x)) q2h (nomark _)))))) q0k))))
theorem j87:q0q ["bakery","bread","run"] ["bakery","bread","run"] (q0l j8X):=by walk_at "sc"
noncomputable def j7s (ρ:Ro):Fl:=(q1C 9 (q0i (eC (.str "a run has another number of lengths than its bread has stages")) q0B)) ρ
noncomputable def j6S (ρ:Ro):Fl:=(q1C 9 (q0i (eC (.str "a run of a bread that bakes has no oven of the bakery")) q0B)) ρ
noncomputable def j64 (ρ:Ro):Fl:=(q1C 9 (q0i (eC (.str "a run of a bread that doesn't bake has an oven")) q0B)) ρ
noncomputable def q8X (ρ:Ro):Fl:=(sIf (j0S (q1W (q5S (rD (q6z 15 j6D (q0e 1))))) (tB2 (λa b=>bD true (eqS a b)) (q1Y [(12,2)] (q0e 2)) (eC (.int 0)))) j64 Fl.nx) ρ
noncomputable def q7M (ρ:Ro):Fl:=((sIf (j0S (q5S (rD (q6z 15 j6D (q0e 1)))) (q1W (fun ρ=>(q23 (i2 λi j=>.bl (decide (i<=j))) (i2 λi j=>.bl (decide (i<=j))) (eC (.int 1)) (q1Y [(12,2)] (q0e 2)) (eCB q1T (q0i (q1Y [(13,3)] (q0e 0)) q0B)) ρ).bind D.toB))) j6S Fl.nx) ρ).bind q8X
noncomputable def q6v (ρ:Ro):Fl:=((sIf (tB2 (λa b=>bD true (eqS a b)) (eCB q1T (q0i (q1Y [(12,1)] (q0e 2)) q0B)) (eCB q1T (q0i (q1Y [(15,1)] (q0e 1)) q0B))) j7s Fl.nx) ρ).bind q7M
noncomputable def j8N:Fn:=fnF 3 q6v
theorem j93 (x:Tx K mg fa fd T):q1f P w K mg base (CXE T P w) 2 (fa 14) (fd 14) ["bakery","bread","run"] (spD T K 3 j8N):=
 have hT:=x.me
 have hT0:=q0s x.me
 q2a x.me x.F14 j87 λcdv A outer s H E hr=>
  (q0b (q05 (q00 q4n (q0n q0E rfl x.n_len rfl (q0d (q0M (q0a 2) (fo9 x)) q0k)) (q0n q0E rfl x.n_len rfl (q0d (q0M (q0a 1) (fo10 x)) q0k)) (nomark _)) (q0h (q03 (c:=9) rfl x.xc9 rfl x.mC9 (q0d q2h q0k) hsh1)) q0y)
   (q0b (q05 (DW.dt (q87 (q02 (DR.de (q3S (q0a 1) x.cC15 x.mt25 (by rw [x.fl15];decide) (j7n x) hr.le x.b25 rfl))) (q5i (q1k (q2x q2M q2M q0c (q0M (q0a 2) (fo11 x)) (q0n q0E rfl x.n_len rfl (q0d (q0M (q0a 0) (fo7 x)) q0k))))))) (q0h (q03 (c:=9) rfl x.xc9 rfl x.mC9 (q0d q2h q0k) hsh1)) q0y)
   (q0h (q05 (DW.dt (q87 (q1k (q02 (DR.de (q3S (q0a 1) x.cC15 x.mt25 (by rw [x.fl15];decide) (j7n x) hr.le x.b25 rfl)))) (q5i (q00 q4n (q0M (q0a 2) (fo11 x)) q0c (nomark _))))) (q0h (q03 (c:=9) rfl x.xc9 rfl x.mC9 (q0d q2h q0k) hsh1)) q0y))))
theorem j9r:q0q ["bakery","orders","batch"] ["bakery","orders","batch"] (q0l j8E):=by walk_at "sc"
noncomputable def q85 (ρ:Ro):Fl:=(q34 (j4A (n:=2) 13 j6g (q0e 0) (gSh (q1Y [(10,0)] (e2 ixD (q0e 1) (e2 (i2 λi j=>.int (i-j)) (q1Y [(11,0)] (q0e 2)) (eC (.int 1))))) gN0))) ρ
noncomputable def j8M:Fn:=fnF 3 q85
theorem j98 (x:Tx K mg fa fd T):q1f P w K mg base (CXE T P w) 2 (fa 16) (fd 16) ["bakery","orders","batch"] (spD T K 3 j8M):=
 have hT:=x.me
 have hT0:=q0s x.me
 q2a x.me x.F16 j9r λcdv A outer s H E hr=>
  (q0h (q18 (q9o (q0a 0) x.cC13 x.mt19 (by rw [x.fl13];decide) (j59 x) hr.le x.b19 rfl (q0f (q0M (q0p (q0a 1) (q0m q16 (q0M (q0a 2) (fo1 x)) q0c)) (fo3 x)) q0o))))
theorem j1q:q0q ["bakery","orders","plan","batches","batch","run"] ["bakery","orders","plan"] (q0l j8O):=by walk_at "sc"
noncomputable def j6E (ρ:Ro):Fl:=(q1C 9 (q0i (eC (.str "the plan has another number of runs than there are batches")) q0B)) ρ
noncomputable def q8V (ρ:Ro):Fl:=(q1w (rD (q0r (n:=3) j8N [] (gSh (q0e 0) (gSh (rD (q0r (n:=3) j8M [] (gSh (q0e 0) (gSh (q0e 1) (gSh (q0e 4) gN0))))) (gSh (q0e 5) gN0)))))) ρ
noncomputable def j6F (ρ:Ro):Fl:=(q2I (q0e 3)) ρ
noncomputable def q58 (ρ:Ro):Fl:=((q2L (j90 (q1K (q0e 3)) (q1K (q0e 2))) (q7z [4,5]) q8V) ρ).bind j6F
noncomputable def j2b (ρ:Ro):Fl:=((sIf (tB2 (λa b=>bD true (eqS a b)) (eCB q1T (q0i (q0e 2) q0B)) (eCB q1T (q0i (q0e 3) q0B))) j6E Fl.nx) ρ).bind q58
noncomputable def q8j (ρ:Ro):Fl:=((q08 3 (rD (q0r (n:=2) j6Y [] (gSh (q0e 0) (gSh (q0e 1) gN0))))) ρ).bind j2b
noncomputable def j8C:Fn:=fnF 6 q8j
theorem w0g (x:Tx K mg fa fd T):q1f P w K mg base (CXE T P w) 6 (fa 15) (fd 15) ["bakery","orders","plan"] (spD T K 3 j8C):=
 have hT:=x.me
 have hT0:=q0s x.me
 q2a x.me x.F15 j1q λcdv A outer s H E hr=>
  (q0b (q0t 3 j1q.nd (DR.de (q0g (j88 x) hr.le x.c10 (q0f (q0a 0) (q0f (q0a 1) q0o)))))
   (q0b (q05 (q00 q4n (q0n q0E rfl x.n_len rfl (q0d (q0a 2) q0k)) (q0n q0E rfl x.n_len rfl (q0d (q0a 3) q0k)) (nomark _)) (q0h (q03 (c:=9) rfl x.xc9 rfl x.mC9 (q0d q2h q0k) hsh1)) q0y)
   (q0b (q0Q rfl (j19 rfl x.n_zip (DE.dp (q0a 3)) (DE.dp (q0a 2))) (q4t rfl (q1e 4 j1q.nd (q1e 5 j1q.nd q2X))) (q0h (q0R (DR.de (q0g (j93 x) hr.le x.c14 (q0f (q0a 0) (q0f (DR.de (q0g (j98 x) hr.le x.c16 (q0f (q0a 0) (q0f (q0a 1) (q0f (q0a 4) q0o))))) (q0f (q0a 5) q0o))))))))
   (q0h (q0Y (q0a 3))))))
theorem j9o:q0q ["self"] ["self"] (q0l j8G):=by walk_at "sc"
noncomputable def j2T (ρ:Ro):Fl:=(q2I (e2 q1b (q1Y [(12,0)] (q0e 0)) (eCB q9N (q0i (q1Y [(12,1)] (q0e 0)) q0B)))) ρ
noncomputable def j72:Fn:=fnF 1 j2T
theorem j9F (x:Tx K mg fa fd T):q1f P w K mg base (CXE T P w) 1 (fa 12) (fd 12) ["self"] (spD T K 1 j72):=
 have hT:=x.me
 have hT0:=q0s x.me
 q2a x.me x.F12 j9o λcdv A outer s H E hr=>
  (q0h (q0Y (q0m q0u (q0M (q0a 0) (fo13 x)) (q0n (j4B rfl) rfl x.n_sum rfl (q0d (q0M (q0a 0) (fo9 x)) q0k)))))
theorem j1B:q0q ["bakery","orders","plan","minute","loaves","batch","run"] ["bakery","orders","plan","minute"] (q0l j8Z):=by walk_at "sc"
noncomputable def j17 (ρ:Ro):Fl:=(j30 4 (e2 (i2 λi j=>.int (i-j)) (q1Y [(11,0)] (q0e 5)) (eC (.int 1))) (q1Y [(10,1),(11,2)] (q0e 5))) ρ
noncomputable def q5U (ρ:Ro):Fl:=(sIf (tB2 (i2 λi j=>.bl (decide (i<=j))) (rD (q6z 12 j72 (q0e 6))) (q0e 3)) j17 Fl.nx) ρ
noncomputable def j5W (ρ:Ro):Fl:=(q3h 4) ρ
noncomputable def q5W (ρ:Ro):Fl:=((q2L (j90 (q1K (rD (q0r (n:=3) j8C [] (gSh (q0e 0) (gSh (q0e 1) (gSh (q0e 2) gN0)))))) (q1K (q0e 2))) (q7z [5,6]) q5U) ρ).bind j5W
noncomputable def q8P (ρ:Ro):Fl:=((q13 4 (fun ρ=>((j9T (q06 (q0i (eC (.int 0)) q0B)) (eCB q1T (q0i (q0e 1) q0B))) ρ).bind λds=>.ok (.fr ds))) ρ).bind q5W
noncomputable def j58:Fn:=fnF 7 q8P
theorem j7g (x:Tx K mg fa fd T):q1f P w K mg base (CXE T P w) 7 (fa 17) (fd 17) ["bakery","orders","plan","minute"] (spD T K 4 j58):=
 have hT:=x.me
 have hT0:=q0s x.me
 q2a x.me x.F17 j1B λcdv A outer s H E hr=>
  (q0b (q1d 4 j1B.nd (DF.dr (j3r (q0K (q0d q0c q0k)) (q0n q0E rfl x.n_len rfl (q0d (q0a 1) q0k)))))
   (q0b (q0Q rfl (j19 rfl x.n_zip (DE.dp (DR.de (q0g (w0g x) hr.le x.c15 (q0f (q0a 0) (q0f (q0a 1) (q0f (q0a 2) q0o)))))) (DE.dp (q0a 2))) (q4t rfl (q1e 5 j1B.nd (q1e 6 j1B.nd q2X))) (q0h (q05 (q00 q2M (DR.de (q3S (q0a 6) x.cC12 x.mt12 (by rw [x.fl12];decide) (j9F x) hr.le x.b12 rfl)) (q0a 3) (nomark _)) (q0h (j4s 4 (q0m q16 (q0M (q0a 5) (fo1 x)) q0c) (q0M (q0a 5) (fo2 x)))) q0y)))
   (q0h (q1Z 4))))
theorem w0e:q0q ["_law_found","_law_due_here"] ["_law_found","_law_due_here"] (q0l j8y):=by walk_at "sc"
noncomputable def j3F (ρ:Ro):Fl:=(q2I (j07 (j55 j4P (q0e 0)) (j07 (j7y (j55 q8u (q0e 0))) (e2 (λa b=>bD false (eqS a b)) (q0e 0) (q0e 1))))) ρ
noncomputable def j2B:Fn:=fnF 2 j3F
theorem j0l (x:Tx K mg fa fd T):q1f P w K mg base (CXE T P w) 1 (fa 28) (fd 28) ["_law_found","_law_due_here"] (spD T K 2 j2B):=
 have hT:=x.me
 have hT0:=q0s x.me
 q2a x.me x.F28 w0e λcdv A outer s H E hr=>
  (q0h (q0Y (q74 (q5m rfl x.n_isinstance (q0a 0) rfl x.n_int rfl j5g q7v) (q74 (j65 (q5m rfl x.n_isinstance (q0a 0) rfl x.n_bool rfl j0K q5A)) (j2S (q5O q4v (q0a 0) (q0a 1) (nomark _)))))))
theorem j61:q0q ["_law_found","_law_due_here","_law_k"] ["_law_found","_law_due_here"] (q0l j8S):=by walk_at "sc"
noncomputable def j6w (ρ:Ro):Fl:=(q2I (eC (.bl false))) ρ
noncomputable def j7e (ρ:Ro):Fl:=(q2I (eC (.bl false))) ρ
noncomputable def q8G (ρ:Ro):Fl:=(sIf (q1W (q5S (rD (q0r (n:=2) j2B [] (gSh (j8P (j3g 0) (q0e 2)) (gSh (e2 ixD (q0e 1) (q0e 2)) gN0)))))) j7e Fl.nx) ρ
noncomputable def j7d (ρ:Ro):Fl:=(q2I (eC (.bl true))) ρ
noncomputable def q6C (ρ:Ro):Fl:=((q2L (q3p (n1 (eCB q1T (q0i (q0e 1) q0B)))) (q1i 2) q8G) ρ).bind j7d
noncomputable def q7K (ρ:Ro):Fl:=((sIf (j5x (q1W (q5S (j4o 0))) (tB2 (λa b=>bD true (eqS a b)) (j9B (j3g 0)) (eCB q1T (q0i (q0e 1) q0B)))) j6w Fl.nx) ρ).bind q6C
noncomputable def j5B:Fn:=fnF 3 q7K
theorem j4S (x:Tx K mg fa fd T):q1f P w K mg base (CXE T P w) 2 (fa 29) (fd 29) ["_law_found","_law_due_here"] (spD T K 2 j5B):=
 have hT:=x.me
 have hT0:=q0s x.me
 q2a x.me x.F29 j61 λcdv A outer s H E hr=>
  (q0b (q05 (DW.dt (q92 (q1k (q02 (j4e 0 rfl x.n_isinstance rfl x.n_list))) (q4o (q00 q4n (q9h rfl x.n_len (q3u 0)) (q0n q0E rfl x.n_len rfl (q0d (q0a 1) q0k)) (nomark _))))) (q0h (q0Y q2C)) q0y)
   (q0b (q0Q rfl (q1t (q5x rfl x.n_range (q0n q0E rfl x.n_len rfl (q0d (q0a 1) q0k)))) (q0W 2 j61.nd) (q0h (q05 (q1k (q02 (DR.de (q0g (j0l x) hr.le x.c28 (q0f (j0d (q3u 0) (q0a 2)) (q0f (q0p (q0a 1) (q0a 2)) q0o)))))) (q0h (q0Y q2C)) q0y)))
   (q0h (q0Y q2C))))
theorem j7L:q0q ["_law_plan","_law_rows","_law_k"] ["_law_plan","_law_rows"] (q0l j8p):=by walk_at "sc"
noncomputable def j5T (ρ:Ro):Fl:=(q2I (eC (.bl false))) ρ
noncomputable def j7Q (ρ:Ro):Fl:=(q2I (eC (.bl false))) ρ
noncomputable def j69 (ρ:Ro):Fl:=(q2I (eC (.bl false))) ρ
noncomputable def j3t (ρ:Ro):Fl:=(sIf (j5x (q1W (q5S (j55 q5z (q1Y [(12,1)] (e2 ixD (q0e 0) (q0e 2)))))) (q1W (q5S (rD (q0r (n:=2) j5B [] (gSh (q1z (q63 (q1Y [(12,1)] (e2 ixD (q0e 0) (q0e 2))))) (gSh (e2 ixD (e2 ixD (q0e 1) (q0e 2)) (eC (.int 1))) gN0))))))) j69 Fl.nx) ρ
noncomputable def q8k (ρ:Ro):Fl:=((sIf (j5x (q1W (q5S (rD (q0r (n:=2) j2B [] (gSh (q1Y [(12,0)] (e2 ixD (q0e 0) (q0e 2))) (gSh (e2 ixD (e2 ixD (q0e 1) (q0e 2)) (eC (.int 0))) gN0)))))) (q1W (q5S (rD (q0r (n:=2) j2B [] (gSh (q1Y [(12,2)] (e2 ixD (q0e 0) (q0e 2))) (gSh (e2 ixD (e2 ixD (q0e 1) (q0e 2)) (eC (.int 2))) gN0))))))) j7Q Fl.nx) ρ).bind j3t
noncomputable def j6e (ρ:Ro):Fl:=(q2I (eC (.bl true))) ρ
noncomputable def q5R (ρ:Ro):Fl:=((q2L (q3p (n1 (eCB q1T (q0i (q0e 1) q0B)))) (q1i 2) q8k) ρ).bind j6e
noncomputable def q91 (ρ:Ro):Fl:=((sIf (tB2 (λa b=>bD true (eqS a b)) (eCB q1T (q0i (q0e 0) q0B)) (eCB q1T (q0i (q0e 1) q0B))) j5T Fl.nx) ρ).bind q5R
noncomputable def j8g:Fn:=fnF 3 q91
theorem j9p (x:Tx K mg fa fd T):q1f P w K mg base (CXE T P w) 3 (fa 41) (fd 41) ["_law_plan","_law_rows"] (spD T K 2 j8g):=
 have hT:=x.me
 have hT0:=q0s x.me
 q2a x.me x.F41 j7L λcdv A outer s H E hr=>
  (q0b (q05 (q00 q4n (q0n q0E rfl x.n_len rfl (q0d (q0a 0) q0k)) (q0n q0E rfl x.n_len rfl (q0d (q0a 1) q0k)) (nomark _)) (q0h (q0Y q2C)) q0y)
   (q0b (q0Q rfl (q1t (q5x rfl x.n_range (q0n q0E rfl x.n_len rfl (q0d (q0a 1) q0k)))) (q0W 2 j7L.nd) (q0b (q05 (DW.dt (q92 (q1k (q02 (DR.de (q0g (j0l x) hr.le x.c28 (q0f (q0M (q0p (q0a 0) (q0a 2)) (fo13 x)) (q0f (q0p (q0p (q0a 1) (q0a 2)) q0c) q0o)))))) (q4o (q1k (q02 (DR.de (q0g (j0l x) hr.le x.c28 (q0f (q0M (q0p (q0a 0) (q0a 2)) (fo11 x)) (q0f (q0p (q0p (q0a 1) (q0a 2)) q0c) q0o))))))))) (q0h (q0Y q2C)) q0y)
   (q0h (q05 (DW.dt (q92 (q1k (q02 (q5m rfl x.n_isinstance (q0M (q0p (q0a 0) (q0a 2)) (fo9 x)) rfl x.n_tuple rfl q9T q4J))) (q4o (q1k (q02 (DR.de (q0g (j4S x) hr.le x.c29 (q0f (DF.de (j1N rfl x.n_list (q0M (q0p (q0a 0) (q0a 2)) (fo9 x)))) (q0f (q0p (q0p (q0a 1) (q0a 2)) q0c) q0o))))))))) (q0h (q0Y q2C)) q0y))))
   (q0h (q0Y q2C))))
theorem j5j:q0q ["_law_orders_here","_law_asked","_law_names_here","_law_k","_law_row_here"] ["_law_orders_here","_law_asked","_law_names_here"] (q0l j8v):=by walk_at "sc"
noncomputable def j6k (ρ:Ro):Fl:=(q2I (eC (.bl false))) ρ
noncomputable def j62 (ρ:Ro):Fl:=(q2I (eC (.bl false))) ρ
noncomputable def j6T (ρ:Ro):Fl:=(q2I (eC (.bl false))) ρ
noncomputable def j3w (ρ:Ro):Fl:=(sIf (q1W (q5S (rD (q0r (n:=2) j2B [] (gSh (q1Y [(10,2)] (e2 ixD (q0e 0) (q0e 3))) (gSh (e2 ixD (q0e 4) (eC (.int 2))) gN0)))))) j6T Fl.nx) ρ
noncomputable def j2v (ρ:Ro):Fl:=((sIf (j5x (tB2 (λa b=>bD true (eqS a b)) (q1Y [(10,0)] (e2 ixD (q0e 0) (q0e 3))) (e2 ixD (q0e 2) (e2 ixD (q0e 4) (eC (.int 0))))) (q1W (q5S (rD (q0r (n:=2) j2B [] (gSh (q1Y [(10,1),(11,2)] (e2 ixD (q0e 0) (q0e 3))) (gSh (e2 ixD (q0e 4) (eC (.int 1))) gN0))))))) j62 Fl.nx) ρ).bind j3w
noncomputable def q9c (ρ:Ro):Fl:=((q08 4 (e2 ixD (q0e 1) (q0e 3))) ρ).bind j2v
noncomputable def j1Y (ρ:Ro):Fl:=(q2I (eC (.bl true))) ρ
noncomputable def q6g (ρ:Ro):Fl:=((q2L (q3p (n1 (eCB q1T (q0i (q0e 1) q0B)))) (q1i 3) q9c) ρ).bind j1Y
noncomputable def j0f (ρ:Ro):Fl:=((sIf (tB2 (λa b=>bD true (eqS a b)) (eCB q1T (q0i (q0e 0) q0B)) (eCB q1T (q0i (q0e 1) q0B))) j6k Fl.nx) ρ).bind q6g
noncomputable def j8b:Fn:=fnF 5 j0f
theorem j9k (x:Tx K mg fa fd T):q1f P w K mg base (CXE T P w) 2 (fa 42) (fd 42) ["_law_orders_here","_law_asked","_law_names_here"] (spD T K 3 j8b):=
 have hT:=x.me
 have hT0:=q0s x.me
 q2a x.me x.F42 j5j λcdv A outer s H E hr=>
  (q0b (q05 (q00 q4n (q0n q0E rfl x.n_len rfl (q0d (q0a 0) q0k)) (q0n q0E rfl x.n_len rfl (q0d (q0a 1) q0k)) (nomark _)) (q0h (q0Y q2C)) q0y)
   (q0b (q0Q rfl (q1t (q5x rfl x.n_range (q0n q0E rfl x.n_len rfl (q0d (q0a 1) q0k)))) (q0W 3 j5j.nd) (q0b (q0t 4 j5j.nd (q0p (q0a 1) (q0a 3)))
   (q0b (q05 (DW.dt (q92 (q00 q4n (q0M (q0p (q0a 0) (q0a 3)) (fo3 x)) (q0p (q0a 2) (q0p (q0a 4) q0c)) (nomark _)) (q4o (q1k (q02 (DR.de (q0g (j0l x) hr.le x.c28 (q0f (q0M (q0p (q0a 0) (q0a 3)) (fo2 x)) (q0f (q0p (q0a 4) q0c) q0o))))))))) (q0h (q0Y q2C)) q0y)
   (q0h (q05 (q1k (q02 (DR.de (q0g (j0l x) hr.le x.c28 (q0f (q0M (q0p (q0a 0) (q0a 3)) (fo5 x)) (q0f (q0p (q0a 4) q0c) q0o)))))) (q0h (q0Y q2C)) q0y)))))
   (q0h (q0Y q2C))))
theorem q1N:q0q ["_law_script","_law_scene","_law_batches_here","_law_rows","_law_names_here","_law_bakery_here","_law_orders_here","_law_plan","_law_far","_law_minutes","_law_last","_law_row_here","_law_due_here","_law_one","_law_minute","_law_found"] ["_law_script"] (q0l j8c):=by walk_at "sc"
noncomputable def q5V (ρ:Ro):Fl:=(q08 10 (eCB j73 (q0i (q0e 10) (q0i (e2 q1b (e2 ixD (q0e 11) (eC (.int 0))) (eCB q8U (q0i (e2 ixD (q0e 11) (eC (.int 1))) q0B))) q0B)))) ρ
noncomputable def j2j (ρ:Ro):Fl:=(q08 9 (q1z (w0f (q1K (q0e 9)) (q06 (q0i (e2 q1b (e2 ixD (q0e 13) (eC (.int 0))) (eCB q8U (q0i (e2 ixD (q0e 13) (eC (.int 1))) q0B))) (q0i (e2 (i2 λi j=>.int (i-j)) (e2 q1b (e2 ixD (q0e 13) (eC (.int 0))) (eCB q8U (q0i (e2 ixD (q0e 13) (eC (.int 1))) q0B))) (eC (.int 1))) q0B)))))) ρ
noncomputable def j2U (ρ:Ro):Fl:=((q08 13 (e2 ixD (q0e 3) (e2 (i2c q0C λi j=>.int (i % j)) (rD (q0r (n:=2) q2j [] (gSh (q0e 0) (gSh (eC (.int 60)) gN0)))) (eCB q1T (q0i (q0e 3) q0B))))) ρ).bind j2j
noncomputable def j7p (ρ:Ro):Fl:=(q2I (eC (.bl false))) ρ
noncomputable def j2R (ρ:Ro):Fl:=(q7D 15 (eC (.int 7))) ρ
noncomputable def j2i (ρ:Ro):Fl:=((sIf (q1W (q5S (rD (q0r (n:=2) j5B [] (gBo 15 (gSh (q0e 12) gN0)))))) j7p Fl.nx) ρ).bind j2R
noncomputable def j2w (ρ:Ro):Fl:=((q13 15 (q0r (n:=4) j58 [] (gSh (q0e 5) (gSh (q0e 6) (gSh (rD (q0r (n:=1) j5U [] (gSh (q0e 11) gN0))) (gSh (q0e 14) gN0)))))) ρ).bind j2i
noncomputable def q51 (ρ:Ro):Fl:=((q08 12 (rD (q0r (n:=4) j8t [] (gSh (q0e 1) (gSh (q0e 2) (gSh (q0e 11) (gSh (q0e 14) gN0))))))) ρ).bind j2w
noncomputable def q4D (ρ:Ro):Fl:=(q2L (q1K (q0e 9)) (q1i 14) q51) ρ
noncomputable def j4k (ρ:Ro):Fl:=(q2I (eC (.bl false))) ρ
noncomputable def q8y (ρ:Ro):Fl:=(q2I (j07 (rD (q0r (n:=2) j8g [] (gSh (q0e 7) (gSh (q0e 3) gN0)))) (rD (q0r (n:=3) j8b [] (gSh (q0e 6) (gSh (e2 ixD (q0e 1) (eC (.int 5))) (gSh (q0e 4) gN0))))))) ρ
noncomputable def q5D (ρ:Ro):Fl:=((sIf (q1W (q5S (rD (q0r (n:=2) j5B [] (gSh (rD (q0r (n:=4) j58 [] (gSh (q0e 5) (gSh (q0e 6) (gSh (q0e 7) (gSh (q0e 10) gN0)))))) (gSh (q0e 12) gN0)))))) j4k Fl.nx) ρ).bind q8y
noncomputable def q9J (ρ:Ro):Fl:=((q08 12 (q1z (q0T (q1K (e2 ixD (q0e 1) (eC (.int 5)))) [] (e2 ixD (q0e 0) (eC (.int 1)))))) ρ).bind q5D
noncomputable def q2D (ρ:Ro):Fl:=((q2L (q1K (q1z (q06 (q0i (q0e 3) (q0i (rD (q0r (n:=2) j5C [] (gSh (q0e 0) (gSh (q0e 3) gN0)))) (q0i (q0e 3) q0B)))))) (q1i 11) q4D) ρ).bind q9J
noncomputable def q3P (ρ:Ro):Fl:=((sIf (tB2 (j2W true) (q0e 3) (q1z (q06 q0B))) j2U Fl.nx) ρ).bind q2D
noncomputable def q39 (ρ:Ro):Fl:=((q2L (q1K (q0e 3)) (q1i 11) q5V) ρ).bind q3P
noncomputable def q9k (ρ:Ro):Fl:=((q08 10 (eC (.int 0))) ρ).bind q39
noncomputable def j0r (ρ:Ro):Fl:=((q08 9 (q1z (q06 (q0i (e2 (i2 λi j=>.int (i-j)) (e2 (i2c q0C λi j=>.int (i % j)) (rD (q0r (n:=2) q2j [] (gSh (q0e 0) (gSh (eC (.int 60)) gN0)))) (eC (.int 1510))) (eC (.int 9))) (q0i (e2 ixD (q1z (q06 (q0i (e2 (i2 λi j=>.int (i-j)) (eC (.int 0)) (q0e 8)) (q0i (q0e 8) q0B)))) (e2 (i2c q0C λi j=>.int (i % j)) (rD (q0r (n:=2) q2j [] (gSh (q0e 0) (gSh (eC (.int 61)) gN0)))) (eC (.int 2)))) q0B))))) ρ).bind q9k
noncomputable def q80 (ρ:Ro):Fl:=((q08 8 (e2 (i2c q0C λi j=>.int (i % j)) (rD (q0r (n:=2) q2j [] (gSh (q0e 0) (gSh (eC (.int 60)) gN0)))) (e2 (i2c j45 λi j=>.int (i ^ j.toNat)) (eC (.int 10)) (eC (.int 30))))) ρ).bind j0r
noncomputable def q8n (ρ:Ro):Fl:=((q08 7 (rD (q0r (n:=1) j5U [] (gSh (q0e 3) gN0)))) ρ).bind q80
noncomputable def q8d (ρ:Ro):Fl:=((q08 6 (rD (q0r (n:=2) j8q [] (gSh (e2 ixD (q0e 1) (eC (.int 5))) (gSh (q0e 4) gN0))))) ρ).bind q8n
noncomputable def q9v (ρ:Ro):Fl:=((q08 5 (rD (q0r (n:=2) j8T [] (gSh (q0e 1) (gSh (q0e 4) gN0))))) ρ).bind q8d
noncomputable def q90 (ρ:Ro):Fl:=((q08 4 (rD (q0r (n:=2) j68 [] (gSh (rD (q0r (n:=2) q2j [] (gSh (q0e 0) (gSh (eC (.int 62)) gN0)))) (gSh (eCB q1T (q0i (e2 ixD (q0e 1) (eC (.int 4))) q0B)) gN0))))) ρ).bind q9v
noncomputable def q9Z (ρ:Ro):Fl:=((q08 3 (rD (q0r (n:=3) j76 [] (gSh (q0e 0) (gSh (q0e 1) (gSh (q0e 2) gN0)))))) ρ).bind q90
noncomputable def q9i (ρ:Ro):Fl:=((q08 2 (rD (q0r (n:=1) j8D [] (gSh (q0e 1) gN0)))) ρ).bind q9Z
noncomputable def q5a (ρ:Ro):Fl:=((q08 1 (rD (q0r (n:=1) j8V [] (gSh (q0e 0) gN0)))) ρ).bind q9i
noncomputable def j7j:Fn:=fnF 16 q5a
theorem j94 (x:Tx K mg fa fd T):q1f P w K mg base (CXE T P w) 8 (fa 45) (fd 45) ["_law_script"] (spD T K 1 j7j):=
 have hT:=x.me
 have hT0:=q0s x.me
 q2a x.me x.F45 q1N λcdv A outer s H E hr=>
  (q0b (q0t 1 q1N.nd (DR.de (q0g (j9C x) hr.le x.c33 (q0f (q0a 0) q0o))))
   (q0b (q0t 2 q1N.nd (DR.de (q0g (j9d x) hr.le x.c37 (q0f (q0a 1) q0o))))
   (q0b (q0t 3 q1N.nd (DR.de (q0g (j9N x) hr.le x.c36 (q0f (q0a 0) (q0f (q0a 1) (q0f (q0a 2) q0o))))))
   (q0b (q0t 4 q1N.nd (DR.de (q0g (j95 x) hr.le x.c30 (q0f (DR.de (q0g (q1g x) hr.le x.c27 (q0f (q0a 0) (q0f q0c q0o)))) (q0f (q0n q0E rfl x.n_len rfl (q0d (q0p (q0a 1) q0c) q0k)) q0o)))))
   (q0b (q0t 5 q1N.nd (DR.de (q0g (j9m x) hr.le x.c38 (q0f (q0a 1) (q0f (q0a 4) q0o)))))
   (q0b (q0t 6 q1N.nd (DR.de (q0g (j9y x) hr.le x.c39 (q0f (q0p (q0a 1) q0c) (q0f (q0a 4) q0o)))))
   (q0b (q0t 7 q1N.nd (DR.de (q0g (j6G x) hr.le x.c40 (q0f (q0a 3) q0o))))
   (q0b (q0t 8 q1N.nd (q0m q0v (DR.de (q0g (q1g x) hr.le x.c27 (q0f (q0a 0) (q0f q0c q0o)))) (q0m j7u q0c q0c)))
   (q0b (q0t 9 q1N.nd (DF.de (q0K (q0d (q0m q16 (q0m q0v (DR.de (q0g (q1g x) hr.le x.c27 (q0f (q0a 0) (q0f q0c q0o)))) q0c) q0c) (q0d (q0p (DF.de (q0K (q0d (q0m q16 q0c (q0a 8)) (q0d (q0a 8) q0k)))) (q0m q0v (DR.de (q0g (q1g x) hr.le x.c27 (q0f (q0a 0) (q0f q0c q0o)))) q0c)) q0k)))))
   (q0b (q0t 10 q1N.nd q0c)
   (q0b (q0Q rfl (q09 (DE.dp (q0a 3))) (q0W 11 q1N.nd) (q0h (q0t 10 q1N.nd (q0n (j2I rfl) rfl x.n_max rfl (q0d (q0a 10) (q0d (q0m q0u (q0p (q0a 11) q0c) (q0n (q4H rfl) rfl x.n_sum rfl (q0d (q0p (q0a 11) q0c) q0k))) q0k))))))
   (q0b (q05 (q00 (j0i hr) (q0a 3) (DF.de (q0K q0k)) (nomark _)) (q0b (q0t 13 q1N.nd (q0p (q0a 3) (q0m q0v (DR.de (q0g (q1g x) hr.le x.c27 (q0f (q0a 0) (q0f q0c q0o)))) (q0n q0E rfl x.n_len rfl (q0d (q0a 3) q0k)))))
   (q0h (q0t 9 q1N.nd (DF.de (j3u (DE.dl (q0a 9)) (DF.dl (q0K (q0d (q0m q0u (q0p (q0a 13) q0c) (q0n (q4H rfl) rfl x.n_sum rfl (q0d (q0p (q0a 13) q0c) q0k))) (q0d (q0m q16 (q0m q0u (q0p (q0a 13) q0c) (q0n (q4H rfl) rfl x.n_sum rfl (q0d (q0p (q0a 13) q0c) q0k))) q0c) q0k))))))))) q0y)
   (q0b (q0Q rfl (q09 (DE.dp (DF.de (q0K (q0d (q0a 3) (q0d (DR.de (q0g (w0n x) hr.le x.c43 (q0f (q0a 0) (q0f (q0a 3) q0o)))) (q0d (q0a 3) q0k))))))) (q0W 11 q1N.nd) (q0h (q0Q rfl (q09 (DE.dp (q0a 9))) (q0W 14 q1N.nd) (q0b (q0t 12 q1N.nd (DR.de (q0g (j9t x) hr.le x.c44 (q0f (q0a 1) (q0f (q0a 2) (q0f (q0a 11) (q0f (q0a 14) q0o)))))))
   (q0b (q1d 15 q1N.nd (q0g (j7g x) hr.le x.c17 (q0f (q0a 5) (q0f (q0a 6) (q0f (DR.de (q0g (j6G x) hr.le x.c40 (q0f (q0a 11) q0o))) (q0f (q0a 14) q0o))))))
   (q0b (q05 (q1k (q02 (DR.de (q0g (j4S x) hr.le x.c29 (j6B 15 (q0f (q0a 12) q0o)))))) (q0h (q0Y q2C)) q0y)
   (q0h (q2k 15 q0c))))))))
   (q0b (DC.setF 12 q1N.nd (q07 hT0 rfl (q09 (DE.dp (q0p (q0a 1) q0c))) cap0 (λcl C s₀ H₀ ex=>(q0p (q0a 0) q0c))))
   (q0b (q05 (q1k (q02 (DR.de (q0g (j4S x) hr.le x.c29 (q0f (DR.de (q0g (j7g x) hr.le x.c17 (q0f (q0a 5) (q0f (q0a 6) (q0f (q0a 7) (q0f (q0a 10) q0o)))))) (q0f (q0a 12) q0o)))))) (q0h (q0Y q2C)) q0y)
   (q0h (q0Y (q74 (DR.de (q0g (j9p x) hr.le x.c41 (q0f (q0a 7) (q0f (q0a 3) q0o)))) (j2S (DR.de (q0g (j9k x) hr.le x.c42 (q0f (q0a 6) (q0f (q0p (q0a 1) q0c) (q0f (q0a 4) q0o))))))))))))))))))))))))
end
end Lw
open PySem L2 L3
namespace Lw
noncomputable def pk (ns:List Int) (k:Nat):Int:=if ns.length=0 then (k:Int) else ns.getD (k % ns.length) 0+7*((k / ns.length:Nat):Int)
theorem j9c (ns:List Int) (hn:ns.length<=63) (k:Nat) (hk:k<=100000):q2j [.sh (.lst (ns.map D.int)),.sh (.int k)]=.ok (.sh (.int (pk ns k))):=by
 unfold pk
 have lm:(ns.map D.int).length=ns.length:=by simp
 by_cases h:ns.length=0
 ·rw [if_pos h]
  generalize ns.map D.int=nn at *
  have h2:nn.length=0:=by omega
  simp [q2j,q9p,j2E,h2]
 ·rw [if_neg h]
  have lt:k % ns.length < ns.length:=Nat.mod_lt _ (by omega)
  have e:atI (ns.map D.int) ((k:Int) % (ns.length:Int))=some (.int (ns.getD (k % ns.length) 0)):=by
   rw [show (k:Int) % (ns.length:Int)=((k % ns.length:Nat):Int) from rfl]
   refine q0z ?_
   rw [List.getElem?_map,List.getElem?_eq_getElem lt,List.getD_eq_getElem?_getD,List.getElem?_eq_getElem lt]
   rfl
  have mo:q1x 7 ((k:Int) / (ns.length:Int))=true:=by
   unfold q1x
   simp only [Bool.or_eq_true,Bool.and_eq_true,decide_eq_true_eq]
   left;constructor<;>decide
  generalize ns.getD (k % ns.length) 0=v at *
  generalize ns.map D.int=nn at *
  have h2:¬nn.length=0:=by omega
  have h3:0 < (nn.length:Int):=by omega
  have h3':0 < nn.length:=by omega
  have h4:nn.length < 1073741824:=by omega
  have h5:(nn.length:Int) < 1073741824:=by omega
  rw [<-lm] at e mo ⊢
  rw [<-lm] at lt
  simp [q2j,q9p,j29,h2,h3,h3',h4,h5,e,mo]
theorem is_ (i j:Int):j2B [.sh (.int i),.sh (.int j)]=.ok (.sh (.bl (decide (i=j)))):=by simp [j2B,j3F]
theorem q1s {n:Int} (h:n.natAbs < 2 ^ 200):n.natAbs.log2 < 1920:=by
 by_cases h0:n.natAbs=0
 ·rw [h0];decide
 ·rw [Nat.log2_lt h0]
  exact Nat.lt_of_lt_of_le h (Nat.pow_le_pow_right (by decide) (by decide))
theorem chkn (n lo hi:Int) (hn:n.natAbs.log2 < 1920) (hl:lo.natAbs.log2 < 1920) (hh:hi.natAbs.log2 < 1920):F_2 [.sh (.int n),.sh (.int lo),.sh (.int hi)]=if lo<=n/\n<=hi then .ok (.sh .non) else .exc 3:=by
 have l1:Str.length " does not lie from "<=200000:=by decide
 have l2:Str.length " to "<=200000:=by decide
 by_cases h1:lo<=n
 ·by_cases h2:n<=hi
  ·simp [F_2,j0X,h1,h2]
  ·simp [F_2,j0X,j4X,h1,h2,hn,hl,hh,l1,l2]
 ·simp [F_2,j0X,j4X,h1,hn,hl,hh,l1,l2]
noncomputable abbrev abc:Str:="abcdefghijklmnopqrstuvwxyz"
theorem j2G:Tz 26 abc:=⟨by decide +kernel,by decide +kernel⟩
theorem j5h:abc.length=26:=by decide +kernel
noncomputable def oc (c:Nat):Bool:=!(Builtin.Str.occurrences abc ⟨#[c]⟩ 0 abc.length 1).isEmpty
noncomputable def good (z:Str):Prop:=(1<=(z.length:Int)/\(z.length:Int)<=12)/\z.cps.toList.all oc=true
theorem q6j (ρ:Ro):∀cs:List Nat,q6n (λd=>e2 (inD false) (q0e 0) (eC (.str abc)) (q1m [] ρ d)) (cs.map λc=>D.str ⟨#[c]⟩)=some ((cs.map oc).map D.bl)
 | []=>rfl
 | c::cs=>by
  rw [List.map_cons,q6n,q6j ρ cs]
  rfl
theorem q3Y:∀bs:List Bool,j0w (bs.map D.bl)=some bs
 | []=>rfl
 | b::bs=>by rw [List.map_cons,j0w,q3Y bs]
theorem j4i (z:Str) (hz:z.length<=1000) (ρ:Ro) (h0:q0e 0 ρ=.ok (.str z)):eCB j5y (q0i (q1z (q0T (j5z (q0e 0)) [] (e2 (inD false) (q0e 0) (eC (.str abc))))) q0B) ρ=.ok (.bl (z.cps.toList.all oc)):=by
 have e1:q0T (j5z (q0e 0)) [] (e2 (inD false) (q0e 0) (eC (.str abc))) ρ=.ok ((z.cps.toList.map oc).map D.bl):=by
  rw [q0T,j5z,h0,Out.ok_bind,D.toS,Out.ok_bind]
  rw [if_pos (by simp [signs,Str.length] at hz ⊢; omega),signs,q6j]
 rw [eCB,q0i,q1z,e1,Out.ok_bind,Out.ok_bind,q0B,Out.ok_bind,Out.ok_bind]
 rw [j5y,q3Y]
 simp [List.all_map]
theorem j35 (z:Str) (hz:Tz 1000 z):F_1 [.sh (.str z)]=open Classical in if good z then .ok (.sh .non) else .exc 1:=by
 have hl:z.length<=1000000:=by have:=hz.len;omega
 have al:=j4i z hz.len [.sh (.str z)] rfl
 have l1:Str.length " is not 1 to "<=200000:=by decide
 have l2:Str.length " small letters"<=200000:=by decide
 have rp:=hz.repr (Nat.le_refl _)
 have m12:Nat.log2 12 < 1920:=by decide
 have bad:j0R [.sh (.str z)]=.exc 1 [.sh (.str z)]:=by
  simp [j0R,l1,l2,rp,m12]
 have step:∀b:Bool,z.cps.toList.all oc=b->j1y [.sh (.str z)]=if (1<=(z.length:Int)/\(z.length:Int)<=12)/\b=true then .nx [.sh (.str z)] else .exc 1 [.sh (.str z)]:=by
  intro b hb
  rw [hb] at al
  rw [<-bad,j1y]
  generalize j0R=G
  generalize hA:eCB j5y (q0i (q1z (q0T (j5z (q0e 0)) [] (e2 (inD false) (q0e 0) (eC (.str "abcdefghijklmnopqrstuvwxyz"))))) q0B)=A
  have al:A [.sh (.str z)]=.ok (.bl b):=by rw [<-hA];exact al
  clear hA
  by_cases h1:1<=(z.length:Int)
  ·by_cases h2:(z.length:Int)<=12
   ·cases b<;>simp [hl,h1,h2,al]
   ·simp [hl,h1,h2]
  ·simp [hl,h1]
 have st:=step _ rfl
 rw [F_1,fnF]
 show (match j1y [.sh (.str z)] with | .nx _=>_ | .rt r=>_ | .exc c _=>_ | _=>_)=_
 rw [st]
 by_cases h:good z
 ·rw [if_pos h,if_pos (show _/\_ from h)]
 ·rw [if_neg h,if_neg (show ¬(_/\_) from h)]
theorem chkc (n lo hi:Int) (hn:n.natAbs.log2 < 1920) (hl:lo.natAbs.log2 < 1920) (hh:hi.natAbs.log2 < 1920):F_3 [.sh (.int n),.sh (.int lo),.sh (.int hi)]=if lo<=n/\n<=hi then .ok (.sh .non) else .exc 4:=by
 have l1:Str.length " of them, not "<=200000:=by decide
 have l2:Str.length " to "<=200000:=by decide
 by_cases h1:lo<=n
 ·by_cases h2:n<=hi
  ·simp [F_3,j1G,h1,h2]
  ·simp [F_3,j1G,j3U,h1,h2,hn,hl,hh,l1,l2]
 ·simp [F_3,j1G,j3U,h1,hn,hl,hh,l1,l2]
theorem small2 {n:Nat} (h:n<=1000000):(n:Int).natAbs.log2 < 1920:=q1s (by simp;omega)
noncomputable def wOk (w:Str):Bool:=inV (.str w) [V.str "nothing",V.str "hands",V.str "bench",V.str "oven"]
theorem j46 (w:Str):inD true (.str w) (.tup [.str "nothing",.str "hands",.str "bench",.str "oven"])=.ok (.bl (!wOk w)):=rfl
structure Wd (n:Nat) (z:Str):Prop where
 tz:Tz n z
 pos:1<=z.length
 oc:z.cps.toList.all oc=true
theorem Wd.good {z:Str} (h:Wd 12 z):good z:=⟨⟨by have:=h.pos;omega,by have:=h.tz.len;omega⟩,h.oc⟩
theorem j7B {z:Str} (h:Wd 12 z):F_1 [.sh (.str z)]=.ok (.sh .non):=by
 have:=j35 z (h.tz.mono (by decide))
 rw [if_pos h.good] at this
 exact this
theorem j0N (z w:Str) (a b h:Int) (hz:Wd 12 z) (hw:wOk w=true) (h1:1<=a) (h2:a<=b) (h3:b<=720) (h4:0<=h) (h5:h<=300):j8o [.sh (.str z),.sh (.int a),.sh (.int b),.sh (.str w),.sh (.int h)]=.ok (.sh (.ins 14 [.str z,.int a,.int b,.str w,.int h])):=by
 have n0:=j7B hz
 have la:a.natAbs.log2 < 1920:=q1s (by omega)
 have lb:b.natAbs.log2 < 1920:=q1s (by omega)
 have c1:=chkn a 1 720 la (by decide) (by decide)
 have c2:=chkn b a 720 lb la (by decide)
 have c3:=chkn h 0 300 (q1s (by omega)) (by decide) (by decide)
 rw [if_pos ⟨by omega,by omega⟩] at c1 c2 c3
 have iw:=j46 w
 rw [hw] at iw
 simp [j8o,q9b,q8t,j2p,j3p,j3k,j2V,j23,j2n,j3H,j2L,n0,iw,c1,c2,c3]
theorem j1A (z:Str) (ss:List D) (hz:Wd 12 z) (h1:1<=ss.length) (h2:ss.length<=6):j8m [.sh (.str z),.sh (.lst ss)]=.ok (.sh (.ins 15 [.str z,.tup ss])):=by
 have n0:=j7B hz
 have c1:=chkc (ss.length:Int) 1 6 (small2 (by omega)) (by decide) (by decide)
 rw [if_pos ⟨by omega,by omega⟩] at c1
 simp [j8m,j13,j3e,j3s,j2m,n0,c1]
theorem j4Y (a b h:Int) (h1:1<=a/\a<=30) (h2:1<=b/\b<=300) (h3:0<=h/\h<=300):j67 [.sh (.int a),.sh (.int b),.sh (.int h)]=.ok (.sh (.ins 16 [.int a,.int b,.int h])):=by
 have c1:=chkn a 1 30 (q1s (by omega)) (by decide) (by decide)
 have c2:=chkn b 1 300 (q1s (by omega)) (by decide) (by decide)
 have c3:=chkn h 0 300 (q1s (by omega)) (by decide) (by decide)
 rw [if_pos (by assumption)] at c1 c2 c3
 simp [j67,j3I,j3L,j2h,j3A,j2H,j2F,c1,c2,c3]
noncomputable def brd (b:Str×List D):D:=.ins 15 [.str b.1,.tup b.2]
theorem q5K:∀ts:List Str,q2o (ts.map D.str)=some ts
 | []=>rfl
 | t::ts=>by rw [List.map_cons,q2o,q5K ts]
theorem j1I (ts:List Str) (h:ts.Nodup) (hl:ts.length<=4000):j8B [.sh (.lst (ts.map D.str))]=.ok (.sh .non):=by
 have e:=(q6V ts).mpr h
 have s:=q5K ts
 have hm:(ts.map D.str).length=ts.length:=by simp
 generalize ts.map D.str=zs at *
 simp [j8B,j2s,s,hl,e,hm]
theorem q78 (n h b:Int) (os:List D) (bs:List (Str×List D)) (hn:1<=n/\n<=720) (hh:1<=h/\h<=6) (hb:1<=b/\b<=6) (ho:1<=os.length) (ho':os.length<=3) (hl:1<=bs.length) (hl':bs.length<=8) (nd:(bs.map (·.1)).Nodup) :
 j8i [.sh (.int n),.sh (.int h),.sh (.int b),.sh (.lst os),.bo (bs.map brd)]=.ok (.sh (.ins 13 [.int n,.int h,.int b,.tup os,.tup (bs.map brd)])):=by
 have c1:=chkn n 1 720 (q1s (by omega)) (by decide) (by decide)
 have c2:=chkn h 1 6 (q1s (by omega)) (by decide) (by decide)
 have c3:=chkn b 1 6 (q1s (by omega)) (by decide) (by decide)
 rw [if_pos (by assumption)] at c1 c2 c3
 have c4:=chkc (os.length:Int) 1 3 (small2 (by omega)) (by decide) (by decide)
 have c5:=chkc ((bs.map brd).length:Int) 1 8 (small2 (by simp;omega)) (by decide) (by decide)
 rw [if_pos ⟨by omega,by omega⟩] at c4
 rw [if_pos ⟨by simp;omega,by simp;omega⟩] at c5
 have ap:=j1I (bs.map (·.1)) nd (by simp;omega)
 have mp:∀ρ:Ro,q6n (λd=>q1Y [(14,0),(15,0)] (q0e 0) (q1m [] ρ d)) (bs.map brd)=some ((bs.map (·.1)).map D.str):=by
  intro ρ
  rw [List.map_map]
  exact q2P bs λx _=>by simp [q1m,brd,List.lookup]
 have lb:(bs.map brd).length<=1000000:=by simp;omega
 generalize bs.map brd=bb at *
 generalize (bs.map (·.1)).map D.str=zz at *
 simp only [q1Y,q0e] at mp
 simp [j8i,q8c,q7Q,j3v,j2t,j2D,j2q,j22,j3b,j2Y,j2y,j2f,c1,c2,c3,c4,c5,mp,lb,ap]
theorem q7X (me:Sl) (z:Str):∀(bs:List (Str×List D)) (x:Sl),∃x',q2E (q0x (q1i 2) q6O) (bs.map brd) [me,.sh (.str z),x]=(match bs.find? (λb=>decide (b.1=z)) with | some b=>.rt (.sh (brd b)) | none=>.nx [me,.sh (.str z),x'])
 | [],x=>⟨x,by rw [List.map_nil,q1S];rfl⟩
 | b::bs,x=>by
  obtain ⟨x',e⟩:=q7X me z bs (.sh (brd b))
  refine ⟨x',?_⟩
  by_cases h:b.1=z
  ·rw [List.map_cons,j4h (r:=.sh (brd b)),List.find?_cons_of_pos (by simpa using h)]
   simp [q0x,q6O,q7L,brd,List.lookup,h]
  ·rw [List.map_cons,q2r (ρ':=[me,.sh (.str z),.sh (brd b)]),List.find?_cons_of_neg (by simpa using h),e]
   simp [q0x,q6O,q7L,brd,List.lookup,h]
theorem bread_of (n h b:D) (os:List D) (bs:List (Str×List D)) (z:Str) (hz:Tz 1000 z):j6g [.sh (.ins 13 [n,h,b,.tup os,.tup (bs.map brd)]),.sh (.str z)]=(match bs.find? (λb=>decide (b.1=z)) with | some b=>.ok (.sh (brd b)) | none=>.exc 6):=by
 obtain ⟨x',e⟩:=q7X (.sh (.ins 13 [n,h,b,.tup os,.tup (bs.map brd)])) z bs .no
 have rp:=hz.repr (Nat.le_refl _)
 have l1:Str.length "the bakery has no bread "<=200000:=by decide
 have k:q6x [.sh (.ins 13 [n,h,b,.tup os,.tup (bs.map brd)]),.sh (.str z),.no]=(match bs.find? (λb=>decide (b.1=z)) with | some b=>.rt (.sh (brd b)) | none=>.exc 6 [.sh (.ins 13 [n,h,b,.tup os,.tup (bs.map brd)]),.sh (.str z),x']):=by
  rw [q6x,q0P (ds:=bs.map brd) (by simp),e]
  cases bs.find? (λb=>decide (b.1=z)) with
  | some b=>rfl
  | none=>simp [j2u,rp,l1]
 rw [j6g,fnF]
 show (match q6x [.sh (.ins 13 [n,h,b,.tup os,.tup (bs.map brd)]),.sh (.str z),.no] with | .nx _=>_ | .rt r=>_ | .exc c _=>_ | _=>_)=_
 rw [k]
 cases bs.find? (λb=>decide (b.1=z))<;>rfl
theorem q31 {x:Str} {n:Nat} (h:n<=x.length):Txt.slice x none (some (n:Int))=⟨(x.cps.toList.take n).toArray⟩:=by
 have:=PyProof.Rows.slice_closes_toL (x:=x) (j:=(n:Int)) (by omega) (by omega)
 rw [beq_iff_eq] at this
 rw [this]
 simp
theorem q6M {x:Str} {n:Nat} (h:n<=x.length):Txt.slice x (some (n:Int)) none=⟨(x.cps.toList.drop n).toArray⟩:=by
 have:=PyProof.Rows.slice_from_eq (x:=x) (i:=(n:Int)) (b:=x.length) (by omega) (by omega) rfl
 rw [this]
 have l:x.cps.toList.length=x.length:=q46 x
 congr 2
 rw [List.take_of_length_le (by rw [List.length_drop,l];omega)]
 simp
theorem q8l:abc.cps.toList.Nodup:=by decide +kernel
theorem j6v:∀c∈abc.cps.toList,oc c=true:=by decide +kernel
theorem j5E {n:Nat} (cs:List Nat) (h1:1<=cs.length) (h2:cs.length<=n) (h:∀c∈cs,c∈abc.cps.toList):Wd n ⟨cs.toArray⟩:=
 ⟨⟨by show cs.toArray.size<=n;simpa using h2,λc hc=>j2G.cps c (h c (by simpa using hc))⟩,by show 1<=cs.toArray.size;simpa using h1,by
  rw [List.all_eq_true]
  intro c hc
  exact j6v c (h c (by simpa using hc))⟩
theorem q7T {as bs:List Nat} (h:(⟨as.toArray⟩:Str)=⟨bs.toArray⟩):as=bs:=by
 injection h with h
 simpa using h
theorem q35 (as bs:List Nat):((⟨as.toArray⟩:Str)++(⟨bs.toArray⟩:Str))=⟨(as++bs).toArray⟩:=j5b (by rw [j43])
theorem q1o (as:List Nat):(⟨as.toArray⟩:Str).length=as.length:=by simp [Str.length]
theorem q3q {α:Type} (n:Nat) (f:Nat->α) (h:∀i j,i < j->j < n->f i≠f j):((List.range n).map f).Nodup:=by
 unfold List.Nodup
 rw [List.pairwise_map]
 exact List.pairwise_lt_range.imp_of_mem λ{a b} ha hb hab=>h a b hab (by simpa using hb)
theorem j1U (cell:Int) (n:Nat) (hn:n<=10):∃zs:List Str,zs.length=n/\zs.Nodup/\(∀z∈zs,Wd 12 z)/\j68 [.sh (.int cell),.sh (.int n)]=.ok (.fr (zs.map D.str)):=by
 obtain ⟨sh,hsh,esh⟩:∃sh:Nat,sh < 26/\cell / 288 % 26=(sh:Int):=⟨(cell / 288 % 26).toNat,by omega,by omega⟩
 have al:abc.length=26:=j5h
 have ll:abc.cps.toList.length=26:=by rw [q46,al]
 have rg:∀ρ:Ro,ρ[1]?=some (.sh (.int n))->q3p (n1 (q0e 1)) ρ=.ok ((List.range n).map λk:Nat=>D.int (0+(k:Int))):=fun ρ h=>by
  rw [q1D (n:=n) (by simp [h]) (by omega)];rfl
 by_cases ho:cell % 2=1
 ·obtain ⟨c3,hc3,e3⟩:∃c3:Nat,c3<=2/\cell / 2 % 3=(c3:Int):=⟨(cell / 2 % 3).toNat,by omega,by omega⟩
  let row:List Nat:=abc.cps.toList.drop sh++abc.cps.toList.take sh
  have hrow:row.length=26:=by simp [row,ll];omega
  have mrow:∀c∈row,c∈abc.cps.toList:=by
   intro c hc
   rcases List.mem_append.mp hc with hc | hc
   ·exact List.mem_of_mem_drop hc
   ·exact List.mem_of_mem_take hc
  let f:Nat->Str:=λk=>⟨(row.take (k+1+c3)).toArray⟩
  refine ⟨(List.range n).map f,by simp,q3q n f λi j hij hj e=>?_,λz hz=>?_,?_⟩
  ·have:=congrArg List.length (q7T e)
   rw [List.length_take,List.length_take,hrow] at this
   omega
  ·obtain ⟨k,hk,rfl⟩:=List.mem_map.mp hz
   have hk:k < n:=by simpa using hk
   exact j5E _ (by rw [List.length_take,hrow];omega) (by rw [List.length_take,hrow];omega) λc hc=>mrow c (List.mem_of_mem_take hc)
  ·have g1:q59 [.sh (.int cell),.sh (.int n),.sh (.str abc),.sh (.int sh),.no,.no,.sh (.str ⟨row.toArray⟩)]=.rt (.fr (((List.range n).map f).map D.str)):=by
    rw [q59]
    show Out.fl (Out.bind (q0T _ _ _ _) _) _ _=_
    rw [q1c (rg _ rfl) (by simp;omega) (k:=λk=>D.str (f k))]
    ·rw [List.map_map];rfl
    ·intro k hk
     have hk:k < n:=by simpa using hk
     have sl:Txt.slice ⟨row.toArray⟩ none (some ((k:Int)+1+(c3:Int)))=f k:=by
      rw [show (k:Int)+1+(c3:Int)=((k+1+c3:Nat):Int) by omega]
      exact q31 (by rw [q1o,hrow];omega)
     have lr:(⟨row.toArray⟩:Str).length<=1000000:=by rw [q1o,hrow];decide
     generalize (⟨row.toArray⟩:Str)=R at *
     simp [q1m,q7B,lr,e3,sl]
   have s1:=q6M (x:=abc) (n:=sh) (by rw [al];omega)
   have s2:=q31 (x:=abc) (n:=sh) (by rw [al];omega)
   have ap:=q35 (abc.cps.toList.drop sh) (abc.cps.toList.take sh)
   have hz:abc.length<=1000000:=by rw [al];decide
   have z1:(⟨(abc.cps.toList.drop sh).toArray⟩:Str).length+(⟨(abc.cps.toList.take sh).toArray⟩:Str).length<=1000000:=by
    rw [q1o,q1o,List.length_drop,List.length_take];omega
   generalize hG:q59=G at *
   generalize ((List.range n).map f).map D.str=Z at *
   have hrw:(⟨row.toArray⟩:Str)=⟨(abc.cps.toList.drop sh).toArray⟩++⟨(abc.cps.toList.take sh).toArray⟩:=ap.symm
   rw [hrw] at g1
   generalize (⟨(abc.cps.toList.drop sh).toArray⟩:Str)=A at *
   generalize (⟨(abc.cps.toList.take sh).toArray⟩:Str)=B at *
   generalize hL:abc=L at *
   have hL':Str.ofString "abcdefghijklmnopqrstuvwxyz" = L:=hL
   simp [j68,q95,q8p,q9G,j2g,ho,esh,hL',hz,s1,s2,z1,hG,g1]
 ·obtain ⟨m,hm,em⟩:∃m:Nat,m<=11/\cell / 2 % 12=(m:Int):=⟨(cell / 2 % 12).toNat,by omega,by omega⟩
  obtain ⟨cs,c1,c2,c3⟩:=q3y j2G (by decide) (f:=λd=>e2 ixD (q0e 1) (e2 (i2c q0C λi j=>.int (i % j)) (e2 q1b (e2 (i2c q1u λi j=>.int (i / j)) (q0e 2) (eC (.int 7))) (e2 (i2c q1x λi j=>.int (i*j)) (q0e 0) (e2 q1b (q0e 0) (eC (.int 2))))) (eC (.int 26))) (q1m [2,0] [.sh (.int cell),.sh (.int n),.sh (.str abc),.sh (.int sh),.no,.no,.no] d)) (g:=λk:Nat=>D.int (0+(k:Int))) (ix:=λk=>(cell / 7+(k:Int)*((k:Int)+2)) % 26) (List.range m) (by
   intro k hk
   have hk:k < m:=by simpa using hk
   have mo:q1x (k:Int) ((k:Int)+2)=true:=by
    unfold q1x
    simp only [Bool.or_eq_true,Bool.and_eq_true,decide_eq_true_eq]
    left;constructor<;>omega
   refine ⟨by omega,by rw [al];omega,?_⟩
   generalize abc=L
   simp [q1m,q7B,mo])
  rw [List.length_range] at c1
  obtain ⟨p,hp,ep⟩:∃p:Nat,p<=m/\cell / 24 % ((m:Int)+1)=(p:Int):=by
   have h0:=Int.emod_nonneg (cell / 24) (b:=(m:Int)+1) (by omega)
   have h1:=Int.emod_lt_of_pos (cell / 24) (b:=(m:Int)+1) (by omega)
   exact ⟨(cell / 24 % ((m:Int)+1)).toNat,by omega,by omega⟩
  have lt:∀k:Nat,(sh+k) % 26 < abc.cps.toList.length:=λk=>by rw [ll];exact Nat.mod_lt _ (by decide)
  let f:Nat->Str:=λk=>⟨(cs.take p++[abc.cps.toList[(sh+k) % 26]'(lt k)]++cs.drop p).toArray⟩
  have fl:∀k,(cs.take p++[abc.cps.toList[(sh+k) % 26]'(lt k)]++cs.drop p).length=m+1:=λk=>by
   simp [c1];omega
  refine ⟨(List.range n).map f,by simp,q3q n f λi j hij hj e=>?_,λz hz=>?_,?_⟩
  ·have e:=q7T e
   rw [List.append_assoc,List.append_assoc] at e
   have e:=List.append_cancel_left e
   have e:abc.cps.toList[(sh+i) % 26]'(lt i)=abc.cps.toList[(sh+j) % 26]'(lt j):=by
    have:=congrArg (λl=>l[0]?) e
    simpa using this
   have:=(List.getElem_inj q8l).mp e
   omega
  ·obtain ⟨k,hk,rfl⟩:=List.mem_map.mp hz
   refine j5E _ (by rw [fl];omega) (by rw [fl];omega) λc hc=>?_
   rcases List.mem_append.mp hc with hc | hc
   ·rcases List.mem_append.mp hc with hc | hc
    ·exact c2 c (List.mem_of_mem_take hc)
    ·rw [List.mem_singleton.mp hc];exact List.getElem_mem _
   ·exact c2 c (List.mem_of_mem_drop hc)
  ·have g3:q6r [.sh (.int cell),.sh (.int n),.sh (.str abc),.sh (.int sh),.sh (.str ⟨cs.toArray⟩),.sh (.int p),.no]=.rt (.fr (((List.range n).map f).map D.str)):=by
    rw [q6r]
    show Out.fl (Out.bind (q0T _ _ _ _) _) _ _=_
    rw [q1c (rg _ rfl) (by simp;omega) (k:=λk=>D.str (f k))]
    ·rw [List.map_map];rfl
    ·intro k hk
     have hk:k < n:=by simpa using hk
     have s1:=q31 (x:=⟨cs.toArray⟩) (n:=p) (by rw [q1o];omega)
     have s2:=q6M (x:=⟨cs.toArray⟩) (n:=p) (by rw [q1o];omega)
     have lr:(⟨cs.toArray⟩:Str).length<=1000000:=by rw [q1o];omega
     have ix:atI abc.cps.toList (((sh:Int)+(0+(k:Int))) % 26)=some (abc.cps.toList[(sh+k) % 26]'(lt k)):=by
      rw [show ((sh:Int)+(0+(k:Int))) % 26=(((sh+k) % 26:Nat):Int) by omega]
      exact q0z (by simp [lt k])
     have hz:abc.length<=1000000:=by rw [al];decide
     have eq1:f k=⟨(cs.take p).toArray⟩++⟨#[abc.cps.toList[(sh+k) % 26]'(lt k)]⟩++⟨(cs.drop p).toArray⟩:=by
      show (⟨_⟩:Str)=_
      rw [show (⟨#[abc.cps.toList[(sh+k) % 26]'(lt k)]⟩:Str)=⟨[abc.cps.toList[(sh+k) % 26]'(lt k)].toArray⟩ from rfl,q35,q35]
     have z1:(⟨(cs.take p).toArray⟩:Str).length+(⟨#[abc.cps.toList[(sh+k) % 26]'(lt k)]⟩:Str).length<=1000000:=by
      rw [show (⟨#[abc.cps.toList[(sh+k) % 26]'(lt k)]⟩:Str)=⟨[abc.cps.toList[(sh+k) % 26]'(lt k)].toArray⟩ from rfl,q1o,q1o];simp;omega
     have z2:((⟨(cs.take p).toArray⟩:Str)++⟨#[abc.cps.toList[(sh+k) % 26]'(lt k)]⟩).length+(⟨(cs.drop p).toArray⟩:Str).length<=1000000:=by
      rw [show (⟨#[abc.cps.toList[(sh+k) % 26]'(lt k)]⟩:Str)=⟨[abc.cps.toList[(sh+k) % 26]'(lt k)].toArray⟩ from rfl,q35,q1o,q1o];simp;omega
     rw [eq1]
     generalize abc.cps.toList[(sh+k) % 26]'(lt k)=q at *
     clear eq1 fl
     generalize (⟨(cs.take p).toArray⟩:Str)=A at *
     generalize (⟨(cs.drop p).toArray⟩:Str)=B at *
     generalize (⟨cs.toArray⟩:Str)=C at *
     generalize hL:abc=L at *
     generalize hI:((sh:Int)+(0+(k:Int))) % 26=I at *
     have hI':((sh:Int)+(k:Int)) % 26=I:=by rw [<-hI];congr 2;omega
     simp [q1m,q7B,lr,s1,s2,hz,ix,hI',z1,z2]
   have fc:q0T (q3p (n1 (e2 (i2c q0C λi j=>.int (i % j)) (e2 (i2c q1u λi j=>.int (i / j)) (q0e 0) (eC (.int 2))) (eC (.int 12))))) [2,0] (e2 ixD (q0e 1) (e2 (i2c q0C λi j=>.int (i % j)) (e2 q1b (e2 (i2c q1u λi j=>.int (i / j)) (q0e 2) (eC (.int 7))) (e2 (i2c q1x λi j=>.int (i*j)) (q0e 0) (e2 q1b (q0e 0) (eC (.int 2))))) (eC (.int 26)))) [.sh (.int cell),.sh (.int n),.sh (.str abc),.sh (.int sh),.no,.no,.no]=.ok (cs.map λc=>D.str ⟨#[c]⟩):=by
    rw [q0T,q1D (n:=m) (by rw [<-em];simp) (by omega),Out.ok_bind,if_pos (by simp [rgD];omega)]
    show (match q6n _ ((List.range m).map _) with | some es=>Out.ok es | none=>.bad)=_
    rw [show q6n _ ((List.range m).map λk:Nat=>D.int (0+(k:Int)))=_ from c3]
   have jn:=j0V cs (by omega)
   have ln:(⟨cs.toArray⟩:Str).length=m:=by rw [q1o,c1]
   have g5:q5G [.sh (.int cell),.sh (.int n),.sh (.str abc),.sh (.int sh),.no,.no,.no]=.rt (.fr (((List.range n).map f).map D.str)):=by
    rw [q5G,q12 (v:=.str ⟨cs.toArray⟩)]
    ·rw [Fl.nx_bind]
     generalize hG:q6r=G at *
     generalize ((List.range n).map f).map D.str=Z at *
     generalize (⟨cs.toArray⟩:Str)=C at *
     have lz:C.length<=1000000:=by omega
     have mp:0 < (m:Int)+1:=by omega
     have m6:m<=1000000:=by omega
     simp [j15,lz,m6,ln,ep,mp,hG,g3]
    ·show (Out.ok (D.str "")).bind _=_
     rw [Out.ok_bind]
     show Out.bind (Out.bind (Out.bind (q0T _ _ _ _) _) _) _=_
     rw [fc]
     exact jn
   generalize hG:q5G=G at *
   generalize ((List.range n).map f).map D.str=Z at *
   generalize hL:abc=L at *
   have hL':Str.ofString "abcdefghijklmnopqrstuvwxyz" = L:=hL
   simp [j68,q95,q8p,q9G,ho,esh,hL',hG,g5]
theorem j0J (z:Str) (l d:Int) (hl:l.natAbs.log2 < 1920):F_4 [.sh (.str z),.sh (.int l),.sh (.int d)]=if 1<=l/\l<=60 then .ok (.sh (.ins 10 [.str z,.int l,.int d])) else .exc 3:=by
 have c1:=chkn l 1 60 hl (by decide) (by decide)
 by_cases h1:1<=l/\l<=60
 ·simp [F_4,j4W,j7H,j6m,j7t,c1,h1]
 ·simp [F_4,j4W,c1,h1]
noncomputable def ord (o:Str×Int×Int):D:=.ins 10 [.str o.1,.int o.2.1,.int o.2.2]
noncomputable def bat (b:Int×Int×Int):D:=.ins 11 [.int b.1,.int b.2.1,.int b.2.2]
noncomputable def ovn (o:Int×Int×Int):D:=.ins 16 [.int o.1,.int o.2.1,.int o.2.2]
noncomputable def nb (most ls:Int):Nat:=((ls-1) / most+1).toNat
noncomputable def q7k (most n ls:Int) (t:Nat):Int×Int×Int:=(n,1+(t:Int)*most,if ls-(1+(t:Int)*most)+1 < most then ls-(1+(t:Int)*most)+1 else most)
noncomputable def j0v (most n ls:Int):List (Int×Int×Int):=(List.range (nb most ls)).map (q7k most n ls)
noncomputable def q1P (most:Int):Int->List Int->List (Int×Int×Int)
 | _,[]=>[]
 | n,l::ls=>j0v most n l++q1P most (n+1) ls
theorem q3C (most n ls:Int):(j0v most n ls).length=nb most ls:=by simp [j0v]
theorem j4R {most ls:Int} (h:1<=most) (h1:1<=ls) (h2:ls<=60):nb most ls<=60:=by
 unfold nb
 have:(ls-1) / most<=ls-1:=Int.ediv_le_self _ (by omega)
 omega
theorem q5N (most:Int) (h:1<=most):∀(ls:List Int) (n:Int),(∀l∈ls,1<=l/\l<=60)->(q1P most n ls).length<=60*ls.length
 | [],n,_=>by simp [q1P]
 | l::ls,n,hl=>by
  have h1:=q5N most h ls (n+1) λx hx=>hl x (by simp [hx])
  have h2:=j4R h (hl l (by simp)).1 (hl l (by simp)).2
  rw [q1P,List.length_append,q3C,List.length_cons]
  omega
theorem j1h (a b c:Int):F_5 [.sh (.int a),.sh (.int b),.sh (.int c)]=.ok (.sh (.ins 11 [.int a,.int b,.int c])):=by
 simp [F_5,j54,j7v,j6L]
theorem j4v {fa fb fc:Ev} {ρ:Ro} {ls most:Int} (ha:fa ρ=.ok (.int 1)) (hb:fb ρ=.ok (.int (ls+1))) (hc:fc ρ=.ok (.int most)) (h:1<=most/\most<=1000) (h1:1<=ls/\ls<=1000) :
 j0G fa fb fc ρ=.ok ((List.range (nb most ls)).map λ(t:Nat)=>D.int (1+(t:Int)*most)):=by
 have ok:q4u 1 (ls+1) most=true:=by
  unfold q4u
  simp only [Bool.and_eq_true,decide_eq_true_eq]
  refine ⟨⟨⟨⟨⟨⟨?_,?_⟩,?_⟩,?_⟩,?_⟩,?_⟩,?_⟩<;>omega
 have sz:(Builtin.Range.rangeSize 1 (ls+1) most).toNat=nb most ls:=by
  unfold Builtin.Range.rangeSize nb
  rw [if_pos (by omega),if_pos (by omega),show ls+1-1-1=ls-1 by omega]
 rw [j0G,ha,Out.ok_bind,hb,Out.ok_bind,hc,Out.ok_bind]
 show (if q4u 1 (ls+1) most=true then Out.ok (rgS 1 most _) else .bad)=_
 rw [if_pos ok,sz]
 rfl
theorem q9n (os:Sl) (most n:Int) (o:Str×Int×Int):∀(ts:List Nat) (row:List D) (x y:Sl),row.length+ts.length<=900000->∃x' y',q2E (q0x (q1i 5) j4q) (ts.map λ(t:Nat)=>D.int (1+(t:Int)*most)) [os,.sh (.int most),.ow row,.sh (.int n),.sh (ord o),x,y] =
 .nx [os,.sh (.int most),.ow (row++(ts.map (q7k most n o.2.1)).map bat),.sh (.int n),.sh (ord o),x',y']
 | [],row,x,y,_=>⟨x,y,by simp [q1S]⟩
 | t::ts,row,x,y,hl=>by
  have hr:row.length < 1000000:=by simp at hl;omega
  obtain ⟨x',y',e⟩:=q9n os most n o ts (row++[bat (q7k most n o.2.1 t)]) (.sh (.int (1+(t:Int)*most))) (.sh (.int (o.2.1-(1+(t:Int)*most)+1))) (by simp at hl ⊢; omega)
  refine ⟨x',y',?_⟩
  have bm:=j1h n (1+(t:Int)*most) (if o.2.1-(1+(t:Int)*most)+1 < most then o.2.1-(1+(t:Int)*most)+1 else most)
  rw [List.map_cons,q2r (ρ':=[os,.sh (.int most),.ow (row++[bat (q7k most n o.2.1 t)]),.sh (.int n),.sh (ord o),.sh (.int (1+(t:Int)*most)),.sh (.int (o.2.1-(1+(t:Int)*most)+1))]),e]
  ·simp
  ·generalize hF:1+(t:Int)*most=f at *
   simp [q0x,j4q,j6p,ord,List.lookup,bm,hr,bat,q7k,hF]
theorem j4L {is:List Nat} {f:Ro->Fl} {ρ ρ':Ro} {d:D} (h:q7z is ρ d=.ok ρ'):q0x (q7z is) f ρ d=f ρ':=by
 rw [q0x,h]
theorem q5I (os:Sl) (most:Int) (hm:1<=most/\most<=1000):∀(ol:List (Str×Int×Int)) (n:Int) (row:List D) (p q x y:Sl),(∀o∈ol,1<=o.2.1/\o.2.1<=60)->row.length+60*ol.length<=900000->∃p' q' x' y',q2E (q0x (q7z [3,4]) j4T) (q7l n (ol.map ord)) [os,.sh (.int most),.ow row,p,q,x,y] =
 .nx [os,.sh (.int most),.ow (row++(q1P most n (ol.map (·.2.1))).map bat),p',q',x',y']
 | [],n,row,p,q,x,y,_,_=>⟨p,q,x,y,by simp [q1S,q7l,q1P]⟩
 | o::ol,n,row,p,q,x,y,ho,hl=>by
  have h1:=ho o (by simp)
  have hn:=j4R hm.1 h1.1 h1.2
  obtain ⟨x1,y1,e1⟩:=q9n os most n o (List.range (nb most o.2.1)) row x y (by simp at hl ⊢; omega)
  obtain ⟨p',q',x',y',e2⟩:=q5I os most hm ol (n+1) (row++(j0v most n o.2.1).map bat) (.sh (.int n)) (.sh (ord o)) x1 y1 (λz hz=>ho z (by simp [hz])) (by simp [q3C] at hl ⊢; omega)
  refine ⟨p',q',x',y',?_⟩
  rw [List.map_cons,q7l,q2r (ρ':=[os,.sh (.int most),.ow (row++(j0v most n o.2.1).map bat),.sh (.int n),.sh (ord o),x1,y1]),e2]
  ·simp [q1P]
  ·rw [j4L (ρ':=[os,.sh (.int most),.ow row,.sh (.int n),.sh (ord o),x,y]) (by simp [q4h]),j4T,q0P (j4v (ls:=o.2.1) (most:=most) ?_ ?_ ?_ hm ⟨h1.1,by omega⟩),e1]
   ·rfl
   ·simp
   ·simp [ord,List.lookup]
   ·simp
theorem q3o (most:Int) (hm:1<=most/\most<=1000) (ol:List (Str×Int×Int)) (ho:∀o∈ol,1<=o.2.1/\o.2.1<=60) (hl:ol.length<=1000):F_9 [.sh (.lst (ol.map ord)),.sh (.int most)]=.ok (.fr ((q1P most 1 (ol.map (·.2.1))).map bat)):=by
 obtain ⟨p',q',x',y',e⟩:=q5I (.sh (.lst (ol.map ord))) most hm ol 1 [] .no .no .no .no ho (by simp;omega)
 have k:j1V [.sh (.lst (ol.map ord)),.sh (.int most),.ow [],.no,.no,.no,.no]=.rt (.fr ((q1P most 1 (ol.map (·.2.1))).map bat)):=by
  rw [j1V,q0P (ds:=q7l 1 (ol.map ord)) (by simp),e]
  simp [j50]
 generalize hG:j1V=G at *
 simp [F_9,j5I,k,hG]
theorem q29 (n h b bb:D) (rs:List (Int×Int×Int)) (hr:rs≠[]) (hl:rs.length<=3):F_6 [.sh (.ins 13 [n,h,b,.tup (rs.map ovn),bb])]=.ok (.sh (.int (q0G true (rs.map (·.1))))):=by
 have mp:∀ρ:Ro,q6n (λd=>q1Y [(16,0)] (q0e 0) (q1m [] ρ d)) (rs.map ovn)=some ((rs.map (·.1)).map D.int):=by
  intro ρ
  rw [List.map_map]
  exact q2P rs λx _=>by simp [q1m,ovn,List.lookup]
 have mx:=q33 (is:=rs.map (·.1)) (by simpa using hr)
 have lz:(rs.map ovn).length<=1000000:=by simp;omega
 simp only [q1Y,q0e] at mp
 generalize rs.map ovn=oo at *
 generalize (rs.map (·.1)).map D.int=zz at *
 simp [F_6,j6i,mp,mx,lz]
theorem j5P (d n:Int) (h:0<=d/\d<=n):F_7 [.sh (.int d),.sh (.int n)]=.ok (.sh .non):=by
 simp [F_7,j7U,h.1,h.2]
structure Taken (night:Int) (bs:List (Str×List D)) (rs:List (Int×Int×Int)) (ol:List (Str×Int×Int)):Prop where
 len:ol.length<=12
 name:∀o∈ol,o.1∈bs.map (·.1)
 tz:∀o∈ol,Tz 1000 o.1
 due:∀o∈ol,0<=o.2.2/\o.2.2<=night
 lv:∀o∈ol,1<=o.2.1/\o.2.1<=60
 few:(q1P (q0G true (rs.map (·.1))) 1 (ol.map (·.2.1))).length<=24
structure RsOk (rs:List (Int×Int×Int)):Prop where
 ne:rs≠[]
 len:rs.length<=3
 room:∀r∈rs,1<=r.1/\r.1<=30
theorem RsOk.most {rs:List (Int×Int×Int)} (h:RsOk rs):1<=q0G true (rs.map (·.1))/\q0G true (rs.map (·.1))<=30:=by
 obtain ⟨h1,h2⟩:=q2z (is:=rs.map (·.1)) (by simpa using h.ne)
 obtain ⟨r,hr,e⟩:=List.mem_map.mp h1
 rw [<-e]
 exact h.room r hr
noncomputable abbrev bkr (n h b:Int) (rs:List (Int×Int×Int)) (bs:List (Str×List D)):D:=.ins 13 [.int n,.int h,.int b,.tup (rs.map ovn),.tup (bs.map brd)]
theorem q4M (n h b:Int) (rs:List (Int×Int×Int)) (bs:List (Str×List D)) (w:Sl) (y:Sl):∀(ol:List (Str×Int×Int)) (x:Sl),(∀o∈ol,o.1∈bs.map (·.1))->(∀o∈ol,Tz 1000 o.1)->∃x',q2E (q0x (q1i 2) j3X) (ol.map ord) [.sh (bkr n h b rs bs),w,x,y]=.nx [.sh (bkr n h b rs bs),w,x',y]
 | [],x,_,_=>⟨x,by rw [List.map_nil,q1S]⟩
 | o::ol,x,h1,h2=>by
  obtain ⟨x',e⟩:=q4M n h b rs bs w y ol (.sh (ord o)) (λz hz=>h1 z (by simp [hz])) (λz hz=>h2 z (by simp [hz]))
  refine ⟨x',?_⟩
  have bo:=bread_of (.int n) (.int h) (.int b) (rs.map ovn) bs o.1 (h2 o (by simp))
  obtain ⟨bb,hb,eb⟩:=List.mem_map.mp (h1 o (by simp))
  have fd:∃b2,bs.find? (λb=>decide (b.1=o.1))=some b2:=by
   cases q:bs.find? (λb=>decide (b.1=o.1)) with
   | some b2=>exact ⟨b2,rfl⟩
   | none=>
    rw [List.find?_eq_none] at q
    exact absurd (by simpa using eb) (q bb hb)
  obtain ⟨b2,fd⟩:=fd
  rw [fd] at bo
  rw [List.map_cons,q2r (ρ':=[.sh (bkr n h b rs bs),w,.sh (ord o),y]),e]
  unfold bkr
  generalize rs.map ovn=oo at *
  generalize bs.map brd=bb at *
  simp [q0x,j3X,ord,List.lookup,bo]
theorem q6p (n h b:Int) (rs:List (Int×Int×Int)) (bs:List (Str×List D)) (w:Sl) (y:Sl):∀(ol:List (Str×Int×Int)) (x:Sl),(∀o∈ol,0<=o.2.2/\o.2.2<=n)->∃x',q2E (q0x (q1i 2) j4c) (ol.map ord) [.sh (bkr n h b rs bs),w,x,y]=.nx [.sh (bkr n h b rs bs),w,x',y]
 | [],x,_=>⟨x,by rw [List.map_nil,q1S]⟩
 | o::ol,x,h1=>by
  obtain ⟨x',e⟩:=q6p n h b rs bs w y ol (.sh (ord o)) (λz hz=>h1 z (by simp [hz]))
  refine ⟨x',?_⟩
  have d:=j5P o.2.2 n (h1 o (by simp))
  rw [List.map_cons,q2r (ρ':=[.sh (bkr n h b rs bs),w,.sh (ord o),y]),e]
  unfold bkr
  generalize rs.map ovn=oo at *
  generalize bs.map brd=bb at *
  simp [q0x,j4c,ord,List.lookup,d]
theorem q81 (n h b:Int) (rs:List (Int×Int×Int)) (bs:List (Str×List D)) (ol:List (Str×Int×Int)) (hr:RsOk rs) (tk:Taken n bs rs ol):F_8 [.sh (bkr n h b rs bs),.sh (.lst (ol.map ord))]=.ok (.sh .non):=by
 have c1:=chkc ((ol.map ord).length:Int) 0 12 (small2 (by simp;have:=tk.len;omega)) (by decide) (by decide)
 rw [if_pos ⟨by omega,by have:=tk.len;simp;omega⟩,List.length_map] at c1
 obtain ⟨x1,e1⟩:=q4M n h b rs bs (.sh (.lst (ol.map ord))) .no ol .no tk.name tk.tz
 obtain ⟨x2,e2⟩:=q6p n h b rs bs (.sh (.lst (ol.map ord))) .no ol x1 tk.due
 have gr:=q29 (.int n) (.int h) (.int b) (.tup (bs.map brd)) rs hr.ne hr.len
 have mo:=hr.most
 have bt:=q3o (q0G true (rs.map (·.1))) ⟨mo.1,by omega⟩ ol tk.lv (by have:=tk.len;omega)
 have few:=tk.few
 have k5:j4y [.sh (bkr n h b rs bs),.sh (.lst (ol.map ord)),x2,.no]=.nx [.sh (bkr n h b rs bs),.sh (.lst (ol.map ord)),x2,.sh (.int (q1P (q0G true (rs.map (·.1))) 1 (ol.map (·.2.1))).length)]:=by
  have lb:((q1P (q0G true (rs.map (·.1))) 1 (ol.map (·.2.1))).map bat).length=(q1P (q0G true (rs.map (·.1))) 1 (ol.map (·.2.1))).length:=by simp
  have few':¬(24:Int) < ((q1P (q0G true (rs.map (·.1))) 1 (ol.map (·.2.1))).length:Int):=by omega
  unfold bkr
  clear e1 e2 tk few
  generalize (q1P (q0G true (rs.map (·.1))) 1 (ol.map (·.2.1))).map bat=BB at *
  generalize hN:(q1P (q0G true (rs.map (·.1))) 1 (ol.map (·.2.1))).length=N at *
  generalize q0G true (rs.map (·.1))=M at *
  generalize rs.map ovn=oo at *
  generalize bs.map brd=bb at *
  generalize ol.map ord=ll at *
  have few2:¬(24 < N):=by omega
  simp [j4y,j6Z,gr,bt,lb,few',few2]
 have k7:j02 [.sh (bkr n h b rs bs),.sh (.lst (ol.map ord)),.no,.no]=.nx [.sh (bkr n h b rs bs),.sh (.lst (ol.map ord)),x2,.sh (.int (q1P (q0G true (rs.map (·.1))) 1 (ol.map (·.2.1))).length)]:=by
  rw [j02,q0P (ds:=ol.map ord) (by simp),e1,Fl.nx_bind,j7T,q0P (ds:=ol.map ord) (by simp),e2,Fl.nx_bind,k5]
 generalize hG:j02=G at *
 simp [F_8,j7Y,c1,k7,hG]
theorem j7S (n h b:Int) (rs:List (Int×Int×Int)) (bs:List (Str×List D)) (ol:List (Str×Int×Int)) (hr:RsOk rs) (tk:Taken n bs rs ol):j6Y [.sh (bkr n h b rs bs),.sh (.lst (ol.map ord))]=.ok (.fr ((q1P (q0G true (rs.map (·.1))) 1 (ol.map (·.2.1))).map bat)):=by
 have ac:=q81 n h b rs bs ol hr tk
 have gr:=q29 (.int n) (.int h) (.int b) (.tup (bs.map brd)) rs hr.ne hr.len
 have mo:=hr.most
 have bt:=q3o (q0G true (rs.map (·.1))) ⟨mo.1,by omega⟩ ol tk.lv (by have:=tk.len;omega)
 unfold bkr at *
 clear tk
 generalize (q1P (q0G true (rs.map (·.1))) 1 (ol.map (·.2.1))).map bat=BB at *
 generalize q0G true (rs.map (·.1))=M at *
 generalize rs.map ovn=oo at *
 generalize bs.map brd=bb at *
 generalize ol.map ord=ll at *
 simp [j6Y,j2O,j12,ac,gr,bt]
theorem j7m (b o:Int) (ls:List Int) (hl:ls.length<=1000):j7R [.sh (.int b),.sh (.lst (ls.map D.int)),.sh (.int o)]=if ∀x∈b::o::ls,0<=x then .ok (.sh (.ins 12 [.int b,.tup (ls.map D.int),.int o])) else .exc 3:=by
 have ne:b::o::ls≠[]:=by simp
 obtain ⟨b1,b2⟩:=q9V ne
 have e:q7f [.lst (.int b::.int o::ls.map D.int)]=.ok (.int (q0G false (b::o::ls))):=j00 (is:=b::o::ls) ne
 generalize q0G false (b::o::ls)=m at *
 have hz:2+ls.length<=1000000:=by omega
 have hz':ls.length+1+1<=1000000:=by omega
 by_cases h:∀x∈b::o::ls,0<=x
 ·have hm:=h m b1
  rw [if_pos h]
  have hm':¬m < 0:=by omega
  simp [j7R,q9g,j1Z,j3K,j3D,e,hm',hz,hz',Nat.add_comm]
 ·rw [if_neg h]
  have hm:m < 0:=by
   refine Classical.byContradiction λz=>h λx hx=>?_
   have:=b2 x hx;omega
  simp [j7R,q9g,j2N,e,hm,hz,hz',Nat.add_comm]
structure w1N (ls:List Int):Prop where
 len:ls.length<=6
 nn:∀x∈ls,0<=x/\x<=1000000
theorem q1q (ns:List Int) (hn:ns.length<=63) (i:Int) (h0:0<=i) (h1:i<=100000):q2j [.sh (.lst (ns.map D.int)),.sh (.int i)]=.ok (.sh (.int (pk ns i.toNat))):=by
 obtain ⟨k,rfl⟩:=Int.eq_ofNat_of_zero_le h0
 exact j9c ns hn k (by omega)
noncomputable def q17 (k:Int×Int×Int):D:=.tup [.int k.1,.int k.2.1,.int k.2.2]
structure j8J (k:Int×Int×Int):Prop where
 room:1<=k.1/\k.1<=30
 rate:1<=k.2.1/\k.2.1<=300
 heat:0<=k.2.2/\k.2.2<=300
theorem q8W (ns:List Int) (hn:ns.length<=63) (j:Nat) (hj:j<=100) (row:List D) (hr:row.length < 1000) (a b c d:Sl) :
 ∃q,j8J q/\∃b' c' d',q0x (q1i 2) q5T [.sh (.lst (ns.map D.int)),.ow row,a,b,c,d] (.int j)=.nx [.sh (.lst (ns.map D.int)),.ow (row++[q17 q]),.sh (.int j),b',c',d']:=by
 have p1:=q1q ns hn (8+(j:Int)) (by omega) (by omega)
 have p2:=q1q ns hn (11+(j:Int)) (by omega) (by omega)
 generalize pk ns (8+(j:Int)).toNat=v at *
 generalize pk ns (11+(j:Int)).toNat=u at *
 obtain ⟨r,er,hr1⟩:=pick3 300 40 (1+v / 90 % 300) (v / 30)
 obtain ⟨h,eh,hh⟩:=pick4 200 200 230 (u % 301) v
 refine ⟨(1+v % 30,r,h),⟨by dsimp only;omega,by dsimp only;omega,by dsimp only;omega⟩,.sh (.int v),.sh (.int r),.sh (.int h),?_⟩
 have hr2:row.length < 1000000:=by omega
 generalize ns.map D.int=nn at *
 simp [q0x,q5T,j3N,j2k,j26,p1,p2,er,eh,q17,hr2]
theorem j0Q (ns:List Int) (hn:ns.length<=63):∃ks:List (Int×Int×Int),ks≠[]/\ks.length<=3/\(∀k∈ks,j8J k)/\j75 [.sh (.lst (ns.map D.int))]=.ok (.fr (ks.map q17)):=by
 have p:=q1q ns hn 2 (by decide) (by decide)
 generalize pk ns (2:Int).toNat=v at *
 obtain ⟨n,hn1,hn3,en⟩:∃n:Nat,1<=n/\n<=3/\1+v % 3=(n:Int):=⟨(1+v % 3).toNat,by omega,by omega,by omega⟩
 obtain ⟨ρ',e,ks,a,b,c,d,h1,h2,rfl⟩:=q7x (body:=q0x (q1i 2) q5T) (λj ρ=>∃(ks:List (Int×Int×Int)) (a b c d:Sl),ks.length=j/\(∀k∈ks,j8J k)/\ρ=[.sh (.lst (ns.map D.int)),.ow (ks.map q17),a,b,c,d]) n (λj ρ hj ⟨ks,a,b,c,d,h1,h2,e⟩=>by
  obtain ⟨q,hq,b',c',d',eq⟩:=q8W ns hn j (by omega) (ks.map q17) (by simp;omega) a b c d
  refine ⟨_,by rw [e];exact eq,ks++[q],_,b',c',d',by simp [h1],λk hk=>?_,by rw [List.map_append];rfl⟩
  rcases List.mem_append.mp hk with hk | hk
  ·exact h2 k hk
  ·rw [List.mem_singleton.mp hk];exact hq) (ρ:=[.sh (.lst (ns.map D.int)),.ow [],.no,.no,.no,.no]) ⟨[],.no,.no,.no,.no,rfl,by simp,rfl⟩
 refine ⟨ks,λz=>by rw [z] at h1;simp at h1;omega,by omega,h2,?_⟩
 have k6:q7F [.sh (.lst (ns.map D.int)),.ow [],.no,.no,.no,.no]=.rt (.fr (ks.map q17)):=by
  rw [q7F,q0P (ds:=rgD 0 n) (q1D (by rw [<-en];generalize ns.map D.int=nn at *; simp [p]) (by omega)),e]
  simp [j24]
 rw [j75]
 refine q1H _ rfl ?_
 rw [j2l,q2B (v:=[]) rfl,Fl.nx_bind]
 exact k6
noncomputable abbrev Sg:=Int×Int×Int×Int
noncomputable def q40 (s:Sg):D:=.tup [.int s.1,.int s.2.1,.int s.2.2.1,.int s.2.2.2]
noncomputable def q0N (k:List Sg):D:=.lst (k.map q40)
structure w0c (s:Sg):Prop where
 least:1<=s.1/\s.1<=700
 most:s.1<=s.2.1/\s.2.1<=s.1+6
 want:0<=s.2.2.1/\s.2.2.1<=3
 heat:0<=s.2.2.2/\s.2.2.2<=300
structure j3h (k:List Sg):Prop where
 one:1<=k.length
 six:k.length<=6
 all:∀s∈k,w0c s
theorem q6T (ns:List Int) (hn:ns.length<=63) (size like:Int) (hs:1<=size/\size<=700) (k j:Nat) (hk:k<=100) (hj:j<=100) (kd:Sl) (row:List D) (hr:row.length < 1000) (a b c d:Sl) :
 ∃q,w0c q/\∃b' c' d',q0x (q1i 6) q4P [.sh (.lst (ns.map D.int)),kd,.sh (.int size),.sh (.int like),.sh (.int k),.ow row,a,b,c,d] (.int j)=.nx [.sh (.lst (ns.map D.int)),kd,.sh (.int size),.sh (.int like),.sh (.int k),.ow (row++[q40 q]),.sh (.int j),b',c',d']:=by
 have p1:=q1q ns hn (20+6*(k:Int)+(j:Int)) (by omega) (by omega)
 have p2:=q1q ns hn (9+(j:Int)+(k:Int)) (by omega) (by omega)
 generalize pk ns (20+6*(k:Int)+(j:Int)).toNat=v at *
 generalize pk ns (9+(j:Int)+(k:Int)).toNat=u at *
 have mo:q1x 6 (k:Int)=true:=q10 (by decide)
 obtain ⟨h,eh,hh⟩:=pick4 200 200 230 (u % 301) (v / 16)
 have s1:0 < size:=by omega
 have m0:0<=v / 4 % size:=Int.emod_nonneg _ (by omega)
 have m1:v / 4 % size < size:=Int.emod_lt_of_pos _ s1
 have hr2:row.length < 1000000:=by omega
 by_cases hl:like=1
 ·have e1:atI [D.int 200,D.int h] 1=some (.int h):=q0V _ _ _
  refine ⟨(1+v / 4 % size,1+v / 4 % size+v / 5 % 7,v % 4,h),⟨by dsimp only;omega,by dsimp only;omega,by dsimp only;omega,by dsimp only;omega⟩,.sh (.int v),.sh (.int (1+v / 4 % size)),.sh (.int h),?_⟩
  generalize ns.map D.int=nn at *
  simp [q0x,q4P,q8B,q82,q9M,p1,p2,mo,eh,e1,hl,s1,q40,hr2]
 ·have e1:atI [D.int 200,D.int h] 0=some (.int 200):=q0S _ _
  refine ⟨(1+v / 4 % size,1+v / 4 % size+v / 5 % 7,v % 4,200),⟨by dsimp only;omega,by dsimp only;omega,by dsimp only;omega,by dsimp only;omega⟩,.sh (.int v),.sh (.int (1+v / 4 % size)),.sh (.int 200),?_⟩
  generalize ns.map D.int=nn at *
  simp [q0x,q4P,q8B,q82,q9M,p1,p2,mo,eh,e1,hl,s1,q40,hr2]
theorem q86 (ns:List Int) (hn:ns.length<=63) (size like:Int) (hs:1<=size/\size<=700) (k:Nat) (hk:k<=100) (kd:List D) (hr:kd.length < 1000) (a4 a5 a b c d:Sl) :
 ∃q,j3h q/\∃a5' a' b' c' d',q0x (q1i 4) q3n [.sh (.lst (ns.map D.int)),.ow kd,.sh (.int size),.sh (.int like),a4,a5,a,b,c,d] (.int k)=.nx [.sh (.lst (ns.map D.int)),.ow (kd++[q0N q]),.sh (.int size),.sh (.int like),.sh (.int k),a5',a',b',c',d']:=by
 have p:=q1q ns hn 6 (by decide) (by decide)
 generalize pk ns (6:Int).toNat=v at *
 have mo:q1x 5 (k:Int)=true:=q10 (by decide)
 obtain ⟨n,hn1,hn3,en⟩:∃n:Nat,1<=n/\n<=6/\1+(v+5*(k:Int)) % 6=(n:Int):=⟨(1+(v+5*(k:Int)) % 6).toNat,by omega,by omega,by omega⟩
 obtain ⟨ρ',e,ks,a',b',c',d',h1,h2,rfl⟩:=q7x (body:=q0x (q1i 6) q4P) (λj ρ=>∃(ks:List Sg) (a b c d:Sl),ks.length=j/\(∀k∈ks,w0c k)/\ρ=[.sh (.lst (ns.map D.int)),.ow kd,.sh (.int size),.sh (.int like),.sh (.int k),.ow (ks.map q40),a,b,c,d]) n (λj ρ hj ⟨ks,a,b,c,d,h1,h2,e⟩=>by
  obtain ⟨q,hq,b',c',d',eq⟩:=q6T ns hn size like hs k j hk (by omega) (.ow kd) (ks.map q40) (by simp;omega) a b c d
  refine ⟨_,by rw [e];exact eq,ks++[q],_,b',c',d',by simp [h1],λk hk=>?_,by rw [List.map_append];rfl⟩
  rcases List.mem_append.mp hk with hk | hk
  ·exact h2 k hk
  ·rw [List.mem_singleton.mp hk];exact hq) (ρ:=[.sh (.lst (ns.map D.int)),.ow kd,.sh (.int size),.sh (.int like),.sh (.int k),.ow [],a,b,c,d]) ⟨[],a,b,c,d,rfl,by simp,rfl⟩
 refine ⟨ks,⟨by omega,by omega,h2⟩,.sh (q0N ks),a',b',c',d',?_⟩
 have b0:q0x (q1i 4) q3n [.sh (.lst (ns.map D.int)),.ow kd,.sh (.int size),.sh (.int like),a4,a5,a,b,c,d] (.int k)=q3n [.sh (.lst (ns.map D.int)),.ow kd,.sh (.int size),.sh (.int like),.sh (.int k),a5,a,b,c,d]:=by simp [q0x]
 have hr2:kd.length < 1000000:=by omega
 rw [b0,q3n,q2B (v:=[]) rfl,Fl.nx_bind]
 show q7G [.sh (.lst (ns.map D.int)),.ow kd,.sh (.int size),.sh (.int like),.sh (.int k),.ow [],a,b,c,d]=_
 rw [q7G,q0P (ds:=rgD 0 n) (q1D (by rw [<-en];generalize ns.map D.int=nn at *; simp [p,mo]) (by omega)),e]
 simp [j3i,j2d,hr2,q0N]
theorem j0I (ns:List Int) (hn:ns.length<=63):∃ks:List (List Sg),1<=ks.length/\ks.length<=8/\(∀k∈ks,j3h k)/\j8w [.sh (.lst (ns.map D.int))]=.ok (.fr (ks.map q0N)):=by
 have p3:=q1q ns hn 3 (by decide) (by decide)
 have p5:=q1q ns hn 5 (by decide) (by decide)
 have p7:=q1q ns hn 7 (by decide) (by decide)
 generalize pk ns (3:Int).toNat=v3 at *
 generalize pk ns (5:Int).toNat=v5 at *
 generalize pk ns (7:Int).toNat=v7 at *
 obtain ⟨n,hn1,hn3,en⟩:∃n:Nat,1<=n/\n<=8/\1+v5 % 8=(n:Int):=⟨(1+v5 % 8).toNat,by omega,by omega,by omega⟩
 obtain ⟨w,ew,hw⟩:=pick2 60 700 (v3 / 4)
 obtain ⟨size,es,hs⟩:=pick4 4 2 15 w v3
 have hs2:1<=size/\size<=700:=by omega
 obtain ⟨ρ',e,ks,a4,a5,a,b,c,d,h1,h2,rfl⟩:=q7x (body:=q0x (q1i 4) q3n) (λj ρ=>∃(ks:List (List Sg)) (a4 a5 a b c d:Sl),ks.length=j/\(∀k∈ks,j3h k)/\ρ=[.sh (.lst (ns.map D.int)),.ow (ks.map q0N),.sh (.int size),.sh (.int (v7 % 3)),a4,a5,a,b,c,d]) n (λj ρ hj ⟨ks,a4,a5,a,b,c,d,h1,h2,e⟩=>by
  obtain ⟨q,hq,a5',a',b',c',d',eq⟩:=q86 ns hn size (v7 % 3) hs2 j (by omega) (ks.map q0N) (by simp;omega) a4 a5 a b c d
  refine ⟨_,by rw [e];exact eq,ks++[q],_,a5',a',b',c',d',by simp [h1],λk hk=>?_,by rw [List.map_append];rfl⟩
  rcases List.mem_append.mp hk with hk | hk
  ·exact h2 k hk
  ·rw [List.mem_singleton.mp hk];exact hq) (ρ:=[.sh (.lst (ns.map D.int)),.ow [],.sh (.int size),.sh (.int (v7 % 3)),.no,.no,.no,.no,.no,.no]) ⟨[],.no,.no,.no,.no,.no,.no,rfl,by simp,rfl⟩
 refine ⟨ks,by omega,by omega,h2,?_⟩
 have k10:q3F [.sh (.lst (ns.map D.int)),.ow [],.sh (.int size),.sh (.int (v7 % 3)),.no,.no,.no,.no,.no,.no]=.rt (.fr (ks.map q0N)):=by
  rw [q3F,q0P (ds:=rgD 0 n) (q1D (by rw [<-en];generalize ns.map D.int=nn at *; simp [p5]) (by omega)),e]
  simp [j2P]
 have k13:q5l [.sh (.lst (ns.map D.int)),.no,.no,.no,.no,.no,.no,.no,.no,.no]=.rt (.fr (ks.map q0N)):=by
  clear e
  generalize hG:q3F=G at *
  generalize ks.map q0N=kk at *
  generalize ns.map D.int=nn at *
  simp [q5l,q8J,q9F,p3,p7,ew,es,hG,k10]
 rw [j8w]
 exact q1H _ rfl k13
noncomputable def q1A (a:Nat×Int×Int):D:=.tup [.int a.1,.int a.2.1,.int a.2.2]
structure Sc where
 night:Int
 hands:Int
 benches:Int
 kilns:List (Int×Int×Int)
 kinds:List (List Sg)
 asked:List (Nat×Int×Int)
noncomputable def Sc.d (s:Sc):D:=.lst [.int s.night,.int s.hands,.int s.benches,.lst (s.kilns.map q17),.lst (s.kinds.map q0N),.lst (s.asked.map q1A)]
noncomputable def Sc.best (s:Sc):Int:=q0G true (s.kilns.map (·.1))
structure ScOk (s:Sc):Prop where
 night:1<=s.night/\s.night<=720
 hands:1<=s.hands/\s.hands<=6
 benches:1<=s.benches/\s.benches<=6
 kne:s.kilns≠[]
 klen:s.kilns.length<=3
 kall:∀k∈s.kilns,j8J k
 dne:1<=s.kinds.length
 dlen:s.kinds.length<=8
 dall:∀k∈s.kinds,j3h k
 alen:s.asked.length<=12
 aix:∀a∈s.asked,a.1 < s.kinds.length
 alv:∀a∈s.asked,(1<=a.2.1/\a.2.1<=60)/\a.2.1<=2*s.best
 adue:∀a∈s.asked,0<=a.2.2/\a.2.2<=s.night
theorem ScOk.best {s:Sc} (h:ScOk s):1<=s.best/\s.best<=30:=by
 obtain ⟨h1,_⟩:=q2z (is:=s.kilns.map (·.1)) (by simpa using h.kne)
 obtain ⟨r,hr,e⟩:=List.mem_map.mp h1
 unfold Sc.best
 rw [<-e]
 exact (h.kall r hr).room
theorem q3l (ks:List (Int×Int×Int)) (hk:ks≠[]) (hl:ks.length<=3) (f:Ev) (ρ:Ro) (h:f ρ=.ok (.lst (ks.map q17))):eCB q3Z (q0i (q1z (q0T (q1K f) [] (e2 ixD (q0e 0) (eC (.int 0))))) q0B) ρ=.ok (.int (q0G true (ks.map (·.1)))):=by
 have mx:=q33 (is:=ks.map (·.1)) (by simpa using hk)
 have fc:q0T (q1K f) [] (e2 ixD (q0e 0) (eC (.int 0))) ρ=.ok ((ks.map (·.1)).map D.int):=by
  rw [List.map_map]
  refine q1c (g:=q17) (by rw [q1K,h];rfl) (by omega) λk _=>?_
  simp [q1m,q17,q0S]
 rw [eCB,q0i,q1z,fc]
 exact mx
theorem q7n (ns:List Int) (hn:ns.length<=63) (night best:Int) (hb:1<=best/\best<=30) (kn:Nat) (hk:1<=kn) (kd:List D) (hkd:kd.length=kn) (hkl:kn<=1000) (j:Nat) (hj:j<=100) (row:List D) (hr:row.length < 1000) (s1 s3 a b c:Sl) :
 ∃q:Nat×Int×Int,(q.1 < kn/\((1<=q.2.1/\q.2.1<=60)/\q.2.1<=2*best)/\q.2.2=night)/\∃b' c',q0x (q1i 7) q6R [.sh (.lst (ns.map D.int)),s1,.sh (.int night),s3,.sh (.lst kd),.sh (.int best),.ow row,a,b,c] (.int j)=.nx [.sh (.lst (ns.map D.int)),s1,.sh (.int night),s3,.sh (.lst kd),.sh (.int best),.ow (row++[q1A q]),.sh (.int j),b',c']:=by
 have p1:=q1q ns hn (30+(j:Int)) (by omega) (by omega)
 generalize pk ns (30+(j:Int)).toNat=v at *
 have mo:q1x 2 best=true:=q10 (by decide)
 obtain ⟨m,hm,em⟩:∃m:Int,(1<=m/\m<=60/\m<=2*best)/\(if 2*best < 60 then 2*best else 60)=m:=⟨_,by split<;>omega,rfl⟩
 have m1:0 < m:=by omega
 have l0:0<=v / 8 % m:=Int.emod_nonneg _ (by omega)
 have l1:v / 8 % m < m:=Int.emod_lt_of_pos _ m1
 have k0:0 < (kn:Int):=by omega
 have k0':0 < kn:=by omega
 obtain ⟨x,hx,ex⟩:∃x:Nat,x < kn/\v % 8 % (kn:Int)=(x:Int):=by
  have h0:=Int.emod_nonneg (v % 8) (b:=(kn:Int)) (by omega)
  have h1:=Int.emod_lt_of_pos (v % 8) (b:=(kn:Int)) (by omega)
  exact ⟨(v % 8 % (kn:Int)).toNat,by omega,by omega⟩
 refine ⟨(x,1+v / 8 % m,night),⟨hx,by dsimp only;omega,rfl⟩,.sh (.int v),.sh (.int (1+v / 8 % m)),?_⟩
 have hr2:row.length < 1000000:=by omega
 generalize ns.map D.int=nn at *
 simp [q0x,q6R,j27,j3l,p1,mo,em,m1,hkd,k0,k0',ex,q1A,hr2]
theorem j1g (ns:List Int) (hn:ns.length<=63):∃s:Sc,ScOk s/\(∀a∈s.asked,a.2.2=s.night)/\∃ds,s.d=.lst ds/\j8V [.sh (.lst (ns.map D.int))]=.ok (.fr ds):=by
 have p0:=q1q ns hn 0 (by decide) (by decide)
 have p1:=q1q ns hn 1 (by decide) (by decide)
 have p4:=q1q ns hn 4 (by decide) (by decide)
 generalize pk ns (0:Int).toNat=v0 at *
 generalize pk ns (1:Int).toNat=v1 at *
 generalize pk ns (4:Int).toNat=v4 at *
 obtain ⟨ks,k1,k2,k3,ke⟩:=j0Q ns hn
 obtain ⟨kds,d1,d2,d3,de⟩:=j0I ns hn
 obtain ⟨night,en,hni⟩:=pick3 720 (1+v0 / 3 % 720) (1+v0 / 3 % 120) v0
 have hni:1<=night/\night<=720:=by omega
 obtain ⟨n,hn3,e4⟩:∃n:Nat,n<=12/\v4 % 13=(n:Int):=⟨(v4 % 13).toNat,by omega,by omega⟩
 have hb:1<=q0G true (ks.map (·.1))/\q0G true (ks.map (·.1))<=30:=by
  obtain ⟨h1,_⟩:=q2z (is:=ks.map (·.1)) (by simpa using k1)
  obtain ⟨r,hr,e⟩:=List.mem_map.mp h1
  rw [<-e]
  exact (k3 r hr).room
 obtain ⟨ρ',e,al,a,b,c,h1,h2,rfl⟩:=q7x (body:=q0x (q1i 7) q6R) (λj ρ=>∃(al:List (Nat×Int×Int)) (a b c:Sl),al.length=j/\(∀q∈al,q.1 < kds.length/\((1<=q.2.1/\q.2.1<=60)/\q.2.1<=2*q0G true (ks.map (·.1)))/\q.2.2=night)/\ρ=[.sh (.lst (ns.map D.int)),.sh (.int v1),.sh (.int night),.sh (.lst (ks.map q17)),.sh (.lst (kds.map q0N)),.sh (.int (q0G true (ks.map (·.1)))),.ow (al.map q1A),a,b,c]) n (λj ρ hj ⟨al,a,b,c,h1,h2,e⟩=>by
  obtain ⟨q,hq,b',c',eq⟩:=q7n ns hn night _ hb kds.length d1 (kds.map q0N) (by simp) (by omega) j (by omega) (al.map q1A) (by simp;omega) (.sh (.int v1)) (.sh (.lst (ks.map q17))) a b c
  refine ⟨_,by rw [e];exact eq,al++[q],_,b',c',by simp [h1],λk hk=>?_,by rw [List.map_append];rfl⟩
  rcases List.mem_append.mp hk with hk | hk
  ·exact h2 k hk
  ·rw [List.mem_singleton.mp hk];exact hq) (ρ:=[.sh (.lst (ns.map D.int)),.sh (.int v1),.sh (.int night),.sh (.lst (ks.map q17)),.sh (.lst (kds.map q0N)),.sh (.int (q0G true (ks.map (·.1)))),.ow [],.no,.no,.no]) ⟨[],.no,.no,.no,rfl,by simp,rfl⟩
 refine ⟨⟨night,1+v1 % 6,1+v1 / 6 % 6,ks,kds,al⟩,⟨hni,by dsimp only;omega,by dsimp only;omega,k1,k2,k3,d1,d2,d3,by dsimp only;omega,λa ha=>(h2 a ha).1,λa ha=>(h2 a ha).2.1,λa ha=>?_⟩,λa ha=>(h2 a ha).2.2,_,rfl,?_⟩
 ·have:=(h2 a ha).2.2
  dsimp only
  omega
 have k6:q9I [.sh (.lst (ns.map D.int)),.sh (.int v1),.sh (.int night),.sh (.lst (ks.map q17)),.sh (.lst (kds.map q0N)),.sh (.int (q0G true (ks.map (·.1)))),.ow [],.no,.no,.no]=.rt (.fr [.int night,.int (1+v1 % 6),.int (1+v1 / 6 % 6),.lst (ks.map q17),.lst (kds.map q0N),.lst (al.map q1A)]):=by
  rw [q9I,q0P (ds:=rgD 0 n) (q1D (by rw [<-e4];generalize ns.map D.int=nn at *; simp [p4]) (by omega)),e]
  generalize ns.map D.int=nn
  generalize ks.map q17=kk
  generalize kds.map q0N=dd
  generalize al.map q1A=aa
  simp [j3c,j18]
 have k8:q6q [.sh (.lst (ns.map D.int)),.sh (.int v1),.sh (.int night),.sh (.lst (ks.map q17)),.sh (.lst (kds.map q0N)),.no,.no,.no,.no,.no]=.rt (.fr [.int night,.int (1+v1 % 6),.int (1+v1 / 6 % 6),.lst (ks.map q17),.lst (kds.map q0N),.lst (al.map q1A)]):=by
  rw [q6q,q12 (q3l ks k1 k2 (q0e 3) _ rfl),Fl.nx_bind,j2M,q2B (v:=[]) rfl,Fl.nx_bind]
  exact k6
 clear e k6
 have k13:q5j [.sh (.lst (ns.map D.int)),.no,.no,.no,.no,.no,.no,.no,.no,.no]=.rt (.fr [.int night,.int (1+v1 % 6),.int (1+v1 / 6 % 6),.lst (ks.map q17),.lst (kds.map q0N),.lst (al.map q1A)]):=by
  generalize hG:q6q=G at *
  generalize ns.map D.int=nn at *
  generalize ks.map q17=kk at *
  generalize kds.map q0N=dd at *
  generalize al.map q1A=aa at *
  generalize q0G true (ks.map (·.1))=M at *
  simp [q5j,q7N,q9O,q89,j2a,p0,p1,en,ke,de,hG,k8]
 rw [j8V]
 exact q1H _ rfl k13
noncomputable def q1a (b:Nat×Int):D:=.tup [.int b.1,.int b.2]
noncomputable def toB (b:Int×Int×Int):Nat×Int:=((b.1-1).toNat,b.2.2)
theorem q6w (most:Int) (l:Int):∀(ls:List Int) (n:Int),q1P most n (ls++[l])=q1P most n ls++j0v most (n+ls.length) l
 | [],n=>by simp [q1P]
 | x::ls,n=>by
  rw [List.cons_append,q1P,q1P,q6w most l ls (n+1),List.append_assoc]
  congr 3
  simp;omega
theorem j4F {most ls:Int} {t:Nat} (h:1<=most) (h1:1<=ls) (ht:t < nb most ls):(t:Int)*most < ls:=by
 unfold nb at ht
 have:(t:Int)<=(ls-1) / most:=by omega
 have:=(Int.le_ediv_iff_mul_le (by omega)).mp this
 omega
theorem j5F {most ls:Int} (h:1<=most) (h1:1<=ls):ls<=(nb most ls:Int)*most:=by
 have h2:0<=(ls-1) / most:=Int.ediv_nonneg (by omega) (by omega)
 have e:(nb most ls:Int)=(ls-1) / most+1:=by unfold nb;omega
 rw [e]
 have:=Int.lt_ediv_add_one_mul_self (ls-1) (b:=most) (by omega)
 omega
noncomputable def Sc.bats (s:Sc):List (Int×Int×Int):=q1P s.best 1 (s.asked.map (·.2.1))
noncomputable def Sc.bs (s:Sc):List (Nat×Int):=s.bats.map toB
theorem j6C {most ls:Int} (h:1<=most) (h1:1<=ls) (h2:ls<=2*most):nb most ls<=2:=by
 unfold nb
 have:(ls-1) / most < 2:=(Int.ediv_lt_iff_lt_mul (by omega)).mpr (by omega)
 omega
theorem q6F (most:Int) (h:1<=most):∀(ls:List Int) (n:Int),(∀l∈ls,1<=l/\l<=2*most)->(q1P most n ls).length<=2*ls.length
 | [],n,_=>by simp [q1P]
 | l::ls,n,hl=>by
  have h1:=q6F most h ls (n+1) λx hx=>hl x (by simp [hx])
  have h2:=j6C h (hl l (by simp)).1 (hl l (by simp)).2
  rw [q1P,List.length_append,q3C,List.length_cons]
  omega
theorem ScOk.few {s:Sc} (h:ScOk s):s.bats.length<=24:=by
 have:=q6F s.best h.best.1 (s.asked.map (·.2.1)) 1 λl hl=>by
  obtain ⟨a,ha,rfl⟩:=List.mem_map.mp hl
  exact ⟨(h.alv a ha).1.1,(h.alv a ha).2⟩
 have:=h.alen
 unfold Sc.bats
 simp only [List.length_map] at *
 omega
theorem j1m {most n ls:Int} {b:Int×Int×Int} (hm:1<=most) (h1:1<=ls) (h:b∈j0v most n ls):b.1=n/\1<=b.2.2/\b.2.2<=most:=by
 obtain ⟨t,ht,rfl⟩:=List.mem_map.mp h
 have ht:t < nb most ls:=by simpa using ht
 have:=j4F hm h1 ht
 refine ⟨rfl,?_⟩
 dsimp only [q7k]
 split<;>omega
theorem q6m {most:Int} (hm:1<=most):∀{ls:List Int} {n:Int} {b:Int×Int×Int},(∀l∈ls,1<=l)->b∈q1P most n ls->(n<=b.1/\b.1 < n+ls.length)/\1<=b.2.2/\b.2.2<=most
 | [],n,b,_,h=>by simp [q1P] at h
 | l::ls,n,b,hl,h=>by
  rw [q1P] at h
  rcases List.mem_append.mp h with h | h
  ·obtain ⟨e,q⟩:=j1m hm (hl l (by simp)) h
   exact ⟨⟨by omega,by simp;omega⟩,q⟩
  ·obtain ⟨e,q⟩:=q6m hm (λx hx=>hl x (by simp [hx])) h
   exact ⟨⟨by omega,by simp;omega⟩,q⟩
theorem ScOk.bat {s:Sc} (h:ScOk s) {b:Int×Int×Int} (hb:b∈s.bats):∃k:Nat,b.1=(k:Int)+1/\k < s.asked.length/\1<=b.2.2/\b.2.2<=s.best:=by
 obtain ⟨⟨h1,h2⟩,q⟩:=q6m h.best.1 (λl hl=>by
  obtain ⟨a,ha,rfl⟩:=List.mem_map.mp hl
  exact (h.alv a ha).1.1) hb
 rw [List.length_map] at h2
 exact ⟨(b.1-1).toNat,by omega,by omega,q⟩
theorem q9z {s:Sc} (h:ScOk s) (k:Nat) (hk:k < s.asked.length) (row:List D) (hr:row.length<=1000) (a b:Sl) :
 ∃b',q0x (q1i 3) q4I [.sh s.d,.sh (.int s.best),.ow row,a,b] (.int k)=.nx [.sh s.d,.sh (.int s.best),.ow (row++((j0v s.best ((k:Int)+1) (s.asked[k]'hk).2.1).map toB).map q1a),.sh (.int k),b']:=by
 have at1:atI (s.asked.map q1A) (k:Int)=some (q1A (s.asked[k]'hk)):=q0z (by simp [hk])
 have lv:=(h.alv _ (List.getElem_mem hk)).1
 generalize s.asked[k]'hk=A at *
 have mo:=h.best
 have hnb:=j4R mo.1 lv.1 lv.2
 obtain ⟨ρ',e,rfl⟩:=whR (t:=tB2 (i2 λi j=>.bl (decide (j < i))) (q0e 4) (eC (.int 0))) (b:=q7R) (λt ρ=>ρ=[.sh s.d,.sh (.int s.best),.ow (row++(((List.range t).map (q7k s.best ((k:Int)+1) A.2.1)).map toB).map q1a),.sh (.int k),.sh (.int (A.2.1-(t:Int)*s.best))]) (nb s.best A.2.1) 100000 (by omega) (λt ρ ht e=>by
  subst e
  have lt:=j4F mo.1 lv.1 ht
  refine ⟨?_,_,?_,rfl⟩
  ·have:0 < A.2.1-(t:Int)*s.best:=by omega
   have this':(t:Int)*s.best < A.2.1:=by omega
   simp [this,this']
  ·rw [List.range_succ,List.map_append,List.map_append,List.map_append,<-List.append_assoc]
   have eq:(((([t]).map (q7k s.best ((k:Int)+1) A.2.1)).map toB).map q1a)=[.tup [.int k,.int (if A.2.1-(t:Int)*s.best < s.best then A.2.1-(t:Int)*s.best else s.best)]]:=by
    simp only [List.map_cons,List.map_nil,q7k,toB,q1a]
    rw [show A.2.1-(1+(t:Int)*s.best)+1=A.2.1-(t:Int)*s.best by omega,show (((k:Int)+1-1).toNat:Int)=k by omega]
   rw [eq]
   have em:((t+1:Nat):Int)*s.best=(t:Int)*s.best+s.best:=by rw [Int.natCast_add,Int.add_mul];simp
   rw [em]
   have hl:(row++(((List.range t).map (q7k s.best ((k:Int)+1) A.2.1)).map toB).map q1a).length < 1000000:=by simp;omega
   have e2:A.2.1-(t:Int)*s.best-s.best=A.2.1-((t:Int)*s.best+s.best):=by omega
   generalize row++(((List.range t).map (q7k s.best ((k:Int)+1) A.2.1)).map toB).map q1a=R at *
   generalize s.d=sd
   generalize s.best=M at *
   generalize (t:Int)*M=q at *
   simp [q7R,j3f,hl,e2]) (fun ρ e=>by
  subst e
  have ge:=j5F mo.1 lv.1
  have:¬0 < A.2.1-(nb s.best A.2.1:Int)*s.best:=by omega
  have this':¬(nb s.best A.2.1:Int)*s.best < A.2.1:=by omega
  simp [this,this']) (ρ:=[.sh s.d,.sh (.int s.best),.ow row,.sh (.int k),.sh (.int A.2.1)]) (by simp)
 refine ⟨.sh (.int (A.2.1-(nb s.best A.2.1:Int)*s.best)),?_⟩
 have b0:q0x (q1i 3) q4I [.sh s.d,.sh (.int s.best),.ow row,a,b] (.int k)=q6B [.sh s.d,.sh (.int s.best),.ow row,.sh (.int k),.sh (.int A.2.1)]:=by
  generalize hG:q6B=G
  unfold Sc.d
  generalize s.asked.map q1A=aa at *
  simp [q0x,q4I,at1,q1A,q0V,q2Q,hG]
 rw [b0,q6B]
 exact e
theorem j5o {s:Sc} (h:ScOk s):j8D [.sh s.d]=.ok (.fr (s.bs.map q1a)):=by
 have tk:∀j (hj:j < s.asked.length),q1P s.best 1 ((s.asked.take (j+1)).map (·.2.1))=q1P s.best 1 ((s.asked.take j).map (·.2.1))++j0v s.best ((j:Int)+1) (s.asked[j]'hj).2.1:=λj hj=>by
  rw [List.take_succ_eq_append_getElem hj,List.map_append]
  show q1P s.best 1 (_++[_])=_
  rw [q6w]
  congr 2
  simp;omega
 have few:=h.few
 obtain ⟨ρ',e,a,b,rfl⟩:=q7x (body:=q0x (q1i 3) q4I) (λj ρ=>∃(a b:Sl),ρ=[.sh s.d,.sh (.int s.best),.ow (((q1P s.best 1 ((s.asked.take j).map (·.2.1))).map toB).map q1a),a,b]) s.asked.length (λj ρ hj ⟨a,b,e⟩=>by
  have ll:=q5N s.best h.best.1 ((s.asked.take j).map (·.2.1)) 1 (λl hl=>by
   obtain ⟨x,hx,rfl⟩:=List.mem_map.mp hl
   exact (h.alv x (List.mem_of_mem_take hx)).1)
  have al:=h.alen
  obtain ⟨b',eq⟩:=q9z h j hj (((q1P s.best 1 ((s.asked.take j).map (·.2.1))).map toB).map q1a) (by simp at ll ⊢; omega) a b
  refine ⟨_,by rw [e];exact eq,.sh (.int j),b',?_⟩
  rw [tk j hj,List.map_append,List.map_append]) (ρ:=[.sh s.d,.sh (.int s.best),.ow [],.no,.no]) ⟨.no,.no,by simp [q1P]⟩
 rw [List.take_length] at e
 have al:=h.alen
 have k6:q9Y [.sh s.d,.sh (.int s.best),.ow [],.no,.no]=.rt (.fr (s.bs.map q1a)):=by
  rw [q9Y,q0P (ds:=rgD 0 s.asked.length) (q1D (by unfold Sc.d;simp [q2Q]) (by omega)),e]
  simp [j20,Sc.bs,Sc.bats]
 rw [j8D]
 refine q1H _ rfl ?_
 show q73 [.sh s.d,.no,.no,.no,.no]=_
 rw [q73,q12 (q3l s.kilns h.kne h.klen (e2 ixD (q0e 0) (eC (.int 3))) _ (by unfold Sc.d;simp [q2l])),Fl.nx_bind,j2z,q2B (v:=[]) rfl,Fl.nx_bind]
 exact k6
noncomputable abbrev Rr:=Int×List Int×Int
noncomputable def q0J (r:Rr):D:=.tup [.int r.1,.lst (r.2.1.map D.int),.int r.2.2]
noncomputable def Sc.kd (s:Sc) (k:Nat):List Sg:=s.kinds.getD (s.asked.getD k (0,0,0)).1 []
noncomputable def Sc.bk (s:Sc) (k:Nat):Prop:=(3:Int)∈(s.kd k).map (·.2.2.1)
structure RnOk (s:Sc) (k:Nat) (r:Rr):Prop where
 beg:0<=r.1/\r.1<=1440
 len:r.2.1.length=(s.kd k).length
 nn:∀x∈r.2.1,0<=x/\x<=1000
 dry:¬s.bk k->r.2.2=0
 oven:s.bk k->1<=r.2.2/\r.2.2<=s.kilns.length
theorem Sc.at_asked {s:Sc} {k:Nat} (hk:k < s.asked.length):atI (s.asked.map q1A) (k:Int)=some (q1A (s.asked.getD k (0,0,0))):=q0z (by simp [hk])
theorem ScOk.ix {s:Sc} (h:ScOk s) {k:Nat} (hk:k < s.asked.length):(s.asked.getD k (0,0,0)).1 < s.kinds.length:=by
 have:=h.aix _ (List.getElem_mem hk)
 rwa [List.getD_eq_getElem?_getD,List.getElem?_eq_getElem hk,Option.getD_some]
theorem ScOk.at_kind {s:Sc} (h:ScOk s) {k:Nat} (hk:k < s.asked.length):atI (s.kinds.map q0N) ((s.asked.getD k (0,0,0)).1:Int)=some (q0N (s.kd k)):=by
 have hx:=h.ix hk
 unfold Sc.kd
 generalize (s.asked.getD k (0,0,0)).1=x at *
 exact q0z (by simp [hx])
theorem ScOk.kd {s:Sc} (h:ScOk s) {k:Nat} (hk:k < s.asked.length):j3h (s.kd k):=by
 have hx:=h.ix hk
 unfold Sc.kd
 generalize (s.asked.getD k (0,0,0)).1=x at *
 rw [List.getD_eq_getElem?_getD,List.getElem?_eq_getElem hx,Option.getD_some]
 exact h.dall _ (List.getElem_mem hx)
theorem ScOk.look {s:Sc} (h:ScOk s) {b:Nat×Int} (hb:b.1 < s.asked.length) (ρ:Ro) (h1:ρ[1]?=some (.sh s.d)) (h2:ρ[2]?=some (.sh (q1a b))) :
 e2 ixD (e2 ixD (q0e 1) (eC (.int 4))) (e2 ixD (e2 ixD (e2 ixD (q0e 1) (eC (.int 5))) (e2 ixD (q0e 2) (eC (.int 0)))) (eC (.int 0))) ρ=.ok (q0N (s.kd b.1)):=by
 have a1:=Sc.at_asked hb
 have a2:=h.at_kind hb
 unfold Sc.d at h1
 unfold q1a at h2
 generalize s.asked.getD b.1 (0,0,0)=A at *
 generalize s.asked.map q1A=aa at *
 generalize s.kinds.map q0N=kk at *
 simp [h1,h2,a1,a2,q1A,q0S,q6Q,q2Q]
theorem j37 (ns:List Int) (hn:ns.length<=63) {s:Sc} (h:ScOk s) {b:Nat×Int} (hb:b.1 < s.asked.length) (k:Nat) (hk:k<=1000) :
 ∃o:Int,(¬s.bk b.1->o=0)/\(s.bk b.1->1<=o/\o<=s.kilns.length)/\j5A [.sh (.lst (ns.map D.int)),.sh s.d,.sh (q1a b),.sh (.int k)]=.ok (.sh (.int o)):=by
 have p1:=q1q ns hn (50+(k:Int)) (by omega) (by omega)
 have p2:=q1q ns hn 51 (by decide) (by decide)
 generalize pk ns (50+(k:Int)).toNat=v at *
 generalize pk ns (51:Int).toNat=u at *
 have fc:q0T (q1K (e2 ixD (e2 ixD (q0e 1) (eC (.int 4))) (e2 ixD (e2 ixD (e2 ixD (q0e 1) (eC (.int 5))) (e2 ixD (q0e 2) (eC (.int 0)))) (eC (.int 0))))) [] (e2 ixD (q0e 0) (eC (.int 2))) [.sh (.lst (ns.map D.int)),.sh s.d,.sh (q1a b),.sh (.int k),.no,.no]=.ok (((s.kd b.1).map (·.2.2.1)).map D.int):=by
  rw [List.map_map]
  refine q1c (g:=q40) (by rw [q1K,h.look hb _ rfl rfl];rfl) (by have:=(h.kd hb).six;omega) λx _=>?_
  simp [q1m,q40,q1M]
 have ind:=j1d true 3 ((s.kd b.1).map (·.2.2.1))
 by_cases hbk:s.bk b.1
 ·have hd:decide ((3:Int)∈(s.kd b.1).map (·.2.2.1))=true:=decide_eq_true hbk
  rw [hd] at ind
  have back:∀j:Nat,(1:Int)+(j:Int)-1=(j:Int):=λj=>by omega
  have n0':0 < s.kilns.length:=List.length_pos_iff.mpr h.kne
  have n0:0 < (s.kilns.length:Int):=by have:=List.length_pos_iff.mpr h.kne;omega
  obtain ⟨j,hj,ej⟩:∃j:Nat,j < s.kilns.length/\v % (s.kilns.length:Int)=(j:Int):=by
   have h0:=Int.emod_nonneg v (b:=(s.kilns.length:Int)) (by omega)
   have h1:=Int.emod_lt_of_pos v (b:=(s.kilns.length:Int)) (by omega)
   exact ⟨(v % (s.kilns.length:Int)).toNat,by omega,by omega⟩
  have a1:atI (s.kilns.map q17) (j:Int)=some (q17 (s.kilns[j]'hj)):=q0z (by simp [hj])
  generalize s.kilns[j]'hj=K at *
  have mx:=q33 (is:=s.kilns.map (·.1)) (by simpa using h.kne)
  obtain ⟨x,hx,ex⟩:=q5h (q0G true (s.kilns.map (·.1))) (s.kilns.map (·.1)) (q2z (is:=s.kilns.map (·.1)) (by simpa using h.kne)).1
  rw [List.length_map] at hx
  have fr:∀o:Sl,q0T (q1K (e2 ixD (q0e 1) (eC (.int 3)))) [] (e2 ixD (q0e 0) (eC (.int 0))) [.sh (.lst (ns.map D.int)),.sh s.d,.sh (q1a b),.sh (.int k),o,.no]=.ok ((s.kilns.map (·.1)).map D.int):=λo=>by
   rw [List.map_map]
   refine q1c (g:=q17) (by unfold Sc.d;simp [q2l]) (by have:=h.klen;omega) λx _=>?_
   simp [q1m,q17,q0S]
  have k3:∀o:Sl,∃z,q4Y [.sh (.lst (ns.map D.int)),.sh s.d,.sh (q1a b),.sh (.int k),o,.no]=.nx [.sh (.lst (ns.map D.int)),.sh s.d,.sh (q1a b),.sh (.int k),.sh (.int (1+(x:Int))),z]:=λo=>by
   refine ⟨.sh (.lst ((s.kilns.map (·.1)).map D.int)),?_⟩
   rw [q4Y,q12 (v:=.lst ((s.kilns.map (·.1)).map D.int)) (by rw [q1z,fr,Out.ok_bind]),Fl.nx_bind]
   generalize q0G true (s.kilns.map (·.1))=M at *
   generalize (s.kilns.map (·.1)).map D.int=rr at *
   simp [j3O,mx,ex]
  by_cases h5:K.1 < b.2/\0 < u % 5
  ·refine ⟨1+(x:Int),λz=>absurd hbk z,λ_=>by omega,?_⟩
   obtain ⟨z,e3⟩:=k3 (.sh (.int (1+(j:Int))))
   rw [j5A]
   refine q1H _ rfl ?_
   show q3a [.sh (.lst (ns.map D.int)),.sh s.d,.sh (q1a b),.sh (.int k),.no,.no]=_
   rw [q3a]
   generalize hC:q0T (q1K (e2 ixD (e2 ixD (q0e 1) (eC (.int 4))) (e2 ixD (e2 ixD (e2 ixD (q0e 1) (eC (.int 5))) (e2 ixD (q0e 2) (eC (.int 0)))) (eC (.int 0))))) [] (e2 ixD (q0e 0) (eC (.int 2)))=C at *
   generalize hG:q4Y=G at *
   have h51:=h5.1
   have h52:=h5.2
   have sl:(s.kilns.map q17).length=s.kilns.length:=by simp
   clear fr k3 mx ex
   generalize ((s.kd b.1).map (·.2.2.1)).map D.int=ww at *
   generalize hsd:s.d=sd at *
   unfold Sc.d at hsd
   generalize s.kilns.map q17=kk at *
   generalize s.kinds.map q0N=dd at *
   generalize s.asked.map q1A=aa at *
   subst hsd
   generalize s.kilns.length=L at *
   generalize ns.map D.int=nn at *
   unfold q1a q17 at *
   simp [q6i,q54,q56,hG,fc,ind,p1,p2,sl,n0,n0',back,ej,a1,q0S,q0V,q2l,h51,h52,e3]
  ·refine ⟨1+(j:Int),λz=>absurd hbk z,λ_=>by omega,?_⟩
   rw [j5A]
   refine q1H _ rfl ?_
   show q3a [.sh (.lst (ns.map D.int)),.sh s.d,.sh (q1a b),.sh (.int k),.no,.no]=_
   rw [q3a]
   generalize hC:q0T (q1K (e2 ixD (e2 ixD (q0e 1) (eC (.int 4))) (e2 ixD (e2 ixD (e2 ixD (q0e 1) (eC (.int 5))) (e2 ixD (q0e 2) (eC (.int 0)))) (eC (.int 0))))) [] (e2 ixD (q0e 0) (eC (.int 2)))=C at *
   generalize hG:q4Y=G at *
   have sl:(s.kilns.map q17).length=s.kilns.length:=by simp
   clear fr k3 mx ex
   generalize ((s.kd b.1).map (·.2.2.1)).map D.int=ww at *
   generalize hsd:s.d=sd at *
   unfold Sc.d at hsd
   generalize s.kilns.map q17=kk at *
   generalize s.kinds.map q0N=dd at *
   generalize s.asked.map q1A=aa at *
   subst hsd
   generalize s.kilns.length=L at *
   generalize ns.map D.int=nn at *
   unfold q1a q17 at *
   by_cases h51:K.1 < b.2
   ·have h52:¬0 < u % 5:=λz=>h5 ⟨h51,z⟩
    simp [q6i,q54,q56,hG,fc,ind,p1,p2,sl,n0,n0',back,ej,a1,q0S,q0V,q2l,h51,h52]
   ·simp [q6i,q54,q56,hG,fc,ind,p1,p2,sl,n0,n0',back,ej,a1,q0S,q0V,q2l,h51]
 ·have hd:decide ((3:Int)∈(s.kd b.1).map (·.2.2.1))=false:=decide_eq_false hbk
  rw [hd] at ind
  refine ⟨0,λ_=>rfl,λz=>absurd z hbk,?_⟩
  rw [j5A]
  refine q1H _ rfl ?_
  show q3a [.sh (.lst (ns.map D.int)),.sh s.d,.sh (q1a b),.sh (.int k),.no,.no]=_
  rw [q3a]
  generalize hC:q0T (q1K (e2 ixD (e2 ixD (q0e 1) (eC (.int 4))) (e2 ixD (e2 ixD (e2 ixD (q0e 1) (eC (.int 5))) (e2 ixD (q0e 2) (eC (.int 0)))) (eC (.int 0))))) [] (e2 ixD (q0e 0) (eC (.int 2)))=C at *
  generalize ((s.kd b.1).map (·.2.2.1)).map D.int=ww at *
  simp [j2X,fc,ind]
theorem j05 (ns:List Int) (hn:ns.length<=63) (kd:List Sg) (hk:j3h kd) (k j:Nat) (hk1:k<=1000) (hj:j < kd.length) (s1 s2 s4:Sl) (row:List D) (hr:row.length < 1000) (a b c:Sl) :
 ∃x:Int,(0<=x/\x<=1000)/\∃b' c',q0x (q1i 7) q4B [.sh (.lst (ns.map D.int)),s1,s2,.sh (.int k),s4,.sh (q0N kd),.ow row,a,b,c] (.int j)=.nx [.sh (.lst (ns.map D.int)),s1,s2,.sh (.int k),s4,.sh (q0N kd),.ow (row++[.int x]),.sh (.int j),b',c']:=by
 have j6:=hk.six
 have p1:=q1q ns hn (40+3*(k:Int)+(j:Int)) (by omega) (by omega)
 have p2:=q1q ns hn 19 (by decide) (by decide)
 generalize pk ns (40+3*(k:Int)+(j:Int)).toNat=v at *
 generalize pk ns (19:Int).toNat=u at *
 have mo:q1x 3 (k:Int)=true:=q10 (by decide)
 have mo2:q1x 2 (k:Int)=true:=q10 (by decide)
 have at1:atI (kd.map q40) (j:Int)=some (q40 (kd[j]'hj)):=q0z (by simp [hj])
 have so:=hk.all _ (List.getElem_mem hj)
 generalize kd[j]'hj=S at *
 have l1:=so.least
 have l2:=so.most
 have d1:0 < S.2.1-S.1+1:=by omega
 have m0:0<=v % (S.2.1-S.1+1):=Int.emod_nonneg _ (by omega)
 have m1:v % (S.2.1-S.1+1) < S.2.1-S.1+1:=Int.emod_lt_of_pos _ d1
 have hr2:row.length < 1000000:=by omega
 by_cases h:u % 97=2*(k:Int)+(j:Int)
 ·obtain ⟨m,hm,em⟩:∃m:Int,(0<=m/\m<=1000)/\(if S.1-1-v % 3 > 0 then S.1-1-v % 3 else 0)=m:=⟨_,by split<;>omega,rfl⟩
  have em':(if 0 < S.1-1-v % 3 then S.1-1-v % 3 else 0)=m:=em
  have em3:(if v % 3 < S.1-1 then S.1-1-v % 3 else 0)=m:=by rw [<-em];split<;>split<;>omega
  obtain ⟨x,ex,hx⟩:=pick2 m (S.2.1+1+v % 3) (v / 3)
  refine ⟨x,by omega,.sh (.int v),.sh (.int x),?_⟩
  unfold q0N
  generalize kd.map q40=kk at *
  generalize ns.map D.int=nn at *
  unfold q40 at at1
  generalize S.1=A at *
  generalize S.2.1=B at *
  simp [q0x,q4B,q79,j0s,q84,j14,p1,p2,mo,mo2,at1,q0S,q0V,d1,h,em,em',em3,ex,hr2]
 ·refine ⟨S.1+v % (S.2.1-S.1+1),by omega,.sh (.int v),.sh (.int (S.1+v % (S.2.1-S.1+1))),?_⟩
  unfold q0N
  generalize kd.map q40=kk at *
  generalize ns.map D.int=nn at *
  unfold q40 at at1
  generalize S.1=A at *
  generalize S.2.1=B at *
  simp [q0x,q4B,q79,j0s,q84,p1,p2,mo,mo2,at1,q0S,q0V,d1,h,hr2]
theorem j5c (ns:List Int) (hn:ns.length<=63) {s:Sc} (h:ScOk s) {b:Nat×Int} (hb:b.1 < s.asked.length) (k:Nat) (hk:k<=1000) (beg:Int) (h0:0<=beg) :
 ∃r:Rr,RnOk s b.1 r/\j8h [.sh (.lst (ns.map D.int)),.sh s.d,.sh (q1a b),.sh (.int k),.sh (.int beg)]=.ok (.sh (q0J r)):=by
 obtain ⟨o,o1,o2,oe⟩:=j37 ns hn h hb k hk
 have kk:=h.kd hb
 have k6:=kk.six
 obtain ⟨ρ',e,ls,a,b',c,h1,h2,rfl⟩:=q7x (body:=q0x (q1i 7) q4B) (λj ρ=>∃(ls:List Int) (a b' c:Sl),ls.length=j/\(∀x∈ls,0<=x/\x<=1000)/\ρ=[.sh (.lst (ns.map D.int)),.sh s.d,.sh (q1a b),.sh (.int k),.sh (.int beg),.sh (q0N (s.kd b.1)),.ow (ls.map D.int),a,b',c]) (s.kd b.1).length (λj ρ hj ⟨ls,a,b',c,h1,h2,e⟩=>by
  obtain ⟨q,hq,b2,c2,eq⟩:=j05 ns hn (s.kd b.1) kk k j hk hj (.sh s.d) (.sh (q1a b)) (.sh (.int beg)) (ls.map D.int) (by simp;omega) a b' c
  refine ⟨_,by rw [e];exact eq,ls++[q],_,b2,c2,by simp [h1],λk hk=>?_,by rw [List.map_append];rfl⟩
  rcases List.mem_append.mp hk with hk | hk
  ·exact h2 k hk
  ·rw [List.mem_singleton.mp hk];exact hq) (ρ:=[.sh (.lst (ns.map D.int)),.sh s.d,.sh (q1a b),.sh (.int k),.sh (.int beg),.sh (q0N (s.kd b.1)),.ow [],.no,.no,.no]) ⟨[],.no,.no,.no,rfl,by simp,rfl⟩
 obtain ⟨m,hm,em⟩:∃m:Int,(0<=m/\m<=1440)/\(if 1440 < beg then 1440 else beg)=m:=⟨_,by split<;>omega,rfl⟩
 refine ⟨(m,ls,o),⟨hm,h1,h2,o1,o2⟩,?_⟩
 have k8:q71 [.sh (.lst (ns.map D.int)),.sh s.d,.sh (q1a b),.sh (.int k),.sh (.int beg),.sh (q0N (s.kd b.1)),.ow [],.no,.no,.no]=.rt (.sh (q0J (m,ls,o))):=by
  rw [q71,q0P (ds:=rgD 0 (s.kd b.1).length) (q1D (by unfold q0N;simp) (by omega)),e]
  generalize s.d=sd at *
  generalize q1a b=bb at *
  generalize q0N (s.kd b.1)=dd at *
  unfold q0J
  generalize ls.map D.int=ll at *
  generalize ns.map D.int=nn at *
  simp [j16,j10,oe,em]
 rw [j8h]
 refine q1H _ rfl ?_
 show q5b [.sh (.lst (ns.map D.int)),.sh s.d,.sh (q1a b),.sh (.int k),.sh (.int beg),.no,.no,.no,.no,.no]=_
 rw [q5b,q12 (h.look hb _ rfl rfl),Fl.nx_bind,j21,q2B (v:=[]) rfl,Fl.nx_bind]
 exact k8
noncomputable def PlOk (s:Sc) (rs:List Rr):Prop:=∀(i:Nat) (b:Nat×Int) (r:Rr),s.bs[i]?=some b->rs[i]?=some r->RnOk s b.1 r
theorem j6x {s:Sc} (h:ScOk s) {b:Nat×Int} (hb:b∈s.bs):b.1 < s.asked.length:=by
 obtain ⟨x,hx,rfl⟩:=List.mem_map.mp hb
 obtain ⟨k,e,hk,_⟩:=h.bat hx
 show (x.1-1).toNat < _
 omega
theorem lane3 (q0 q1 q2:Int) (l:Int) (hl:l=0∨l=1∨l=2) (h0:0<=q0) (h1:0<=q1) (h2:0<=q2):∃e,0<=e/\atI [D.int q0,D.int q1,D.int q2] l=some (.int e):=by
 rcases hl with rfl | rfl | rfl
 ·exact ⟨q0,h0,q0S _ _⟩
 ·exact ⟨q1,h1,q0V _ _ _⟩
 ·exact ⟨q2,h2,q1M _ _ _ _⟩
theorem set3 (q0 q1 q2 v:Int) (l:Int) (hl:l=0∨l=1∨l=2) (h0:0<=q0) (h1:0<=q1) (h2:0<=q2) (hv:0<=v):∃f0 f1 f2,(0<=f0/\0<=f1/\0<=f2)/\j0T [D.int q0,D.int q1,D.int q2] l (.int v)=some [.int f0,.int f1,.int f2]:=by
 rcases hl with rfl | rfl | rfl
 ·exact ⟨v,q1,q2,⟨hv,h1,h2⟩,rfl⟩
 ·exact ⟨q0,v,q2,⟨h0,hv,h2⟩,rfl⟩
 ·exact ⟨q0,q1,v,⟨h0,h1,hv⟩,rfl⟩
theorem q8w (ns:List Int) (hn:ns.length<=63) {s:Sc} (h:ScOk s) (k:Nat) (hk:k < s.bs.length) (rs:List Rr) (hr:rs.length < 1000) (q0 q1 q2 mode:Int) (hm:mode=0∨mode=1∨mode=2∨mode=3) (h0:0<=q0) (h1:0<=q1) (h2:0<=q2) (a b c d f:Sl) :
 ∃r,RnOk s (s.bs[k]'hk).1 r/\∃f0 f1 f2,(0<=f0/\0<=f1/\0<=f2)/\∃b' c' d' f',q0x (q1i 6) q3m [.sh (.lst (ns.map D.int)),.sh s.d,.sh (.lst (s.bs.map q1a)),.ow (rs.map q0J),.ow [.int q0,.int q1,.int q2],.sh (.int mode),a,b,c,d,f] (.int k) =
  .nx [.sh (.lst (ns.map D.int)),.sh s.d,.sh (.lst (s.bs.map q1a)),.ow ((rs++[r]).map q0J),.ow [.int f0,.int f1,.int f2],.sh (.int mode),.sh (.int k),b',c',d',f']:=by
 have few:=h.few
 have hk24:k < 24:=by have:s.bs.length=s.bats.length:=by simp [Sc.bs]
                      omega
 have p1:=q1q ns hn (14+(k:Int)) (by omega) (by omega)
 generalize pk ns (14+(k:Int)).toNat=v at *
 have at1:atI (s.bs.map q1a) (k:Int)=some (q1a (s.bs[k]'hk)):=q0z (by simp [hk])
 have hb:=j6x h (List.getElem_mem hk)
 generalize s.bs[k]'hk=B at *
 obtain ⟨lane,el,hl⟩:∃lane:Int,atI [D.int 0,D.int ((k:Int) % 2),D.int ((k:Int) % 3),D.int 0] mode=some (.int lane)/\(lane=0∨lane=1∨lane=2):=by
  rcases hm with rfl | rfl | rfl | rfl
  ·exact ⟨0,q0S _ _,.inl rfl⟩
  ·exact ⟨(k:Int) % 2,q0V _ _ _,by omega⟩
  ·exact ⟨(k:Int) % 3,q1M _ _ _ _,by omega⟩
  ·exact ⟨0,q2l _ _ _ _ _,.inl rfl⟩
 obtain ⟨e,he,ee⟩:=lane3 q0 q1 q2 lane hl h0 h1 h2
 obtain ⟨x,ex,hx⟩:=pick4 0 1 8 (v % 31) (v / 4)
 have hx:0<=x:=by omega
 have n0:0 < s.night+1:=by have:=h.night;omega
 have hv0:0<=v % (s.night+1):=Int.emod_nonneg _ (by omega)
 obtain ⟨beg,hb0,k6⟩:∃beg:Int,0<=beg/\q0x (q1i 6) q3m [.sh (.lst (ns.map D.int)),.sh s.d,.sh (.lst (s.bs.map q1a)),.ow (rs.map q0J),.ow [.int q0,.int q1,.int q2],.sh (.int mode),a,b,c,d,f] (.int k)=q4R [.sh (.lst (ns.map D.int)),.sh s.d,.sh (.lst (s.bs.map q1a)),.ow (rs.map q0J),.ow [.int q0,.int q1,.int q2],.sh (.int mode),.sh (.int k),.sh (.int v),.sh (.int lane),.sh (.int beg),f]:=by
  generalize hG:q4R=G
  unfold Sc.d
  generalize s.bs.map q1a=bb at *
  generalize rs.map q0J=rr at *
  generalize s.kilns.map q17=kk at *
  generalize s.kinds.map q0N=dd at *
  generalize s.asked.map q1A=aa at *
  generalize ns.map D.int=nn at *
  by_cases m3:mode=3
  ·refine ⟨v % (s.night+1),hv0,?_⟩
   subst m3
   simp [q0x,q3m,q8h,q9L,q8g,j2K,p1,el,ee,ex,q0S,n0,hG]
  ·refine ⟨e+x,by omega,?_⟩
   simp [q0x,q3m,q8h,q9L,q8g,p1,el,ee,ex,m3,hG]
 obtain ⟨r,hr1,er⟩:=j5c ns hn h hb k (by omega) beg hb0
 have sm:=q3U (is:=r.2.1) (by have:=hr1.len;have:=(h.kd hb).six;omega) λi hi=>by have:=hr1.nn i hi;omega
 have s0:0<=isum r.2.1:=j4I λi hi=>(hr1.nn i hi).1
 obtain ⟨f0,f1,f2,hf,ef⟩:=set3 q0 q1 q2 (r.1+isum r.2.1) lane hl h0 h1 h2 (by have:=hr1.beg;omega)
 refine ⟨r,hr1,f0,f1,f2,hf,.sh (.int v),.sh (.int lane),.sh (.int beg),.sh (q0J r),?_⟩
 have hr2:(rs.map q0J).length < 1000000:=by simp;omega
 have mp:(rs++[r]).map q0J=rs.map q0J++[q0J r]:=by simp
 rw [k6,mp]
 clear k6 mp
 have c0:ixD (q0J r) (.int 0)=.ok (.int r.1):=by simp [q0J,q0S]
 have c1:ixD (q0J r) (.int 1)=.ok (.lst (r.2.1.map D.int)):=by simp [q0J,q0V]
 have k4:q4R [.sh (.lst (ns.map D.int)),.sh s.d,.sh (.lst (s.bs.map q1a)),.ow (rs.map q0J),.ow [.int q0,.int q1,.int q2],.sh (.int mode),.sh (.int k),.sh (.int v),.sh (.int lane),.sh (.int beg),f]=q4G [.sh (.lst (ns.map D.int)),.sh s.d,.sh (.lst (s.bs.map q1a)),.ow (rs.map q0J),.ow [.int q0,.int q1,.int q2],.sh (.int mode),.sh (.int k),.sh (.int v),.sh (.int lane),.sh (.int beg),.sh (q0J r)]:=by
  generalize hG:q4G=G
  generalize s.bs.map q1a=bb at *
  generalize rs.map q0J=rr at *
  generalize ns.map D.int=nn at *
  generalize s.d=sd at *
  generalize q0J r=R at *
  simp [q4R,at1,er,hG]
 have k3:q4G [.sh (.lst (ns.map D.int)),.sh s.d,.sh (.lst (s.bs.map q1a)),.ow (rs.map q0J),.ow [.int q0,.int q1,.int q2],.sh (.int mode),.sh (.int k),.sh (.int v),.sh (.int lane),.sh (.int beg),.sh (q0J r)]=j0c [.sh (.lst (ns.map D.int)),.sh s.d,.sh (.lst (s.bs.map q1a)),.ow (rs.map q0J),.ow [.int f0,.int f1,.int f2],.sh (.int mode),.sh (.int k),.sh (.int v),.sh (.int lane),.sh (.int beg),.sh (q0J r)]:=by
  have ev:e2 q1b (e2 ixD (q0e 10) (eC (.int 0))) (eCB q8U (q0i (e2 ixD (q0e 10) (eC (.int 1))) q0B)) [.sh (.lst (ns.map D.int)),.sh s.d,.sh (.lst (s.bs.map q1a)),.ow (rs.map q0J),.ow [.int q0,.int q1,.int q2],.sh (.int mode),.sh (.int k),.sh (.int v),.sh (.int lane),.sh (.int beg),.sh (q0J r)]=.ok (.int (r.1+isum r.2.1)):=by
   show Out.bind (Out.bind (Out.ok (q0J r)) λx=>Out.bind (.ok (.int 0)) (ixD x)) _=_
   rw [Out.ok_bind,Out.ok_bind,c0,Out.ok_bind]
   show Out.bind (Out.bind (Out.bind (Out.bind (Out.ok (q0J r)) λx=>Out.bind (.ok (.int 1)) (ixD x)) _) _) _=_
   rw [Out.ok_bind,Out.ok_bind,c1,Out.ok_bind]
   show Out.bind (q8U [.lst (r.2.1.map D.int)]) _=_
   rw [sm]
   rfl
  rw [q4G,q8D,ev,Out.ok_fl]
  show Fl.bind (match j0T _ lane _ with | some ds'=>_ | none=>_) _=_
  rw [ef]
  rfl
 rw [k4,k3]
 generalize s.bs.map q1a=bb at *
 generalize rs.map q0J=rr at *
 generalize ns.map D.int=nn at *
 generalize s.d=sd at *
 generalize q0J r=R at *
 simp [j0c,hr2]
theorem j5d (ns:List Int) (hn:ns.length<=63) {s:Sc} (h:ScOk s):∃rs:List Rr,rs.length=s.bs.length/\PlOk s rs/\j76 [.sh (.lst (ns.map D.int)),.sh s.d,.sh (.lst (s.bs.map q1a))]=.ok (.fr (rs.map q0J)):=by
 have few:=h.few
 have bl:s.bs.length=s.bats.length:=by simp [Sc.bs]
 have p:=q1q ns hn 13 (by decide) (by decide)
 generalize pk ns (13:Int).toNat=v at *
 obtain ⟨mode,hm,em⟩:∃mode:Int,(mode=0∨mode=1∨mode=2∨mode=3)/\v % 4=mode:=⟨v % 4,by omega,rfl⟩
 obtain ⟨ρ',e,rs,q0,q1,q2,a,b,c,d,f,h1,h2,_,rfl⟩:=q7x (body:=q0x (q1i 6) q3m) (λj ρ=>∃(rs:List Rr) (q0 q1 q2:Int) (a b c d f:Sl),rs.length=j/\PlOk s rs/\(0<=q0/\0<=q1/\0<=q2)/\ρ=[.sh (.lst (ns.map D.int)),.sh s.d,.sh (.lst (s.bs.map q1a)),.ow (rs.map q0J),.ow [.int q0,.int q1,.int q2],.sh (.int mode),a,b,c,d,f]) s.bs.length (λj ρ hj ⟨rs,q0,q1,q2,a,b,c,d,f,h1,h2,h3,e⟩=>by
  obtain ⟨r,hr,f0,f1,f2,hf,b',c',d',f',eq⟩:=q8w ns hn h j hj rs (by omega) q0 q1 q2 mode hm h3.1 h3.2.1 h3.2.2 a b c d f
  refine ⟨_,by rw [e];exact eq,rs++[r],f0,f1,f2,.sh (.int j),b',c',d',f',by simp [h1],λi b q hb hq=>?_,hf,rfl⟩
  by_cases hi:i < rs.length
  ·rw [List.getElem?_append_left hi] at hq
   exact h2 i b q hb hq
  ·rw [List.getElem?_append_right (by omega)] at hq
   have:i-rs.length=0:=by
    refine Classical.byContradiction λz=>?_
    rw [List.getElem?_eq_none (by simp;omega)] at hq
    cases hq
   rw [this] at hq
   have hq:r=q:=by simpa using hq
   subst hq
   have ij:i=j:=by omega
   subst ij
   rw [List.getElem?_eq_getElem hj] at hb
   cases hb
   exact hr) (ρ:=[.sh (.lst (ns.map D.int)),.sh s.d,.sh (.lst (s.bs.map q1a)),.ow [],.ow [.int 0,.int 0,.int 0],.sh (.int mode),.no,.no,.no,.no,.no]) ⟨[],0,0,0,.no,.no,.no,.no,.no,rfl,λi b r _ z=>by simp at z,by decide,rfl⟩
 refine ⟨rs,h1,h2,?_⟩
 have k10:q4b [.sh (.lst (ns.map D.int)),.sh s.d,.sh (.lst (s.bs.map q1a)),.ow [],.ow [.int 0,.int 0,.int 0],.sh (.int mode),.no,.no,.no,.no,.no]=.rt (.fr (rs.map q0J)):=by
  rw [q4b,q0P (ds:=rgD 0 s.bs.length) (q1D (by simp) (by omega)),e]
  simp [j3C]
 have k13:q5o [.sh (.lst (ns.map D.int)),.sh s.d,.sh (.lst (s.bs.map q1a)),.no,.no,.no,.no,.no,.no,.no,.no]=.rt (.fr (rs.map q0J)):=by
  clear e
  generalize hG:q4b=G at *
  generalize s.bs.map q1a=bb at *
  generalize rs.map q0J=rr at *
  generalize ns.map D.int=nn at *
  generalize s.d=sd at *
  simp [q5o,q7O,q8Q,p,em,hG,k10]
 rw [j76]
 exact q1H _ rfl k13
noncomputable def q43 (w:Int):Str:=if w=0 then "nothing" else if w=1 then "hands" else if w=2 then "bench" else "oven"
noncomputable def q3b (x:Sg):D:=.ins 14 [.str "stage",.int x.1,.int x.2.1,.str (q43 x.2.2.1),.int x.2.2.2]
theorem j5f {w:Int} (h:0<=w/\w<=3):atI [D.str "nothing",D.str "hands",D.str "bench",D.str "oven"] w=some (.str (q43 w)):=by
 have:w=0∨w=1∨w=2∨w=3:=by omega
 rcases this with rfl | rfl | rfl | rfl
 ·exact q0S _ _
 ·exact q0V _ _ _
 ·exact q1M _ _ _ _
 ·exact q2l _ _ _ _ _
theorem j4r {w:Int} (h:0<=w/\w<=3):wOk (q43 w)=true:=by
 have:w=0∨w=1∨w=2∨w=3:=by omega
 rcases this with rfl | rfl | rfl | rfl<;>decide +kernel
theorem j1w:Wd 12 (Str.ofString "stage"):=⟨⟨by decide +kernel,by decide +kernel⟩,by decide +kernel,by decide +kernel⟩
noncomputable def Sc.brs (s:Sc) (zs:List Str):List (Str×List D):=List.zipWith (λz k=>(z,k.map q3b)) zs s.kinds
theorem q5q {s:Sc} {zs:List Str} (hz:zs.length=s.kinds.length):(s.brs zs).length=s.kinds.length:=by simp [Sc.brs,hz]
theorem j4x {s:Sc} {zs:List Str} (hz:zs.length=s.kinds.length):(s.brs zs).map (·.1)=zs:=by
 unfold Sc.brs
 rw [List.map_zipWith]
 show List.zipWith (λz _=>z) zs s.kinds=zs
 have:∀(zs:List Str) (ks:List (List Sg)),zs.length=ks.length->List.zipWith (λz _=>z) zs ks=zs:=by
  intro zs
  induction zs with
  | nil=>intro ks _;rfl
  | cons z zs ih=>
   intro ks h
   cases ks with
   | nil=>simp at h
   | cons k ks=>rw [List.zipWith_cons_cons,ih ks (by simpa using h)]
 exact this zs s.kinds hz
theorem j25 {s:Sc} {zs:List Str} {k:Nat} (hz:zs.length=s.kinds.length) (hk:k < s.kinds.length):(s.brs zs)[k]?=some (zs.getD k Str.empty,(s.kinds.getD k []).map q3b):=by
 unfold Sc.brs
 rw [List.getElem?_zipWith]
 rw [List.getElem?_eq_getElem (by omega),List.getElem?_eq_getElem hk]
 simp [hz,hk]
noncomputable abbrev Sc.bkr (s:Sc) (zs:List Str):D:=Lw.bkr s.night s.hands s.benches s.kilns (s.brs zs)
theorem q5f {s:Sc} (h:ScOk s) (zs:List Str) (hz:zs.length=s.kinds.length) (w:∀z∈zs,Wd 12 z) (k:Nat) (hk:k < s.kinds.length) (row:List D) (hr:row.length < 1000) (a s5 b:Sl) :
 ∃b',q0x (q1i 4) q3v [.sh s.d,.sh (.lst (zs.map D.str)),.sh (.lst [.str "nothing",.str "hands",.str "bench",.str "oven"]),.ow row,a,s5,b] (.int k) =
  .nx [.sh s.d,.sh (.lst (zs.map D.str)),.sh (.lst [.str "nothing",.str "hands",.str "bench",.str "oven"]),.ow (row++[brd (zs.getD k Str.empty,(s.kinds.getD k []).map q3b)]),.sh (.int k),s5,b']:=by
 have a1:atI (s.kinds.map q0N) (k:Int)=some (q0N (s.kinds.getD k [])):=q0z (by simp [hk])
 have a2:atI (zs.map D.str) (k:Int)=some (.str (zs.getD k Str.empty)):=q0z (by simp [hk,hz])
 have ko:j3h (s.kinds.getD k []):=by
  rw [List.getD_eq_getElem?_getD,List.getElem?_eq_getElem hk,Option.getD_some]
  exact h.dall _ (List.getElem_mem hk)
 have wz:Wd 12 (zs.getD k Str.empty):=by
  rw [List.getD_eq_getElem?_getD,List.getElem?_eq_getElem (by omega),Option.getD_some]
  exact w _ (List.getElem_mem _)
 generalize s.kinds.getD k []=K at *
 generalize zs.getD k Str.empty=Z at *
 have b0:q0x (q1i 4) q3v [.sh s.d,.sh (.lst (zs.map D.str)),.sh (.lst [.str "nothing",.str "hands",.str "bench",.str "oven"]),.ow row,a,s5,b] (.int k)=q3v [.sh s.d,.sh (.lst (zs.map D.str)),.sh (.lst [.str "nothing",.str "hands",.str "bench",.str "oven"]),.ow row,.sh (.int k),s5,b]:=by simp [q0x]
 refine ⟨.sh (.lst (K.map q3b)),?_⟩
 rw [b0,q3v,q12 (v:=.lst (K.map q3b))]
 ·rw [Fl.nx_bind]
  have bm:=j1A Z (K.map q3b) wz (by simpa using ko.one) (by simpa using ko.six)
  have hr2:row.length < 1000000:=by omega
  unfold brd
  generalize K.map q3b=kk at *
  generalize s.d=sd at *
  generalize zs.map D.str=zz at *
  simp [j3n,a2,bm,hr2]
 ·rw [q1z,q1c (g:=q40) (k:=q3b) (l:=K)]
  ·rfl
  ·unfold Sc.d
   generalize s.kinds.map q0N=dd at *
   simp [a1,q6Q,q0N]
  ·have:=ko.six;omega
  ·intro x hx
   have so:=ko.all x hx
   have wa:=j5f so.want
   have l1:=so.least
   have l2:=so.most
   have sm:=j0N (Str.ofString "stage") (q43 x.2.2.1) x.1 x.2.1 x.2.2.2 j1w (j4r so.want) (by omega) (by omega) (by omega) so.heat.1 so.heat.2
   unfold q3b
   generalize q43 x.2.2.1=W at *
   simp [q1m,q7B,q40,q0S,q0V,q1M,q2l,wa,sm]
theorem j7O {s:Sc} (h:ScOk s) (zs:List Str) (hz:zs.length=s.kinds.length) (w:∀z∈zs,Wd 12 z) (nd:zs.Nodup):j8T [.sh s.d,.sh (.lst (zs.map D.str))]=.ok (.sh (s.bkr zs)):=by
 obtain ⟨ρ',e,a,b,rfl⟩:=q7x (body:=q0x (q1i 4) q3v) (λj ρ=>∃a b:Sl,ρ=[.sh s.d,.sh (.lst (zs.map D.str)),.sh (.lst [.str "nothing",.str "hands",.str "bench",.str "oven"]),.ow (((s.brs zs).take j).map brd),a,.no,b]) s.kinds.length (λj ρ hj ⟨a,b,e⟩=>by
  have dl:=h.dlen
  obtain ⟨b',eq⟩:=q5f h zs hz w j hj (((s.brs zs).take j).map brd) (by simp;omega) a .no b
  refine ⟨_,by rw [e];exact eq,.sh (.int j),b',?_⟩
  rw [List.take_succ,j25 hz hj]
  simp) (ρ:=[.sh s.d,.sh (.lst (zs.map D.str)),.sh (.lst [.str "nothing",.str "hands",.str "bench",.str "oven"]),.ow [],.no,.no,.no]) ⟨.no,.no,by simp⟩
 rw [List.take_of_length_le (by rw [q5q hz];exact Nat.le_refl _)] at e
 have kn:=List.length_pos_iff.mpr h.kne
 have bk:=q78 s.night s.hands s.benches (s.kilns.map ovn) (s.brs zs) h.night h.hands h.benches (by simp;omega) (by simpa using h.klen) (by rw [q5q hz];exact h.dne) (by rw [q5q hz];exact h.dlen) (by rw [j4x hz];exact nd)
 have dl:=h.dlen
 have fc:∀x y:Sl,q0T (q1K (e2 ixD (q0e 0) (eC (.int 3)))) [] (rD (q0r (n:=3) j67 [] (gSh (e2 ixD (q0e 0) (eC (.int 0))) (gSh (e2 ixD (q0e 0) (eC (.int 1))) (gSh (e2 ixD (q0e 0) (eC (.int 2))) gN0))))) [.sh s.d,.sh (.lst (zs.map D.str)),.sh (.lst [.str "nothing",.str "hands",.str "bench",.str "oven"]),.ow ((s.brs zs).map brd),x,.no,y]=.ok (s.kilns.map ovn):=λx y=>by
  refine q1c (g:=q17) ?_ (by have:=h.klen;omega) λk hk=>?_
  ·unfold Sc.d;simp [q2l]
  ·have ko:=h.kall k hk
   have om:=j4Y k.1 k.2.1 k.2.2 ko.room ko.rate ko.heat
   unfold ovn
   simp [q1m,q17,q0S,q0V,q1M,om]
 have k5:q6A [.sh s.d,.sh (.lst (zs.map D.str)),.sh (.lst [.str "nothing",.str "hands",.str "bench",.str "oven"]),.ow [],.no,.no,.no]=.rt (.sh (s.bkr zs)):=by
  rw [q6A,q0P (ds:=rgD 0 s.kinds.length) (q1D (by unfold Sc.d;simp [q6Q]) (by omega)),e,Fl.nx_bind,j3M,q12 (v:=.lst (s.kilns.map ovn)) (by rw [q1z,fc,Out.ok_bind]),Fl.nx_bind]
  unfold Sc.bkr Lw.bkr
  generalize (s.brs zs).map brd=bb at *
  generalize s.kilns.map ovn=oo at *
  unfold Sc.d
  simp [j11,q0S,q0V,q1M,bk]
 have k7:q9u [.sh s.d,.sh (.lst (zs.map D.str)),.no,.no,.no,.no,.no]=.rt (.sh (s.bkr zs)):=by
  clear e fc
  generalize hG:q6A=G at *
  generalize s.d=sd at *
  generalize zs.map D.str=zz at *
  simp [q9u,j3y,hG,k5]
 rw [j8T]
 exact q1H _ rfl k7
noncomputable def q1v (zs:List Str) (a:Nat×Int×Int):Str×Int×Int:=(zs.getD a.1 Str.empty,a.2.1,a.2.2)
theorem j5K (zs:List Str) (al:List (Nat×Int×Int)) (hl:al.length<=12) (hx:∀a∈al,a.1 < zs.length) (lv:∀a∈al,1<=a.2.1/\a.2.1<=60):j8q [.sh (.lst (al.map q1A)),.sh (.lst (zs.map D.str))]=.ok (.fr ((al.map (q1v zs)).map ord)):=by
 rw [j8q]
 refine q1H _ rfl ?_
 show j0b [.sh (.lst (al.map q1A)),.sh (.lst (zs.map D.str))]=_
 rw [j0b]
 show Out.fl (Out.bind (q0T _ _ _ _) _) _ _=_
 rw [List.map_map,q1c (g:=q1A) (k:=ord ∘ q1v zs) (l:=al) (by rfl) (by omega)]
 ·rfl
 ·intro a ha
  have hk:=hx a ha
  have hv:=lv a ha
  have a3:atI (zs.map D.str) (a.1:Int)=some (.str (zs.getD a.1 Str.empty)):=q0z (by simp [hk])
  have om:=j0J (zs.getD a.1 Str.empty) a.2.1 a.2.2 (q1s (by omega))
  rw [if_pos hv] at om
  show _=Out.ok (ord (q1v zs a))
  unfold q1v ord
  generalize zs.getD a.1 Str.empty=Z at *
  generalize zs.map D.str=ss at *
  simp [q1m,q7B,q1A,q0S,q0V,q1M,a3,om]
noncomputable def q1n (r:Rr):D:=.ins 12 [.int r.1,.tup (r.2.1.map D.int),.int r.2.2]
structure j8F (r:Rr):Prop where
 beg:0<=r.1
 len:r.2.1.length<=6
 nn:∀x∈r.2.1,0<=x/\x<=1000
 oven:0<=r.2.2
theorem j3B (rs:List Rr) (hl:rs.length<=1000) (h:∀r∈rs,j8F r):j5U [.sh (.lst (rs.map q0J))]=.ok (.fr (rs.map q1n)):=by
 rw [j5U]
 refine q1H _ rfl ?_
 show q9e [.sh (.lst (rs.map q0J))]=_
 rw [q9e]
 show Out.fl (Out.bind (q0T _ _ _ _) _) _ _=_
 rw [q1c (g:=q0J) (k:=q1n) (l:=rs) (by rfl) (by omega)]
 ·rfl
 ·intro r hr
  have ro:=h r hr
  have rm:=j7m r.1 r.2.2 r.2.1 (by have:=ro.len;omega)
  rw [if_pos (by
   intro x hx
   rcases List.mem_cons.mp hx with rfl | hx
   ·exact ro.beg
   rcases List.mem_cons.mp hx with rfl | hx
   ·exact ro.oven
   ·exact (ro.nn x hx).1)] at rm
  unfold q1n
  unfold q0J
  generalize r.2.1.map D.int=ll at *
  simp [q1m,q0S,q0V,q1M,rm]
theorem RnOk.rr {s:Sc} {k:Nat} {r:Rr} (h:ScOk s) (hk:k < s.asked.length) (q:RnOk s k r):j8F r:=
 ⟨q.beg.1,by have:=(h.kd hk).six;have:=q.len;omega,q.nn,by
  by_cases z:s.bk k
  ·have:=q.oven z;omega
  ·rw [q.dry z];exact Int.le_refl _⟩
theorem PlOk.rr {s:Sc} {rs:List Rr} (h:ScOk s) (hl:rs.length=s.bs.length) (p:PlOk s rs):∀r∈rs,j8F r:=by
 intro r hr
 obtain ⟨i,hi,e⟩:=List.getElem_of_mem hr
 have hb:i < s.bs.length:=by omega
 exact (p i (s.bs[i]'hb) r (List.getElem?_eq_getElem hb) (by rw [<-e];exact List.getElem?_eq_getElem hi)).rr h (j6x h (List.getElem_mem hb))
theorem q9x {w:Int} (h:0<=w/\w<=3):decide (q43 w=Str.ofString "oven")=decide (w=3):=by
 have:w=0∨w=1∨w=2∨w=3:=by omega
 rcases this with rfl | rfl | rfl | rfl<;>decide +kernel
theorem j1u (l:List Sg):(l.map λx=>decide (x.2.2.1=3)).any id=decide ((3:Int)∈l.map (·.2.2.1)):=by
 rw [Bool.eq_iff_iff,decide_eq_true_eq,List.any_eq_true]
 constructor
 ·rintro ⟨b,hb,q⟩
  obtain ⟨x,hx,rfl⟩:=List.mem_map.mp hb
  exact List.mem_map.mpr ⟨x,hx,by simpa using q⟩
 ·intro h
  obtain ⟨x,hx,q⟩:=List.mem_map.mp h
  exact ⟨_,List.mem_map.mpr ⟨x,hx,rfl⟩,by simpa using q⟩
theorem j0E (z:Str) (k:List Sg) (hk:j3h k):j6D [.sh (brd (z,k.map q3b))]=.ok (.sh (.bl (decide ((3:Int)∈k.map (·.2.2.1))))):=by
 rw [j6D]
 refine q1H _ rfl ?_
 show q9m [.sh (brd (z,k.map q3b))]=_
 rw [q9m,<-j1u]
 show Out.fl (Out.bind (Out.bind (Out.bind (q0T _ _ _ _) _) _) _) _ _=_
 rw [q1c (g:=q3b) (k:=λx=>D.bl (decide (x.2.2.1=3))) (l:=k)]
 ·show Out.fl (j6N [.lst (k.map λx=>D.bl (decide (x.2.2.1=3)))]) _ _=_
  have e:(k.map λx=>D.bl (decide (x.2.2.1=3)))=(k.map λx=>decide (x.2.2.1=3)).map D.bl:=by rw [List.map_map];rfl
  rw [e,j6N,q3Y]
  rfl
 ·unfold brd
  simp [List.lookup]
 ·have:=hk.six;omega
 ·intro x hx
  have q:=q9x (hk.all x hx).want
  unfold q3b
  generalize q43 x.2.2.1=W at *
  simp only [q1m,List.map_nil,e2,q1Y,q0e,eC,List.getElem?_cons_zero,Out.ok_bind]
  show Out.bind (Out.ok _) _=_
  rw [Out.ok_bind]
  show Out.ok (D.bl (decide (W=Str.ofString "oven")))=_
  rw [q]
theorem q6U {s:Sc} (h:ScOk s) (zs:List Str) (hz:zs.length=s.kinds.length) (w:∀z∈zs,Wd 12 z) (nd:zs.Nodup) {b:Int×Int×Int} {k:Nat} (hb:b.1=(k:Int)+1) (hk:k < s.asked.length) :
 j8M [.sh (s.bkr zs),.sh (.lst ((s.asked.map (q1v zs)).map ord)),.sh (bat b)]=.ok (.sh (brd (zs.getD (s.asked.getD k (0,0,0)).1 Str.empty,(s.kd k).map q3b))):=by
 have hx:=h.ix hk
 have a1:atI ((s.asked.map (q1v zs)).map ord) (k:Int)=some (ord (q1v zs (s.asked.getD k (0,0,0)))):=q0z (by simp [hk])
 have wz:Wd 12 (zs.getD (s.asked.getD k (0,0,0)).1 Str.empty):=by
  rw [List.getD_eq_getElem?_getD,List.getElem?_eq_getElem (by omega),Option.getD_some]
  exact w _ (List.getElem_mem _)
 have bo:=bread_of (.int s.night) (.int s.hands) (.int s.benches) (s.kilns.map ovn) (s.brs zs) (zs.getD (s.asked.getD k (0,0,0)).1 Str.empty) (wz.tz.mono (by decide))
 have fk:=q6u (s.brs zs) (s.asked.getD k (0,0,0)).1 _ (by rw [j4x hz];exact nd) (j25 hz hx)
 rw [show (λx:Str×List D=>decide (x.1=(zs.getD (s.asked.getD k (0,0,0)).1 Str.empty,(s.kinds.getD (s.asked.getD k (0,0,0)).1 []).map q3b).1))=λx=>decide (x.1=zs.getD (s.asked.getD k (0,0,0)).1 Str.empty) from rfl] at fk
 rw [fk] at bo
 dsimp only at bo
 have i1:b.1-1=(k:Int):=by omega
 rw [j8M]
 refine q1H _ rfl ?_
 show q85 [.sh (s.bkr zs),.sh (.lst ((s.asked.map (q1v zs)).map ord)),.sh (bat b)]=_
 unfold Sc.kd Sc.bkr Lw.bkr bat
 unfold q1v ord at a1
 generalize brd (zs.getD (s.asked.getD k (0,0,0)).1 Str.empty,(s.kinds.getD (s.asked.getD k (0,0,0)).1 []).map q3b)=B at *
 generalize zs.getD (s.asked.getD k (0,0,0)).1 Str.empty=Z at *
 unfold q1v ord
 generalize (s.asked.map λa=>(zs.getD a.1 Str.empty,a.2.1,a.2.2)).map (λo:Str×Int×Int=>D.ins 10 [.str o.1,.int o.2.1,.int o.2.2])=oo at *
 generalize (s.brs zs).map brd=bb at *
 generalize s.kilns.map ovn=vv at *
 simp [q85,List.lookup,i1,a1,bo]
theorem q7H {s:Sc} (h:ScOk s) (zs:List Str) (z:Str) {k:Nat} (hk:k < s.asked.length) {r:Rr} (hr:RnOk s k r) :
 j8N [.sh (s.bkr zs),.sh (brd (z,(s.kd k).map q3b)),.sh (q1n r)]=.ok (.sh .non):=by
 have bk:=j0E z (s.kd k) (h.kd hk)
 have ll:(r.2.1.map D.int).length=((s.kd k).map q3b).length:=by simp [hr.len]
 have kl:(s.kilns.map ovn).length=s.kilns.length:=by simp
 rw [j8N]
 refine j9G _ rfl (ρ':=[.sh (s.bkr zs),.sh (brd (z,(s.kd k).map q3b)),.sh (q1n r)]) ?_
 show q6v [.sh (s.bkr zs),.sh (brd (z,(s.kd k).map q3b)),.sh (q1n r)]=_
 by_cases q:s.bk k
 ·have qd:decide ((3:Int)∈(s.kd k).map (·.2.2.1))=true:=decide_eq_true q
  rw [qd] at bk
  have ov:=hr.oven q
  have o1:=ov.1
  have o2:=ov.2
  unfold Sc.bkr Lw.bkr q1n
  unfold brd at bk ⊢
  generalize (s.kd k).map q3b=kk at *
  generalize (s.brs zs).map _=bb at *
  generalize s.kilns.map ovn=vv at *
  generalize r.2.1.map D.int=rr at *
  rw [<-kl] at o2
  simp [q6v,q7M,q8X,List.lookup,ll,bk,o1,o2]
 ·have qd:decide ((3:Int)∈(s.kd k).map (·.2.2.1))=false:=decide_eq_false q
  rw [qd] at bk
  have o0:=hr.dry q
  unfold Sc.bkr Lw.bkr q1n
  unfold brd at bk ⊢
  generalize (s.kd k).map q3b=kk at *
  generalize (s.brs zs).map _=bb at *
  generalize s.kilns.map ovn=vv at *
  generalize r.2.1.map D.int=rr at *
  simp [q6v,q7M,q8X,List.lookup,ll,bk,o0]
theorem q47 {α β:Type} (f:α->D) (g:β->D):∀(as:List α) (bs:List β),List.zipWith (λx y=>D.tup [x,y]) (as.map f) (bs.map g)=(as.zip bs).map λp=>D.tup [f p.1,g p.2]
 | [],_=>by simp
 | _::_,[]=>by simp
 | a::as,b::bs=>by simp [q47 f g as bs]
theorem q9j {s:Sc} (h:ScOk s) {rs:List Rr} (hl:rs.length=s.bs.length) (p:PlOk s rs) {j:Nat} {q:(Int×Int×Int)×Rr} (e:(s.bats.zip rs)[j]?=some q):∃k:Nat,q.1.1=(k:Int)+1/\k < s.asked.length/\RnOk s k q.2:=by
 rw [List.getElem?_zip_eq_some] at e
 obtain ⟨e1,e2⟩:=e
 obtain ⟨k,e,hk,_⟩:=h.bat (List.mem_of_getElem? e1)
 refine ⟨k,e,hk,?_⟩
 have hb:s.bs[j]?=some (toB q.1):=by unfold Sc.bs;rw [List.getElem?_map,e1];rfl
 have:=p j (toB q.1) q.2 hb e2
 have tb:(toB q.1).1=k:=by unfold toB;dsimp only;omega
 rwa [tb] at this
theorem ScOk.taken {s:Sc} (h:ScOk s) (zs:List Str) (hz:zs.length=s.kinds.length) (w:∀z∈zs,Wd 12 z):Taken s.night (s.brs zs) s.kilns (s.asked.map (q1v zs)):=by
 refine ⟨by simpa using h.alen,λo ho=>?_,λo ho=>?_,λo ho=>?_,λo ho=>?_,?_⟩
 ·obtain ⟨a,ha,rfl⟩:=List.mem_map.mp ho
  rw [j4x hz]
  have hx:=h.aix a ha
  show zs.getD a.1 Str.empty∈zs
  rw [List.getD_eq_getElem?_getD,List.getElem?_eq_getElem (by omega),Option.getD_some]
  exact List.getElem_mem _
 ·obtain ⟨a,ha,rfl⟩:=List.mem_map.mp ho
  have hx:=h.aix a ha
  show Tz 1000 (zs.getD a.1 Str.empty)
  rw [List.getD_eq_getElem?_getD,List.getElem?_eq_getElem (by omega),Option.getD_some]
  exact (w _ (List.getElem_mem _)).tz.mono (by decide)
 ·obtain ⟨a,ha,rfl⟩:=List.mem_map.mp ho
  exact h.adue a ha
 ·obtain ⟨a,ha,rfl⟩:=List.mem_map.mp ho
  exact (h.alv a ha).1
 ·have:=h.few
  unfold Sc.bats Sc.best at this
  rw [List.map_map]
  exact this
theorem ScOk.rs {s:Sc} (h:ScOk s):RsOk s.kilns:=⟨h.kne,h.klen,λr hr=>(h.kall r hr).room⟩
theorem j5D {s:Sc} (h:ScOk s) (zs:List Str) (hz:zs.length=s.kinds.length) (w:∀z∈zs,Wd 12 z):j6Y [.sh (s.bkr zs),.sh (.lst ((s.asked.map (q1v zs)).map ord))]=.ok (.fr (s.bats.map bat)):=by
 have:=j7S s.night s.hands s.benches s.kilns (s.brs zs) (s.asked.map (q1v zs)) h.rs (h.taken zs hz w)
 rw [List.map_map (g:=λx:Str×Int×Int=>x.2.1)] at this
 exact this
theorem q9f {s:Sc} (h:ScOk s) (zs:List Str) (hz:zs.length=s.kinds.length) (w:∀z∈zs,Wd 12 z) (nd:zs.Nodup) (rs:List Rr) (hl:rs.length=s.bs.length) (p:PlOk s rs) :
 j8C [.sh (s.bkr zs),.sh (.lst ((s.asked.map (q1v zs)).map ord)),.sh (.lst (rs.map q1n))]=.ok (.sh (.lst (s.bats.map bat))):=by
 have ct:=j5D h zs hz w
 have bl:s.bs.length=s.bats.length:=by simp [Sc.bs]
 obtain ⟨ρ',e,a,b,rfl⟩:=j6q (body:=q0x (q7z [4,5]) q8V) (λp:(Int×Int×Int)×Rr=>D.tup [bat p.1,q1n p.2]) (λj ρ=>∃a b:Sl,ρ=[.sh (s.bkr zs),.sh (.lst ((s.asked.map (q1v zs)).map ord)),.sh (.lst (rs.map q1n)),.sh (.lst (s.bats.map bat)),a,b]) (s.bats.zip rs) (λj q ρ hq ⟨a,b,e⟩=>by
  subst e
  obtain ⟨k,e1,hk,hr⟩:=q9j h hl p hq
  have bi:=q6U h zs hz w nd e1 hk
  have cr:=q7H h zs (zs.getD (s.asked.getD k (0,0,0)).1 Str.empty) hk hr
  refine ⟨_,?_,.sh (bat q.1),.sh (q1n q.2),rfl⟩
  rw [j4L (ρ':=[.sh (s.bkr zs),.sh (.lst ((s.asked.map (q1v zs)).map ord)),.sh (.lst (rs.map q1n)),.sh (.lst (s.bats.map bat)),.sh (bat q.1),.sh (q1n q.2)]) (by simp [q4h])]
  generalize s.bkr zs=sb at *
  generalize (s.asked.map (q1v zs)).map ord=oo at *
  generalize brd _=B at *
  simp [q8V,bi,cr]) (ρ:=[.sh (s.bkr zs),.sh (.lst ((s.asked.map (q1v zs)).map ord)),.sh (.lst (rs.map q1n)),.sh (.lst (s.bats.map bat)),.no,.no]) ⟨.no,.no,rfl⟩
 have k4:q58 [.sh (s.bkr zs),.sh (.lst ((s.asked.map (q1v zs)).map ord)),.sh (.lst (rs.map q1n)),.sh (.lst (s.bats.map bat)),.no,.no]=.rt (.sh (.lst (s.bats.map bat))):=by
  rw [q58,q0P (ds:=(s.bats.zip rs).map λp:(Int×Int×Int)×Rr=>D.tup [bat p.1,q1n p.2]) (by rw [<-q47];rfl),e]
  rfl
 have ln:(rs.map q1n).length=(s.bats.map bat).length:=by simp;omega
 have k6:q8j [.sh (s.bkr zs),.sh (.lst ((s.asked.map (q1v zs)).map ord)),.sh (.lst (rs.map q1n)),.no,.no,.no]=.rt (.sh (.lst (s.bats.map bat))):=by
  clear e
  generalize hG:q58=G at *
  generalize s.bkr zs=sb at *
  generalize (s.asked.map (q1v zs)).map ord=oo at *
  generalize s.bats.map bat=bb at *
  generalize rs.map q1n=rr at *
  simp [q8j,j2b,ct,ln,hG,k4]
 rw [j8C]
 exact q1H _ rfl k6
theorem q8O (is:List Int) (hl:is.length<=1000) (f:Sl) (hf:(f=.bo (is.map D.int)∨f=.sh (.lst (is.map D.int)))) (d:Sl) (hd:(False∨d=.sh (.lst (is.map D.int)))):j5B [f,d]=.ok (.sh (.bl true)):=by
 obtain ⟨ρ',e,a,rfl⟩:=q7x (body:=q0x (q1i 2) q8G) (λj ρ=>∃a:Sl,ρ=[f,d,a]) is.length (λj ρ hj ⟨a,e⟩=>by
  subst e
  have a1:atI (is.map D.int) (j:Int)=some (.int (is[j]'hj)):=q0z (by simp [hj])
  have ii:=is_ (is[j]'hj) (is[j]'hj)
  simp only [decide_true] at ii
  generalize is[j]'hj=v at *
  refine ⟨[f,d,.sh (.int j)],?_,_,rfl⟩
  generalize is.map D.int=nn at *
  rcases hf with hf | hf<;>rcases hd with hd | hd<;>first | exact hf.elim | exact hd.elim | (subst hf;subst hd;simp [q0x,q8G,a1,ii])) (ρ:=[f,d,.no]) ⟨.no,rfl⟩
 have k5:q6C [f,d,.no]=.rt (.sh (.bl true)):=by
  rw [q6C,q0P (ds:=rgD 0 is.length) (q1D (by rcases hf with hf | hf<;>rcases hd with hd | hd<;>first | exact hf.elim | exact hd.elim | (subst hf;subst hd;simp)) (by omega)),e]
  rfl
 have k6:q7K [f,d,.no]=.rt (.sh (.bl true)):=by
  clear e
  generalize hG:q6C=G at *
  generalize is.map D.int=nn at *
  rcases hf with hf | hf<;>rcases hd with hd | hd<;>first | exact hf.elim | exact hd.elim | (subst hf;subst hd;simp [q7K,q4O,hG,k5])
 rw [j5B]
 exact q1H _ rfl k6
theorem j36 (zs:List Str) (al:List (Nat×Int×Int)) (hz:∀a∈al,a.1 < zs.length) (hl:al.length<=12):j8b [.sh (.lst ((al.map (q1v zs)).map ord)),.sh (.lst (al.map q1A)),.sh (.lst (zs.map D.str))]=.ok (.sh (.bl true)):=by
 obtain ⟨ρ',e,a,b,rfl⟩:=q7x (body:=q0x (q1i 3) q9c) (λj ρ=>∃a b:Sl,ρ=[.sh (.lst ((al.map (q1v zs)).map ord)),.sh (.lst (al.map q1A)),.sh (.lst (zs.map D.str)),a,b]) al.length (λj ρ hj ⟨a,b,e⟩=>by
  subst e
  have a1:atI ((al.map (q1v zs)).map ord) (j:Int)=some (ord (zs.getD al[j].1 Str.empty,al[j].2.1,al[j].2.2)):=q0z (by simp [hj,q1v])
  have a2:atI (al.map q1A) (j:Int)=some (q1A al[j]):=q0z (by simp [hj])
  have hk:=hz al[j] (List.getElem_mem hj)
  have a3:atI (zs.map D.str) (al[j].1:Int)=some (.str (zs.getD al[j].1 Str.empty)):=q0z (by simp [hk])
  have i1:=is_ al[j].2.1 al[j].2.1
  have i2:=is_ al[j].2.2 al[j].2.2
  simp only [decide_true] at i1 i2
  refine ⟨_,?_,.sh (.int j),.sh (q1A al[j]),rfl⟩
  generalize al[j]=B at *
  generalize (al.map (q1v zs)).map ord=oo at *
  generalize al.map q1A=aa at *
  generalize zs.map D.str=ss at *
  generalize zs.getD B.1 Str.empty=Z at *
  simp [q0x,q9c,j2v,j3w,a1,a2,a3,ord,q1A,q0S,q0V,q1M,i1,i2,List.lookup]) (ρ:=[.sh (.lst ((al.map (q1v zs)).map ord)),.sh (.lst (al.map q1A)),.sh (.lst (zs.map D.str)),.no,.no]) ⟨.no,.no,rfl⟩
 have k8:q6g [.sh (.lst ((al.map (q1v zs)).map ord)),.sh (.lst (al.map q1A)),.sh (.lst (zs.map D.str)),.no,.no]=.rt (.sh (.bl true)):=by
  rw [q6g,q0P (ds:=rgD 0 al.length) (q1D (by simp) (by omega)),e,Fl.nx_bind,j1Y]
  rfl
 have l1:((al.map (q1v zs)).map ord).length=(al.map q1A).length:=by simp
 have k9:j0f [.sh (.lst ((al.map (q1v zs)).map ord)),.sh (.lst (al.map q1A)),.sh (.lst (zs.map D.str)),.no,.no]=.rt (.sh (.bl true)):=by
  clear e
  generalize hG:q6g=G at *
  generalize (al.map (q1v zs)).map ord=oo at *
  generalize al.map q1A=aa at *
  simp [j0f,k8,hG,l1]
 rw [j8b]
 exact q1H _ rfl k9
theorem j0O (rs:List Rr) (hl:rs.length<=1000) (h:∀r∈rs,j8F r):j8g [.sh (.lst (rs.map q1n)),.sh (.lst (rs.map q0J))]=.ok (.sh (.bl true)):=by
 obtain ⟨ρ',e,a,rfl⟩:=q7x (body:=q0x (q1i 2) q8k) (λj ρ=>∃a:Sl,ρ=[.sh (.lst (rs.map q1n)),.sh (.lst (rs.map q0J)),a]) rs.length (λj ρ hj ⟨a,e⟩=>by
  subst e
  have a1:atI (rs.map q1n) (j:Int)=some (q1n rs[j]):=q0z (by simp [hj])
  have a2:atI (rs.map q0J) (j:Int)=some (q0J rs[j]):=q0z (by simp [hj])
  have i1:=is_ rs[j].1 rs[j].1
  have i2:=is_ rs[j].2.2 rs[j].2.2
  simp only [decide_true] at i1 i2
  have ro:=q8O rs[j].2.1 (by have:=(h _ (List.getElem_mem hj)).len;omega) (.sh (.lst (rs[j].2.1.map D.int))) (.inr rfl) (.sh (.lst (rs[j].2.1.map D.int))) (.inr rfl)
  refine ⟨_,?_,.sh (.int j),rfl⟩
  unfold q1n at a1
  unfold q0J at a2
  generalize rs[j].1=B at *
  generalize rs[j].2.2=O at *
  generalize rs[j].2.1.map D.int=L at *
  unfold q1n q0J
  generalize rs.map (λr:Rr=>D.ins 12 [.int r.1,.tup (r.2.1.map D.int),.int r.2.2])=oo at *
  generalize rs.map (λr:Rr=>D.tup [.int r.1,.lst (r.2.1.map D.int),.int r.2.2])=aa at *
  simp [q0x,q8k,j3t,a1,a2,q0S,q0V,q1M,i1,i2,ro,List.lookup]) (ρ:=[.sh (.lst (rs.map q1n)),.sh (.lst (rs.map q0J)),.no]) ⟨.no,rfl⟩
 have k7:q5R [.sh (.lst (rs.map q1n)),.sh (.lst (rs.map q0J)),.no]=.rt (.sh (.bl true)):=by
  rw [q5R,q0P (ds:=rgD 0 rs.length) (q1D (by simp) (by omega)),e]
  rfl
 have l1:(rs.map q1n).length=(rs.map q0J).length:=by simp
 have k8:q91 [.sh (.lst (rs.map q1n)),.sh (.lst (rs.map q0J)),.no]=.rt (.sh (.bl true)):=by
  clear e
  generalize hG:q5R=G at *
  generalize rs.map q1n=oo at *
  generalize rs.map q0J=aa at *
  simp [q91,k7,hG,l1]
 rw [j8g]
 exact q1H _ rfl k8
theorem q5H {ds:List D} {k:Nat} (h:k < ds.length) (d:D):j0T ds (k:Int) d=some (ds.set k d):=by
 have:ixN ds.length (k:Int)=some k:=by unfold ixN;simp;omega
 rw [j0T,this]
 rfl
theorem RnOk.late {s:Sc} {k:Nat} {r:Rr} (h:RnOk s k r) {b:Int} (hb:0<=b/\b<=1440):RnOk s k (b,r.2.1,r.2.2):=⟨hb,h.len,h.nn,h.dry,h.oven⟩
theorem j1n (ns:List Int) (hn:ns.length<=63) {s:Sc} (h:ScOk s) (rs:List Rr) (hl:rs.length=s.bs.length) (p:PlOk s rs) :
 ∃qs:List Rr,qs.length=s.bs.length/\PlOk s qs/\j5C [.sh (.lst (ns.map D.int)),.sh (.lst (rs.map q0J))]=.ok (.fr (qs.map q0J)):=by
 have few:=h.few
 have bl:s.bs.length=s.bats.length:=by simp [Sc.bs]
 have p1:=q1q ns hn 57 (by decide) (by decide)
 have p2:=q1q ns hn 58 (by decide) (by decide)
 generalize pk ns (57:Int).toNat=v at *
 generalize pk ns (58:Int).toNat=u at *
 by_cases hr:rs.length=0
 ·have:rs=[]:=List.eq_nil_of_length_eq_zero hr
  subst this
  refine ⟨[],hl,p,?_⟩
  generalize ns.map D.int=nn at *
  simp [j5C,q93,q98,q7Z,j2W]
 ·have n0:0 < (rs.length:Int):=by omega
  have n0':0 < rs.length:=by omega
  obtain ⟨j,hj,ej⟩:∃j:Nat,j < rs.length/\v % (rs.length:Int)=(j:Int):=by
   have h0:=Int.emod_nonneg v (b:=(rs.length:Int)) (by omega)
   have h1:=Int.emod_lt_of_pos v (b:=(rs.length:Int)) (by omega)
   exact ⟨(v % (rs.length:Int)).toNat,by omega,by omega⟩
  have a1:atI (rs.map q0J) (j:Int)=some (.tup [.int rs[j].1,.lst (rs[j].2.1.map D.int),.int rs[j].2.2]):=q0z (by simp [hj,q0J])
  have hb:j < s.bs.length:=by omega
  have rn:=p j _ _ (List.getElem?_eq_getElem hb) (List.getElem?_eq_getElem hj)
  obtain ⟨m,hm,em⟩:∃m:Int,(0<=m/\m<=1440)/\(if rs[j].1+1+u % 30 < 1440 then rs[j].1+1+u % 30 else 1440)=m:=⟨if rs[j].1+1+u % 30 < 1440 then rs[j].1+1+u % 30 else 1440,by have:=rn.beg;split<;>omega,rfl⟩
  have st:=q5H (ds:=rs.map q0J) (k:=j) (by simpa using hj) (.tup [.int m,.lst (rs[j].2.1.map D.int),.int rs[j].2.2])
  refine ⟨rs.set j (m,rs[j].2.1,rs[j].2.2),by simpa using hl,λi b r hb' hr'=>?_,?_⟩
  ·rw [List.getElem?_set] at hr'
   by_cases ij:j=i
   ·subst ij
    rw [if_pos rfl,if_pos hj] at hr'
    cases hr'
    rw [List.getElem?_eq_getElem hb] at hb'
    cases hb'
    exact rn.late hm
   ·rw [if_neg ij] at hr'
    exact p i b r hb' hr'
  ·rw [List.map_set]
   have ne:(rs.map q0J).isEmpty=false:=by
    cases rs with
    | nil=>simp at hr
    | cons a l=>rfl
   have ll:(rs.map q0J).length=rs.length:=by simp
   rw [show q0J (m,rs[j].2.1,rs[j].2.2)=.tup [.int m,.lst (rs[j].2.1.map D.int),.int rs[j].2.2] from rfl]
   generalize rs[j].2.1.map D.int=L at *
   generalize rs[j].1=B at *
   generalize rs[j].2.2=O at *
   rw [<-ll] at ej n0 n0'
   clear p rn
   generalize rs.map q0J=aa at *
   generalize ns.map D.int=nn at *
   rw [j0T] at st
   simp [j5C,q93,q98,q7Z,j2o,j3x,j2Z,j2W,ne,p1,p2,ej,n0,n0',a1,em,st]
theorem j5p (b o:Int) (ls:List Int) (h:w1N ls):j72 [.sh (.ins 12 [.int b,.tup (ls.map D.int),.int o])]=.ok (.sh (.int (b+isum ls))):=by
 have e:=j04 (is:=ls) (by have:=h.len;omega) λi hi=>by have:=h.nn i hi;omega
 simp [j72,j2T,e]
noncomputable abbrev Bp:=(Int×Int×Int)×Rr
noncomputable def j2A (acc:List Int) (b:Int×Int×Int):List Int:=acc.set (b.1-1).toNat (acc.getD (b.1-1).toNat 0+b.2.2)
noncomputable def q3Q (m:Int) (acc:List Int) (p:Bp):List Int:=if p.2.1+isum p.2.2.1<=m then j2A acc p.1 else acc
noncomputable def stF (m:Int) (l:List Bp) (acc:List Int):List Int:=l.foldl (q3Q m) acc
theorem j0h (m:Int) (acc:List Int) (p:Bp):(q3Q m acc p).length=acc.length:=by
 unfold q3Q j2A
 split<;>simp
theorem q3K (m:Int):∀(l:List Bp) (acc:List Int),(stF m l acc).length=acc.length
 | [],acc=>rfl
 | p::l,acc=>by
  show (stF m l (q3Q m acc p)).length=_
  rw [q3K m l,j0h]
theorem q5F (m:Int) (l:List Bp) (p:Bp) (acc:List Int):stF m (l++[p]) acc=q3Q m (stF m l acc) p:=by
 unfold stF
 rw [List.foldl_append]
 rfl
theorem rep0 (n:Nat):(List.replicate n [D.int 0]).flatten=(List.replicate n (0:Int)).map D.int:=by
 induction n with
 | zero=>rfl
 | succ n ih=>rw [List.replicate_succ,List.flatten_cons,ih,List.replicate_succ];rfl
theorem q6k {s:Sc} (h:ScOk s) (zs:List Str) (hz:zs.length=s.kinds.length) (w:∀z∈zs,Wd 12 z) (nd:zs.Nodup) (rs:List Rr) (hl:rs.length=s.bs.length) (p:PlOk s rs) (m:Int) :
 j58 [.sh (s.bkr zs),.sh (.lst ((s.asked.map (q1v zs)).map ord)),.sh (.lst (rs.map q1n)),.sh (.int m)]=.ok (.fr ((stF m (s.bats.zip rs) (List.replicate s.asked.length 0)).map D.int)):=by
 have ft:=q9f h zs hz w nd rs hl p
 have al:=h.alen
 obtain ⟨ρ',e,a,b,rfl⟩:=j6q (body:=q0x (q7z [5,6]) q5U) (λp:(Int×Int×Int)×Rr=>D.tup [bat p.1,q1n p.2]) (λj ρ=>∃a b:Sl,ρ=[.sh (s.bkr zs),.sh (.lst ((s.asked.map (q1v zs)).map ord)),.sh (.lst (rs.map q1n)),.sh (.int m),.ow ((stF m ((s.bats.zip rs).take j) (List.replicate s.asked.length 0)).map D.int),a,b]) (s.bats.zip rs) (λj q ρ hq ⟨a,b,e⟩=>by
  subst e
  obtain ⟨k,e1,hk,hr⟩:=q9j h hl p hq
  have re:=j5p q.2.1 q.2.2.2 q.2.2.1 ⟨by have:=hr.len;have:=(h.kd hk).six;omega,λx hx=>by have:=hr.nn x hx;omega⟩
  have ln:=q3K m ((s.bats.zip rs).take j) (List.replicate s.asked.length 0)
  rw [List.length_replicate] at ln
  rw [q20 hq,q5F]
  generalize stF m ((s.bats.zip rs).take j) (List.replicate s.asked.length 0)=acc at *
  refine ⟨_,?_,.sh (bat q.1),.sh (q1n q.2),rfl⟩
  rw [j4L (ρ':=[.sh (s.bkr zs),.sh (.lst ((s.asked.map (q1v zs)).map ord)),.sh (.lst (rs.map q1n)),.sh (.int m),.ow (acc.map D.int),.sh (bat q.1),.sh (q1n q.2)]) (by simp [q4h])]
  have ge:(acc.map D.int)[k]?=some (.int (acc.getD k 0)):=by simp [ln,hk]
  have tn:(q.1.1-1).toNat=k:=by omega
  have k0:q.1.1-1=(k:Int):=by omega
  unfold q3Q j2A
  rw [tn]
  unfold bat q1n
  generalize s.bkr zs=sb at *
  generalize (s.asked.map (q1v zs)).map ord=oo at *
  generalize q.2.2.1.map D.int=LL at *
  generalize hE:q.2.1+isum q.2.2.1=E at *
  generalize rs.map q1n=rr at *
  generalize hA:acc.getD k 0=A at *
  by_cases c:E<=m
  ·rw [if_pos c,List.map_set]
   generalize acc.map D.int=AA at *
   simp [q5U,j17,re,c,k0,ge,List.lookup]
  ·rw [if_neg c]
   generalize acc.map D.int=AA at *
   simp [q5U,re,c,List.lookup]) (ρ:=[.sh (s.bkr zs),.sh (.lst ((s.asked.map (q1v zs)).map ord)),.sh (.lst (rs.map q1n)),.sh (.int m),.ow ((List.replicate s.asked.length (0:Int)).map D.int),.no,.no]) ⟨.no,.no,by simp [stF]⟩
 rw [List.take_length] at e
 have k4:q5W [.sh (s.bkr zs),.sh (.lst ((s.asked.map (q1v zs)).map ord)),.sh (.lst (rs.map q1n)),.sh (.int m),.ow ((List.replicate s.asked.length (0:Int)).map D.int),.no,.no]=.rt (.fr ((stF m (s.bats.zip rs) (List.replicate s.asked.length 0)).map D.int)):=by
  rw [q5W,q0P (ds:=(s.bats.zip rs).map λp:(Int×Int×Int)×Rr=>D.tup [bat p.1,q1n p.2])]
  ·rw [e];rfl
  ·rw [<-q47]
   clear e
   generalize s.bkr zs=sb at *
   generalize (s.asked.map (q1v zs)).map ord=oo at *
   generalize s.bats.map bat=bb at *
   generalize rs.map q1n=rr at *
   simp [ft]
 have fl:=rep0 s.asked.length
 have lo:((s.asked.map (q1v zs)).map ord).length=s.asked.length:=by simp
 have k5:q8P [.sh (s.bkr zs),.sh (.lst ((s.asked.map (q1v zs)).map ord)),.sh (.lst (rs.map q1n)),.sh (.int m),.no,.no,.no]=.rt (.fr ((stF m (s.bats.zip rs) (List.replicate s.asked.length 0)).map D.int)):=by
  clear e ft
  generalize hG:q5W=G at *
  generalize s.bkr zs=sb at *
  generalize (s.asked.map (q1v zs)).map ord=oo at *
  generalize (stF m (s.bats.zip rs) (List.replicate s.asked.length 0)).map D.int=tt at *
  generalize rs.map q1n=rr at *
  generalize (List.replicate s.asked.length (0:Int)).map D.int=zz at *
  generalize s.asked.length=n at *
  have z1:n<=1000000:=by omega
  have z2:(n:Int)<=1000000:=by omega
  have z3:-(2 ^ 40)<=(n:Int):=by omega
  simp [q8P,lo,z1,z2,z3,fl,hG,k4]
 rw [j58]
 exact q1H _ rfl k5
theorem q4f (most l:Int) (hm:1<=most) (h1:1<=l) (pre post:List Int) (x:Int):∀t:Nat,t<=nb most l->(((List.range t).map (q7k most ((pre.length:Int)+1) l)).foldl j2A (pre++x::post))=pre++(x+if (t:Int)*most < l then (t:Int)*most else l)::post
 | 0,_=>by simp;omega
 | t+1,ht=>by
  have lt:=j4F hm h1 (show t < nb most l by omega)
  rw [List.range_succ,List.map_append,List.foldl_append,q4f most l hm h1 pre post x t (by omega)]
  rw [if_pos lt]
  have em:((t+1:Nat):Int)*most=(t:Int)*most+most:=by rw [Int.natCast_add,Int.add_mul];simp
  rw [em]
  simp only [List.map_cons,List.map_nil,List.foldl_cons,List.foldl_nil,j2A,q7k]
  rw [show ((pre.length:Int)+1-1).toNat=pre.length by omega]
  generalize (t:Int)*most=q at *
  rw [List.getD_eq_getElem?_getD,List.getElem?_append_right (Nat.le_refl _),Nat.sub_self,List.set_append_right _ _ (Nat.le_refl _),Nat.sub_self]
  simp only [List.getElem?_cons_zero,Option.getD_some,List.set_cons_zero]
  congr 2
  split<;>split<;>omega
theorem q5E (most:Int) (hm:1<=most):∀(ls pre:List Int),(∀l∈ls,1<=l)->(q1P most ((pre.length:Int)+1) ls).foldl j2A (pre++List.replicate ls.length 0)=pre++ls
 | [],pre,_=>by simp [q1P]
 | l::ls,pre,h=>by
  have h1:=h l (by simp)
  have ge:=j5F hm h1
  rw [q1P,List.foldl_append,List.length_cons,List.replicate_succ]
  have:=q4f most l hm h1 pre (List.replicate ls.length 0) 0 (nb most l) (Nat.le_refl _)
  rw [if_neg (by omega),Int.zero_add] at this
  unfold j0v
  rw [this]
  have ih:=q5E most hm ls (pre++[l]) λx hx=>h x (by simp [hx])
  rw [List.append_assoc,List.append_assoc] at ih
  have e:(((pre++[l]).length:Int)+1)=(pre.length:Int)+1+1:=by simp
  rw [e] at ih
  exact ih
theorem j0u (m:Int):∀(l:List Bp) (acc:List Int),(∀p∈l,p.2.1+isum p.2.2.1<=m)->stF m l acc=(l.map (·.1)).foldl j2A acc
 | [],acc,_=>rfl
 | p::l,acc,h=>by
  show stF m l (q3Q m acc p)=_
  rw [j0u m l _ λq hq=>h q (by simp [hq]),List.map_cons,List.foldl_cons]
  unfold q3Q
  rw [if_pos (h p (by simp))]
theorem q9y {α β:Type}:∀(as:List α) (bs:List β),as.length<=bs.length->(as.zip bs).map (·.1)=as
 | [],_,_=>by simp
 | _::_,[],h=>by simp at h
 | a::as,b::bs,h=>by simp [q9y as bs (by simpa using h)]
theorem q8K {s:Sc} (h:ScOk s) (rs:List Rr) (hl:rs.length=s.bs.length) (m:Int) (hm:∀r∈rs,r.1+isum r.2.1<=m):stF m (s.bats.zip rs) (List.replicate s.asked.length 0)=s.asked.map (·.2.1):=by
 have bl:s.bs.length=s.bats.length:=by simp [Sc.bs]
 rw [j0u m _ _ λp hp=>hm p.2 (List.of_mem_zip hp).2,q9y _ _ (by omega)]
 have:=q5E s.best h.best.1 (s.asked.map (·.2.1)) [] λl hl=>by
  obtain ⟨a,ha,rfl⟩:=List.mem_map.mp hl
  exact (h.alv a ha).1.1
 rw [List.length_map,List.nil_append,List.nil_append] at this
 exact this
theorem j3Z {s:Sc} (h:ScOk s) (rs:List Rr) (hl:rs.length=s.bs.length) (p:PlOk s rs) (m:Int) :
 j8t [.sh s.d,.sh (.lst (s.bs.map q1a)),.sh (.lst (rs.map q0J)),.sh (.int m)]=.ok (.fr ((stF m (s.bats.zip rs) (List.replicate s.asked.length 0)).map D.int)):=by
 have al:=h.alen
 have few:=h.few
 have bl:s.bs.length=s.bats.length:=by simp [Sc.bs]
 obtain ⟨ρ',e,a,b,c,rfl⟩:=q7x (body:=q0x (q1i 5) q6e) (λj ρ=>∃a b c:Sl,ρ=[.sh s.d,.sh (.lst (s.bs.map q1a)),.sh (.lst (rs.map q0J)),.sh (.int m),.ow ((stF m ((s.bats.zip rs).take j) (List.replicate s.asked.length 0)).map D.int),a,b,c]) s.bs.length (λj ρ hj ⟨a,b,c,e⟩=>by
  subst e
  have h1:j < s.bats.length:=by omega
  have h2:j < rs.length:=by omega
  have hq:(s.bats.zip rs)[j]?=some (s.bats[j],rs[j]):=by rw [List.getElem?_zip_eq_some];exact ⟨List.getElem?_eq_getElem h1,List.getElem?_eq_getElem h2⟩
  obtain ⟨k,e1,hk,hr⟩:=q9j h hl p hq
  have a1:atI (s.bs.map q1a) (j:Int)=some (.tup [.int (k:Int),.int s.bats[j].2.2]):=q0z (by
   simp only [List.getElem?_map,Sc.bs,List.getElem?_eq_getElem h1,Option.map_some,q1a,toB]
   rw [show (s.bats[j].1-1).toNat=k by dsimp only at e1;omega])
  have a2:atI (rs.map q0J) (j:Int)=some (.tup [.int rs[j].1,.lst (rs[j].2.1.map D.int),.int rs[j].2.2]):=q0z (by simp [h2,q0J])
  have sm:=q3U (is:=rs[j].2.1) (by have:=hr.len;have:=(h.kd hk).six;dsimp only at *; omega) λi hi=>by have:=hr.nn i hi;omega
  have ln:=q3K m ((s.bats.zip rs).take j) (List.replicate s.asked.length 0)
  rw [List.length_replicate] at ln
  rw [q20 hq,q5F]
  generalize stF m ((s.bats.zip rs).take j) (List.replicate s.asked.length 0)=acc at *
  have ge:atI (acc.map D.int) (k:Int)=some (.int (acc.getD k 0)):=q0z (by simp [ln,hk])
  have st:=q5H (ds:=acc.map D.int) (k:=k) (by simp;omega) (.int (acc.getD k 0+s.bats[j].2.2))
  rw [j0T] at st
  have tn:(s.bats[j].1-1).toNat=k:=by dsimp only at e1;omega
  unfold q3Q j2A
  dsimp only
  rw [tn]
  generalize s.d=sd at *
  generalize s.bs.map q1a=bb at *
  generalize rs.map q0J=rr at *
  generalize rs[j].2.1.map D.int=LL at *
  generalize s.bats[j].2.2=lv at *
  by_cases cc:rs[j].1+isum rs[j].2.1<=m
  ·refine ⟨_,?_,.sh (.int j),.sh (.int k),.sh (.int lv),rfl⟩
   rw [if_pos cc,List.map_set]
   generalize acc.getD k 0=A at *
   generalize acc.map D.int=AA at *
   simp -implicitDefEqProofs [q0x,q6e,j3o,j3J,a1,a2,q0S,q0V,sm,cc,q4h,ge,st]
  ·refine ⟨_,?_,.sh (.int j),b,c,rfl⟩
   rw [if_neg cc]
   generalize acc.map D.int=AA at *
   simp -implicitDefEqProofs [q0x,q6e,a2,q0S,q0V,sm,cc]) (ρ:=[.sh s.d,.sh (.lst (s.bs.map q1a)),.sh (.lst (rs.map q0J)),.sh (.int m),.ow ((List.replicate s.asked.length (0:Int)).map D.int),.no,.no,.no]) ⟨.no,.no,.no,by simp [stF]⟩
 rw [List.take_of_length_le (by simp;omega)] at e
 have k5:q6I [.sh s.d,.sh (.lst (s.bs.map q1a)),.sh (.lst (rs.map q0J)),.sh (.int m),.ow ((List.replicate s.asked.length (0:Int)).map D.int),.no,.no,.no]=.rt (.fr ((stF m (s.bats.zip rs) (List.replicate s.asked.length 0)).map D.int)):=by
  rw [q6I,q0P (ds:=rgD 0 s.bs.length) (q1D (by simp -implicitDefEqProofs) (by omega)),e]
  rfl
 have fl:=rep0 s.asked.length
 have lo:(s.asked.map q1A).length=s.asked.length:=by simp
 have k6:q76 [.sh s.d,.sh (.lst (s.bs.map q1a)),.sh (.lst (rs.map q0J)),.sh (.int m),.no,.no,.no,.no]=.rt (.fr ((stF m (s.bats.zip rs) (List.replicate s.asked.length 0)).map D.int)):=by
  clear e
  generalize hG:q6I=G at *
  generalize hT:(stF m (s.bats.zip rs) (List.replicate s.asked.length 0)).map D.int=tt at *
  clear hT
  generalize rs.map q0J=rr at *
  generalize s.bs.map q1a=bb at *
  generalize (List.replicate s.asked.length (0:Int)).map D.int=zz at *
  unfold Sc.d at *
  generalize s.asked.map q1A=aa at *
  generalize s.asked.length=n at *
  generalize s.kinds.map q0N=dd at *
  generalize s.kilns.map q17=kk at *
  have z1:n<=1000000:=by omega
  have z2:(n:Int)<=1000000:=by omega
  have z3:-(2 ^ 40)<=(n:Int):=by omega
  simp -implicitDefEqProofs [q76,q2Q,lo,z1,z2,z3,fl,hG,k5]
 rw [j8t]
 exact q1H _ rfl k6
noncomputable abbrev st17 (ns:List Int) (s:Sc) (rs:List Rr) (zs:List Str) (far:Int) (ms:List Int) (last:Int) (a b c d f:Sl):Ro:=
 [.sh (.lst (ns.map D.int)),.sh s.d,.sh (.lst (s.bs.map q1a)),.sh (.lst (rs.map q0J)),.sh (.lst (zs.map D.str)),.sh (s.bkr zs),.sh (.lst ((s.asked.map (q1v zs)).map ord)),.sh (.lst (rs.map q1n)),.sh (.int far),.sh (.lst (ms.map D.int)),.sh (.int last),a,b,c,d,f]
theorem j1j (ns:List Int) {s:Sc} (h:ScOk s) (zs:List Str) (hz:zs.length=s.kinds.length) (w:∀z∈zs,Wd 12 z) (nd:zs.Nodup) (rs qs:List Rr) (hl:qs.length=s.bs.length) (p:PlOk s qs) (far:Int) (ms:List Int) (last m:Int) (b c d f:Sl) :
 ∃b' f',q0x (q1i 14) q51 (st17 ns s rs zs far ms last (.sh (.lst (qs.map q0J))) b c d f) (.int m)=.nx (st17 ns s rs zs far ms last (.sh (.lst (qs.map q0J))) b' c (.sh (.int m)) f'):=by
 have few:=h.few
 have bl:s.bs.length=s.bats.length:=by simp [Sc.bs]
 have du:=j3Z h qs hl p m
 have sd:=q6k h zs hz w nd qs hl p m
 have mr:=j3B qs (by omega) (p.rr h hl)
 have ln:=q3K m (s.bats.zip qs) (List.replicate s.asked.length 0)
 rw [List.length_replicate] at ln
 have al:=h.alen
 generalize stF m (s.bats.zip qs) (List.replicate s.asked.length 0)=T at *
 have ro:=q8O T (by omega) (.bo (T.map D.int)) (.inl rfl) (.sh (.lst (T.map D.int))) (.inr rfl)
 have lt:(T.map D.int).length < 1000000:=by simp;omega
 refine ⟨.sh (.lst (T.map D.int)),.ow (T.map D.int++[.int 7]),?_⟩
 unfold st17
 generalize T.map D.int=tt at *
 generalize qs.map q0J=qq at *
 generalize qs.map q1n=qr at *
 generalize rs.map q0J=r1 at *
 generalize rs.map q1n=r2 at *
 generalize s.bs.map q1a=bb at *
 generalize s.d=dd at *
 generalize s.bkr zs=sb at *
 generalize (s.asked.map (q1v zs)).map ord=oo at *
 generalize zs.map D.str=zz at *
 generalize ns.map D.int=nn at *
 generalize ms.map D.int=mm at *
 simp -implicitDefEqProofs [q0x,q51,j2w,j2i,j2R,du,mr,sd,ro,lt]
theorem j4M (ns:List Int) (hn:ns.length<=63) {s:Sc} (h:ScOk s) (zs:List Str) (hz:zs.length=s.kinds.length) (w:∀z∈zs,Wd 12 z) (nd:zs.Nodup) (rs:List Rr) (hl:rs.length=s.bs.length) (p:PlOk s rs) (far:Int) (ms:List Int) (hms:ms.length<=10) (last:Int) (hlast:∀r∈rs,r.1+isum r.2.1<=last) (a b c d f:Sl) :
 q2D (st17 ns s rs zs far ms last a b c d f)=.rt (.sh (.bl true)):=by
 have few:=h.few
 have bl:s.bs.length=s.bats.length:=by simp [Sc.bs]
 obtain ⟨qs,q1,q2,qe⟩:=j1n ns hn h rs hl p
 obtain ⟨ρ',e,a',b',d',f',rfl⟩:=j6q (body:=q0x (q1i 11) q4D) (λx:List Rr=>D.lst (x.map q0J)) (λj ρ=>∃a b d f:Sl,ρ=st17 ns s rs zs far ms last a b c d f) [rs,qs,rs] (λj x ρ hx ⟨a,b,d,f,e⟩=>by
  subst e
  have hx2:x.length=s.bs.length/\PlOk s x:=by
   have:x=rs∨x=qs:=by
    have:=List.mem_of_getElem? hx
    simp only [List.mem_cons,List.not_mem_nil,or_false] at this
    rcases this with h | h | h
    ·exact .inl h
    ·exact .inr h
    ·exact .inl h
   rcases this with rfl | rfl
   ·exact ⟨hl,p⟩
   ·exact ⟨q1,q2⟩
  obtain ⟨ρ2,e2,b2,d2,f2,rfl⟩:=j6q (body:=q0x (q1i 14) q51) D.int (λj ρ=>∃b d f:Sl,ρ=st17 ns s rs zs far ms last (.sh (.lst (x.map q0J))) b c d f) ms (λj m ρ _ ⟨b,d,f,e⟩=>by
   subst e
   obtain ⟨b',f',e⟩:=j1j ns h zs hz w nd rs x hx2.1 hx2.2 far ms last m b c d f
   exact ⟨_,e,b',_,f',rfl⟩) (ρ:=st17 ns s rs zs far ms last (.sh (.lst (x.map q0J))) b c d f) ⟨b,d,f,rfl⟩
  refine ⟨_,?_,.sh (.lst (x.map q0J)),b2,d2,f2,rfl⟩
  have b0:q0x (q1i 11) q4D (st17 ns s rs zs far ms last a b c d f) (.lst (x.map q0J))=q4D (st17 ns s rs zs far ms last (.sh (.lst (x.map q0J))) b c d f):=rfl
  rw [b0,q4D,q0P (ds:=ms.map D.int) (by rfl),e2]) (ρ:=st17 ns s rs zs far ms last a b c d f) ⟨a,b,d,f,rfl⟩
 have it:q1K (q1z (q06 (q0i (q0e 3) (q0i (rD (q0r (n:=2) j5C [] (gSh (q0e 0) (gSh (q0e 3) gN0)))) (q0i (q0e 3) q0B))))) (st17 ns s rs zs far ms last a b c d f)=.ok (([rs,qs,rs]:List (List Rr)).map λx:List Rr=>D.lst (x.map q0J)):=by
  unfold st17
  generalize s.d=dd at *
  generalize s.bkr zs=sb at *
  generalize ns.map D.int=nn at *
  simp -implicitDefEqProofs [qe]
 rw [q2D,q0P it,e,Fl.nx_bind]
 have du:q0T (q1K (e2 ixD (q0e 1) (eC (.int 5)))) [] (e2 ixD (q0e 0) (eC (.int 1))) (st17 ns s rs zs far ms last a' b' c d' f')=.ok ((s.asked.map (·.2.1)).map D.int):=by
  rw [List.map_map]
  refine q1c (g:=q1A) (by unfold st17 Sc.d;simp -implicitDefEqProofs [q2Q]) (by have:=h.alen;omega) λx _=>?_
  simp -implicitDefEqProofs [q1m,q1A,q0V]
 rw [q9J,q12 (v:=.lst ((s.asked.map (·.2.1)).map D.int)) (by rw [q1z,du,Out.ok_bind]),Fl.nx_bind]
 have sd:=q6k h zs hz w nd rs hl p last
 rw [q8K h rs hl last hlast] at sd
 have al:=h.alen
 have ro:=q8O (s.asked.map (·.2.1)) (by simp;omega) (.sh (.lst ((s.asked.map (·.2.1)).map D.int))) (.inr rfl) (.sh (.lst ((s.asked.map (·.2.1)).map D.int))) (.inr rfl)
 have so:=j36 zs s.asked (λa ha=>by have:=h.aix a ha;omega) h.alen
 have rso:=j0O rs (by omega) (p.rr h hl)
 clear e it du qe hlast
 show q5D [.sh (.lst (ns.map D.int)),.sh s.d,.sh (.lst (s.bs.map q1a)),.sh (.lst (rs.map q0J)),.sh (.lst (zs.map D.str)),.sh (s.bkr zs),.sh (.lst ((s.asked.map (q1v zs)).map ord)),.sh (.lst (rs.map q1n)),.sh (.int far),.sh (.lst (ms.map D.int)),.sh (.int last),a',.sh (.lst ((s.asked.map (·.2.1)).map D.int)),c,d',f']=_
 generalize (s.asked.map (·.2.1)).map D.int=tt at *
 generalize rs.map q0J=r1 at *
 generalize rs.map q1n=r2 at *
 generalize s.bs.map q1a=bb at *
 generalize (s.asked.map (q1v zs)).map ord=oo at *
 unfold Sc.d
 generalize s.asked.map q1A=aa at *
 generalize s.kinds.map q0N=dd at *
 generalize s.kilns.map q17=kk at *
 generalize s.bkr zs=sb at *
 generalize zs.map D.str=zz at *
 generalize ns.map D.int=nn at *
 generalize ms.map D.int=mm at *
 simp -implicitDefEqProofs [q5D,q8y,sd,ro,so,rso,q2Q]
theorem law_true (ns:List Int) (hn:ns.length<=63):j7j [.sh (.lst (ns.map D.int))]=.ok (.sh (.bl true)):=by
 obtain ⟨s,h,hdue,ds,esd,es⟩:=j1g ns hn
 have few:=h.few
 have bl:s.bs.length=s.bats.length:=by simp [Sc.bs]
 have eb:=j5o h
 obtain ⟨rs,hl,p,ep⟩:=j5d ns hn h
 have p62:=q1q ns hn 62 (by decide) (by decide)
 have p60:=q1q ns hn 60 (by decide) (by decide)
 have p61:=q1q ns hn 61 (by decide) (by decide)
 generalize pk ns (62:Int).toNat=v62 at *
 generalize pk ns (60:Int).toNat=v60 at *
 generalize pk ns (61:Int).toNat=v61 at *
 obtain ⟨zs,hz,nd,w,en⟩:=j1U v62 s.kinds.length (by have:=h.dlen;omega)
 have ebk:=j7O h zs hz w nd
 have eo:=j5K zs s.asked h.alen (λa ha=>by have:=h.aix a ha;omega) (λa ha=>(h.alv a ha).1)
 have er:=j3B rs (by omega) (p.rr h hl)
 obtain ⟨far,hfar⟩:∃far:Int,v60 % 10 ^ 30=far:=⟨_,rfl⟩
 obtain ⟨m2,em2,_⟩:=pick2 (0-far) far v61
 have em2':atI [D.int (-far),D.int far] (v61 % 2)=some (.int m2):=by rw [<-em2,Int.zero_sub]
 obtain ⟨ρ',e16,last,x,hlast,rfl⟩:=j6q (body:=q0x (q1i 11) q5V) q0J (λj ρ=>∃(last:Int) (x:Sl),(∀r∈rs.take j,r.1+isum r.2.1<=last)/\ρ=st17 ns s rs zs far [v60 % 1510-9,m2] last x .no .no .no .no) rs (λj r ρ hr ⟨last,x,hlast,e⟩=>by
  subst e
  have ro:=p.rr h hl r (List.mem_of_getElem? hr)
  have sm:=q3U (is:=r.2.1) (by have:=ro.len;omega) λi hi=>by have:=ro.nn i hi;omega
  refine ⟨_,?_,if r.1+isum r.2.1 > last then r.1+isum r.2.1 else last,.sh (q0J r),λq hq=>?_,rfl⟩
  ·rw [q0x]
   show q5V (st17 ns s rs zs far [v60 % 1510-9,m2] last (.sh (q0J r)) .no .no .no .no)=_
   unfold st17
   generalize ([v60 % 1510-9,m2]:List Int).map D.int=mm at *
   generalize s.d=sd at *
   generalize s.bkr zs=sb at *
   unfold q0J
   generalize r.2.1.map D.int=L at *
   simp -implicitDefEqProofs [q5V,q0S,q0V,sm]
  ·rw [q20 hr] at hq
   rcases List.mem_append.mp hq with hq | hq
   ·have:=hlast q hq;split<;>omega
   ·rw [List.mem_singleton.mp hq];split<;>omega) (ρ:=st17 ns s rs zs far [v60 % 1510-9,m2] 0 .no .no .no .no .no) ⟨0,.no,by simp,rfl⟩
 rw [List.take_length] at hlast
 obtain ⟨ms,hms,y,e15⟩:∃ms:List Int,ms.length<=10/\∃y:Sl,q3P (st17 ns s rs zs far [v60 % 1510-9,m2] last x .no .no .no .no)=q2D (st17 ns s rs zs far ms last x .no y .no .no):=by
  by_cases hr:rs.length=0
  ·have:rs=[]:=List.eq_nil_of_length_eq_zero hr
   subst this
   refine ⟨[v60 % 1510-9,m2],by simp,.no,?_⟩
   unfold st17
   generalize hG:q2D=G at *
   generalize s.d=sd at *
   generalize s.bkr zs=sb at *
   simp -implicitDefEqProofs [q3P,j2W,hG]
  ·have n0:0 < (rs.length:Int):=by omega
   have n0':0 < rs.length:=by omega
   obtain ⟨j,hj,ej⟩:∃j:Nat,j < rs.length/\v60 % (rs.length:Int)=(j:Int):=by
    have h0:=Int.emod_nonneg v60 (b:=(rs.length:Int)) (by omega)
    have h1:=Int.emod_lt_of_pos v60 (b:=(rs.length:Int)) (by omega)
    exact ⟨(v60 % (rs.length:Int)).toNat,by omega,by omega⟩
   have a1:atI (rs.map q0J) (j:Int)=some (.tup [.int rs[j].1,.lst (rs[j].2.1.map D.int),.int rs[j].2.2]):=q0z (by simp [hj,q0J])
   have ro:=p.rr h hl _ (List.getElem_mem hj)
   have sm:=q3U (is:=rs[j].2.1) (by have:=ro.len;omega) λi hi=>by have:=ro.nn i hi;omega
   have ne:(rs.map q0J).isEmpty=false:=by
    cases rs with
    | nil=>simp at hr
    | cons a l=>rfl
   have ll:(rs.map q0J).length=rs.length:=by simp
   rw [<-ll] at ej n0 n0'
   refine ⟨[v60 % 1510-9,m2,rs[j].1+isum rs[j].2.1,rs[j].1+isum rs[j].2.1-1],by simp,.sh (.tup [.int rs[j].1,.lst (rs[j].2.1.map D.int),.int rs[j].2.2]),?_⟩
   clear e16 er ep p ro
   unfold st17
   generalize hG:q2D=G at *
   generalize s.d=sd at *
   generalize s.bkr zs=sb at *
   generalize rs[j].2.1.map D.int=L at *
   generalize isum rs[j].2.1=I at *
   generalize rs[j].2.2=O at *
   generalize rs[j].1=B at *
   generalize rs.map q0J=aa at *
   generalize ns.map D.int=nn at *
   simp -implicitDefEqProofs [q3P,j2U,j2j,j2W,ne,p60,ej,n0,n0',a1,q0S,q0V,sm,hG]
 have e14:=j4M ns hn h zs hz w nd rs hl p far ms hms last hlast x .no y .no .no
 rw [e14] at e15
 have e16':q39 (st17 ns s rs zs far [v60 % 1510-9,m2] 0 .no .no .no .no .no)=.rt (.sh (.bl true)):=by
  rw [q39,q0P (ds:=rs.map q0J) (by rfl),e16,Fl.nx_bind,e15]
 clear e16 e15 e14 hlast
 have lk:(s.kinds.map q0N).length=s.kinds.length:=by simp
 have lk8:=h.dlen
 unfold st17 at e16'
 have k26:q5a [.sh (.lst (ns.map D.int)),.no,.no,.no,.no,.no,.no,.no,.no,.no,.no,.no,.no,.no,.no,.no]=.rt (.sh (.bl true)):=by
  have pw:(10:Int) ^ 30=1000000000000000000000000000000:=by decide
  have hfar':v60 % 1000000000000000000000000000000=far:=by rw [<-hfar,pw]
  have c5:atI ds 5=some (.lst (s.asked.map q1A)):=by
   unfold Sc.d at esd;cases esd;exact q2Q _ _ _ _ _ _ _
  have c4:atI ds 4=some (.lst (s.kinds.map q0N)):=by
   unfold Sc.d at esd;cases esd;exact q6Q _ _ _ _ _ _
  rw [esd] at *
  clear esd p hdue
  generalize hG:q39=G at *
  generalize s.kinds.map q0N=dd at *
  generalize (s.asked.map (q1v zs)).map ord=oo at *
  generalize s.asked.map q1A=aa at *
  generalize s.bkr zs=sb at *
  generalize s.bs.map q1a=bb at *
  generalize rs.map q0J=r1 at *
  generalize rs.map q1n=r2 at *
  generalize zs.map D.str=zz at *
  generalize ns.map D.int=nn at *
  simp -implicitDefEqProofs [List.map_cons,List.map_nil] at e16'
  simp -implicitDefEqProofs [q5a,q9i,q9Z,q90,q9v,q8d,q8n,q80,j0r,q9k,es,eb,ep,en,lk,c5,c4,p62,p60,p61,ebk,eo,er,hfar',em2,em2',hG,e16']
 rw [j7j]
 exact q1H _ rfl k26
end Lw
namespace Lw
open PySem PySem.W L2 L3
theorem q1J {K:Frag} {f c:Addr} {q:Str} {a:Option (Option Value)} {d:FuncData} (h:q1y K f c q a=q1B f d):K.lookup f=some (fo d)/\codeIn K (.ref c) q=true/\keepIn K (.ref f)=true/\isFn K (.ref f)=true/\a=some (some (.ref f)):=by
 unfold q1y q1B at h
 simpa only [Prod.mk.injEq] using h
theorem j4j {K:Frag} {C:Addr} {n:Str} {fs:List Str} (h:j1E K C n fs=j0U C fs):nI K n=some (some (.ref C))/\plainGet K C Str.empty=true/\hasDictIn K C=true/\plainOver K C=true/\makesIn K C=true/\keepIn K (.ref C)=true/\findIn K (.ref C) "__setattr__" = some (some (.builtin "object.__setattr__"))/\∀(i:Nat) (x:Str),fs[i]?=some x->findIn K (.ref C) x=some none:=by
 unfold j1E j0U at h
 simp only [Prod.mk.injEq,List.cons.injEq,and_true] at h
 obtain ⟨h1,⟨h2,h3,h4,h5,h6⟩,h7,h8⟩:=h
 refine ⟨h1,h2,h3,h4,h5,h6,h7,λi x e=>?_⟩
 have:=congrArg (·[i]?) h8
 simp only [List.getElem?_map,e,Option.map_some,Option.some.injEq] at this
 exact this
theorem j0y {K:Frag} {C:Addr} {n:Str} (h:q7C K C n=q7y C):nI K n=some (some (.ref C))/\excIn K C [.type "ValueError",.type "Exception",.type "BaseException",.type "object"] "ValueError.__new__" = true:=by
 unfold q7C q7y at h
 simpa only [Prod.mk.injEq] using h
theorem j4V {l:OpenLaw} {w:World} {K:Frag} {h:Heap} {mg:Str->Option Value} {fa:Addr} (X:K.In h) (G:h.Ns mainGlobals mg) (hfa:mg "law" = some (.ref fa)) (e:q5p K=j5k)
 : ∃fd:FuncData,(∀(s:Shared) (v:Value),BindsTo s fd ⟨[v],[]⟩ [("_law_script",v)])/\∃T:Tb,∀base:Heap,K.In base->base.Ns mainGlobals mg->q1f l.prog w K mg base (CXE T l.prog w) 8 fa fd ["_law_script"] (spD T K 1 j7j):=by
 obtain ⟨eF,e⟩:=Prod.mk.inj (e:(hLF K,hLG K,hLC K,hLE K,hZ.map (λx=>nI K x),hLI K,hLV K,hLB K,hLO K,hLX K)=(hRF,hRG,hRC,hRE,hZ.map (λ_=>(some none:Option (Option Value))),hRI,hRV,hRB,hRO,hRX))
 obtain ⟨eG,e⟩:=Prod.mk.inj e
 obtain ⟨eC,e⟩:=Prod.mk.inj e
 obtain ⟨eE,e⟩:=Prod.mk.inj e
 obtain ⟨eZ,e⟩:=Prod.mk.inj e
 obtain ⟨eI,e⟩:=Prod.mk.inj e
 obtain ⟨eV,e⟩:=Prod.mk.inj e
 obtain ⟨eB,e⟩:=Prod.mk.inj e
 obtain ⟨eO,e⟩:=Prod.mk.inj e
 obtain ⟨l1,c1,k1,i1,a1⟩:=q1J (Hd.row eF 0 rfl rfl)
 obtain ⟨l2,c2,k2,i2,a2⟩:=q1J (Hd.row eF 1 rfl rfl)
 obtain ⟨l3,c3,k3,i3,a3⟩:=q1J (Hd.row eF 2 rfl rfl)
 obtain ⟨l4,c4,k4,i4,a4⟩:=q1J (Hd.row eF 3 rfl rfl)
 obtain ⟨l5,c5,k5,i5,a5⟩:=q1J (Hd.row eF 4 rfl rfl)
 obtain ⟨l6,c6,k6,i6,a6⟩:=q1J (Hd.row eF 5 rfl rfl)
 obtain ⟨l7,c7,k7,i7,a7⟩:=q1J (Hd.row eF 6 rfl rfl)
 obtain ⟨l8,c8,k8,i8,a8⟩:=q1J (Hd.row eF 7 rfl rfl)
 obtain ⟨l9,c9,k9,i9,a9⟩:=q1J (Hd.row eF 8 rfl rfl)
 obtain ⟨l10,c10,k10,i10,a10⟩:=q1J (Hd.row eF 9 rfl rfl)
 obtain ⟨l11,c11,k11,i11,a11⟩:=q1J (Hd.row eF 10 rfl rfl)
 obtain ⟨l12,c12,k12,i12,a12⟩:=q1J (Hd.row eF 11 rfl rfl)
 obtain ⟨l14,c14,k14,i14,a14⟩:=q1J (Hd.row eF 12 rfl rfl)
 obtain ⟨l15,c15,k15,i15,a15⟩:=q1J (Hd.row eF 13 rfl rfl)
 obtain ⟨l16,c16,k16,i16,a16⟩:=q1J (Hd.row eF 14 rfl rfl)
 obtain ⟨l17,c17,k17,i17,a17⟩:=q1J (Hd.row eF 15 rfl rfl)
 obtain ⟨l18,c18,k18,i18,a18⟩:=q1J (Hd.row eF 16 rfl rfl)
 obtain ⟨l19,c19,k19,i19,a19⟩:=q1J (Hd.row eF 17 rfl rfl)
 obtain ⟨l20,c20,k20,i20,a20⟩:=q1J (Hd.row eF 18 rfl rfl)
 obtain ⟨l21,c21,k21,i21,a21⟩:=q1J (Hd.row eF 19 rfl rfl)
 obtain ⟨l22,c22,k22,i22,a22⟩:=q1J (Hd.row eF 20 rfl rfl)
 obtain ⟨l25,c25,k25,i25,a25⟩:=q1J (Hd.row eG 0 rfl rfl)
 obtain ⟨l26,c26,k26,i26,a26⟩:=q1J (Hd.row eG 1 rfl rfl)
 obtain ⟨l27,c27,k27,i27,a27⟩:=q1J (Hd.row eG 2 rfl rfl)
 obtain ⟨l28,c28,k28,i28,a28⟩:=q1J (Hd.row eG 3 rfl rfl)
 obtain ⟨l29,c29,k29,i29,a29⟩:=q1J (Hd.row eG 4 rfl rfl)
 obtain ⟨l30,c30,k30,i30,a30⟩:=q1J (Hd.row eG 5 rfl rfl)
 obtain ⟨l31,c31,k31,i31,a31⟩:=q1J (Hd.row eG 6 rfl rfl)
 obtain ⟨l32,c32,k32,i32,a32⟩:=q1J (Hd.row eG 7 rfl rfl)
 obtain ⟨l33,c33,k33,i33,a33⟩:=q1J (Hd.row eG 8 rfl rfl)
 obtain ⟨l34,c34,k34,i34,a34⟩:=q1J (Hd.row eG 9 rfl rfl)
 obtain ⟨l35,c35,k35,i35,a35⟩:=q1J (Hd.row eG 10 rfl rfl)
 obtain ⟨l36,c36,k36,i36,a36⟩:=q1J (Hd.row eG 11 rfl rfl)
 obtain ⟨l37,c37,k37,i37,a37⟩:=q1J (Hd.row eG 12 rfl rfl)
 obtain ⟨l38,c38,k38,i38,a38⟩:=q1J (Hd.row eG 13 rfl rfl)
 obtain ⟨l39,c39,k39,i39,a39⟩:=q1J (Hd.row eG 14 rfl rfl)
 obtain ⟨l40,c40,k40,i40,a40⟩:=q1J (Hd.row eG 15 rfl rfl)
 obtain ⟨l41,c41,k41,i41,a41⟩:=q1J (Hd.row eG 16 rfl rfl)
 obtain ⟨l42,c42,k42,i42,a42⟩:=q1J (Hd.row eG 17 rfl rfl)
 obtain ⟨l43,c43,k43,i43,a43⟩:=q1J (Hd.row eG 18 rfl rfl)
 obtain ⟨l44,c44,k44,i44,a44⟩:=q1J (Hd.row eG 19 rfl rfl)
 obtain ⟨l45,c45,k45,i45,a45⟩:=q1J (Hd.row eG 20 rfl rfl)
 obtain ⟨aC10,pg10,hd10,po10,mk10,kc10,sa10,nf10⟩:=j4j (Hd.row eC 0 rfl rfl)
 have na10_bread:=nf10 0 _ rfl
 have na10_loaves:=nf10 1 _ rfl
 have na10_due:=nf10 2 _ rfl
 obtain ⟨aC11,pg11,hd11,po11,mk11,kc11,sa11,nf11⟩:=j4j (Hd.row eC 1 rfl rfl)
 have na11_order:=nf11 0 _ rfl
 have na11_first:=nf11 1 _ rfl
 have na11_loaves:=nf11 2 _ rfl
 obtain ⟨aC12,pg12,hd12,po12,mk12,kc12,sa12,nf12⟩:=j4j (Hd.row eC 2 rfl rfl)
 have na12_begin:=nf12 0 _ rfl
 have na12_lengths:=nf12 1 _ rfl
 have na12_oven:=nf12 2 _ rfl
 obtain ⟨aC13,pg13,hd13,po13,mk13,kc13,sa13,nf13⟩:=j4j (Hd.row eC 3 rfl rfl)
 have na13_night:=nf13 0 _ rfl
 have na13_hands:=nf13 1 _ rfl
 have na13_benches:=nf13 2 _ rfl
 have na13_ovens:=nf13 3 _ rfl
 have na13_breads:=nf13 4 _ rfl
 obtain ⟨aC14,pg14,hd14,po14,mk14,kc14,sa14,nf14⟩:=j4j (Hd.row eC 4 rfl rfl)
 have na14_name:=nf14 0 _ rfl
 have na14_least:=nf14 1 _ rfl
 have na14_most:=nf14 2 _ rfl
 have na14_want:=nf14 3 _ rfl
 have na14_heat:=nf14 4 _ rfl
 obtain ⟨aC15,pg15,hd15,po15,mk15,kc15,sa15,nf15⟩:=j4j (Hd.row eC 5 rfl rfl)
 have na15_name:=nf15 0 _ rfl
 have na15_stages:=nf15 1 _ rfl
 obtain ⟨aC16,pg16,hd16,po16,mk16,kc16,sa16,nf16⟩:=j4j (Hd.row eC 6 rfl rfl)
 have na16_room:=nf16 0 _ rfl
 have na16_rate:=nf16 1 _ rfl
 have na16_heat:=nf16 2 _ rfl
 obtain ⟨aC0,xc0⟩:=j0y (Hd.row eE 0 rfl rfl)
 obtain ⟨aC1,xc1⟩:=j0y (Hd.row eE 1 rfl rfl)
 obtain ⟨aC2,xc2⟩:=j0y (Hd.row eE 2 rfl rfl)
 obtain ⟨aC3,xc3⟩:=j0y (Hd.row eE 3 rfl rfl)
 obtain ⟨aC4,xc4⟩:=j0y (Hd.row eE 4 rfl rfl)
 obtain ⟨aC5,xc5⟩:=j0y (Hd.row eE 5 rfl rfl)
 obtain ⟨aC6,xc6⟩:=j0y (Hd.row eE 6 rfl rfl)
 obtain ⟨aC7,xc7⟩:=j0y (Hd.row eE 7 rfl rfl)
 obtain ⟨aC8,xc8⟩:=j0y (Hd.row eE 8 rfl rfl)
 obtain ⟨aC9,xc9⟩:=j0y (Hd.row eE 9 rfl rfl)
 have z_all:=Hd.row eZ 0 rfl rfl
 have z_any:=Hd.row eZ 1 rfl rfl
 have z_bool:=Hd.row eZ 2 rfl rfl
 have z_enumerate:=Hd.row eZ 3 rfl rfl
 have z_int:=Hd.row eZ 4 rfl rfl
 have z_isinstance:=Hd.row eZ 5 rfl rfl
 have z_len:=Hd.row eZ 6 rfl rfl
 have z_list:=Hd.row eZ 7 rfl rfl
 have z_max:=Hd.row eZ 8 rfl rfl
 have z_min:=Hd.row eZ 9 rfl rfl
 have z_range:=Hd.row eZ 10 rfl rfl
 have z_set:=Hd.row eZ 11 rfl rfl
 have z_sum:=Hd.row eZ 12 rfl rfl
 have z_tuple:=Hd.row eZ 13 rfl rfl
 have z_zip:=Hd.row eZ 14 rfl rfl
 have cc_FASTEST:=Hd.row eV 0 rfl rfl
 have cc_HOTTEST:=Hd.row eV 1 rfl rfl
 have cc_LETTERS:=Hd.row eV 2 rfl rfl
 have cc_LONGEST_NAME:=Hd.row eV 3 rfl rfl
 have cc_MOST_BATCHES:=Hd.row eV 4 rfl rfl
 have cc_MOST_BENCHES:=Hd.row eV 5 rfl rfl
 have cc_MOST_BREADS:=Hd.row eV 6 rfl rfl
 have cc_MOST_HANDS:=Hd.row eV 7 rfl rfl
 have cc_MOST_LOAVES:=Hd.row eV 8 rfl rfl
 have cc_MOST_ORDERS:=Hd.row eV 9 rfl rfl
 have cc_MOST_OVENS:=Hd.row eV 10 rfl rfl
 have cc_MOST_ROOM:=Hd.row eV 11 rfl rfl
 have cc_MOST_STAGES:=Hd.row eV 12 rfl rfl
 have cc_NIGHT:=Hd.row eV 13 rfl rfl
 have cc_WANTS:=Hd.row eV 14 rfl rfl
 have dk11:=Hd.row eO 0 rfl rfl
 have dk21:=Hd.row eO 1 rfl rfl
 have ct_WANTS:=Hd.row eO 2 rfl rfl
 have e:=hfa.symm.trans (mg_of X G a45)
 cases e
 have F1:=q0A (st:=s_1) l1 c1 k1
 have F2:=q0A (st:=s_2) l2 c2 k2
 have F3:=q0A (st:=s_3) l3 c3 k3
 have F4:=q0A (st:=s_4) l4 c4 k4
 have F5:=q0A (st:=s_5) l5 c5 k5
 have F6:=q0A (st:=s_6) l6 c6 k6
 have F7:=q0A (st:=s_7) l7 c7 k7
 have F8:=q0A (st:=s_8) l8 c8 k8
 have F9:=q0A (st:=s_9) l9 c9 k9
 have F10:=q0A (st:=j8f) l10 c10 k10
 have F11:=q9a (st:=j8l) l11 c11 k11
 have F12:=q0A (st:=j8G) l12 c12 k12
 have F14:=q0A (st:=j8X) l14 c14 k14
 have F15:=q0A (st:=j8O) l15 c15 k15
 have F16:=q0A (st:=j8E) l16 c16 k16
 have F17:=q0A (st:=j8Z) l17 c17 k17
 have F18:=q0A (st:=j74) l18 c18 k18
 have F19:=q0A (st:=j79) l19 c19 k19
 have F20:=q0A (st:=j8j) l20 c20 k20
 have F21:=q9a (st:=j8s) l21 c21 k21
 have F22:=q0A (st:=j8R) l22 c22 k22
 have F25:=q0A (st:=j8u) l25 c25 k25
 have F26:=q0A (st:=j8W) l26 c26 k26
 have F27:=q0A (st:=j77) l27 c27 k27
 have F28:=q0A (st:=j8y) l28 c28 k28
 have F29:=q0A (st:=j8S) l29 c29 k29
 have F30:=q0A (st:=j8a) l30 c30 k30
 have F31:=q0A (st:=j8e) l31 c31 k31
 have F32:=q0A (st:=j8K) l32 c32 k32
 have F33:=q0A (st:=j78) l33 c33 k33
 have F34:=q0A (st:=j8d) l34 c34 k34
 have F35:=q0A (st:=j8x) l35 c35 k35
 have F36:=q0A (st:=j8U) l36 c36 k36
 have F37:=q0A (st:=j8z) l37 c37 k37
 have F38:=q0A (st:=j8L) l38 c38 k38
 have F39:=q0A (st:=j8Y) l39 c39 k39
 have F40:=q0A (st:=j8k) l40 c40 k40
 have F41:=q0A (st:=j8p) l41 c41 k41
 have F42:=q0A (st:=j8v) l42 c42 k42
 have F43:=q0A (st:=j8r) l43 c43 k43
 have F44:=q0A (st:=j8H) l44 c44 k44
 have F45:=q0A (st:=j8c) l45 c45 k45
 refine ⟨j28,λs v=>.of_eq rfl,⟨λi=>([31,44,56,68,80,92,104,116,128,140,178,199,268,322,352,392,413]:List Addr).getD i 0,λa=>if a==178 then (["bread","loaves","due"]:List Str) else if a==199 then (["order","first","loaves"]:List Str) else if a==268 then (["begin","lengths","oven"]:List Str) else if a==322 then (["night","hands","benches","ovens","breads"]:List Str) else if a==352 then (["name","least","most","want","heat"]:List Str) else if a==392 then (["name","stages"]:List Str) else if a==413 then (["room","rate","heat"]:List Str) else [],none,none⟩,λbase _ _=>j94 (fa:=λi=>([534,147,154,161,175,196,208,215,222,229,236,251,258,534,279,286,293,300,312,319,333,349,370,534,534,389,410,424,431,438,443,450,457,462,467,474,481,486,491,496,501,508,515,522,529,534]:List Addr).getD i 0) (fd:=λi=>([j28,d_1,d_2,d_3,d_4,d_5,d_6,d_7,d_8,d_9,w0H,w02,w0W,j28,w0G,w0X,w0z,w0B,w0O,w0u,w0x,w0M,w0U,j28,j28,w03,w0Y,w0F,w00,w0E,w01,w0Z,w0K,w0J,w0S,w0r,w0T,w0R,w0N,w0P,w0w,w04,w0y,w0s,w0v,j28]:List FuncData).getD i j28) ?_⟩
 exact {
  me:=rfl
  F1:=F1
  c1:=⟨mg_of X G a1,F1.kp,F1.binds λ_ _ _ _ _ _ us hl=>match us,hl with | [_],_=>rfl⟩
  F2:=F2
  c2:=⟨mg_of X G a2,F2.kp,F2.binds λ_ _ _ _ _ _ us hl=>match us,hl with | [_,_,_],_=>rfl⟩
  F3:=F3
  c3:=⟨mg_of X G a3,F3.kp,F3.binds λ_ _ _ _ _ _ us hl=>match us,hl with | [_,_,_],_=>rfl⟩
  F4:=F4
  b4:=F4.binds λ_ _ _ _ _ _ us hl=>match us,hl with | [_,_,_,_],_=>rfl
  F5:=F5
  b5:=F5.binds λ_ _ _ _ _ _ us hl=>match us,hl with | [_,_,_,_],_=>rfl
  F6:=F6
  c6:=⟨mg_of X G a6,F6.kp,F6.binds λ_ _ _ _ _ _ us hl=>match us,hl with | [_],_=>rfl⟩
  F7:=F7
  c7:=⟨mg_of X G a7,F7.kp,F7.binds λ_ _ _ _ _ _ us hl=>match us,hl with | [_,_],_=>rfl⟩
  F8:=F8
  c8:=⟨mg_of X G a8,F8.kp,F8.binds λ_ _ _ _ _ _ us hl=>match us,hl with | [_,_],_=>rfl⟩
  F9:=F9
  c9:=⟨mg_of X G a9,F9.kp,F9.binds λ_ _ _ _ _ _ us hl=>match us,hl with | [_,_],_=>rfl⟩
  F10:=F10
  c10:=⟨mg_of X G a10,F10.kp,F10.binds λ_ _ _ _ _ _ us hl=>match us,hl with | [_,_],_=>rfl⟩
  F11:=F11
  b11:=q3r rfl dk11 4 rfl λus hl=>match us,hl with | [_,_,_,_],_=>⟨_,rfl,rfl⟩
  F12:=F12
  b12:=F12.binds λ_ _ _ _ _ _ us hl=>match us,hl with | [_],_=>rfl
  mt12:=⟨a12,i12,k12⟩
  F14:=F14
  c14:=⟨mg_of X G a14,F14.kp,F14.binds λ_ _ _ _ _ _ us hl=>match us,hl with | [_,_,_],_=>rfl⟩
  F15:=F15
  c15:=⟨mg_of X G a15,F15.kp,F15.binds λ_ _ _ _ _ _ us hl=>match us,hl with | [_,_,_],_=>rfl⟩
  F16:=F16
  c16:=⟨mg_of X G a16,F16.kp,F16.binds λ_ _ _ _ _ _ us hl=>match us,hl with | [_,_,_],_=>rfl⟩
  F17:=F17
  c17:=⟨mg_of X G a17,F17.kp,F17.binds λ_ _ _ _ _ _ us hl=>match us,hl with | [_,_,_,_],_=>rfl⟩
  F18:=F18
  b18:=F18.binds λ_ _ _ _ _ _ us hl=>match us,hl with | [_,_,_,_,_,_],_=>rfl
  F19:=F19
  b19:=F19.binds λ_ _ _ _ _ _ us hl=>match us,hl with | [_,_],_=>rfl
  mt19:=⟨a19,i19,k19⟩
  F20:=F20
  c20:=⟨mg_of X G a20,F20.kp,F20.binds λ_ _ _ _ _ _ us hl=>match us,hl with | [_],_=>rfl⟩
  F21:=F21
  b21:=q3r rfl dk21 6 rfl λus hl=>match us,hl with | [_,_,_,_,_,_],_=>⟨_,rfl,rfl⟩
  F22:=F22
  b22:=F22.binds λ_ _ _ _ _ _ us hl=>match us,hl with | [_,_,_],_=>rfl
  F25:=F25
  b25:=F25.binds λ_ _ _ _ _ _ us hl=>match us,hl with | [_],_=>rfl
  mt25:=⟨a25,i25,k25⟩
  F26:=F26
  b26:=F26.binds λ_ _ _ _ _ _ us hl=>match us,hl with | [_,_,_,_],_=>rfl
  F27:=F27
  c27:=⟨mg_of X G a27,F27.kp,F27.binds λ_ _ _ _ _ _ us hl=>match us,hl with | [_,_],_=>rfl⟩
  F28:=F28
  c28:=⟨mg_of X G a28,F28.kp,F28.binds λ_ _ _ _ _ _ us hl=>match us,hl with | [_,_],_=>rfl⟩
  F29:=F29
  c29:=⟨mg_of X G a29,F29.kp,F29.binds λ_ _ _ _ _ _ us hl=>match us,hl with | [_,_],_=>rfl⟩
  F30:=F30
  c30:=⟨mg_of X G a30,F30.kp,F30.binds λ_ _ _ _ _ _ us hl=>match us,hl with | [_,_],_=>rfl⟩
  F31:=F31
  c31:=⟨mg_of X G a31,F31.kp,F31.binds λ_ _ _ _ _ _ us hl=>match us,hl with | [_],_=>rfl⟩
  F32:=F32
  c32:=⟨mg_of X G a32,F32.kp,F32.binds λ_ _ _ _ _ _ us hl=>match us,hl with | [_],_=>rfl⟩
  F33:=F33
  c33:=⟨mg_of X G a33,F33.kp,F33.binds λ_ _ _ _ _ _ us hl=>match us,hl with | [_],_=>rfl⟩
  F34:=F34
  c34:=⟨mg_of X G a34,F34.kp,F34.binds λ_ _ _ _ _ _ us hl=>match us,hl with | [_,_,_,_],_=>rfl⟩
  F35:=F35
  c35:=⟨mg_of X G a35,F35.kp,F35.binds λ_ _ _ _ _ _ us hl=>match us,hl with | [_,_,_,_,_],_=>rfl⟩
  F36:=F36
  c36:=⟨mg_of X G a36,F36.kp,F36.binds λ_ _ _ _ _ _ us hl=>match us,hl with | [_,_,_],_=>rfl⟩
  F37:=F37
  c37:=⟨mg_of X G a37,F37.kp,F37.binds λ_ _ _ _ _ _ us hl=>match us,hl with | [_],_=>rfl⟩
  F38:=F38
  c38:=⟨mg_of X G a38,F38.kp,F38.binds λ_ _ _ _ _ _ us hl=>match us,hl with | [_,_],_=>rfl⟩
  F39:=F39
  c39:=⟨mg_of X G a39,F39.kp,F39.binds λ_ _ _ _ _ _ us hl=>match us,hl with | [_,_],_=>rfl⟩
  F40:=F40
  c40:=⟨mg_of X G a40,F40.kp,F40.binds λ_ _ _ _ _ _ us hl=>match us,hl with | [_],_=>rfl⟩
  F41:=F41
  c41:=⟨mg_of X G a41,F41.kp,F41.binds λ_ _ _ _ _ _ us hl=>match us,hl with | [_,_],_=>rfl⟩
  F42:=F42
  c42:=⟨mg_of X G a42,F42.kp,F42.binds λ_ _ _ _ _ _ us hl=>match us,hl with | [_,_,_],_=>rfl⟩
  F43:=F43
  c43:=⟨mg_of X G a43,F43.kp,F43.binds λ_ _ _ _ _ _ us hl=>match us,hl with | [_,_],_=>rfl⟩
  F44:=F44
  c44:=⟨mg_of X G a44,F44.kp,F44.binds λ_ _ _ _ _ _ us hl=>match us,hl with | [_,_,_,_],_=>rfl⟩
  F45:=F45
  c45:=⟨mg_of X G a45,F45.kp,F45.binds λ_ _ _ _ _ _ us hl=>match us,hl with | [_],_=>rfl⟩
  mC0:=mg_of X G aC0
  xc0:=xc0
  mC1:=mg_of X G aC1
  xc1:=xc1
  mC2:=mg_of X G aC2
  xc2:=xc2
  mC3:=mg_of X G aC3
  xc3:=xc3
  mC4:=mg_of X G aC4
  xc4:=xc4
  mC5:=mg_of X G aC5
  xc5:=xc5
  mC6:=mg_of X G aC6
  xc6:=xc6
  mC7:=mg_of X G aC7
  xc7:=xc7
  mC8:=mg_of X G aC8
  xc8:=xc8
  mC9:=mg_of X G aC9
  xc9:=xc9
  mC10:=mg_of X G aC10
  cC10:=⟨pg10,hd10,po10,sa10⟩
  mk10:=⟨mk10,a4,i4,kc10⟩
  fl10:=rfl
  na10_bread:=na10_bread
  na10_loaves:=na10_loaves
  na10_due:=na10_due
  mC11:=mg_of X G aC11
  cC11:=⟨pg11,hd11,po11,sa11⟩
  mk11:=⟨mk11,a5,i5,kc11⟩
  fl11:=rfl
  na11_order:=na11_order
  na11_first:=na11_first
  na11_loaves:=na11_loaves
  mC12:=mg_of X G aC12
  cC12:=⟨pg12,hd12,po12,sa12⟩
  mk12:=⟨mk12,a11,i11,kc12⟩
  fl12:=rfl
  na12_begin:=na12_begin
  na12_lengths:=na12_lengths
  na12_oven:=na12_oven
  mC13:=mg_of X G aC13
  cC13:=⟨pg13,hd13,po13,sa13⟩
  mk13:=⟨mk13,a18,i18,kc13⟩
  fl13:=rfl
  na13_night:=na13_night
  na13_hands:=na13_hands
  na13_benches:=na13_benches
  na13_ovens:=na13_ovens
  na13_breads:=na13_breads
  mC14:=mg_of X G aC14
  cC14:=⟨pg14,hd14,po14,sa14⟩
  mk14:=⟨mk14,a21,i21,kc14⟩
  fl14:=rfl
  na14_name:=na14_name
  na14_least:=na14_least
  na14_most:=na14_most
  na14_want:=na14_want
  na14_heat:=na14_heat
  mC15:=mg_of X G aC15
  cC15:=⟨pg15,hd15,po15,sa15⟩
  mk15:=⟨mk15,a22,i22,kc15⟩
  fl15:=rfl
  na15_name:=na15_name
  na15_stages:=na15_stages
  mC16:=mg_of X G aC16
  cC16:=⟨pg16,hd16,po16,sa16⟩
  mk16:=⟨mk16,a26,i26,kc16⟩
  fl16:=rfl
  na16_room:=na16_room
  na16_rate:=na16_rate
  na16_heat:=na16_heat
  c_FASTEST:=⟨_,mg_of X G cc_FASTEST⟩
  c_HOTTEST:=⟨_,mg_of X G cc_HOTTEST⟩
  c_LETTERS:=⟨_,mg_of X G cc_LETTERS⟩
  c_LONGEST_NAME:=⟨_,mg_of X G cc_LONGEST_NAME⟩
  c_MOST_BATCHES:=⟨_,mg_of X G cc_MOST_BATCHES⟩
  c_MOST_BENCHES:=⟨_,mg_of X G cc_MOST_BENCHES⟩
  c_MOST_BREADS:=⟨_,mg_of X G cc_MOST_BREADS⟩
  c_MOST_HANDS:=⟨_,mg_of X G cc_MOST_HANDS⟩
  c_MOST_LOAVES:=⟨_,mg_of X G cc_MOST_LOAVES⟩
  c_MOST_ORDERS:=⟨_,mg_of X G cc_MOST_ORDERS⟩
  c_MOST_OVENS:=⟨_,mg_of X G cc_MOST_OVENS⟩
  c_MOST_ROOM:=⟨_,mg_of X G cc_MOST_ROOM⟩
  c_MOST_STAGES:=⟨_,mg_of X G cc_MOST_STAGES⟩
  c_NIGHT:=⟨_,mg_of X G cc_NIGHT⟩
  c_WANTS:=j1W (mg_of X G cc_WANTS) ct_WANTS (by show (4:Nat)<=1000000;decide) (vcS (vcS (vcS (vcS .nil)))) rfl
  n_all:=mg_none_of X G z_all
  n_any:=mg_none_of X G z_any
  n_bool:=mg_none_of X G z_bool
  n_enumerate:=mg_none_of X G z_enumerate
  n_int:=mg_none_of X G z_int
  n_isinstance:=mg_none_of X G z_isinstance
  n_len:=mg_none_of X G z_len
  n_list:=mg_none_of X G z_list
  n_max:=mg_none_of X G z_max
  n_min:=mg_none_of X G z_min
  n_range:=mg_none_of X G z_range
  n_set:=mg_none_of X G z_set
  n_sum:=mg_none_of X G z_sum
  n_tuple:=mg_none_of X G z_tuple
  n_zip:=mg_none_of X G z_zip
 }
end Lw
open PySem PySem.W PyProof.Rows
set_option maxRecDepth 100000 in
set_option maxHeartbeats 0 in
theorem PySem.Challenge.cw_doughhours_k17_stand_holds : PySem.Challenge.rw_doughhours_k17_stand.Holds := by
 w_on;refine holds_law Lw.j7w λsaid=>?_
 refine holds_open (q:=Lw.vw) (loose:=[]) (Xt:=Lw.Xv) (XP:=XL Lw.vw []) (Yf:=λs=>Lw.q5p (L3.Hd.kOf Lw.hAs s.heap)) (Ya:=λ_=>Lw.j5k) (YP:=λ_ h=>L3.Hd.says Lw.q5p Lw.j5k h) (N:=11428) Lw.q7P (λw s e=>L3.Hd.says_of Lw.hAs s e) (λw h h' a b=>L3.Hd.says_keeps a b) (λs e=>xl_of s (Bool.and_eq_true_iff.mp e).1) XL.keeps (by rfl) (by rfl) (by rfl) (λs e=>recFacts_of (Bool.and_eq_true_iff.mp e).2) (by rfl) (by first | assumption | decide +kernel) (by decide +kernel) ⟨rfl,rfl,rfl,rfl,rfl,by decide +kernel⟩ ?hw ?hc
 case hw=>w_witness2
 refine L3.j5Z (l:=PySem.Challenge.rw_doughhours_k17_stand) (k:=8) (x:="_law_script") (F:=Lw.j7j) rfl rfl ⟨rfl,by decide,by decide,rfl⟩ ?F Lw.law_true
 intro w mg fa h Y G hmg
 obtain ⟨K,KX,e⟩:=Y
 exact ⟨K,KX,Lw.j4V KX G hmg e⟩
