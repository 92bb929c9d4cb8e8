import PyProof.Rows.All
import Wide.All
import OpenK.KCall
import OpenK.KWalk
import OpenK.KOwn
import Open.Pieces
import KE.KTryMore
import KE.KIsAll
import KE.KItem
import KE.KRevIter
import KE.KRevSl
import KE.KxBytes
import Wide.FinOn
import PyProof.EqAt
import PyProof.EqKinds
import PyProof.TupleCall
import PyProof.ExcArgsOwn
import PyProof.DictRoadsH
import PyProof.TupleKey
import PyProof.AttrMissHeap
import KE.KDictOf
import PySem.Challenge.RW_doughhours_k16_held
local macro_rules | `(tactic| walk_at "v0") => `(tactic| (first | exact Or.inl rfl | exact Or.inr (Or.inl rfl) | exact Or.inr (Or.inr rfl)))
local macro_rules | `(tactic| walk_at "v1") => `(tactic| (first | exact Or.inr (by decide) | exact Or.inl (by assumption)))
local macro_rules | `(tactic| walk_at "v2") => `(tactic| (first | exact .inl rfl | exact .inr rfl | assumption))
local macro_rules | `(tactic| walk_at "v3") => `(tactic| (first | exact Or.inl rfl | exact Or.inr rfl))
set_option Elab.async false
set_option linter.all false
set_option maxRecDepth 100000
set_option maxHeartbeats 4000000
namespace L2
open PySem PySem.Spec PyProof.Rows
noncomputable def q1L (s:Stmt) (j:Nat):Stmt:=match s with
 | .ClassDef _ _ _ body _ _ _ _ _ _ _=>body.getD j (.Pass ⟨0,0,0,0⟩)
 | _=>.Pass ⟨0,0,0,0⟩
noncomputable def q1Y (s:Stmt):Arguments:=match s with
 | .FunctionDef _ a _ _ _ _ _ _ _ _=>a
 | _=>{ posonlyargs:=[],args:=[],vararg:=none,kwonlyargs:=[],kw_defaults:=[],kwarg:=none,defaults:=[] }
noncomputable def q1D (s:Stmt):List Stmt:=match s with
 | .FunctionDef _ _ b _ _ _ _ _ _ _=>b
 | _=>[]
noncomputable def q0j (s:Stmt):Scope:=match s with
 | .FunctionDef _ _ _ _ _ _ sc _ _ _=>sc
 | _=>{ kind:=.function,names:=[],isGenerator:=false,isCoroutine:=false }
end L2
set_option autoImplicit false
namespace L3
open PySem
namespace Tp
open PySem.W
structure TS where
 t:BT
 n:Nat
 k:Nat
 md:Value
 ns:List DictEntry
 cl:List Value
noncomputable def marks (k:Nat):List Str->List Value
 | []=>[]
 | x::l=>.str x k::marks (k+1) l
noncomputable def j6i (l:List Value):Obj:=⟨.type "tuple",none,.seq ⟨l⟩ 0,#[]⟩
noncomputable def fldO (c:Value) (l:List Value):Obj:=⟨c,none,.fields ⟨l⟩,#[]⟩
noncomputable def dicO (l:List DictEntry) (e:Nat):Obj:=⟨.type "dict",none,.dict ⟨l⟩ e,#[]⟩
noncomputable def file:Str:="/claim/cut.py"
noncomputable def j8f (n k:Nat) (name qual:Str) (line argc fl:Nat) (isF:Bool) (tab:List Value) (loc:Option (List Str×List Str)) (tpl:Option FuncData):List Obj×Nat×Nat:=
 let a:=match loc with
  | some (x,y)=>([j6i (marks (k+3) x),j6i (marks (k+3+x.length) y)],k+3+x.length+y.length,n+4,Value.ref (n+2),Value.ref (n+3))
  | none=>([],k+3,n+2,Value.none,Value.none)
 let b:=match tpl with
  | some f=>([Obj.mk .none none (.func f) #[]],a.2.2.1+1,Value.ref a.2.2.1)
  | none=>([],a.2.2.1,Value.none)
 (j6i []::fldO .none tab::a.1++b.1++[fldO (.type "code") [.str name k,.str qual (k+1),.str file (k+2),.int line 0,.int argc 0,.int 0 0,.int 0 0,.int fl 0,.ref n,.bool isF,.int 181 0,.ref (n+1),.none,a.2.2.2.1,a.2.2.2.2,b.2.2,.int a.2.1 0,.int line 0,.str file (a.2.1+1)]],a.2.1+2,b.2.1)
noncomputable def q6B (k:Nat):Expr->Value
 | .Constant (.int i) _ _=>.int i k
 | .Constant (.str x) _ _=>.str x k
 | .Constant (.bool b) _ _=>.bool b
 | _=>.none
noncomputable def consts (k:Nat):List Expr->List Value
 | []=>[]
 | e::l=>q6B k e::consts (k+1) l
noncomputable def w2j (n k:Nat) (md:Value) (pre:Str) (name:Str) (p:Arguments) (body:List Stmt) (sc:Scope) (pos:Pos):List Obj×Nat×Nat×List Value:=
 let d:=p.defaults.length
 let n1:=match d with | 0=>n | _=>n+1
 let qual:=pre++name
 let c:=j8f n1 (k+d) name qual pos.line p.args.length 3 true [] (localNames p sc (.stmts body)) (some { name,qualname:=qual,params:=p,body:=.stmts body,scope:=sc,globals:=builtinsNs,closure:=[],defaults:=.none,kwdefaults:=.none })
 ((match d with | 0=>[] | _=>[j6i (consts k p.defaults)])++c.1++[⟨.type "function",none,.func { name,qualname:=qual,params:=p,body:=.stmts body,scope:=sc,globals:=mainNs,closure:=[],defaults:=match d with | 0=>.none | _=>.ref n,kwdefaults:=.none,pyModule:=md,code:=.ref c.2.2 },#[]⟩],
  c.2.1,c.2.2+2,[.int pos.line 0,.int pos.col 0,.ref c.2.2])
noncomputable def ent (P:Params) (x:Str) (k:Nat) (v:Value):DictEntry:=⟨PyData.keyHash P x,.str x k,v⟩
noncomputable def j61 (P:Params) (md:Value) (pre:Str):Nat->Nat->List Stmt->List Obj×Nat×Nat×List Value×List DictEntry
 | n,k,.FunctionDef name p body _ _ _ sc _ _ pos::l=>
  let a:=w2j n k md pre name p body sc pos
  let r:=j61 P md pre a.2.2.1 (a.2.1+1) l
  (a.1++r.1,r.2.1,r.2.2.1,a.2.2.2++r.2.2.2.1,ent P name a.2.1 (.ref (a.2.2.1-1))::r.2.2.2.2)
 | n,k,_=>([],k,n,[],[])
noncomputable def lookN (x:Str):List DictEntry->Option Value
 | []=>none
 | e::l=>match e.key.isStr x with
  | true=>some e.val
  | false=>lookN x l
noncomputable def j3N (s:TS):List Expr->Option (Value×Bool×List Value)
 | [.Name x _]=>match lookN x s.ns with
  | some (.ref a)=>match s.t.get a with
   | some ⟨_,_,.cls c,_⟩=>some (.ref a,true,c.mro)
   | _=>none
  | _=>some (.type "ValueError",false,[.type "ValueError",.type "Exception",.type "BaseException",.type "object"])
 | _=>none
noncomputable def q6n:BT->Nat->List Obj->BT
 | t,_,[]=>t
 | t,n,o::l=>q6n (t.ins n o) (n+1) l
noncomputable def j6J (P:Params) (s:TS) (name:Str) (bases:List Expr) (body:List Stmt) (st:List Str) (pos:Pos):List Obj×Nat×Value×List Value:=
 let n:=s.n
 let k:=s.k
 let b:=j3N s bases
 let exc:=b.isSome
 let f:=j61 P s.md (name++Str.ofString ".") (n+7) (k+12) body
 let k1:=f.2.1
 let n1:=f.2.2.1
 let c:=j8f (n+3) (k+2) name name pos.line 0 0 false f.2.2.2.1 none none
 let m:=ent P "__module__" (k+7) s.md
 let line:=ent P "__firstlineno__" (k+11) (.int pos.line (k+10))
 let sa:=ent P "__static_attributes__" (k1+st.length) (.ref n1)
 let k2:=k1+st.length+1
 let T:=n1+2
 let dd:=match exc with
  | true=>(([]:List Obj),([]:List DictEntry),k2,n1+3)
  | false=>([fldO (.type "getset_descriptor") [.str "__dict__" k2,.ref T,.builtin "function.__dict__",.builtin "function.__dict__#set"]],[ent P "__dict__" (k2+1) (.ref (n1+3))],k2+2,n1+4)
 let own:=match b with | some (_,o,_)=>o | none=>false
 let ww:=match own with
  | true=>(([]:List Obj),([]:List DictEntry),dd.2.2.1)
  | false=>([fldO (.type "getset_descriptor") [.str "__weakref__" dd.2.2.1,.ref T,.builtin "ExceptionGroup.__weakref__",.none]],[ent P "__weakref__" (dd.2.2.1+1) (.ref dd.2.2.2)],dd.2.2.1+2)
 let k3:=ww.2.2
 let bv:=match b with | some (v,_,_)=>[v] | none=>[]
 let mro:=match b with | some (_,_,r)=>r | none=>[.type "object"]
 ([j6i bv,fldO (.type "builtin_function_or_method") [.builtin "type.__prepare__",.type "type"],dicO ([m,ent P "__qualname__" (k+9) (.str name (k+8)),line]++f.2.2.2.2++[sa]) (4+f.2.2.2.2.length)]++c.1
  ++ [⟨.type "frame",none,.plain,#[some (.ref (n+5)),some (.ref 3),some (.ref (n+2)),none,some s.md,none,some (.ref 0)]⟩]++f.1
  ++ [j6i (marks k1 st),dicO ([m,line]++f.2.2.2.2++[sa]++dd.2.1++ww.2.1++[ent P "__doc__" k3 .none]) (2+dd.1.length+ww.1.length),
   ⟨.type "type",none,.cls { name,bases:=(match bv with | []=>[.type "object"] | _=>bv),mro:=.ref T::mro,ns:=n1+1,qualname:=name },#[match bv with | []=>none | _=>some (.ref n),none,some (.str name k),some (.str name (k+8)),some (.builtin (match exc with | true=>"ValueError.__new__" | false=>"object.__new__")),some (.bool true)]⟩]
  ++ dd.1++ww.1++[fldO (.type "super") [.ref T,.ref T,.ref T],fldO (.type "builtin_function_or_method") [.builtin "object.__init_subclass__",.ref T]],
  k3+2,.ref T,[.int pos.line 0,.int pos.col 0,.ref (n+5)])
noncomputable def j7H (v:Value):Obj->Obj
 | ⟨c,d,.cls k,z⟩=>⟨c,d,.cls { k with subclasses:=k.subclasses++[v] },z⟩
 | o=>o
noncomputable def w2n (P:Params) (x:Str) (k:Nat) (v:Value):List DictEntry->List DictEntry
 | []=>[ent P x k v]
 | e::l=>match e.key.isStr x with
  | true=>⟨e.hash,e.key,v⟩::l
  | false=>e::w2n P x k v l
noncomputable def step (P:Params) (s:TS):Stmt->TS
 | .FunctionDef name p body _ _ _ sc _ _ pos=>
  let a:=w2j s.n s.k s.md Str.empty name p body sc pos
  { s with t:=q6n s.t s.n a.1,n:=a.2.2.1,k:=a.2.1+1,ns:=s.ns++[ent P name a.2.1 (.ref (a.2.2.1-1))],cl:=s.cl++a.2.2.2 }
 | .ClassDef name bases _ body _ _ _ _ _ st pos=>
  let a:=j6J P s name bases body st pos
  { s with t:=(match j3N s bases with | some (.ref b,_,_)=>(q6n s.t s.n a.1).set b (j7H a.2.2.1) | _=>q6n s.t s.n a.1),n:=s.n+a.1.length,k:=a.2.1+1,ns:=s.ns++[ent P name a.2.1 a.2.2.1],cl:=s.cl++a.2.2.2 }
 | .Assign [.Name x _] (.Tuple es _ _) _=>{ s with t:=s.t.ins s.n (j6i (consts s.k es)),n:=s.n+1,k:=s.k+es.length+1,ns:=s.ns++[ent P x (s.k+es.length) (.ref s.n)] }
 | .Assign [.Name x _] (.UnaryOp _ (.Constant (.int i) _ _) _) _=>{ s with k:=s.k+3,ns:=s.ns++[ent P x (s.k+2) (.int (-i) (s.k+1))] }
 | .Assign [.Name x _] e _=>match x==Str.ofString "__name__" with
  | true=>{ s with k:=s.k+2,md:=q6B s.k e,ns:=w2n P x (s.k+1) (q6B s.k e) s.ns }
  | false=>{ s with k:=s.k+2,ns:=s.ns++[ent P x (s.k+1) (q6B s.k e)] }
 | _=>s
end Tp
end L3
namespace L3
open PySem
namespace Hd
open PyProof.Rows
open PySem.W
noncomputable def w13:List Obj->Nat->BT->BT
 | [],_,t=>t
 | o::l,n,t=>w13 l (n+1) (t.ins n o)
noncomputable def toT (s:Shared):SharedT:=⟨w13 s.heap.objs.toList 0 .nil,s.heap.objs.size,s.heap.life,s.gens,s.drawn,s.toks,s.os⟩
noncomputable def s0 (w:World) (os:OsState):Shared:=⟨boot_heap w.params,Array.mk [],boot_drawn,boot_toks,os⟩
noncomputable def pre (p:Program) (w:World) (os:OsState) (k0:Nat):Option (Shared×Thread):=topGo treeTable p w 11 (some (.ref 6)) k0 (s0 w os) (topStub p)
noncomputable def sa (p:Program) (w:World) (os:OsState) (k0:Nat):Shared:=match pre p w os k0 with
 | some (s,_)=>s
 | none=>s0 w os
noncomputable def env (p:Program):Env:={ scope:=p.main.scope,locals:=mainNs,globals:=mainNs,cells:=[],code:=.ref 13,frame:=some 14 }
noncomputable def cd (p:Program):Code:=.body (behindTheImports p) (env p)
noncomputable def z0:Pos:=⟨0,0,0,0⟩
noncomputable def blk (p:Program) (w:World) (os:OsState) (k0 kb:Nat):Option (Flow×Shared×Code×Pos):=segRun treeTable p w 11 (some (.ref 6)) 1 kb (sa p w os k0) (blockOf (behindTheImports p) (env p) (cd p) z0 [topFrame z0])
noncomputable def tb (p:Program) (w:World) (os:OsState) (k0 kb:Nat):SharedT:=match blk p w os k0 kb with
 | some (_,s,_,_)=>toT s
 | none=>toT (s0 w os)
noncomputable def ini (b:SharedT):Tp.TS:=
 let ns:=match b.tree.get 3 with
  | some ⟨_,_,.dict es _,_⟩=>es.toList
  | _=>[]
 ⟨b.tree,b.n,b.toks,match Tp.lookN "__name__" ns with | some v=>v | none=>.none,ns,[]⟩
noncomputable def sh (os:OsState) (b:SharedT) (s:Tp.TS):SharedT:=⟨(s.t.ins 3 (Tp.dicO s.ns s.ns.length)).ins 12 (Tp.fldO .none s.cl),s.n,b.life,b.gens,b.drawn,s.k,os⟩
noncomputable def stt (p:Program) (w:World) (os:OsState) (k0 kb j:Nat):SharedT:=sh os (tb p w os k0 kb) (((behindTheImports p).take j).foldl (Tp.step w.params) (ini (tb p w os k0 kb)))
noncomputable def run1 (p:Program) (w:World) (n:Nat) (s:SharedT) (l:List Stmt) (pos:Pos):Option (Flow×SharedT×Code×Pos):=PySem.W.Fast.tw10110043849684766642 PySem.W.Fast.tw14364793385576792824 p w 11 (some (.ref 6)) 1 n s (piecesOf l (env p) (cd p) pos [topFrame z0])
noncomputable def Ch (p:Program) (k0 kb j m n:Nat) (pa pz:Pos):Prop:=∀(w:World) (os:OsState),run1 p w n (stt p w os k0 kb j) (((behindTheImports p).drop j).take m) pa=some (.next,stt p w os k0 kb (j+m),cd p,pz)
theorem j5Z {p:Program} {w:World} {n:Nat} {s:SharedT} {l:List Stmt} {pos:Pos}:segRunT treeTable p w 11 (some (.ref 6)) 1 n s (piecesOf l (env p) (cd p) pos [topFrame z0])=run1 p w n s l pos:=by
 unfold run1
 rw [PySem.W.Fast.te10110043849684766642,PySem.W.Fast.te14364793385576792824]
noncomputable def To (p:Program) (k0 kb j N:Nat) (pa:Pos) (J:Nat):Prop:=∀(w:World) (os:OsState),topRun treeTable p w 11 (some (.ref 6)) N (stt p w os k0 kb j).abs (restOf ((behindTheImports p).drop j) (env p) (cd p) pa [topFrame z0])=some (stt p w os k0 kb J).abs
theorem To.of {p:Program} {k0 kb j m n N J:Nat} {pa pz:Pos} (h:Ch p k0 kb j m n pa pz) (t:To p k0 kb (j+m) N pz J):To p k0 kb j (n+N) pa J:=λw os=>by
 have h3:=segRun_of (j5Z.trans (h w os))
 have:=piece_app (rest:=(behindTheImports p).drop (j+m)) h3 (t w os)
 rwa [<-List.drop_drop,List.take_append_drop] at this
theorem To.fin {p:Program} {k0 kb J:Nat} {pz:Pos} (h:(behindTheImports p).drop J=[]):To p k0 kb J 4 pz J:=λw os=>by
 rw [h]
 exact piece_nil rfl
noncomputable def E1 (p:Program) (k0:Nat):Prop:=∀(w:World) (os:OsState),(pre p w os k0).map Prod.snd=some ⟨denote treeTable (cd p),cd p,z0,[topFrame z0]⟩
noncomputable def E2 (p:Program) (k0 kb:Nat):Prop:=∀(w:World) (os:OsState),blk p w os k0 kb=some (.next,(tb p w os k0 kb).abs,cd p,z0)
noncomputable def lkA (p q:Program) (Xt:Shared->Bool) (w:World) (s:Shared):List Bool:=
 [staticsOk (importedModules p.main.body) (boot_heap w.params) s.heap,namesBound p s.heap,gensDone s,laidKept (boot_heap w.params) s.heap,s.heap.isNs mainGlobals && s.heap.isNs builtinsNs && tablesOk q s.heap,Xt s && (s.gens.size==0)]
noncomputable def lk3 (p q:Program) (loose:List Str) (s:Shared):Bool:=s.heap.keysOk (looseW q loose) ((PyProof.Rows.recsOf q).map (·.name)) ((litsOf q).map (·.1)) ((clssOf q (looseW q loose)).map (·.name)) && s.heap.accountedOkI (importedModules p.main.body)
noncomputable def sfn (p:Program) (w:World) (os:OsState) (k0 kb J:Nat):Shared:=(stt p w os k0 kb J).abs
noncomputable def E3 (p q:Program) (Xt:Shared->Bool) (k0 kb J:Nat):Prop:=∀(w:World) (os:OsState),lkA p q Xt w (sfn p w os k0 kb J)=[true,true,true,true,true,true]
noncomputable def E4 {α:Type} (p:Program) (Yf:World->Shared->α) (Ya:World->α) (k0 kb J:Nat):Prop:=∀(w:World) (os:OsState),Yf w (sfn p w os k0 kb J)=Ya w
theorem left_whole {p q:Program} {loose:List Str} {Xt:Shared->Bool} {α β γ:Type} {Yf:Shared->α×β×γ} {Ya:World->α×β×γ} {N k0 kb kp J:Nat}
 (e:opening p=plainProg p.main.scope.names) (hN:Nat.ble 600 N=true) (f:∀s,fenceModules? p s=some s) (le:Nat.ble (k0+(kb+kp)) N=true)
 (size:∀w:World,((boot_heap w.params).isNs mainGlobals && (Array.mk []:Array GenState).size==0,(boot_heap w.params).objs.size,(boot_heap w.params).nsMap mainGlobals "__annotations__")=(true,11,some (.ref 6)))
 (e1:E1 p k0) (e2:E2 p k0 kb) (ei:∀(w:World) (os:OsState),stt p w os k0 kb 0=tb p w os k0 kb) (et:To p k0 kb 0 kp z0 J) (e3:E3 p q Xt k0 kb J)
 (e5:E4 p (λ_ s=>PyProof.Rows.seen ((PyProof.Rows.recsOf q).map (·.name)) (ownsOf q) [] { s with gens:=#[] }) (λ_=>PyProof.Rows.expectedOf q) k0 kb J)
 (e6:E4 p (λ_ s=>(s.heap.bltView,tabsOk q s,pinSeenD q (drecsOf q) s)) (λ_=>(bltViewBooted,true,pinGoodD (drecsOf q))) k0 kb J)
 (e7:E4 p (λ_ s=>lk3 p q loose s) (λ_=>true) k0 kb J)
 (e8:E4 p (λ_ s=>(plainSeenE q (looseW q loose) s,plainSeenD q loose s,wideSeen q s,clsSeenW q loose s)) (λ_=>(plainGoodE q (looseW q loose),plainGoodD q loose,wideGood q,clsGoodW q loose)) k0 kb J)
 (e4:E4 p (λ_ s=>(Yf s).1) (λw=>(Ya w).1) k0 kb J) (e9:E4 p (λ_ s=>(Yf s).2.1) (λw=>(Ya w).2.1) k0 kb J) (e10:E4 p (λ_ s=>(Yf s).2.2) (λw=>(Ya w).2.2) k0 kb J):LeftO p q loose Xt Yf Ya N:=λw=>by
 obtain ⟨⟨h,gs,d,k,os⟩,ho,e'⟩:=Option.map_eq_some_iff.mp (boot_open (N:=N) e hN f w)
 obtain ⟨rfl,rfl,rfl,rfl⟩:h=boot_heap w.params/\gs=Array.mk []/\d=boot_drawn/\k=boot_toks:=by simpa using e'
 obtain ⟨z1,z2,z3⟩:_/\_/\_:=by simpa only [Prod.mk.injEq] using size w
 have hA:=e3 w os
 generalize hsf:sfn p w os k0 kb J=sf at hA
 simp only [lkA,List.cons.injEq,and_true] at hA
 obtain ⟨a1,a2,a3,a4,a5,a6⟩:=hA
 have one:∀{β:Type} {Y:World->Shared->β} {v:World->β},E4 p Y v k0 kb J->Y w sf=v w:=λ{β Y v} h4=>by
  have h4:=h4 w os
  rw [hsf] at h4
  exact h4
 have l1:(staticsOk (importedModules p.main.body) (boot_heap w.params) sf.heap && namesBound p sf.heap && gensDone sf && laidKept (boot_heap w.params) sf.heap)=true:=by
  rw [a1,a2,a3,a4];rfl
 have b5:=one e5
 have b6:(sf.heap.bltView,tabsOk q sf,pinSeenD q (drecsOf q) sf)=(bltViewBooted,true,pinGoodD (drecsOf q)):=one e6
 have b7:lk3 p q loose sf=true:=one e7
 have b8:(plainSeenE q (looseW q loose) sf,plainSeenD q loose sf,wideSeen q sf,clsSeenW q loose sf)=(plainGoodE q (looseW q loose),plainGoodD q loose,wideGood q,clsGoodW q loose):=one e8
 have l2:openSeen q loose (importedModules p.main.body) Xt true sf=openGood q loose:=by
  obtain ⟨b61,b62⟩:=Prod.mk.inj b6
  obtain ⟨b62,b63⟩:=Prod.mk.inj b62
  obtain ⟨b81,b82⟩:=Prod.mk.inj b8
  obtain ⟨b82,b83⟩:=Prod.mk.inj b82
  obtain ⟨b83,b84⟩:=Prod.mk.inj b83
  obtain ⟨b71,b72⟩:=Bool.and_eq_true_iff.mp b7
  obtain ⟨a5,a53⟩:=Bool.and_eq_true_iff.mp a5
  obtain ⟨a51,a52⟩:=Bool.and_eq_true_iff.mp a5
  obtain ⟨a61,a62⟩:=Bool.and_eq_true_iff.mp a6
  unfold openSeen openGood
  rw [b71,b72,a51,a52,a53,a61,b61,b62,b63,b81,b82,b83,b84]
  refine Prod.ext b5 (Prod.ext rfl (Prod.ext ?_ rfl))
  simpa using a62
 have l3:Yf sf=Ya w:=Prod.ext (one e4) (Prod.ext (one e9) (one e10))
 obtain ⟨⟨s1,t1⟩,h1,ht⟩:=Option.map_eq_some_iff.mp (e1 w os)
 have ht':t1=_:=ht
 subst ht'
 have hsa:sa p w os k0=s1:=by unfold sa;rw [h1]
 have h2:=e2 w os
 unfold blk at h2
 rw [hsa] at h2
 have r1:topRun treeTable p w 11 (some (.ref 6)) kp (tb p w os k0 kb).abs (restOf (behindTheImports p) (env p) (cd p) z0 [topFrame z0])=some sf:=by
  have:=et w os
  rw [ei w os] at this
  exact this.trans (congrArg some hsf)
 have r:topRun treeTable p w 11 (some (.ref 6)) (k0+(kb+kp)) ⟨boot_heap w.params,Array.mk [],boot_drawn,boot_toks,os⟩ (topStub p)=some sf:=
  go_top h1 (piece_block h2 r1)
 have r:=topRun_mono (N-(k0+(kb+kp))) _ _ _ _ r
 rw [show k0+(kb+kp)+(N-(k0+(kb+kp)))=N by have:=Nat.le_of_ble_eq_true le;omega] at r
 have t:topFrom treeTable p w N ⟨boot_heap w.params,Array.mk [],boot_drawn,boot_toks,os⟩=some sf:=by
  unfold topFrom
  dsimp only
  rw [z1,z2,z3,r]
  show (match staticsOk (importedModules p.main.body) (boot_heap w.params) sf.heap && namesBound p sf.heap && gensDone sf && laidKept (boot_heap w.params) sf.heap with | true=>_ | false=>_)=_
  rw [l1]
 unfold openEnds
 rw [ho]
 show (topFrom treeTable p w N _).map _=_
 rw [t]
 exact congrArg some (Prod.ext l2 l3)
noncomputable def kOf (as:List Addr) (h:Heap):Frag:=as.filterMap λa=>(h.get? a).map λo=>(a,o)
theorem j7L (as:List Addr) (h:Heap):(kOf as h).In h:=by
 intro a o e
 induction as with
 | nil=>cases e
 | cons b l ih=>
  unfold kOf at e
  rw [List.filterMap_cons] at e
  cases hb:h.get? b with
  | none=>rw [hb] at e;exact ih e
  | some ob=>
   rw [hb] at e
   dsimp only [Option.map_some] at e
   rw [List.lookup_cons] at e
   by_cases q:(a==b)=true
   ·rw [q] at e
    cases e
    rw [beq_iff_eq.mp q]
    exact hb
   ·rw [Bool.eq_false_iff.mpr q] at e
    exact ih e
noncomputable def says {α:Type} (look:Frag->α) (v:α) (h:Heap):Prop:=∃K:Frag,K.In h/\look K=v
theorem says_of {α:Type} {look:Frag->α} {v:α} (as:List Addr) (s:Shared) (e:look (kOf as s.heap)=v):says look v s.heap:=⟨_,j7L as s.heap,e⟩
theorem says_keeps {α:Type} {look:Frag->α} {v:α} {h h':Heap} (e:says look v h) (k:∀b o,h.get? b=some o->h'.get? b=some o):says look v h':=by
 obtain ⟨K,i,e⟩:=e
 exact ⟨K,λa o q=>k _ _ (i a o q),e⟩
theorem row {α:Type} {l m:List α} (h:l=m) (i:Nat) {a b:α} (ha:l[i]?=some a) (hb:m[i]?=some b):a=b:=by
 subst h
 rw [ha] at hb
 exact Option.some.inj hb
end Hd
end L3
namespace Lw
open PySem L2
noncomputable def top (i:Nat):Stmt:=PySem.Challenge.pw_doughhours_k16_held.main.body.getD i (.Pass ⟨0,0,0,0⟩)
noncomputable abbrev s_1:Stmt:=top 16
noncomputable abbrev s_2:Stmt:=top 17
noncomputable abbrev s_3:Stmt:=top 18
noncomputable abbrev s_4:Stmt:=q1L (top 23) 0
noncomputable abbrev s_5:Stmt:=q1L (top 24) 0
noncomputable abbrev s_6:Stmt:=top 25
noncomputable abbrev s_7:Stmt:=top 26
noncomputable abbrev s_8:Stmt:=top 27
noncomputable abbrev s_9:Stmt:=top 28
noncomputable abbrev j9p:Stmt:=top 29
noncomputable abbrev j9x:Stmt:=q1L (top 31) 0
noncomputable abbrev j9W:Stmt:=q1L (top 31) 2
noncomputable abbrev j9A:Stmt:=q1L (top 32) 0
noncomputable abbrev j9V:Stmt:=top 33
noncomputable abbrev j9g:Stmt:=top 34
noncomputable abbrev w0f:Stmt:=top 35
noncomputable abbrev j9X:Stmt:=top 36
noncomputable abbrev j9o:Stmt:=top 37
noncomputable abbrev j9n:Stmt:=top 38
noncomputable abbrev j9l:Stmt:=top 39
noncomputable abbrev j90:Stmt:=top 40
noncomputable abbrev j9k:Stmt:=q1L (top 47) 0
noncomputable abbrev j9y:Stmt:=q1L (top 47) 1
noncomputable abbrev j9m:Stmt:=top 48
noncomputable abbrev j9N:Stmt:=q1L (top 52) 0
noncomputable abbrev w0a:Stmt:=q1L (top 53) 0
noncomputable abbrev j93:Stmt:=q1L (top 53) 3
noncomputable abbrev j9q:Stmt:=q1L (top 57) 0
noncomputable abbrev j9j:Stmt:=top 59
noncomputable abbrev j9L:Stmt:=top 60
noncomputable abbrev j9c:Stmt:=top 61
noncomputable abbrev j9d:Stmt:=top 62
noncomputable abbrev j98:Stmt:=top 63
noncomputable abbrev j9T:Stmt:=top 64
noncomputable abbrev j9J:Stmt:=top 65
noncomputable abbrev j91:Stmt:=top 66
noncomputable abbrev j9H:Stmt:=top 67
noncomputable abbrev j9S:Stmt:=top 68
noncomputable abbrev j9E:Stmt:=top 69
noncomputable abbrev w0m:Stmt:=top 70
noncomputable abbrev j9P:Stmt:=top 71
noncomputable abbrev j94:Stmt:=top 72
noncomputable abbrev w0d:Stmt:=top 73
noncomputable abbrev j9h:Stmt:=top 74
noncomputable abbrev j9U:Stmt:=top 75
noncomputable abbrev j9I:Stmt:=top 76
noncomputable abbrev w0g:Stmt:=top 77
noncomputable abbrev w0e:Stmt:=top 78
noncomputable abbrev w0j:Stmt:=top 79
end Lw
namespace Lw
open PySem PySem.W PyProof.Rows L2 L3
noncomputable def hAs:List Addr:=[2,3,15,17,18,20,21,22,29,30,31,32,35,42,43,44,47,54,55,56,59,66,67,68,71,78,79,80,83,90,91,92,95,102,103,104,107,114,115,116,119,126,127,128,131,138,139,140,143,146,147,148,150,151,153,154,155,157,158,160,161,169,171,172,174,175,176,177,178,179,180,190,192,193,195,196,197,198,199,200,201,204,207,208,209,211,212,214,215,216,218,219,221,222,223,225,226,228,229,230,232,233,235,236,244,245,247,248,250,251,252,254,255,257,258,259,261,262,264,265,266,267,268,269,270,280,282,283,285,286,287,288,289,290,291,294,296,297,299,300,301,303,304,306,307,308,310,311,313,314,315,317,318,320,321,322,325,326,327,330,331,332,335,336,337,340,341,349,352,353,354,356,357,359,360,361,362,363,364,365,368,370,371,373,374,375,383,384,386,387,389,390,391,392,393,394,395,405,407,408,410,411,412,414,415,417,418,419,421,422,424,425,426,429,430,431,432,433,434,435,445,447,448,450,451,452,453,454,455,456,459,461,462,464,465,466,468,469,471,472,473,475,476,478,479,480,483,484,485,487,488,490,491,492,494,495,497,498,499,502,503,504,507,508,509,511,512,514,515,516,518,519,521,522,523,526,527,528,531,532,533,536,537,538,541,542,543,545,546,548,549,550,552,553,555,556,557,559,560,562,563,564,566,567,569,570,571,573,574,576,577,578,581,582,583,585,586,588,589]
noncomputable abbrev nI (K:Frag) (x:Str):=nsIn K mainGlobals x
noncomputable abbrev mFd (n q:Str) (s:Stmt) (d m:Value) (c:Addr):FuncData:=fnOf n q (q1Y s) (q1D s) (q0j s) d .none .none m none (.ref c) .none
noncomputable abbrev fo (d:FuncData):Obj:=⟨.type "function",none,.func d,#[]⟩
noncomputable def q1B (K:Frag) (f c:Addr) (q:Str) (a:Option (Option Value)):=(K.lookup f,codeIn K (.ref c) q,keepIn K (.ref f),isFn K (.ref f),a)
noncomputable def q1C (f:Addr) (d:FuncData):Option Obj×Bool×Bool×Bool×Option (Option Value):=(some (fo d),true,true,true,some (some (.ref f)))
noncomputable abbrev p_0:Value:=Value.str "doughhours.checks" 358
noncomputable abbrev p_1:Value:=Value.str "doughhours.orders" 390
noncomputable abbrev p_2:Value:=Value.str "doughhours.plans" 509
noncomputable abbrev p_3:Value:=Value.str "doughhours.bakery" 673
noncomputable abbrev p_4:Value:=Value.str "doughhours.breads" 730
noncomputable abbrev p_5:Value:=Value.str "doughhours.ovens" 828
noncomputable abbrev p_6:Value:=Value.str "law_doughhours_k16_held" 867
noncomputable abbrev d_1:FuncData:=mFd "check_name" "check_name" s_1 .none p_0 146
noncomputable abbrev d_2:FuncData:=mFd "check_number" "check_number" s_2 .none p_0 153
noncomputable abbrev d_3:FuncData:=mFd "check_count" "check_count" s_3 .none p_0 160
noncomputable abbrev d_4:FuncData:=mFd "__init__" "Order.__init__" s_4 .none p_1 174
noncomputable abbrev d_5:FuncData:=mFd "__init__" "Batch.__init__" s_5 .none p_1 195
noncomputable abbrev d_6:FuncData:=mFd "greatest" "greatest" s_6 .none p_1 207
noncomputable abbrev d_7:FuncData:=mFd "check_due" "check_due" s_7 .none p_1 214
noncomputable abbrev d_8:FuncData:=mFd "accept" "accept" s_8 .none p_1 221
noncomputable abbrev d_9:FuncData:=mFd "batches_of" "batches_of" s_9 .none p_1 228
noncomputable abbrev w2B:FuncData:=mFd "cut" "cut" j9p .none p_1 235
noncomputable abbrev w2E:FuncData:=mFd "__init__" "Run.__init__" j9x (.ref 244) p_2 250
noncomputable abbrev w1W:FuncData:=mFd "spans" "Run.spans" j9W .none p_2 264
noncomputable abbrev w2e:FuncData:=mFd "__init__" "Part.__init__" j9A .none p_2 285
noncomputable abbrev w2i:FuncData:=mFd "check_run" "check_run" j9V .none p_2 299
noncomputable abbrev w1Y:FuncData:=mFd "fitted" "fitted" j9g .none p_2 306
noncomputable abbrev w2H:FuncData:=mFd "bread_in" "bread_in" w0f .none p_2 313
noncomputable abbrev w2J:FuncData:=mFd "parts_of" "parts_of" j9X .none p_2 320
noncomputable abbrev w2d:FuncData:=mFd "lasting" "lasting" j9o .none p_2 325
noncomputable abbrev w2F:FuncData:=mFd "count_of" "count_of" j9n .none p_2 330
noncomputable abbrev w2g:FuncData:=mFd "loaves_in" "loaves_in" j9l .none p_2 335
noncomputable abbrev w2q:FuncData:=mFd "held" "held" j90 .none p_2 340
noncomputable abbrev w2m:FuncData:=mFd "__init__" "Bakery.__init__" j9k .none p_3 352
noncomputable abbrev w2K:FuncData:=mFd "bread_of" "Bakery.bread_of" j9y .none p_3 359
noncomputable abbrev w2L:FuncData:=mFd "check_names_apart" "check_names_apart" j9m .none p_3 373
noncomputable abbrev w2G:FuncData:=mFd "__init__" "Stage.__init__" j9N (.ref 383) p_4 389
noncomputable abbrev w16:FuncData:=mFd "__init__" "Bread.__init__" w0a .none p_4 410
noncomputable abbrev w2l:FuncData:=mFd "bakes" "Bread.bakes" j93 .none p_4 429
noncomputable abbrev w2v:FuncData:=mFd "__init__" "Oven.__init__" j9q .none p_5 450
noncomputable abbrev w2D:FuncData:=mFd "_law_pick" "_law_pick" j9j .none p_6 464
noncomputable abbrev w12:FuncData:=mFd "_law_is" "_law_is" j9L .none p_6 471
noncomputable abbrev w2w:FuncData:=mFd "_law_row" "_law_row" j9c .none p_6 478
noncomputable abbrev w1X:FuncData:=mFd "_law_names" "_law_names" j9d .none p_6 483
noncomputable abbrev w15:FuncData:=mFd "_law_wide_kilns" "_law_wide_kilns" j98 .none p_6 490
noncomputable abbrev w2z:FuncData:=mFd "_law_wide_kinds" "_law_wide_kinds" j9T .none p_6 497
noncomputable abbrev w1V:FuncData:=mFd "_law_wide_scene" "_law_wide_scene" j9J .none p_6 502
noncomputable abbrev w17:FuncData:=mFd "_law_oven_of" "_law_oven_of" j91 .none p_6 507
noncomputable abbrev w2x:FuncData:=mFd "_law_wide_run" "_law_wide_run" j9H .none p_6 514
noncomputable abbrev w2C:FuncData:=mFd "_law_wide_plan" "_law_wide_plan" j9S .none p_6 521
noncomputable abbrev w2s:FuncData:=mFd "_law_batches" "_law_batches" j9E .none p_6 526
noncomputable abbrev w1Z:FuncData:=mFd "_law_bakery" "_law_bakery" w0m .none p_6 531
noncomputable abbrev w2b:FuncData:=mFd "_law_orders" "_law_orders" j9P .none p_6 536
noncomputable abbrev w2t:FuncData:=mFd "_law_runs" "_law_runs" j94 .none p_6 541
noncomputable abbrev w2p:FuncData:=mFd "_law_runs_stayed" "_law_runs_stayed" w0d .none p_6 548
noncomputable abbrev w10:FuncData:=mFd "_law_spans" "_law_spans" j9h .none p_6 555
noncomputable abbrev w18:FuncData:=mFd "_law_all_spans" "_law_all_spans" j9U .none p_6 562
noncomputable abbrev w2k:FuncData:=mFd "_law_stayed" "_law_stayed" j9I .none p_6 569
noncomputable abbrev w2r:FuncData:=mFd "_law_later" "_law_later" w0g .none p_6 576
noncomputable abbrev w14:FuncData:=mFd "_law_right" "_law_right" w0e .none p_6 581
noncomputable abbrev j3J:FuncData:=mFd "law" "law" w0j .none p_6 588
noncomputable def j1b (K:Frag) (C:Addr) (n:Str) (fs:List Str):=(nI K n,[plainGet K C Str.empty,hasDictIn K C,plainOver K C,makesIn K C,keepIn K (.ref C)],findIn K (.ref C) "__setattr__",fs.map λx=>findIn K (.ref C) x)
noncomputable def j1e (C:Addr) (fs:List Str):Option (Option Value)×List Bool×Option (Option Value)×List (Option (Option Value)):=(some (some (.ref C)),[true,true,true,true,true],some (some (.builtin "object.__setattr__")),fs.map λ_=>some none)
noncomputable def q79 (K:Frag) (C:Addr) (n:Str):=(nI K n,excIn K C [.type "ValueError",.type "Exception",.type "BaseException",.type "object"] "ValueError.__new__")
noncomputable def q78 (C:Addr):Option (Option Value)×Bool:=(some (some (.ref C)),true)
noncomputable def hLF (K:Frag):=
 [q1B K 147 146 "check_name" (nI K "check_name"),
 q1B K 154 153 "check_number" (nI K "check_number"),
 q1B K 161 160 "check_count" (nI K "check_count"),
 q1B K 175 174 "Order.__init__" (findIn K (.ref 178) "__init__"),
 q1B K 196 195 "Batch.__init__" (findIn K (.ref 199) "__init__"),
 q1B K 208 207 "greatest" (nI K "greatest"),
 q1B K 215 214 "check_due" (nI K "check_due"),
 q1B K 222 221 "accept" (nI K "accept"),
 q1B K 229 228 "batches_of" (nI K "batches_of"),
 q1B K 236 235 "cut" (nI K "cut"),
 q1B K 251 250 "Run.__init__" (findIn K (.ref 268) "__init__"),
 q1B K 265 264 "Run.spans" (findIn K (.ref 268) "spans"),
 q1B K 286 285 "Part.__init__" (findIn K (.ref 289) "__init__"),
 q1B K 300 299 "check_run" (nI K "check_run"),
 q1B K 307 306 "fitted" (nI K "fitted"),
 q1B K 314 313 "bread_in" (nI K "bread_in"),
 q1B K 321 320 "parts_of" (nI K "parts_of"),
 q1B K 326 325 "lasting" (nI K "lasting"),
 q1B K 331 330 "count_of" (nI K "count_of"),
 q1B K 336 335 "loaves_in" (nI K "loaves_in"),
 q1B K 341 340 "held" (nI K "held"),
 q1B K 353 352 "Bakery.__init__" (findIn K (.ref 363) "__init__"),
 q1B K 360 359 "Bakery.bread_of" (findIn K (.ref 363) "bread_of"),
 q1B K 374 373 "check_names_apart" (nI K "check_names_apart")]
noncomputable def hRF:=
 [q1C 147 d_1,
 q1C 154 d_2,
 q1C 161 d_3,
 q1C 175 d_4,
 q1C 196 d_5,
 q1C 208 d_6,
 q1C 215 d_7,
 q1C 222 d_8,
 q1C 229 d_9,
 q1C 236 w2B,
 q1C 251 w2E,
 q1C 265 w1W,
 q1C 286 w2e,
 q1C 300 w2i,
 q1C 307 w1Y,
 q1C 314 w2H,
 q1C 321 w2J,
 q1C 326 w2d,
 q1C 331 w2F,
 q1C 336 w2g,
 q1C 341 w2q,
 q1C 353 w2m,
 q1C 360 w2K,
 q1C 374 w2L]
noncomputable def hLG (K:Frag):=
 [q1B K 390 389 "Stage.__init__" (findIn K (.ref 393) "__init__"),
 q1B K 411 410 "Bread.__init__" (findIn K (.ref 433) "__init__"),
 q1B K 430 429 "Bread.bakes" (findIn K (.ref 433) "bakes"),
 q1B K 451 450 "Oven.__init__" (findIn K (.ref 454) "__init__"),
 q1B K 465 464 "_law_pick" (nI K "_law_pick"),
 q1B K 472 471 "_law_is" (nI K "_law_is"),
 q1B K 479 478 "_law_row" (nI K "_law_row"),
 q1B K 484 483 "_law_names" (nI K "_law_names"),
 q1B K 491 490 "_law_wide_kilns" (nI K "_law_wide_kilns"),
 q1B K 498 497 "_law_wide_kinds" (nI K "_law_wide_kinds"),
 q1B K 503 502 "_law_wide_scene" (nI K "_law_wide_scene"),
 q1B K 508 507 "_law_oven_of" (nI K "_law_oven_of"),
 q1B K 515 514 "_law_wide_run" (nI K "_law_wide_run"),
 q1B K 522 521 "_law_wide_plan" (nI K "_law_wide_plan"),
 q1B K 527 526 "_law_batches" (nI K "_law_batches"),
 q1B K 532 531 "_law_bakery" (nI K "_law_bakery"),
 q1B K 537 536 "_law_orders" (nI K "_law_orders"),
 q1B K 542 541 "_law_runs" (nI K "_law_runs"),
 q1B K 549 548 "_law_runs_stayed" (nI K "_law_runs_stayed"),
 q1B K 556 555 "_law_spans" (nI K "_law_spans"),
 q1B K 563 562 "_law_all_spans" (nI K "_law_all_spans"),
 q1B K 570 569 "_law_stayed" (nI K "_law_stayed"),
 q1B K 577 576 "_law_later" (nI K "_law_later"),
 q1B K 582 581 "_law_right" (nI K "_law_right"),
 q1B K 589 588 "law" (nI K "law")]
noncomputable def hRG:=
 [q1C 390 w2G,
 q1C 411 w16,
 q1C 430 w2l,
 q1C 451 w2v,
 q1C 465 w2D,
 q1C 472 w12,
 q1C 479 w2w,
 q1C 484 w1X,
 q1C 491 w15,
 q1C 498 w2z,
 q1C 503 w1V,
 q1C 508 w17,
 q1C 515 w2x,
 q1C 522 w2C,
 q1C 527 w2s,
 q1C 532 w1Z,
 q1C 537 w2b,
 q1C 542 w2t,
 q1C 549 w2p,
 q1C 556 w10,
 q1C 563 w18,
 q1C 570 w2k,
 q1C 577 w2r,
 q1C 582 w14,
 q1C 589 j3J]
noncomputable def hLC (K:Frag):=
 [j1b K 178 "Order" ["bread","loaves","due"],
 j1b K 199 "Batch" ["order","first","loaves"],
 j1b K 268 "Run" ["begin","lengths","oven"],
 j1b K 289 "Part" ["batch","stage","begin","until","loaves","oven"],
 j1b K 363 "Bakery" ["night","hands","benches","ovens","breads"],
 j1b K 393 "Stage" ["name","least","most","want","heat"],
 j1b K 433 "Bread" ["name","stages"],
 j1b K 454 "Oven" ["room","rate","heat"]]
noncomputable def hRC:=
 [j1e 178 ["bread","loaves","due"],
 j1e 199 ["order","first","loaves"],
 j1e 268 ["begin","lengths","oven"],
 j1e 289 ["batch","stage","begin","until","loaves","oven"],
 j1e 363 ["night","hands","benches","ovens","breads"],
 j1e 393 ["name","least","most","want","heat"],
 j1e 433 ["name","stages"],
 j1e 454 ["room","rate","heat"]]
noncomputable def hLE (K:Frag):=
 [q79 K 31 "DoughError",
 q79 K 44 "BadName",
 q79 K 56 "BadWant",
 q79 K 68 "BadNumber",
 q79 K 80 "BadCount",
 q79 K 92 "TwiceNamed",
 q79 K 104 "NoBread",
 q79 K 116 "BeyondNight",
 q79 K 128 "TooMany",
 q79 K 140 "BadPlan"]
noncomputable def hRE:=
 [q78 31,
 q78 44,
 q78 56,
 q78 68,
 q78 80,
 q78 92,
 q78 104,
 q78 116,
 q78 128,
 q78 140]
noncomputable def hZ:List Str:=["all","any","bool","enumerate","int","isinstance","len","list","max","min","range","set","sum","tuple","zip"]
noncomputable def hLV (K:Frag):List (Option (Option Value)):=
 [nsIn K mainGlobals "FASTEST",
 nsIn K mainGlobals "HOTTEST",
 nsIn K mainGlobals "LETTERS",
 nsIn K mainGlobals "LONGEST_NAME",
 nsIn K mainGlobals "MOST_BATCHES",
 nsIn K mainGlobals "MOST_BENCHES",
 nsIn K mainGlobals "MOST_BREADS",
 nsIn K mainGlobals "MOST_HANDS",
 nsIn K mainGlobals "MOST_LOAVES",
 nsIn K mainGlobals "MOST_ORDERS",
 nsIn K mainGlobals "MOST_OVENS",
 nsIn K mainGlobals "MOST_ROOM",
 nsIn K mainGlobals "MOST_STAGES",
 nsIn K mainGlobals "NIGHT",
 nsIn K mainGlobals "WANTS"]
noncomputable def hRV:List (Option (Option Value)):=
 [some (some (.int 300 832)),some (some (.int 300 364)),some (some (.str "abcdefghijklmnopqrstuvwxyz" 360)),some (some (.int 12 362)),some (some (.int 24 396)),some (some (.int 6 677)),some (some (.int 8 681)),some (some (.int 6 675)),some (some (.int 60 392)),some (some (.int 12 394)),some (some (.int 3 679)),some (some (.int 30 830)),some (some (.int 6 737)),some (some (.int 720 671)),some (some (.ref 375))]
noncomputable def hLB (K:Frag):List Bool:=
 []
noncomputable def hRB:List Bool:=
 []
noncomputable def hLO (K:Frag):List (Option Obj):=
 [K.lookup 244,
 K.lookup 383,
 K.lookup 375]
noncomputable def hRO:List (Option Obj):=
 [some ⟨(Value.type "tuple"),(none),.seq #[.int 0 523] 0,(#[])⟩,some ⟨(Value.type "tuple"),(none),.seq #[.int 0 751] 0,(#[])⟩,some ⟨.type "tuple",(none),.seq #[(.str "nothing" 732),(.str "hands" 733),(.str "bench" 734),(.str "oven" 735)] 0,(#[])⟩]
noncomputable def hLX (K:Frag):List (Option Bool):=
 []
noncomputable def hRX:List (Option Bool):=
 []
noncomputable def hLI (K:Frag):List Bool:=[]
noncomputable def hRI:List Bool:=[]
noncomputable def q5H (K:Frag):=(hLF K,hLG K,hLC K,hLE K,hZ.map (λx=>nI K x),hLI K,hLV K,hLB K,hLO K,hLX K)
noncomputable def j5g:=(hRF,hRG,hRC,hRE,hZ.map (λ_=>(some none:Option (Option Value))),hRI,hRV,hRB,hRO,hRX)
noncomputable def vw:Program:={ PySem.Challenge.pw_doughhours_k16_held with main:={ (PySem.Challenge.pw_doughhours_k16_held).main with body:=[0,2,3,4,5,6,7,8,9,10,11,13,14,15,16,17,18,20,21,22,23,24,25,26,27,28,29,31,32,33,34,35,36,37,38,39,40,41,43,44,45,46,47,48,50,51,52,53,55,56,57,59,60,61,62,63,64,65,66,67,68,69,70,71,72,73,74,75,76,77,78,79].map top } }
noncomputable abbrev Xv (s:Shared):Bool:=xlAt vw [] s && recOk (RowW.records (OpenRow.toRowW (OpenLaw.row PySem.Challenge.rw_doughhours_k16_held))) s
theorem bA {a b:Bool} (h:a=true) (k:b=true):(a && b)=true:=by rw [h,k];rfl
theorem j8y:looksOpen PySem.Challenge.pw_doughhours_k16_held=true:=by
 unfold looksOpen
 refine bA (bA (bA (bA (bA ?_ ?_) ?_) ?_) ?_) ?_<;>decide +kernel
theorem j6Z:PySem.Challenge.rw_doughhours_k16_held.row.wellSaid=true:=by
 unfold OpenRow.wellSaid OpenRow.partSaid
 rw [show looksOpen PySem.Challenge.rw_doughhours_k16_held.row.prog=true from j8y]
 kernel_rfl
theorem j63:PySem.Challenge.rw_doughhours_k16_held.wellSaid=true:=by
 unfold OpenLaw.wellSaid
 rw [j6Z]
 kernel_rfl
theorem j85:Hd.E1 PySem.Challenge.pw_doughhours_k16_held 12:=λw os=>by kernel_rfl
theorem j7S:Hd.E2 PySem.Challenge.pw_doughhours_k16_held 12 2:=λw os=>by kernel_rfl
theorem w2N:Hd.Ch PySem.Challenge.pw_doughhours_k16_held 12 2 0 8 1307 ⟨0,0,0,0⟩ ⟨15,0,16,8⟩:=λw os=>by kernel_rfl
theorem w3x:Hd.Ch PySem.Challenge.pw_doughhours_k16_held 12 2 8 16 1264 ⟨15,0,16,8⟩ ⟨42,0,48,22⟩:=λw os=>by kernel_rfl
theorem w3B:Hd.Ch PySem.Challenge.pw_doughhours_k16_held 12 2 24 23 1238 ⟨42,0,48,22⟩ ⟨147,0,147,11⟩:=λw os=>by kernel_rfl
theorem w3A:Hd.Ch PySem.Challenge.pw_doughhours_k16_held 12 2 47 20 1395 ⟨147,0,147,11⟩ ⟨273,0,280,20⟩:=λw os=>by kernel_rfl
theorem w2Z:Hd.Ch PySem.Challenge.pw_doughhours_k16_held 12 2 67 13 442 ⟨273,0,280,20⟩ ⟨378,0,402,72⟩:=λw os=>by kernel_rfl
theorem j8e:Hd.E3 PySem.Challenge.pw_doughhours_k16_held vw Xv 12 2 80:=λw os=>by kernel_rfl
theorem j7C:Hd.E4 PySem.Challenge.pw_doughhours_k16_held (λ_ s=>PyProof.Rows.seen ((PyProof.Rows.recsOf vw).map (·.name)) (ownsOf vw) [] { s with gens:=#[] }) (λ_=>PyProof.Rows.expectedOf vw) 12 2 80:=λw os=>by kernel_rfl
theorem j7D:Hd.E4 PySem.Challenge.pw_doughhours_k16_held (λ_ s=>(s.heap.bltView,tabsOk vw s,pinSeenD vw (drecsOf vw) s)) (λ_=>(bltViewBooted,true,pinGoodD (drecsOf vw))) 12 2 80:=λw os=>by kernel_rfl
theorem j6X:Hd.E4 PySem.Challenge.pw_doughhours_k16_held (λ_ s=>Hd.lk3 PySem.Challenge.pw_doughhours_k16_held vw [] s) (λ_=>true) 12 2 80:=λw os=>by kernel_rfl
theorem j6D:Hd.E4 PySem.Challenge.pw_doughhours_k16_held (λ_ s=>(plainSeenE vw (looseW vw []) s,plainSeenD vw [] s,wideSeen vw s,clsSeenW vw [] s)) (λ_=>(plainGoodE vw (looseW vw []),plainGoodD vw [],wideGood vw,clsGoodW vw [])) 12 2 80:=λw os=>by kernel_rfl
theorem j7b:Hd.E4 PySem.Challenge.pw_doughhours_k16_held (λ_ s=>(q5H (Hd.kOf hAs s.heap)).1) (λ_=>j5g.1) 12 2 80:=λw os=>by kernel_rfl
theorem j7g:Hd.E4 PySem.Challenge.pw_doughhours_k16_held (λ_ s=>(q5H (Hd.kOf hAs s.heap)).2.1) (λ_=>j5g.2.1) 12 2 80:=λw os=>by kernel_rfl
theorem j44:Hd.E4 PySem.Challenge.pw_doughhours_k16_held (λ_ s=>(q5H (Hd.kOf hAs s.heap)).2.2) (λ_=>j5g.2.2) 12 2 80:=λw os=>by kernel_rfl
theorem w3u:Hd.To PySem.Challenge.pw_doughhours_k16_held 12 2 80 4 ⟨378,0,402,72⟩ 80:=Hd.To.fin (by kernel_rfl)
theorem w3C:Hd.To PySem.Challenge.pw_doughhours_k16_held 12 2 67 446 ⟨273,0,280,20⟩ 80:=Hd.To.of (j:=67) (m:=13) (n:=442) (N:=4) w2Z w3u
theorem w3j:Hd.To PySem.Challenge.pw_doughhours_k16_held 12 2 47 1841 ⟨147,0,147,11⟩ 80:=Hd.To.of (j:=47) (m:=20) (n:=1395) (N:=446) w3A w3C
theorem w2Y:Hd.To PySem.Challenge.pw_doughhours_k16_held 12 2 24 3079 ⟨42,0,48,22⟩ 80:=Hd.To.of (j:=24) (m:=23) (n:=1238) (N:=1841) w3B w3j
theorem w2W:Hd.To PySem.Challenge.pw_doughhours_k16_held 12 2 8 4343 ⟨15,0,16,8⟩ 80:=Hd.To.of (j:=8) (m:=16) (n:=1264) (N:=3079) w3x w2Y
theorem w26:Hd.To PySem.Challenge.pw_doughhours_k16_held 12 2 0 5650 ⟨0,0,0,0⟩ 80:=Hd.To.of (j:=0) (m:=8) (n:=1307) (N:=4343) w2N w2W
theorem j0o:LeftO (OpenLaw.row PySem.Challenge.rw_doughhours_k16_held).prog vw [] Xv (λs=>q5H (Hd.kOf hAs s.heap)) (λ_=>j5g) 12300:=
 Hd.left_whole (p:=PySem.Challenge.pw_doughhours_k16_held) (kp:=5650) (by kernel_rfl) (by decide) (λs=>by kernel_rfl) (by decide) (λw=>by kernel_rfl) j85 j7S (λw os=>by kernel_rfl) w26 j8e j7C j7D j6X j6D j7b j7g j44
end Lw
namespace L2
open PySem PySem.Spec PyProof.Rows
noncomputable abbrev Key:=Sum Int Str
noncomputable def j81:Key->Value->Bool
 | .inl k,v=>Value.isInt k v
 | .inr x,v=>Value.isStrOf x v
noncomputable def w3b (w:World):Key->Int
 | .inl k=>hashInt k
 | .inr x=>hashStr w x
theorem q05:∀{k:Key} {v:Value},j81 k v=true->(∃i t,k=Sum.inl i/\v=Value.int i t)∨(∃x t,k=Sum.inr x/\v=Value.str x t)
 | .inl i,v,h=>by
  obtain ⟨t,e⟩:=Value.isInt_shape (k:=i) (v:=v) h
  exact .inl ⟨i,t,rfl,e⟩
 | .inr x,v,h=>by
  obtain ⟨t,e⟩:=Value.isStrOf_shape (x:=x) (v:=v) h
  exact .inr ⟨x,t,rfl,e⟩
theorem j8j (a b:Int):decide ((Sum.inl a:Key)=Sum.inl b)=(a==b):=by
 by_cases e:a=b
 ·subst e;simp
 ·have h:¬(Sum.inl a:Key)=Sum.inl b:=λq=>e (Sum.inl.inj q)
  rw [decide_eq_false h]
  exact (beq_eq_false_iff_ne.mpr e).symm
theorem j8J (a b:Str):decide ((Sum.inr a:Key)=Sum.inr b)=decide (a=b):=by
 by_cases e:a=b
 ·subst e;simp
 ·have h:¬(Sum.inr a:Key)=Sum.inr b:=λq=>e (Sum.inr.inj q)
  rw [decide_eq_false h,decide_eq_false e]
theorem j82 (a:Int) (b:Str):decide ((Sum.inl a:Key)=Sum.inr b)=false:=decide_eq_false (λq=>nomatch q)
theorem j7s (a:Str) (b:Int):decide ((Sum.inr a:Key)=Sum.inl b)=false:=decide_eq_false (λq=>nomatch q)
noncomputable def q5D (prog:Program) (w:World):PySem.KeyKind prog w Key where
 is:=j81
 hash:=w3b w
 inj:=λv a b ha hb=>by
  rcases q05 ha with ⟨i,t,rfl,rfl⟩ | ⟨x,t,rfl,rfl⟩
  ·rcases q05 hb with ⟨j,u,rfl,e⟩ | ⟨y,u,rfl,e⟩
   ·injection e with e1 _;rw [e1]
   ·exact nomatch e
  ·rcases q05 hb with ⟨j,u,rfl,e⟩ | ⟨y,u,rfl,e⟩
   ·exact nomatch e
   ·injection e with e1 _;rw [e1]
 byValue:=λk v h=>by
  rcases q05 h with ⟨i,t,rfl,rfl⟩ | ⟨x,t,rfl,rfl⟩<;>rfl
 pyHash:=λhv h=>by
  rcases q05 hv with ⟨i,t,rfl,rfl⟩ | ⟨x,t,rfl,rfl⟩
  ·exact wpAny_pyHash_int h
  ·exact wpAny_pyHash_str h
 eqBool:=λhu hv h=>by
  rcases q05 hu with ⟨i,t,rfl,rfl⟩ | ⟨x,t,rfl,rfl⟩
  ·rcases q05 hv with ⟨j,u,rfl,rfl⟩ | ⟨y,u,rfl,rfl⟩
   ·rw [j8j] at h;exact wpAny_eqBool_int h
   ·rw [j82] at h;exact SeqAt.EqAt.int_str i t y u _ _ _ _ h
  ·rcases q05 hv with ⟨j,u,rfl,rfl⟩ | ⟨y,u,rfl,rfl⟩
   ·rw [j7s] at h;exact SeqAt.EqAt.str_int x t j u _ _ _ _ h
   ·rw [j8J] at h;exact wpAny_eqBool_str h
 «strs»:=λk x t v h=>by
  rcases q05 h with ⟨i,u,rfl,e⟩ | ⟨y,u,rfl,e⟩
  ·exact nomatch e
  ·injection e with e1 _
   subst e1
   cases v<;>rfl
inductive V where
 | non | bl (b:Bool) | int (i:Int) | str (x:Str) | byt (b:Array UInt8) | flt (b:UInt64) | ref (a:Addr) | ty (n:String)
 deriving DecidableEq
noncomputable def RelV:V->Value->Prop
 | .non,u=>u=Value.none
 | .bl b,u=>u=Value.bool b
 | .int i,u=>∃t,u=Value.int i t
 | .str x,u=>∃t,u=Value.str x t
 | .byt b,u=>∃t,u=Value.bytes b t
 | .flt b,u=>∃t,u=Value.float b t
 | .ref a,u=>u=Value.ref a
 | .ty n,u=>u=Value.type n
noncomputable abbrev Vals:List V->List Value->Prop:=Paired RelV
theorem Vals.length {xs:List V} {us:List Value} (r:Vals xs us):xs.length=us.length:=Paired.length r
theorem Vals.get:∀{xs:List V} {us:List Value} {i:Nat} {x:V},Vals xs us->xs[i]?=some x->∃u,us[i]?=some u/\RelV x u
 | _,_,_,_,.nil,e=>by simp at e
 | _,_,0,_,.cons r _,e=>by simp at e;subst e;exact ⟨_,rfl,r⟩
 | _,_,i+1,x,.cons _ t,e=>by
  obtain ⟨u,h1,h2⟩:=Vals.get (i:=i) (x:=x) t (by simpa using e)
  exact ⟨u,by simpa using h1,h2⟩
theorem Vals.set {x:V} {u:Value} (r:RelV x u):∀{xs:List V} {us:List Value} (i:Nat),Vals xs us->Vals (xs.set i x) (us.set i u)
 | _,_,_,.nil=>.nil
 | _,_,0,.cons _ t=>.cons r t
 | _,_,i+1,.cons q t=>.cons q (Vals.set r i t)
theorem Vals.append:∀{xs ys:List V} {us ws:List Value},Vals xs us->Vals ys ws->Vals (xs++ys) (us++ws)
 | _,_,_,_,.nil,s=>s
 | _,_,_,_,.cons r t,s=>.cons r (Vals.append t s)
noncomputable def RelO:Option V->Option Value->Prop
 | some v,some u=>RelV v u
 | none,none=>True
 | _,_=>False
noncomputable def KV {κ:Type}:List (κ×V)->List (κ×Value)->Prop:=Paired λ(p:κ×V) (q:κ×Value)=>p.1=q.1/\RelV p.2 q.2
noncomputable def kV:Key->V
 | .inl i=>.int i
 | .inr x=>.str x
inductive HO where
 | lst (xs:List V)
 | tup (xs:List V)
 | dK (kvs:List (Key×V)) | dT (kvs:List (List Key×V))
 | set (S:Int->Bool) (n:Nat)
 | ins (C dx:Addr) (fs:List (Str×V))
 | own (x:Addr)
 | xd (fs:List (Str×V))
 | met (f x:Addr)
 | rng (lo hi:Int)
 | frz (o:Obj) (u:HO)
 | tbl (ps:Array Value)
 | ext (φ:Heap->Prop)
noncomputable abbrev Hp:=Addr->Option HO
noncomputable def upd (H:Hp) (a:Addr) (o:HO):Hp:=λb=>if b=a then some o else H b
theorem q0u {H:Hp} {a:Addr} {o:HO}:upd H a o a=some o:=by unfold upd;rw [if_pos rfl]
theorem q0i {H:Hp} {a b:Addr} {o:HO} (h:b≠a):upd H a o b=H b:=by unfold upd;rw [if_neg h]
theorem q14 {H:Hp} {a b:Addr} {o:HO} (h:H a=some o) (h':H b=none):a≠b:=by
 intro e;subst e;rw [h] at h';cases h'
section
variable (P:Program) (w:World)
noncomputable def ObjOk (H:Hp) (h:Heap) (a:Addr):HO->Prop
 | .lst xs=>xs.length<=sizeLine/\∃(its:List Value) (n:Nat),Vals xs its/\h.get? a=some { cls:=.type "list",data:=.seq its.toArray n }
 | .tup xs=>xs.length<=sizeLine/\∃its:List Value,Vals xs its/\IsTup h a its.toArray
 | .dK kvs=>kvs.length<=sizeLine/\(a==sysModules)=false/\∃vs,KV kvs vs/\h.DictOf (q5D P w) a vs
 | .dT kvs=>kvs.length<=sizeLine/\(a==sysModules)=false/\∃xs:List (List Key×Addr×Value),
  Paired (λ(p:List Key×V) (q:List Key×Addr×Value)=>p.1=q.1/\H q.2.1=some (.tup (p.1.map kV))/\RelV p.2 q.2.2) kvs xs /\
  ∃o es ep,h.get? a=some o/\o.ExactDict/\o.data=.dict es ep/\es.toList=xs.map (entryOfKey (tupleKind (q5D P w)))/\(xs.map (·.1)).Nodup
 | .set S n=>h.SetOf (intKind P w) a S n
 | .ins C dx fs=>H dx=some (.own a)/\fs.length<=1000/\dx≠a/\h.get? a=some (PySem.W.instObj C dx) /\
  ∃mA,h.Ns1 dx mA/\(∀f,RelO (fs.lookup f) (mA f))/\PySem.Within mA (fs.map (·.1))
 | .own _=>∃o,h.get? a=some o
 | .xd fs=>∃mA,h.Ns1 a mA/\∀f,RelO (fs.lookup f) (mA f)
 | .rng lo hi=>∃t u v,h.get? a=some { cls:=.type "range",data:=.fields #[.int lo t,.int hi u,.int 1 v] }
 | .frz o u=>h.get? a=some o/\ObjOk H h a u
 | .tbl ps=>h.get? a=some { cls:=.none,data:=.fields ps }
 | .met f x=>h.get? a=some (PySem.W.methodObj (.ref f) (.ref x))
 | .ext φ=>φ h/\(∃o,h.get? a=some o)/\∀h1 h2:Heap,φ h1->(∀o,h1.get? a=some o->h2.get? a=some o)->φ h2
noncomputable def HOk (H:Hp) (h:Heap):Prop:=∀a o,H a=some o->ObjOk P w H h a o
end
section
variable {P:Program} {w:World} {H H':Hp} {h h':Heap} {a:Addr} {o:HO}
theorem ObjOk.lt (x:ObjOk P w H h a o):a < h.objs.size:=by
 cases o with
 | lst xs=>obtain ⟨_,_,_,_,e⟩:=x;exact Heap.lt_size e
 | tup xs=>obtain ⟨_,_,_,p⟩:=x;exact p.lt
 | dK kvs=>obtain ⟨_,_,_,_,o,_,_,e,_⟩:=x;exact Heap.lt_size e
 | dT kvs=>obtain ⟨_,_,_,_,o,_,_,e,_⟩:=x;exact Heap.lt_size e
 | set S n=>obtain ⟨o,_,_,_,e,_⟩:=x;exact Heap.lt_size e
 | ins C dx fs=>obtain ⟨_,_,_,e,_⟩:=x;exact Heap.lt_size e
 | own y=>obtain ⟨_,e⟩:=x;exact Heap.lt_size e
 | xd fs=>obtain ⟨_,⟨_,_,_,e,_⟩,_⟩:=x;exact Heap.lt_size e
 | rng lo hi=>obtain ⟨_,_,_,e⟩:=x;exact Heap.lt_size e
 | frz ob u=>obtain ⟨e,_⟩:=x;exact Heap.lt_size e
 | tbl ps=>exact Heap.lt_size (show h.get? a=some _ from x)
 | met f y=>exact Heap.lt_size (show h.get? a=some _ from x)
 | ext φ=>obtain ⟨_,⟨_,e⟩,_⟩:=x;exact Heap.lt_size e
theorem Paired.mapP {α β:Type} {F G:α->β->Prop}:∀{l₁:List α} {l₂:List β},Paired F l₁ l₂->(∀a b,F a b->G a b)->Paired G l₁ l₂
 | _,_,.nil,_=>.nil
 | _,_,.cons r t,f=>.cons (f _ _ r) (Paired.mapP t f)
theorem ObjOk.stay (x:ObjOk P w H h a o) (k:∀b u,(b=a∨H b=some (.own a))->h.get? b=some u->h'.get? b=some u)
 (ho:∀b,H b=some (.own a)->H' b=some (.own a)) (ht:∀b xs,H b=some (.tup xs)->H' b=some (.tup xs)):ObjOk P w H' h' a o:=by
 induction o with
 | lst xs=>obtain ⟨z,its,n,r,e⟩:=x;exact ⟨z,its,n,r,k _ _ (.inl rfl) e⟩
 | tup xs=>obtain ⟨z,its,r,ob,e,c⟩:=x;exact ⟨z,its,r,ob,k _ _ (.inl rfl) e,c⟩
 | dK kvs=>obtain ⟨z,y,vs,r,ob,es,ep,e,c⟩:=x;exact ⟨z,y,vs,r,ob,es,ep,k _ _ (.inl rfl) e,c⟩
 | dT kvs=>
  obtain ⟨z,y,xs,r,ob,es,ep,e,c⟩:=x
  exact ⟨z,y,xs,Paired.mapP r λp q z=>⟨z.1,ht _ _ z.2.1,z.2.2⟩,ob,es,ep,k _ _ (.inl rfl) e,c⟩
 | set S n=>obtain ⟨ob,es,ep,t,e,c⟩:=x;exact ⟨ob,es,ep,t,k _ _ (.inl rfl) e,c⟩
 | ins C dx fs=>
  obtain ⟨d,z,ne,e,mA,⟨od,es,ep,e2,c⟩,r⟩:=x
  exact ⟨ho _ d,z,ne,k _ _ (.inl rfl) e,mA,⟨od,es,ep,k _ _ (.inr d) e2,c⟩,r⟩
 | own y=>obtain ⟨ob,e⟩:=x;exact ⟨ob,k _ _ (.inl rfl) e⟩
 | xd fs=>obtain ⟨mA,⟨od,es,ep,e,c⟩,r⟩:=x;exact ⟨mA,⟨od,es,ep,k _ _ (.inl rfl) e,c⟩,r⟩
 | rng lo hi=>obtain ⟨t,u,v,e⟩:=x;exact ⟨t,u,v,k _ _ (.inl rfl) e⟩
 | frz ob u ih=>obtain ⟨e,q⟩:=x;exact ⟨k _ _ (.inl rfl) e,ih q⟩
 | tbl ps=>
  have e:h.get? a=some { cls:=.none,data:=.fields ps }:=x
  show h'.get? a=some { cls:=.none,data:=.fields ps }
  exact k a _ (.inl rfl) e
 | met f y=>
  have e:h.get? a=some (PySem.W.methodObj (.ref f) (.ref y)):=x
  show h'.get? a=some (PySem.W.methodObj (.ref f) (.ref y))
  exact k a _ (.inl rfl) e
 | ext φ=>obtain ⟨p,⟨o,e⟩,st⟩:=x;exact ⟨st _ _ p λo q=>k _ _ (.inl rfl) q,⟨o,k _ _ (.inl rfl) e⟩,st⟩
theorem HOk.lt (x:HOk P w H h) (e:H a=some o):a < h.objs.size:=(x a o e).lt
theorem HOk.fresh (x:HOk P w H h) (e:h.objs.size<=a):H a=none:=by
 cases q:H a with
 | none=>rfl
 | some u=>exact absurd (Nat.lt_of_lt_of_le (x.lt q) e) (Nat.lt_irrefl _)
theorem HOk.kept (x:HOk P w H h) (k:∀b u,h.get? b=some u->h'.get? b=some u):HOk P w H h':=λa o e=>
 (x a o e).stay (λb u _ q=>k b u q) (λ_ q=>q) λ_ _ q=>q
theorem HOk.laid (x:HOk P w H h) (k:∀b u,h.get? b=some u->h'.get? b=some u) (hp:h.objs.size<=a) (new:ObjOk P w (upd H a o) h' a o):HOk P w (upd H a o) h':=λb u e=>by
 have hn:=x.fresh hp
 by_cases hb:b=a
 ·subst hb;rw [q0u] at e;cases e;exact new
 ·rw [q0i hb] at e
  exact (x b u e).stay (λc v _ q=>k c v q) (λc q=>by rw [q0i (q14 q hn)];exact q) λc xs q=>by rw [q0i (q14 q hn)];exact q
end
noncomputable def Rd (H:Hp) (a:Addr) (u:HO):Prop:=H a=some u∨∃o,H a=some (.frz o u)
theorem Rd.ok {P:Program} {w:World} {H:Hp} {h:Heap} {a:Addr} {u:HO} (r:Rd H a u) (x:HOk P w H h):ObjOk P w H h a u:=by
 rcases r with r | ⟨o,r⟩
 ·exact x a u r
 ·obtain ⟨_,q⟩:=x a _ r
  exact q
noncomputable def Mut:Option HO->Prop
 | some (.lst _)=>True
 | some (.dK _)=>True
 | some (.dT _)=>True
 | some (.set _ _)=>True
 | some (.ins _ _ _)=>True
 | some (.ext _)=>True
 | _=>False
section
variable {P:Program} {w:World} {H:Hp} {h h':Heap} {x e:Addr} {o':HO}
theorem HOk.write (ok:HOk P w H h) (mu:Mut (H x)) (he:e=x∨H e=some (.own x)) (k:∀b u,b≠e->h.get? b=some u->h'.get? b=some u) (heo:∃u,h'.get? e=some u)
 (new:ObjOk P w (upd H x o') h' x o'):HOk P w (upd H x o') h':=λb u q=>by
 have nown:∀c y,H c=some (.own y)->c≠x:=λc y r z=>by subst z;rw [r] at mu;exact mu
 have ntup:∀c xs,H c=some (.tup xs)->c≠x:=λc xs r z=>by subst z;rw [r] at mu;exact mu
 by_cases hb:b=x
 ·subst hb;rw [q0u] at q;cases q;exact new
 ·rw [q0i hb] at q
  by_cases hbe:b=e
  ·have q':H b=some (.own x):=by
    rcases he with z | z
    ·exact absurd (hbe.trans z) hb
    ·rw [hbe];exact z
   rw [q] at q';cases q'
   obtain ⟨v,hv⟩:=heo
   exact ⟨v,by rw [hbe];exact hv⟩
  ·refine (ok b u q).stay (λc v hc r=>k c v ?_ r) (λc r=>by rw [q0i (nown c b r)];exact r) λc xs r=>by rw [q0i (ntup c xs r)];exact r
   rcases hc with rfl | hc
   ·exact hbe
   ·rintro rfl
    rcases he with z | z
    ·exact nown c b hc z
    ·rw [hc] at z;cases z;exact hb rfl
end
structure Un (fs ex:List Addr) (H H':Hp) (h h':Heap):Prop where
 keep:∀b o,h.get? b=some o->H b=none->b∉fs->b∉ex->h'.get? b=some o
 slot:∀b o,h.get? b=some o->H b=none->b∈fs->b∉ex->∃sl,h'.get? b=some { o with slots:=sl }
 free:∀b o,h.get? b=some o->H b=none->b∉ex->H' b=none
 there:∀b o,h.get? b=some o->b∉ex->∃o',h'.get? b=some o'
 tups:∀b xs,H b=some (.tup xs)->H' b=some (.tup xs)
 frzs:∀b o u,H b=some (.frz o u)->H' b=some (.frz o u)
 tbls:∀b ps,H b=some (.tbl ps)->∃more,H' b=some (.tbl (ps++more))
section
variable {fs fs' ex ex':List Addr} {H H1 H2:Hp} {h h1 h2 h':Heap} {a x e:Addr} {o:HO}
theorem Un.any (u:Un fs ex H H1 h h1) {b:Addr} {ob:Obj} (q:h.get? b=some ob) (n:H b=none) (hx:b∉ex):∃sl,h1.get? b=some { ob with slots:=sl }:=by
 by_cases hb:b∈fs
 ·exact u.slot b ob q n hb hx
 ·exact ⟨ob.slots,u.keep b ob q n hb hx⟩
theorem Un.kept (k:∀b u,h.get? b=some u->h'.get? b=some u):Un fs ex H H h h':=
 ⟨λb ob q _ _ _=>k b ob q,λb ob q _ _ _=>⟨ob.slots,k b ob q⟩,λ_ _ _ n _=>n,λb ob q _=>⟨ob,k b ob q⟩,λ_ _ q=>q,λ_ _ _ q=>q,λ_ ps q=>⟨#[],by rw [q];simp⟩⟩
theorem Un.refl:Un fs ex H H h h:=Un.kept λ_ _ q=>q
theorem Un.laid (k:∀b u,h.get? b=some u->h'.get? b=some u) (hp:h.objs.size<=a) (hn:H a=none):Un fs ex H (upd H a o) h h' where
 keep:=λb u q _ _ _=>k b u q
 slot:=λb u q _ _ _=>⟨u.slots,k b u q⟩
 free:=λb u q n _=>by rw [q0i (Nat.ne_of_lt (Nat.lt_of_lt_of_le (Heap.lt_size q) hp))];exact n
 there:=λb u q _=>⟨u,k b u q⟩
 tups:=λb xs q=>by rw [q0i (q14 q hn)];exact q
 frzs:=λb u xs q=>by rw [q0i (q14 q hn)];exact q
 tbls:=λb ps q=>⟨#[],by rw [q0i (q14 q hn),q];simp⟩
theorem Un.write (mu:Mut (H x)) (he:e=x∨H e=some (.own x)) (k:∀b u,b≠e->h.get? b=some u->h'.get? b=some u) (heo:∃u,h'.get? e=some u):Un fs ex H (upd H x o) h h':=by
 have hx:∀b,H b=none->b≠x:=λb n z=>by subst z;rw [n] at mu;exact mu
 have hb:∀b,H b=none->b≠e:=λb n z=>by
  subst z
  rcases he with r | r
  ·exact hx b n r
  ·rw [n] at r;cases r
 have hm:∀b u,H b=some u->¬Mut (some u)->b≠x:=λb u q nm z=>by subst z;rw [q] at mu;exact nm mu
 refine ⟨λb u q n _ _=>k b u (hb b n) q,λb u q n _ _=>⟨u.slots,k b u (hb b n) q⟩,λb u q n _=>by rw [q0i (hx b n)];exact n,λb u q _=>?_,
  λb xs q=>by rw [q0i (hm b _ q λz=>z)];exact q,λb u xs q=>by rw [q0i (hm b _ q λz=>z)];exact q,λb ps q=>⟨#[],by rw [q0i (hm b _ q λz=>z),q];simp⟩⟩
 by_cases hbe:b=e
 ·subst hbe;exact heo
 ·exact ⟨u,k b u hbe q⟩
end
noncomputable def trk (h:Heap) (H:Hp):List Addr:=(List.range h.objs.size).filter λa=>(H a).isSome
noncomputable def j1o (h:Heap) (H:Hp):Heap:=PySem.W.hideAll h (trk h H)
theorem j0c (h:Heap) (H:Hp):(j1o h H).objs.size=h.objs.size:=PySem.W.hideAll_size _ _
theorem j1N {h:Heap} {H:Hp} {b:Addr} {o:Obj} (e:h.get? b=some o) (n:H b=none):(j1o h H).get? b=some o:=
 PySem.W.hideAll_get _ e λhm=>by
  have q:(H b).isSome=true:=(List.mem_filter.mp hm).2
  rw [n] at q;simp at q
theorem j6p {h:Heap} {H:Hp} {b:Addr} {o:Obj} (e:(j1o h H).get? b=some o):h.get? b=some o/\H b=none:=by
 have e':h.get? b=some o:=PySem.W.of_hideAll (trk h H) e
 refine ⟨e',?_⟩
 cases q:H b with
 | none=>rfl
 | some x=>
  have hm:b∈trk h H:=List.mem_filter.mpr ⟨List.mem_range.mpr (Heap.lt_size e'),by simp [q]⟩
  have z:(j1o h H).get? b=none:=PySem.W.hideAll_none (trk h H) hm
  rw [z] at e;cases e
noncomputable def j5c (g h:Heap) (L:Addr):List (Addr×Obj):=(List.range h.objs.size).filterMap λa=>if a=L∨(g.get? a).isSome=true then none else (h.get? a).map λo=>(a,o)
noncomputable def rest (g h:Heap) (L d:Addr):List (Addr×Obj):=(j5c g h L).filter λp=>decide (p.1≠d)
structure Mod (K:PySem.W.Frag) (mg:Str->Option Value) (base:Heap):Prop where
 kin:K.In base
 glob:base.Ns mainGlobals mg
 blt:∃mb,base.Ns builtinsNs mb/\∀x:Str,x≠"__name__"->mb x=bootBuiltins x
 nolimit:base.NoLimit
structure Cx where
 prog:Program
 w:World
 K:PySem.W.Frag
 mg:Str->Option Value
 base:Heap
 A:Around
 N:List Str
 s₀:Shared
 H₀:Hp
 env:Env
 outer:List Env
 stack:List Env
 ex:List Addr
 fn:Str->Bool
 calm:Bool
 pn:List (Addr×Obj)
 xe:Value->Shared->Prop
noncomputable def frs (l:List Env):List Addr:=l.filterMap (·.frame)
noncomputable abbrev Cx.fs (X:Cx):List Addr:=frs X.outer
noncomputable def Vis (sc:Scope) (x:Str):Prop:=sc.names.lookup x=some .local∨sc.names.lookup x=some .cell∨sc.names.lookup x=some .free
noncomputable def Loc (sc:Scope) (x:Str):Prop:=sc.names.lookup x=some .local∨sc.names.lookup x=some .cell
noncomputable def Look (env:Env) (h:Heap) (m:Str->Option Value) (x:Str) (u:Value):Prop:=
 (env.kindOf x=some .local/\m x=some u)∨((env.kindOf x=some .cell∨env.kindOf x=some .free)/\∃c,env.cells.lookup x=some c/\h.IsCell c (some u))
structure Cx.Ok (X:Cx):Prop where
 mod:Mod X.K X.mg X.base
 kind:X.env.scope.kind=.function
 glob:X.env.globals=mainGlobals
 blt:X.env.builtins=builtinsNs
 above:X.s₀.heap.objs.size<=X.env.locals
 inj:∀x y c,X.env.cells.lookup x=some c->X.env.cells.lookup y=some c->x=y
 has:∀x,(X.env.kindOf x=some .cell∨X.env.kindOf x=some .free)->∃c,X.env.cells.lookup x=some c
 cab:∀x c,X.fn x=true->X.env.cells.lookup x=some c->X.s₀.heap.objs.size<=c
 hd:X.calm=true->X.A.handled=none
 frames:X.A.frames=some X.stack
 stk:X.stack=X.outer∨(X.stack=X.env::X.outer/\X.env.frame=some X.env.locals)
 exf:∀b∈X.ex,b≠X.env.locals/\∀x c,X.env.cells.lookup x=some c->c≠b
 bs:∀b o,X.base.get? b=some o->X.s₀.heap.get? b=some o/\X.H₀ b=none
 bsz:X.base.objs.size<=X.s₀.heap.objs.size
 noex:∀b o,X.base.get? b=some o->b∉X.ex
 exfs:∀b∈X.ex,b∉X.fs
 funs:X.s₀.heap.FunFrames X.base X.outer
 frf:∀b∈X.fs,X.H₀ b=none
structure Inv (X:Cx) (pins:List (Addr×Obj)) (σ:List (Option V)) (H:Hp) (s:Shared):Prop where
 ok:X.Ok
 os:s.os=X.s₀.os
 bare:AllBare s.gens
 base:Un X.fs X.ex X.H₀ H X.s₀.heap s.heap
 loc:∃m,s.heap.Ns X.env.locals m/\∀(i:Nat) (x:Str) (v:V),X.N[i]?=some x->σ[i]?=some (some v)->Vis X.env.scope x->∃u,RelV v u/\Look X.env s.heap m x u
 cell:∀x c,X.env.cells.lookup x=some c->∃v,s.heap.IsCell c v
 free:H X.env.locals=none
 freeC:∀x c,X.env.cells.lookup x=some c->H c=none
 pin:∀p∈X.pn++pins,s.heap.get? p.1=some p.2/\H p.1=none/\p.1≠X.env.locals/\p.1∉X.fs/\∀v,p.2.data≠.cell v
 hok:HOk X.prog X.w H s.heap
 len:σ.length=X.N.length
section
variable {X:Cx} {pins:List (Addr×Obj)} {σ:List (Option V)} {H H':Hp} {s:Shared} {h':Heap}
theorem Cx.Ok.nofr (ok:X.Ok) {b:Addr} {o:Obj} (e:X.base.get? b=some o):b∉X.fs:=λhb=>by
 have:=(ok.funs.mem hb).1
 rw [e] at this;cases this
theorem Inv.bs (I:Inv X pins σ H s):∀b o,X.base.get? b=some o->s.heap.get? b=some o/\H b=none:=λb o e=>
 ⟨I.base.keep b o (I.ok.bs b o e).1 (I.ok.bs b o e).2 (I.ok.nofr e) (I.ok.noex b o e),I.base.free b o (I.ok.bs b o e).1 (I.ok.bs b o e).2 (I.ok.noex b o e)⟩
theorem Inv.bk (I:Inv X pins σ H s):∀b o,X.base.get? b=some o->s.heap.get? b=some o:=λb o e=>(I.bs b o e).1
theorem Inv.mod (I:Inv X pins σ H s):Mod X.K X.mg X.base:=I.ok.mod
theorem Inv.kIn (I:Inv X pins σ H s):X.K.In s.heap:=I.ok.mod.kin.keeps I.bk
theorem Inv.lt (I:Inv X pins σ H s):X.env.locals < s.heap.objs.size:=let ⟨_,hn,_⟩:=I.loc;hn.lt
theorem Inv.sz (I:Inv X pins σ H s):X.s₀.heap.objs.size<=s.heap.objs.size:=Nat.le_trans I.ok.above (Nat.le_of_lt I.lt)
theorem Inv.nofs (I:Inv X pins σ H s) {a:Addr} (h:s.heap.objs.size<=a):a∉X.fs:=λhb=>by
 obtain ⟨_,o,ho,_⟩:=I.ok.funs.mem hb
 exact absurd (Nat.lt_of_lt_of_le (Heap.lt_size ho) (Nat.le_trans I.sz h)) (Nat.lt_irrefl _)
theorem Inv.cne (I:Inv X pins σ H s):∀x c,X.env.cells.lookup x=some c->c≠X.env.locals:=λx c e z=>by
 obtain ⟨v,o,ho,hd⟩:=I.cell x c e
 obtain ⟨m,⟨o',es,ep,ho',hd',_⟩,_⟩:=I.loc
 rw [z,ho'] at ho;cases ho;rw [hd'] at hd;cases hd
theorem Inv.funs (I:Inv X pins σ H s):s.heap.FunFrames X.base X.outer:=by
 have all:∀(l:List Env),(∀b∈frs l,b∈X.fs)->X.s₀.heap.FunFrames X.base l->s.heap.FunFrames X.base l:=by
  intro l
  induction l with
  | nil=>intro _ _;trivial
  | cons env r ih=>
   intro hs hl
   obtain ⟨hk,⟨L,o,hf,hn,ho,hd⟩,hr⟩:=hl
   have hL:L∈X.fs:=hs L (by unfold frs;rw [List.filterMap_cons,hf];exact List.mem_cons_self)
   obtain ⟨sl,e⟩:=I.base.slot L o ho (I.ok.frf L hL) hL λz=>I.ok.exfs L z hL
   exact ⟨hk,⟨L,_,hf,hn,e,hd⟩,ih (λb hb=>hs b (by unfold frs;rw [List.filterMap_cons,hf];exact List.mem_cons_of_mem _ hb)) hr⟩
 exact all X.outer (λ_ hb=>hb) I.ok.funs
theorem Inv.stack (I:Inv X pins σ H s):s.heap.FunFrames X.base X.stack:=by
 rcases I.ok.stk with e | ⟨e,hf⟩
 ·rw [e];exact I.funs
 ·rw [e]
  obtain ⟨m,hn,_⟩:=I.loc
  refine .cons (by rw [I.ok.kind];decide) hf hn ?_ I.funs
  exact Heap.get?_none_of_le (Nat.le_trans I.ok.bsz I.ok.above)
theorem Inv.stkSub (I:Inv X pins σ H s):∀b∈frs X.stack,b∈X.env.locals::X.fs:=λb hb=>by
 rcases I.ok.stk with e | ⟨e,hf⟩
 ·rw [e] at hb;exact List.mem_cons_of_mem _ hb
 ·rw [e] at hb
  unfold frs at hb
  rw [List.filterMap_cons,hf] at hb
  exact hb
theorem Inv.stkFree (I:Inv X pins σ H s):∀b∈frs X.stack,H b=none:=λb hb=>by
 rcases List.mem_cons.mp (I.stkSub b hb) with e | hb
 ·rw [e];exact I.free
 ·obtain ⟨_,o,ho,_⟩:=I.ok.funs.mem hb
  exact I.base.free b o ho (I.ok.frf b hb) λz=>I.ok.exfs b z hb
theorem Inv.step {g':Array GenState} {t':Nat} {d':Drawn} {ch:List Addr} (I:Inv X pins σ H s)
 (hch:∀b∈ch,(b∈X.ex∨X.s₀.heap.objs.size<=b)/\b≠X.env.locals/\(∀x c,X.env.cells.lookup x=some c->c≠b)/\∀p∈X.pn++pins,p.1≠b)
 (keep:∀b o,b≠X.env.locals->b∉X.fs->b∉ch->s.heap.get? b=some o->H b=none->h'.get? b=some o)
 (slot:∀b o,b≠X.env.locals->b∈X.fs->b∉ch->s.heap.get? b=some o->H b=none->∃sl,h'.get? b=some { o with slots:=sl }) (free:∀b o,b∉ch->s.heap.get? b=some o->H b=none->H' b=none)
 (there:∀b o,b∉ch->s.heap.get? b=some o->∃o',h'.get? b=some o')
 (tups:∀b xs,H b=some (.tup xs)->H' b=some (.tup xs)) (frzs:∀b o u,H b=some (.frz o u)->H' b=some (.frz o u)) (tbls:∀b ps,H b=some (.tbl ps)->∃more,H' b=some (.tbl (ps++more)))
 (ns:∀m,s.heap.Ns X.env.locals m->h'.Ns X.env.locals m) (hok:HOk X.prog X.w H' h') (hg:AllBare g') :
 Inv X pins σ H' { s with heap:=h',gens:=g',drawn:=d',toks:=t' }:=by
 have neL:∀b o,X.s₀.heap.get? b=some o->b≠X.env.locals:=λb o e=>Nat.ne_of_lt (Nat.lt_of_lt_of_le (Heap.lt_size e) I.ok.above)
 have neC:∀b o,X.s₀.heap.get? b=some o->b∉X.ex->b∉ch:=λb o e hx hb=>by
  rcases (hch b hb).1 with z | z
  ·exact hx z
  ·exact absurd (Nat.lt_of_lt_of_le (Heap.lt_size e) z) (Nat.lt_irrefl _)
 have cellK:∀x c,X.env.cells.lookup x=some c->∀v,s.heap.IsCell c v->h'.IsCell c v:=λx c e v ⟨o,ho,hd⟩=>by
  have nch:c∉ch:=λz=>(hch c z).2.2.1 x c e rfl
  by_cases hc:c∈X.fs
  ·obtain ⟨sl,q⟩:=slot c o (I.cne x c e) hc nch ho (I.freeC x c e)
   exact ⟨_,q,hd⟩
  ·exact ⟨o,keep c o (I.cne x c e) hc nch ho (I.freeC x c e),hd⟩
 refine ⟨I.ok,I.os,hg,⟨λb o e n hb hx=>?_,λb o e n hb hx=>?_,λb o e n hx=>?_,λb o e hx=>?_,λb xs e=>tups b xs (I.base.tups b xs e),λb o xs e=>frzs b o xs (I.base.frzs b o xs e),λb ps e=>?_⟩,?_,λx c e=>?_,?_,λx c e=>?_,λp hp=>?_,hok,I.len⟩
 ·exact keep b o (neL b o e) hb (neC b o e hx) (I.base.keep b o e n hb hx) (I.base.free b o e n hx)
 ·obtain ⟨sl,e1⟩:=I.base.slot b o e n hb hx
  obtain ⟨sl',e2⟩:=slot b _ (neL b o e) hb (neC b o e hx) e1 (I.base.free b o e n hx)
  exact ⟨sl',e2⟩
 ·obtain ⟨o',e1⟩:=I.base.there b o e hx
  exact free b o' (neC b o e hx) e1 (I.base.free b o e n hx)
 ·obtain ⟨o',e1⟩:=I.base.there b o e hx
  exact there b o' (neC b o e hx) e1
 ·obtain ⟨m1,e1⟩:=I.base.tbls b ps e
  obtain ⟨m2,e2⟩:=tbls b _ e1
  exact ⟨m1++m2,by rw [e2,Array.append_assoc]⟩
 ·obtain ⟨m,hn,hl⟩:=I.loc
  refine ⟨m,ns m hn,λi x v e1 e2 e3=>?_⟩
  obtain ⟨u,r,l⟩:=hl i x v e1 e2 e3
  refine ⟨u,r,?_⟩
  rcases l with l | ⟨k,c,e,z⟩
  ·exact .inl l
  ·exact .inr ⟨k,c,e,cellK x c e _ z⟩
 ·obtain ⟨v,z⟩:=I.cell x c e
  exact ⟨v,cellK x c e v z⟩
 ·obtain ⟨m,⟨o,_,_,ho,_⟩,_⟩:=I.loc
  exact free _ o (λz=>(hch _ z).2.1 rfl) ho I.free
 ·obtain ⟨v,o,ho,hd⟩:=I.cell x c e
  exact free c o (λz=>(hch c z).2.2.1 x c e rfl) ho (I.freeC x c e)
 ·obtain ⟨e,n,ne,nf,d⟩:=I.pin p hp
  have nch:p.1∉ch:=λz=>(hch p.1 z).2.2.2 p hp rfl
  exact ⟨keep p.1 p.2 ne nf nch e n,free p.1 p.2 nch e n,ne,nf,d⟩
theorem Inv.un {t':Nat} (I:Inv X pins σ H s) (u:Un X.fs [] H H' s.heap h') (hok:HOk X.prog X.w H' h'):Inv X pins σ H' { s with heap:=h',toks:=t' }:=by
 obtain ⟨m,⟨o,es,ep,ho,r⟩,_⟩:=id I.loc
 obtain ⟨sl,hL⟩:=u.any ho I.free (by simp)
 exact I.step (g':=s.gens) (d':=s.drawn) (ch:=[]) (λ_ z=>nomatch z) (λb o _ hb _ e n=>u.keep b o e n hb (by simp)) (λb o _ hb _ e n=>u.slot b o e n hb (by simp)) (λb o _ e n=>u.free b o e n (by simp)) (λb o _ e=>u.there b o e (by simp)) u.tups u.frzs u.tbls (λm' hm=>by
  obtain ⟨o',es',ep',ho',r'⟩:=hm
  rw [ho] at ho';cases ho'
  exact ⟨_,es',ep',hL,r'⟩) hok I.bare
theorem Inv.call {g':Array GenState} {t':Nat} {d':Drawn} {ch:List Addr} (I:Inv X pins σ H s) (u:Un (frs X.stack) ch H H' s.heap h') (hok:HOk X.prog X.w H' h') (hg:AllBare g')
 (hch:∀b∈ch,(b∈X.ex∨X.s₀.heap.objs.size<=b)/\b≠X.env.locals/\(∀x c,X.env.cells.lookup x=some c->c≠b)/\∀p∈X.pn++pins,p.1≠b) :
 Inv X pins σ H' { s with heap:=h',gens:=g',drawn:=d',toks:=t' }:=by
 obtain ⟨m,⟨o,es,ep,ho,r⟩,_⟩:=id I.loc
 obtain ⟨sl,hL⟩:=u.any ho I.free λz=>(hch _ z).2.1 rfl
 exact I.step (ch:=ch) hch (λb o hL hb hc e n=>u.keep b o e n (λz=>(List.mem_cons.mp (I.stkSub b z)).elim hL hb) hc) (λb o _ _ hc e n=>u.any e n hc) (λb o hc e n=>u.free b o e n hc) (λb o hc e=>u.there b o e hc) u.tups u.frzs u.tbls (λm' hm=>by
  obtain ⟨o',es',ep',ho',r'⟩:=hm
  rw [ho] at ho';cases ho'
  exact ⟨_,es',ep',hL,r'⟩) hok hg
theorem Inv.turned {t':Nat} {it:Addr} (I:Inv X pins σ H s) (k:∀b o,b≠it->s.heap.get? b=some o->h'.get? b=some o) (hn:H it=none) (hL:it≠X.env.locals)
 (h1:it∈X.ex∨X.s₀.heap.objs.size<=it) (h2:∀x c,X.env.cells.lookup x=some c->c≠it) (h3:∀p∈X.pn++pins,p.1≠it):Inv X pins σ H { s with heap:=h',toks:=t' }:=by
 have nit:∀b u,H b=some u->b≠it:=λb u e z=>by rw [z,hn] at e;cases e
 refine I.step (g':=s.gens) (d':=s.drawn) (ch:=[it]) (λb hb=>?_) (λb o _ _ hc e _=>k b o (λz=>hc (by simp [z])) e) (λb o _ _ hc e _=>⟨o.slots,k b o (λz=>hc (by simp [z])) e⟩) (λ_ _ _ _ n=>n)
  (λb o hc e=>⟨o,k b o (λz=>hc (by simp [z])) e⟩) (λ_ _ e=>e) (λ_ _ _ e=>e) (λb ps e=>⟨#[],by rw [e];simp⟩) (λm hm=>?_) (λb u e=>?_) I.bare
 ·have e:b=it:=by simpa using hb
  subst e
  exact ⟨h1,hL,h2,h3⟩
 ·obtain ⟨o,es,ep,ho,r⟩:=hm
  exact ⟨o,es,ep,k _ o (Ne.symm hL) ho,r⟩
 ·refine (I.hok b u e).stay (λc v hc q=>k c v ?_ q) (λ_ q=>q) λ_ _ q=>q
  rcases hc with z | z
  ·rw [z];exact nit b u e
  ·exact nit c _ z
theorem Inv.tok (I:Inv X pins σ H s) (t:Nat):Inv X pins σ H { s with toks:=t }:=I.un (h':=s.heap) (t':=t) Un.refl I.hok
theorem Inv.kept {t':Nat} (I:Inv X pins σ H s) (k:∀b u,s.heap.get? b=some u->h'.get? b=some u):Inv X pins σ H { s with heap:=h',toks:=t' }:=I.un (Un.kept k) (I.hok.kept k)
theorem Inv.laid {a:Addr} {o:HO} {t':Nat} (I:Inv X pins σ H s) (k:∀b u,s.heap.get? b=some u->h'.get? b=some u) (hp:s.heap.objs.size<=a) (new:ObjOk X.prog X.w (upd H a o) h' a o) :
 Inv X pins σ (upd H a o) { s with heap:=h',toks:=t' }:=I.un (Un.laid k hp (I.hok.fresh hp)) (I.hok.laid k hp new)
theorem Inv.write {x e:Addr} {o:HO} {t':Nat} (I:Inv X pins σ H s) (mu:Mut (H x)) (he:e=x∨H e=some (.own x)) (k:∀b u,b≠e->s.heap.get? b=some u->h'.get? b=some u) (heo:∃u,h'.get? e=some u)
 (new:ObjOk X.prog X.w (upd H x o) h' x o):Inv X pins σ (upd H x o) { s with heap:=h',toks:=t' }:=I.un (Un.write mu he k heo) (I.hok.write mu he k heo new)
theorem Inv.pins_of {pins':List (Addr×Obj)} (I:Inv X pins σ H s) (h:∀p∈pins',s.heap.get? p.1=some p.2/\H p.1=none/\p.1≠X.env.locals/\p.1∉X.fs/\∀v,p.2.data≠.cell v):Inv X pins' σ H s:=
 ⟨I.ok,I.os,I.bare,I.base,I.loc,I.cell,I.free,I.freeC,λp hp=>(List.mem_append.mp hp).elim (λz=>I.pin p (List.mem_append_left _ z)) (h p),I.hok,I.len⟩
theorem q4E {N:List Str} (hN:N.Nodup) {i j:Nat} {x:Str} (a:N[i]?=some x) (b:N[j]?=some x):i=j:=by
 obtain ⟨h1,e1⟩:=List.getElem?_eq_some_iff.mp a
 obtain ⟨h2,e2⟩:=List.getElem?_eq_some_iff.mp b
 exact (List.getElem_inj hN).mp (e1.trans e2.symm)
theorem q9R {M:Model} {A:Around} {E:Value->Shared->Prop} {i:Nat} {x:Str} {v:V} {u:Value} {Q:Unit->Shared->Prop} (I:Inv X pins σ H s) (hN:X.N.Nodup) (hi:X.N[i]?=some x) (hx:Loc X.env.scope x) (r:RelV v u)
 (h:∀s',Inv X pins (σ.set i (some v)) H s'->(∃a,Heap.SameBut a s.heap s'.heap/\(a=X.env.locals∨X.env.cells.lookup x=some a))->Q () s') (hf:X.fn x=true∨X.env.scope.names.lookup x=some .local:=by walk_at "v2"):wpAny M A (storeName X.env x u) Q E s:=by
 obtain ⟨m,hn,hl⟩:=id I.loc
 have hcls:(X.env.scope.kind==.class || (X.env.scope.kind==.module && X.env.locals != X.env.globals))=false:=by rw [I.ok.kind];rfl
 have hiσ:i < σ.length:=by rw [I.len];exact (List.getElem?_eq_some_iff.mp hi).1
 have cne:=I.cne
 have tracked:∀{a:Addr} {h':Heap},(∃o,s.heap.get? a=some o/\H a=none)->Heap.SameBut a s.heap h'->HOk X.prog X.w H h':=λ{a h'} ha hs b ob e=>by
  obtain ⟨_,_,hfree⟩:=ha
  refine (I.hok b ob e).stay (λc w' hc q=>(hs.2 c ?_).trans q) (λ_ q=>q) λ_ _ q=>q
  rintro rfl
  rcases hc with rfl | hc
  ·rw [hfree] at e;cases e
  ·rw [hfree] at hc;cases hc
 rcases hx with hk | hk
 ·refine wpAny_storeName_local hk hn (λh' hn' hs=>?_) hcls
  obtain ⟨oL,_,_,hoL,_⟩:=id hn
  refine h _ ⟨I.ok,I.os,I.bare,⟨λb o e n hb hx=>?_,λb o e n hb hx=>?_,I.base.free,λb o e hx=>?_,I.base.tups,I.base.frzs,I.base.tbls⟩,⟨_,hn',λj y v' e1 e2 e3=>?_⟩,λy c e=>?_,I.free,I.freeC,λp hp=>?_,tracked ⟨oL,hoL,I.free⟩ hs,by simpa using I.len⟩ ⟨_,hs,.inl rfl⟩
  ·exact (hs.2 b (Nat.ne_of_lt (Nat.lt_of_lt_of_le (Heap.lt_size e) I.ok.above))).trans (I.base.keep b o e n hb hx)
  ·obtain ⟨sl,e1⟩:=I.base.slot b o e n hb hx
   exact ⟨sl,(hs.2 b (Nat.ne_of_lt (Nat.lt_of_lt_of_le (Heap.lt_size e) I.ok.above))).trans e1⟩
  ·obtain ⟨o',e1⟩:=I.base.there b o e hx
   exact ⟨o',(hs.2 b (Nat.ne_of_lt (Nat.lt_of_lt_of_le (Heap.lt_size e) I.ok.above))).trans e1⟩
  ·by_cases hj:j=i
   ·subst hj
    rw [hi] at e1;cases e1
    rw [List.getElem?_set_self hiσ] at e2
    cases e2
    exact ⟨u,r,.inl ⟨hk,by simp⟩⟩
   ·rw [List.getElem?_set_ne (Ne.symm hj)] at e2
    obtain ⟨u',r',q⟩:=hl j y v' e1 e2 e3
    refine ⟨u',r',?_⟩
    rcases q with ⟨k,e⟩ | ⟨k,c,e,z⟩
    ·refine .inl ⟨k,?_⟩
     have:y≠x:=λe=>hj (q4E hN e1 (e ▸ hi))
     simp [this,e]
    ·exact .inr ⟨k,c,e,z.sameBut hs (cne y c e)⟩
  ·obtain ⟨w',z⟩:=I.cell y c e
   exact ⟨w',z.sameBut hs (cne y c e)⟩
  ·obtain ⟨e,n,ne,nf,d⟩:=I.pin p hp
   exact ⟨(hs.2 p.1 ne).trans e,n,ne,nf,d⟩
 ·have hfn:X.fn x=true:=by
   rcases hf with z | z
   ·exact z
   ·rw [z] at hk;cases hk
  obtain ⟨c,hc⟩:=I.ok.has x (.inl hk)
  obtain ⟨w',z⟩:=I.cell x c hc
  refine wpAny_storeName_cell I.ok.kind hk hc z (λh' hc' hs=>?_)
  obtain ⟨oc,hoc,hocd⟩:=id z
  refine h { s with heap:=h' } ⟨I.ok,I.os,I.bare,⟨λb o e n hb hx=>?_,λb o e n hb hx=>?_,I.base.free,λb o e hx=>?_,I.base.tups,I.base.frzs,I.base.tbls⟩,⟨m,hn.sameBut hs (Ne.symm (cne x c hc)),λj y v' e1 e2 e3=>?_⟩,λy c' e=>?_,I.free,I.freeC,λp hp=>?_,tracked ⟨oc,hoc,I.freeC x c hc⟩ hs,by simpa using I.len⟩ ⟨c,hs,.inr hc⟩
  ·exact (hs.2 b (Nat.ne_of_lt (Nat.lt_of_lt_of_le (Heap.lt_size e) (I.ok.cab x c hfn hc)))).trans (I.base.keep b o e n hb hx)
  ·obtain ⟨sl,e1⟩:=I.base.slot b o e n hb hx
   exact ⟨sl,(hs.2 b (Nat.ne_of_lt (Nat.lt_of_lt_of_le (Heap.lt_size e) (I.ok.cab x c hfn hc)))).trans e1⟩
  ·obtain ⟨o',e1⟩:=I.base.there b o e hx
   exact ⟨o',(hs.2 b (Nat.ne_of_lt (Nat.lt_of_lt_of_le (Heap.lt_size e) (I.ok.cab x c hfn hc)))).trans e1⟩
  ·by_cases hj:j=i
   ·subst hj
    rw [hi] at e1;cases e1
    rw [List.getElem?_set_self hiσ] at e2
    cases e2
    exact ⟨u,r,.inr ⟨.inl hk,c,hc,hc'⟩⟩
   ·rw [List.getElem?_set_ne (Ne.symm hj)] at e2
    obtain ⟨u',r',q⟩:=hl j y v' e1 e2 e3
    refine ⟨u',r',?_⟩
    rcases q with q | ⟨k,c',e,z'⟩
    ·exact .inl q
    ·refine .inr ⟨k,c',e,z'.sameBut hs ?_⟩
     rintro rfl
     exact hj (q4E hN e1 (I.ok.inj _ _ _ e hc ▸ hi))
  ·by_cases hcc:c'=c
   ·subst hcc;exact ⟨_,hc'⟩
   ·obtain ⟨w2,z2⟩:=I.cell y c' e
    exact ⟨w2,z2.sameBut hs hcc⟩
  ·obtain ⟨e,n,ne,nf,d⟩:=I.pin p hp
   refine ⟨(hs.2 p.1 ?_).trans e,n,ne,nf,d⟩
   intro q
   rw [q,hoc] at e
   have q':oc=p.2:=Option.some.inj e
   exact d w' (by rw [<-q'];exact hocd)
theorem q4D {M:Model} {A:Around} {E:Value->Shared->Prop} {i:Nat} {x:Str} {v:V} {u:Value} {Q:Unit->Shared->Prop} (I:Inv X pins σ H s) (hN:X.N.Nodup) (hi:X.N[i]?=some x) (hx:Loc X.env.scope x) (r:RelV v u)
 (h:∀s',Inv X pins (σ.set i (some v)) H s'->Q () s') (hf:X.fn x=true∨X.env.scope.names.lookup x=some .local:=by walk_at "v2"):wpAny M A (storeName X.env x u) Q E s:=
 q9R I hN hi hx r (λs' I' _=>h s' I') hf
theorem Inv.call' {s':Shared} {ch:List Addr} (I:Inv X pins σ H s) (ho:s'.os=s.os) (u:Un (frs X.stack) ch H H' s.heap s'.heap) (hok:HOk X.prog X.w H' s'.heap) (hg:AllBare s'.gens)
 (hch:∀b∈ch,(b∈X.ex∨X.s₀.heap.objs.size<=b)/\b≠X.env.locals/\(∀x c,X.env.cells.lookup x=some c->c≠b)/\∀p∈X.pn++pins,p.1≠b):Inv X pins σ H' s':=by
 obtain ⟨h',g',d',t',o'⟩:=s'
 have e:o'=s.os:=ho
 subst e
 exact I.call (g':=g') (t':=t') (d':=d') u hok hg hch
end
noncomputable abbrev XK:=Value->Option Addr->Hp->Prop
noncomputable abbrev St:=List (Option V)
noncomputable abbrev VK:=V->Hp->Prop
noncomputable abbrev TE:=St->Hp->VK->Prop
noncomputable abbrev TT:=St->Hp->(Bool->Hp->Prop)->Prop
noncomputable abbrev TA:=St->Hp->(List V->Hp->Prop)->Prop
structure Ends where
 nx:St->Hp->Prop
 rt:VK
 bk:St->Hp->Prop:=λ_ _=>False
 ct:St->Hp->Prop:=λ_ _=>False
noncomputable abbrev TS:=Ends->St->Hp->Prop
noncomputable def EP (X:Cx) (pins:List (Addr×Obj)) (σ:St) (Q:VK) (u:Value) (s':Shared):Prop:=∃v H',Inv X pins σ H' s'/\RelV v u/\Q v H'
noncomputable def TP (X:Cx) (pins:List (Addr×Obj)) (σ:St) (Q:Bool->Hp->Prop) (b:Bool) (s':Shared):Prop:=∃H',Inv X pins σ H' s'/\Q b H'
noncomputable def AP (X:Cx) (pins:List (Addr×Obj)) (σ:St) (Q:List V->Hp->Prop) (us:List Value) (s':Shared):Prop:=∃vs H',Inv X pins σ H' s'/\Vals vs us/\Q vs H'
noncomputable def SP (X:Cx) (pins:List (Addr×Obj)) (D:Ends) (f:Flow) (s':Shared):Prop:=
 match f with
 | .next=>∃σ' H',Inv X pins σ' H' s'/\D.nx σ' H'
 | .brk=>∃σ' H',Inv X pins σ' H' s'/\D.bk σ' H'
 | .cont=>∃σ' H',Inv X pins σ' H' s'/\D.ct σ' H'
 | .ret u=>∃v σ' H',Inv X pins σ' H' s'/\RelV v u/\D.rt v H'
noncomputable def PE (X:Cx) (e:Expr) (t:TE):Prop:=
 ∀(pins:List (Addr×Obj)) (s:Shared) (σ:St) (H:Hp) (Q:VK),Inv X pins σ H s->t σ H Q->wpAny (model X.prog X.w) X.A (eval e X.env) (EP X pins σ Q) X.xe s
noncomputable def PT (X:Cx) (e:Expr) (t:TT):Prop:=
 ∀(pins:List (Addr×Obj)) (s:Shared) (σ:St) (H:Hp) (Q:Bool->Hp->Prop),Inv X pins σ H s->t σ H Q->wpAny (model X.prog X.w) X.A (isTrue e X.env (eval e X.env)) (TP X pins σ Q) X.xe s
noncomputable def PW (X:Cx) (e:Expr) (t:TT):Prop:=
 ∀(whole:Sem Value) (pins:List (Addr×Obj)) (s:Shared) (σ:St) (H:Hp) (Q:Bool->Hp->Prop),Inv X pins σ H s->t σ H Q->wpAny (model X.prog X.w) X.A (isTrue e X.env whole) (TP X pins σ Q) X.xe s
theorem PW.pt {X:Cx} {e:Expr} {t:TT} (h:PW X e t):PT X e t:=h _
noncomputable def PA (X:Cx) (es:List Expr) (t:TA):Prop:=
 ∀(pos:Pos) (pins:List (Addr×Obj)) (s:Shared) (σ:St) (H:Hp) (Q:List V->Hp->Prop),Inv X pins σ H s->t σ H Q->wpAny (model X.prog X.w) X.A (spliced (backTo pos (starEach es X.env))) (AP X pins σ Q) X.xe s
noncomputable def PS (X:Cx) (st:Stmt) (t:TS):Prop:=
 ∀(pins:List (Addr×Obj)) (s:Shared) (σ:St) (H:Hp) (D:Ends),Inv X pins σ H s->t D σ H->wpAny (model X.prog X.w) X.A (exec st X.env) (SP X pins D) X.xe s
noncomputable def PSs (X:Cx) (st:List Stmt) (t:TS):Prop:=
 ∀(pins:List (Addr×Obj)) (s:Shared) (σ:St) (H:Hp) (D:Ends),Inv X pins σ H s->t D σ H->wpAny (model X.prog X.w) X.A (execs st X.env) (SP X pins D) X.xe s
theorem thn {α:Type} {t:Sem α} {Q Q':α->Shared->Prop} {M:Model} {A:Around} {E:Value->Shared->Prop} {s:Shared} (h:wpAny M A t Q E s) (hQ:∀a s,Q a s->Q' a s):wpAny M A t Q' E s:=wpAny_mono h hQ λ_ _ x=>x
section
variable {X:Cx}
noncomputable def w20 (i:Nat):TE:=fun σ H Q=>∃v,σ[i]?=some (some v)/\Q v H
noncomputable def tC (v:V):TE:=λ_ H Q=>Q v H
theorem q2D {i:Nat} {x:Str} {pos:Pos} (hN:X.N[i]?=some x) (hv:Vis X.env.scope x) (hd:(x==("__debug__" : Str))=false:=by decide) (hcd:(x==("__classdict__" : Str))=false:=by decide):PE X (.Name x pos) (w20 i):=by
 intro pins s σ H Q I h
 obtain ⟨v,e,h⟩:=h
 obtain ⟨m,hn,hl⟩:=I.loc
 obtain ⟨u,r,l⟩:=hl i x v hN e hv
 have fin:EP X pins σ Q u s:=⟨v,H,I,r,h⟩
 rcases l with ⟨hk,hm⟩ | ⟨hk,c,hc,hcell⟩
 ·exact wpAny_Name (wpAny_loadName_local I.ok.kind hk hn hm fin) hd
 ·rcases hk with hk | hk
  ·exact wpAny_Name (wpAny_loadName_cell I.ok.kind hk hc hcell fin) hd
  ·exact wpAny_Name (wpAny_loadName_free I.ok.kind hk hc hcell fin hcd) hd
theorem j3F {i j pos}:PE X (.Constant (.int i) j pos) (tC (.int i)):=λ_ _ _ H _ I h=>wpAny_Constant_int ⟨.int i,H,I.tok _,⟨_,rfl⟩,h⟩
theorem w1T {b j pos}:PE X (.Constant (.bool b) j pos) (tC (.bl b)):=λ_ _ _ H _ I h=>Constant_bool ⟨.bl b,H,I,rfl,h⟩
theorem j8o {j pos}:PE X (.Constant .none j pos) (tC .non):=λ_ _ _ H _ I h=>Constant_none ⟨.non,H,I,rfl,h⟩
theorem j8b {x j pos}:PE X (.Constant (.str x) j pos) (tC (.str x)):=λ_ _ _ H _ I h=>Calls.Constant_str ⟨.str x,H,I.tok _,⟨_,rfl⟩,h⟩
noncomputable def Gl (X:Cx) (x:Str):Prop:=X.env.kindOf x=some .globalImplicit
theorem q4c {E:Value->Shared->Prop} {pins:List (Addr×Obj)} {s:Shared} {σ:St} {H:Hp} {x:Str} {u:Value} {pos:Pos} {Q:Value->Shared->Prop} (I:Inv X pins σ H s) (hg:Gl X x) (hm:X.mg x=some u) (h:Q u s)
 (hd:(x==("__debug__" : Str))=false:=by decide):wpAny (model X.prog X.w) X.A (eval (.Name x pos) X.env) Q E s:=
 Calls.Name_function_global I.ok.kind hg (Calls.loadGlobal_global (by rw [I.ok.glob];exact I.mod.glob.keeps I.bk) hm h) hd
theorem q2E {E:Value->Shared->Prop} {pins:List (Addr×Obj)} {s:Shared} {σ:St} {H:Hp} {x:Str} {u:Value} {pos:Pos} {Q:Value->Shared->Prop} (I:Inv X pins σ H s) (hg:Gl X x) (hm:X.mg x=none) (hv:bootBuiltins x=some u) (h:Q u s)
 (hn:x≠"__name__":=by decide) (hd:(x==("__debug__" : Str))=false:=by decide):wpAny (model X.prog X.w) X.A (eval (.Name x pos) X.env) Q E s:=by
 obtain ⟨mb,h1,h2⟩:=I.mod.blt
 exact Calls.Name_function_global I.ok.kind hg (Calls.loadGlobal_builtin (by rw [I.ok.glob];exact I.mod.glob.keeps I.bk) hm (by rw [I.ok.blt];exact h1.keeps I.bk) ((h2 x hn).trans hv) h) hd
theorem j5m {x:Str} {v:V} {u:Value} {pos:Pos} (hg:Gl X x) (hm:X.mg x=some u) (r:RelV v u) (hd:(x==("__debug__" : Str))=false:=by decide):PE X (.Name x pos) (tC v):=
 λ_ _ _ H _ I h=>q4c I hg hm ⟨v,H,I,r,h⟩ hd
theorem j6b {x:Str} {v:V} {u:Value} {pos:Pos} (hg:Gl X x) (hm:X.mg x=none) (hv:bootBuiltins x=some u) (r:RelV v u) (hn:x≠"__name__":=by decide) (hd:(x==("__debug__" : Str))=false:=by decide):PE X (.Name x pos) (tC v):=
 λ_ _ _ H _ I h=>q2E I hg hm hv ⟨v,H,I,r,h⟩ hn hd
variable {a b:Expr} {ta tb:TE} {pos:Pos}
noncomputable def tB (t:TE):TT:=fun σ H Q=>t σ H λx H1=>∃c,x=.bl c/\Q c H1
variable {tA tB':TT} {rest:List Expr}
noncomputable def w3h (t u:TT):TT:=fun σ H Q=>t σ H λc H1=>if c=true then u σ H1 Q else Q false H1
noncomputable def tOr (t u:TT):TT:=fun σ H Q=>t σ H λc H1=>if c=true then Q true H1 else u σ H1 Q
noncomputable def w3a (t:TT):TT:=fun σ H Q=>t σ H λc H1=>Q (!c) H1
theorem j50 (ha:PT X a tA):PW X (.BoolOp .And [a] pos) tA:=by
 intro wh pins s σ H Q I h
 refine isTrue_and (thn (ha pins s σ H Q I h) λc s1 e=>?_)
 cases c with
 | true=>exact isTrue_and_nil e
 | false=>exact e
theorem j73 (ha:PT X a tA):PW X (.BoolOp .Or [a] pos) tA:=by
 intro wh pins s σ H Q I h
 refine isTrue_or (thn (ha pins s σ H Q I h) λc s1 e=>?_)
 cases c with
 | false=>exact isTrue_or_nil e
 | true=>exact e
theorem j7e (ha:PT X a tA) (hb:PW X (.BoolOp .And (b::rest) pos) tB'):PW X (.BoolOp .And (a::b::rest) pos) (w3h tA tB'):=by
 intro wh pins s σ H Q I h
 refine isTrue_and (thn (ha pins s σ H _ I h) λc s1 ⟨H1,I1,q1⟩=>?_)
 cases c with
 | true=>exact hb wh pins s1 σ H1 Q I1 q1
 | false=>exact ⟨H1,I1,q1⟩
theorem w1B (ha:PT X a tA) (hb:PW X (.BoolOp .Or (b::rest) pos) tB'):PW X (.BoolOp .Or (a::b::rest) pos) (tOr tA tB'):=by
 intro wh pins s σ H Q I h
 refine isTrue_or (thn (ha pins s σ H _ I h) λc s1 ⟨H1,I1,q1⟩=>?_)
 cases c with
 | true=>exact ⟨H1,I1,q1⟩
 | false=>exact hb wh pins s1 σ H1 Q I1 q1
theorem j7i (ha:PT X a tA):PT X (.UnaryOp .Not a pos) (w3a tA):=by
 intro pins s σ H Q I h
 exact isTrue_not (ha pins s σ H (λc H1=>Q (!c) H1) I h)
noncomputable def w06 (ta tb:TE):TE:=fun σ H Q=>ta σ H λx H1=>∃c,x=.bl c/\if c=true then tb σ H1 Q else Q (.bl false) H1
noncomputable def w1b (ta:TE):TE:=fun σ H Q=>ta σ H λx H1=>∃c,x=.bl c/\Q (.bl (!c)) H1
theorem j8q {op} {t:TE} (h:PE X a t):PE X (.BoolOp op [a] pos) t:=λpins s σ H Q I hw=>BoolOp_one (h pins s σ H Q I hw)
theorem j8H (ha:PE X a ta) (hb:PE X (.BoolOp .And (b::rest) pos) tb):PE X (.BoolOp .And (a::b::rest) pos) (w06 ta tb):=by
 intro pins s σ H Q I h
 refine BoolOp_and (thn (ha pins s σ H _ I h) λv s1 ⟨x,H1,I1,r1,q1⟩=>?_)
 obtain ⟨c,rfl,q1⟩:=q1
 cases r1
 refine wpAny_truthy_bool ?_
 cases c with
 | true=>exact hb pins s1 σ H1 Q I1 q1
 | false=>exact ⟨.bl false,H1,I1,rfl,q1⟩
theorem j7f (ha:PE X a ta):PE X (.UnaryOp .Not a pos) (w1b ta):=by
 intro pins s σ H Q I h
 refine UnaryOp_ (thn (ha pins s σ H _ I h) λv s1 ⟨x,H1,I1,r1,q1⟩=>?_)
 obtain ⟨c,rfl,q1⟩:=q1
 cases r1
 exact not_of (wpAny_truthy_bool ⟨.bl (!c),H1,I1,rfl,q1⟩)
noncomputable def tIf (t:TT) (ta tb:TE):TE:=fun σ H Q=>t σ H λc H1=>if c=true then ta σ H1 Q else tb σ H1 Q
theorem j1w {c:Expr} (hc:PT X c tA) (ha:PE X a ta) (hb:PE X b tb):PE X (.IfExp c a b pos) (tIf tA ta tb):=by
 intro pins s σ H Q I h
 refine wpAny_IfExp (thn (hc pins s σ H _ I h) λd s1 ⟨H1,I1,q1⟩=>?_)
 cases d with
 | true=>exact ha pins s1 σ H1 Q I1 q1
 | false=>exact hb pins s1 σ H1 Q I1 q1
end
noncomputable def SqL (K:PySem.W.Frag) (H:Hp) (a:Addr) (xs:List V):Prop:=
 Rd H a (.lst xs) ∨
  ∃(o:Obj) (its:Array Value) (n:Nat),K.lookup a=some o/\o.cls=.type "list"/\o.dict=none/\o.data=.seq its n/\its.size<=sizeLine/\Vals xs its.toList
noncomputable def SqT (K:PySem.W.Frag) (H:Hp) (a:Addr) (xs:List V):Prop:=
 Rd H a (.tup xs) ∨
  ∃(o:Obj) (its:Array Value) (n:Nat),K.lookup a=some o/\o.cls=.type "tuple"/\o.data=.seq its n/\its.size<=sizeLine/\Vals xs its.toList
noncomputable def w2O:Value->Option V
 | .none=>some .non
 | .bool b=>some (.bl b)
 | .int i _=>some (.int i)
 | .str x _=>some (.str x)
 | .bytes b _=>some (.byt b)
 | .float b _=>some (.flt b)
 | .ref a=>some (.ref a)
 | .type n=>some (.ty n)
 | _=>none
theorem RelV.abs {x:V} {u:Value} (r:RelV x u):w2O u=some x:=by
 cases x with
 | non=>cases r;rfl
 | bl _=>cases r;rfl
 | int _=>obtain ⟨t,rfl⟩:=r;rfl
 | str _=>obtain ⟨t,rfl⟩:=r;rfl
 | byt _=>obtain ⟨t,rfl⟩:=r;rfl
 | flt _=>obtain ⟨t,rfl⟩:=r;rfl
 | ref _=>cases r;rfl
 | ty _=>cases r;rfl
theorem RelV.inj {x y:V} {u:Value} (r:RelV x u) (q:RelV y u):x=y:=Option.some.inj (r.abs.symm.trans q.abs)
theorem Vals.inj:∀{xs ys:List V} {us:List Value},Vals xs us->Vals ys us->xs=ys
 | _,_,_,.nil,.nil=>rfl
 | _,_,_,.cons r t,.cons r' t'=>by rw [r.inj r',Vals.inj t t']
section
variable {X:Cx} {pins:List (Addr×Obj)} {σ:St} {H:Hp} {s:Shared} {a:Addr} {xs ys:List V}
theorem SqL.of {K:PySem.W.Frag} (h:H a=some (.lst xs)):SqL K H a xs:=.inl (.inl h)
theorem SqT.of {K:PySem.W.Frag} (h:H a=some (.tup xs)):SqT K H a xs:=.inl (.inl h)
theorem Inv.list (I:Inv X pins σ H s) (h:SqL X.K H a xs):∃its:List Value,Vals xs its/\PlainL s.heap a its.toArray/\xs.length<=sizeLine:=by
 rcases h with h | ⟨o,its,n,hk,hc,hd,hs,hz,r⟩
 ·obtain ⟨z,its,n,r,e⟩:=h.ok I.hok
  exact ⟨its,r,⟨_,n,e,rfl,rfl,rfl⟩,z⟩
 ·refine ⟨its.toList,r,⟨o,n,I.kIn a o hk,hc,hd,by simpa using hs⟩,?_⟩
  have e:=r.length
  simp only [Array.length_toList] at e
  omega
theorem Inv.tuple (I:Inv X pins σ H s) (h:SqT X.K H a xs):∃its:List Value,Vals xs its/\IsTup s.heap a its.toArray/\xs.length<=sizeLine:=by
 rcases h with h | ⟨o,its,n,hk,hc,hs,hz,r⟩
 ·obtain ⟨z,its,r,p⟩:=h.ok I.hok
  exact ⟨its,r,p,z⟩
 ·refine ⟨its.toList,r,⟨o,I.kIn a o hk,hc,n,by simpa using hs⟩,?_⟩
  have e:=r.length
  simp only [Array.length_toList] at e
  omega
theorem Inv.list_inj (I:Inv X pins σ H s) (h:SqL X.K H a xs) (h':SqL X.K H a ys):xs=ys:=by
 obtain ⟨its,r,⟨o,n,e,_,_,d⟩,_⟩:=I.list h
 obtain ⟨its',r',⟨o',n',e',_,_,d'⟩,_⟩:=I.list h'
 rw [e] at e';cases e'
 rw [d] at d'
 injection d' with d1 _
 have:its=its':=by simpa using congrArg Array.toList d1
 subst this
 exact r.inj r'
theorem Inv.tuple_inj (I:Inv X pins σ H s) (h:SqT X.K H a xs) (h':SqT X.K H a ys):xs=ys:=by
 obtain ⟨its,r,⟨o,e,_,n,d⟩,_⟩:=I.tuple h
 obtain ⟨its',r',⟨o',e',_,n',d'⟩,_⟩:=I.tuple h'
 rw [e] at e';cases e'
 rw [d] at d'
 injection d' with d1 _
 have:its=its':=by simpa using congrArg Array.toList d1
 subst this
 exact r.inj r'
end
noncomputable abbrev Cx.wish (X:Cx) (E:Value->Shared->Prop):Cx:={ X with xe:=E }
theorem Cx.Ok.wish {X:Cx} (ok:X.Ok) (E:Value->Shared->Prop):(X.wish E).Ok:=
 ⟨ok.mod,ok.kind,ok.glob,ok.blt,ok.above,ok.inj,ok.has,ok.cab,ok.hd,ok.frames,ok.stk,ok.exf,ok.bs,ok.bsz,ok.noex,ok.exfs,ok.funs,ok.frf⟩
theorem Cx.Ok.unwish {X:Cx} {E:Value->Shared->Prop} (ok:(X.wish E).Ok):X.Ok:=
 ⟨ok.mod,ok.kind,ok.glob,ok.blt,ok.above,ok.inj,ok.has,ok.cab,ok.hd,ok.frames,ok.stk,ok.exf,ok.bs,ok.bsz,ok.noex,ok.exfs,ok.funs,ok.frf⟩
section
variable {X:Cx} {pins:List (Addr×Obj)} {σ:St} {H:Hp} {s:Shared} {E:Value->Shared->Prop}
theorem Inv.wish (I:Inv X pins σ H s) (E:Value->Shared->Prop):Inv (X.wish E) pins σ H s:=⟨I.ok.wish E,I.os,I.bare,I.base,I.loc,I.cell,I.free,I.freeC,I.pin,I.hok,I.len⟩
theorem Inv.unwish (I:Inv (X.wish E) pins σ H s):Inv X pins σ H s:=⟨I.ok.unwish,I.os,I.bare,I.base,I.loc,I.cell,I.free,I.freeC,I.pin,I.hok,I.len⟩
end
section
variable {X:Cx} {st:Stmt} {rest:List Stmt} {t u:TS} {e:Expr} {te:TE} {pos:Pos}
noncomputable def w1h:TS:=λD σ H=>D.nx σ H
noncomputable def w3m (t u:TS):TS:=λD σ H=>t { D with nx:=u D } σ H
theorem j5M:PSs X [] w1h:=λ_ _ σ H _ I h=>wpAny_execs_nil ⟨σ,H,I,h⟩
theorem j10 (h1:PS X st t) (h2:PSs X rest u):PSs X (st::rest) (w3m t u):=by
 intro pins s σ H D I h
 refine wpAny_execs_cons (thn (h1 pins s σ H { D with nx:=u D } I h) λf s1 q=>?_)
 cases f with
 | next=>
  obtain ⟨σ',H',I',q⟩:=q
  exact h2 pins s1 σ' H' D I' q
 | ret v=>exact q
 | brk=>exact q
 | cont=>exact q
theorem j43 (h1:PS X st t):PSs X [st] t:=by
 intro pins s σ H D I h
 refine wpAny_execs_cons (thn (h1 pins s σ H D I h) λf s1 q=>?_)
 cases f with
 | next=>exact wpAny_execs_nil q
 | ret v=>exact q
 | brk=>exact q
 | cont=>exact q
theorem Inv.quiet {pins:List (Addr×Obj)} {σ:St} {H:Hp} {s:Shared} (I:Inv X pins σ H s):interactive X.env=false:=by simp [interactive,I.ok.kind]
noncomputable def w1u (te:TE):TS:=λD σ H=>te σ H λ_ H1=>D.nx σ H1
theorem q5V (he:PE X e te) (hs:swapsWith e none pos.line X.env=pure false:=by rfl):PS X (.Expr e pos) (w1u te):=by
 intro pins s σ H D I h
 exact wpAny_Expr_any (thn (he pins s σ H _ I h) λv s1 ⟨x,H1,I1,r1,q1⟩=>⟨σ,H1,I1,q1⟩) I.quiet hs
noncomputable def w3f (te:TE):TS:=λD σ H=>te σ H D.rt
theorem q7b (he:PE X e te):PS X (.Return (some e) pos) (w3f te):=by
 intro pins s σ H D I h
 exact wpAny_Return_some (thn (he pins s σ H _ I h) λv s1 ⟨x,H1,I1,r1,q1⟩=>⟨x,σ,H1,I1,r1,q1⟩)
noncomputable def w3p (c:TT) (t u:TS):TS:=λD σ H=>c σ H λb H1=>if b=true then t D σ H1 else u D σ H1
theorem w1r {c:Expr} {a b:List Stmt} {tc:TT} (hc:PT X c tc) (ha:PSs X a t) (hb:PSs X b u):PS X (.If c a b pos) (w3p tc t u):=by
 intro pins s σ H D I h
 refine wpAny_If (thn (hc pins s σ H _ I h) λd s1 ⟨H1,I1,q1⟩=>?_)
 cases d with
 | true=>exact ha pins s1 σ H1 D I1 q1
 | false=>exact hb pins s1 σ H1 D I1 q1
end
noncomputable abbrev TG:=V->St->Hp->(St->Hp->Prop)->Prop
noncomputable abbrev TGs:=List V->St->Hp->(St->Hp->Prop)->Prop
noncomputable def PG (X:Cx) (target:Expr) (t:TG):Prop:=
 ∀(pins:List (Addr×Obj)) (s:Shared) (σ:St) (H:Hp) (v:V) (u:Value) (Q:St->Hp->Prop),Inv X pins σ H s->RelV v u->t v σ H Q ->
  wpAny (model X.prog X.w) X.A (assign target X.env u) (λ_ s'=>∃σ' H',Inv X pins σ' H' s'/\Q σ' H') X.xe s
noncomputable def PGs (X:Cx) (ts:List Expr) (t:TGs):Prop:=
 ∀(pins:List (Addr×Obj)) (s:Shared) (σ:St) (H:Hp) (vs:List V) (us:List Value) (Q:St->Hp->Prop),Inv X pins σ H s->Vals vs us->t vs σ H Q ->
  wpAny (model X.prog X.w) X.A (assignInOrder ((assignEach ts X.env).map (·.2)) us) (λ_ s'=>∃σ' H',Inv X pins σ' H' s'/\Q σ' H') X.xe s
noncomputable abbrev w1a:=V->V->V->Hp->(Hp->Prop)->Prop
noncomputable def w19 (X:Cx) (t:w1a):Prop:=
 ∀(pins:List (Addr×Obj)) (s:Shared) (σ:St) (H:Hp) (o i v:V) (ov iv u:Value) (Q:Hp->Prop),Inv X pins σ H s->RelV o ov->RelV i iv->RelV v u->t o i v H Q ->
  wpAny (model X.prog X.w) X.A (setItem ov iv u) (λ_ s'=>∃H',Inv X pins σ H' s'/\Q H') X.xe s
noncomputable abbrev TIp:=V->V->Hp->VK->Prop
noncomputable def PIp (X:Cx) (op:Operator) (t:TIp):Prop:=
 ∀(pins:List (Addr×Obj)) (s:Shared) (σ:St) (H:Hp) (x y:V) (v u:Value) (Q:VK),Inv X pins σ H s->RelV x v->RelV y u->t x y H Q ->
  wpAny (model X.prog X.w) X.A (inplaceOp op v u) (EP X pins σ Q) X.xe s
section
variable {X:Cx} {pos:Pos}
noncomputable def j5z (i:Nat):TG:=λv σ H Q=>Q (σ.set i (some v)) H
theorem q4l {i:Nat} {x:Str} (hN:X.N.Nodup) (hi:X.N[i]?=some x) (hx:Loc X.env.scope x) (hf:X.fn x=true∨X.env.scope.names.lookup x=some .local:=by walk_at "v2"):PG X (.Name x pos) (j5z i):=by
 intro pins s σ H v u Q I r h
 exact wpAny_assign_Name (q4D I hN hi hx r (λs' I'=>⟨_,H,I',h⟩) hf)
noncomputable def w3c:TGs:=λvs σ H Q=>vs=[]/\Q σ H
noncomputable def w0z (t:TG) (u:TGs):TGs:=λvs σ H Q=>∃v r,vs=v::r/\t v σ H fun σ' H'=>u r σ' H' Q
theorem j6q:PGs X [] w3c:=by
 intro pins s σ H vs us Q I r h
 obtain ⟨e,h⟩:=h
 subst e
 cases r
 exact assignInOrder_nil ⟨σ,H,I,h⟩
theorem j2r {e:Expr} {es:List Expr} {t:TG} {u:TGs} (h1:PG X e t) (h2:PGs X es u)
 (hs:(assignEach (e::es) X.env).map (·.2)=assign e X.env::(assignEach es X.env).map (·.2):=by rfl):PGs X (e::es) (w0z t u):=by
 intro pins s σ H vs us Q I r h
 obtain ⟨v,vr,e1,h⟩:=h
 subst e1
 cases r with
 | cons r rr=>
  rw [hs]
  refine assignInOrder_cons (thn (h1 pins s σ H _ _ _ I r h) λ_ s1 ⟨σ1,H1,I1,q1⟩=>?_)
  exact h2 pins s1 σ1 H1 _ _ Q I1 rr q1
noncomputable def w21 (K:PySem.W.Frag) (n:Nat) (t:TGs):TG:=λv σ H Q=>∃a xs,v=.ref a/\SqT K H a xs/\xs.length=n/\t xs σ H Q
theorem j87 {es:List Expr} {k:Nat} {t:TGs} {n:Nat} (hc:X.calm=true) (h:PGs X es t)
 (hn:(assignEach es X.env).length=n:=by rfl) (hst:(assignEach es X.env).findIdx? (·.1)=none:=by rfl):PG X (.Tuple es k pos) (w21 X.K n t):=by
 intro pins s σ H v u Q I r hw
 obtain ⟨a,xs,e1,hq,hl,hw⟩:=hw
 subst e1
 cases r
 obtain ⟨its,rv,ht,hz⟩:=I.tuple hq
 refine assign_Tuple_tuple (I.ok.hd hc) ht (by simp [hn,<-hl,rv.length]) hst λh' hx=>?_
 have I1:Inv X pins σ H { s with heap:=h' }:=I.kept (t':=s.toks) λb o e=>hx b o (Nat.ne_of_lt (Heap.lt_size e)) e
 exact h pins _ σ H xs _ Q I1 (by simpa using rv) hw
noncomputable def w2T (to ti:TE) (t:w1a):TG:=λv σ H Q=>to σ H λo H1=>ti σ H1 λi H2=>t o i v H2 λH3=>Q σ H3
theorem j6R {o i:Expr} {to ti:TE} {t:w1a} (ho:PE X o to) (hi:PE X i ti) (hs:w19 X t)
 (ha:∀v,assign (.Subscript o i pos) X.env v=(do
  let ov <-holding [v] (eval o X.env)
  let iv <-holding [v,ov] (eval i X.env)
  standAt pos
  holding [v,ov,iv] (setItem ov iv v)
  release [v,ov,iv] []):=by intro _;rfl):PG X (.Subscript o i pos) (w2T to ti t):=by
 intro pins s σ H v u Q I r h
 rw [ha]
 refine wpAny_bind (wpAny_holding (thn (ho pins s σ H _ I h) λov s1 ⟨x,H1,I1,r1,q1⟩=>?_))
 refine wpAny_bind (wpAny_holding (thn (hi pins s1 σ H1 _ I1 q1) λiv s2 ⟨y,H2,I2,r2,q2⟩=>?_))
 refine wpAny_bind (wpAny_standAt (wpAny_bind (wpAny_holding (thn (hs pins s2 σ H2 x y v ov iv u _ I2 r1 r2 r q2) λ_ s3 ⟨H3,I3,q3⟩=>?_))))
 exact wpAny_release ⟨σ,H3,I3,q3⟩
noncomputable def w1H (te:TE) (g:TG):TS:=λD σ H=>te σ H λx H1=>g x σ H1 D.nx
theorem j29 {tg e:Expr} {te:TE} {g:TG} (he:PE X e te) (hg:PG X tg g) (hs:swapsWithSole [tg] e pos.line X.env=pure false:=by rfl) (hw:swappedStores [tg] e X.env=pure none:=by rfl)
 (h1:(assignEach [tg] X.env).map (·.2)=[assign tg X.env]:=by rfl):PS X (.Assign [tg] e pos) (w1H te g):=by
 intro pins s σ H D I h
 refine wpAny_Assign_stores (thn (he pins s σ H _ I h) λv s1 ⟨x,H1,I1,r1,q1⟩=>?_) hs hw
 rw [h1]
 exact thn (hg pins s1 σ H1 x v _ I1 r1 q1) λ_ s2 q=>q
theorem j3z {i:Nat} {x:Str} {e:Expr} {te:TE} {pos':Pos} (hN:X.N.Nodup) (hi:X.N[i]?=some x) (hx:Loc X.env.scope x) (he:PE X e te) (hs:swapsWith e (some (.Name x pos')) pos.line X.env=pure false:=by rfl) (hf:X.fn x=true∨X.env.scope.names.lookup x=some .local:=by walk_at "v2") :
 PS X (.Assign [.Name x pos'] e pos) (w1H te (j5z i)):=by
 intro pins s σ H D I h
 refine wpAny_Assign_Name (thn (he pins s σ H _ I h) λv s1 ⟨y,H1,I1,r1,q1⟩=>?_) hs
 exact q4D I1 hN hi hx r1 (λs2 I2=>⟨_,H1,I2,q1⟩) hf
noncomputable def w3l (i:Nat) (te:TE) (ti:TIp):TS:=λD σ H=>∃x,σ[i]?=some (some x)/\te σ H λy H1=>ti x y H1 λz H2=>D.nx (σ.set i (some z)) H2
theorem j8h {i:Nat} {x:Str} {e:Expr} {te:TE} {op:Operator} {ti:TIp} {pos':Pos} (hN:X.N.Nodup) (hi:X.N[i]?=some x) (hx:Loc X.env.scope x) (he:PE X e te) (ho:PIp X op ti) (hf:X.fn x=true∨X.env.scope.names.lookup x=some .local:=by walk_at "v2") :
 PS X (.AugAssign (.Name x pos') op e pos) (w3l i te ti):=by
 intro pins s σ H D I h
 obtain ⟨v,e1,h⟩:=h
 obtain ⟨m,hn,hl⟩:=I.loc
 have vis:Vis X.env.scope x:=by rcases hx with k | k;exact .inl k;exact .inr (.inl k)
 obtain ⟨u,r,l⟩:=hl i x v hi e1 vis
 refine wpAny_AugAssign_Name ?_
 have go:wpAny (model X.prog X.w) X.A (eval e X.env) (λw s₂=>wpAny (model X.prog X.w) X.A (inplaceOp op u w) (λr s₃=>wpAny (model X.prog X.w) X.A (storeName X.env x r) (λ_=>SP X pins D .next) X.xe s₃) X.xe s₂) X.xe s:=by
  refine thn (he pins s σ H _ I h) λw s1 ⟨y,H1,I1,r1,q1⟩=>?_
  refine thn (ho pins s1 σ H1 v y u w _ I1 r r1 q1) λz s2 ⟨zv,H2,I2,r2,q2⟩=>?_
  exact q4D I2 hN hi hx r2 (λs3 I3=>⟨_,H2,I3,q2⟩) hf
 rcases l with ⟨hk,hm⟩ | ⟨hk,c,hc,hcell⟩
 ·exact wpAny_loadName_local I.ok.kind hk hn hm go
 ·rcases hk with hk | hk
  ·exact wpAny_loadName_cell I.ok.kind hk hc hcell go
  ·rcases hx with k | k
   ·have:X.env.scope.names.lookup x=some .free:=hk
    rw [k] at this;cases this
   ·have:X.env.scope.names.lookup x=some .free:=hk
    rw [k] at this;cases this
noncomputable def ipI (f:Int->Int->Int):TIp:=λx y H Q=>∃i j,x=.int i/\y=.int j/\Q (.int (f i j)) H
theorem j8X:PIp X .Add (ipI λi j=>i+j):=by
 intro pins s σ H x y v u Q I r1 r2 h
 obtain ⟨i,j,e1,e2,q⟩:=h
 subst e1;subst e2
 obtain ⟨t,rfl⟩:=r1
 obtain ⟨t',rfl⟩:=r2
 exact iadd_int ⟨.int _,H,I.tok _,⟨_,rfl⟩,q⟩
end
section
variable {X:Cx} {pos:Pos}
noncomputable def j74 (c:TT) (tb:TS):TS:=λD σ H=>∃W:Nat->St->Hp->Prop,(∃m,W m σ H)/\∀m σ H,W m σ H ->
 c σ H λb H1=>if b=true then ∃N:St->Hp->Prop,(∀σ' H',N σ' H'->∃m',m' < m/\W m' σ' H')/\tb { D with nx:=N,ct:=N,bk:=D.nx } σ H1 else D.nx σ H1
theorem j1m {c:Expr} {body:List Stmt} {tc:TT} {tb:TS} (hp:PassesOwn (model X.prog X.w) X.A X.env X.xe) (hc:PT X c tc) (hb:PSs X body tb):PS X (.While c body [] pos) (j74 tc tb):=by
 intro pins s σ H D I h
 obtain ⟨W,⟨m0,w0⟩,turn⟩:=h
 refine wpAny_While (codeAny_whileLoop (λn s'=>∃σ' H',Inv X pins σ' H' s'/\W n σ' H') ?_ m0 ⟨σ,H,I,w0⟩)
 rintro n s1 ⟨σ1,H1,I1,w1⟩
 refine wpAny_passesOwn hp (thn (hc pins s1 σ1 H1 _ I1 (turn n σ1 H1 w1)) λb s2 ⟨H2,I2,q2⟩=>?_)
 cases b with
 | true=>
  obtain ⟨N,hN,q2⟩:=q2
  rw [if_pos rfl]
  refine wpAny_passesOwn hp (thn (hb pins s2 σ1 H2 _ I2 q2) λf s3 q3=>?_)
  cases f with
  | next=>
   obtain ⟨σ3,H3,I3,n3⟩:=q3
   obtain ⟨m',hm,w3⟩:=hN σ3 H3 n3
   exact ⟨m',hm,σ3,H3,I3,w3⟩
  | cont=>
   obtain ⟨σ3,H3,I3,n3⟩:=q3
   obtain ⟨m',hm,w3⟩:=hN σ3 H3 n3
   exact ⟨m',hm,σ3,H3,I3,w3⟩
  | brk=>exact q3
  | ret v=>exact q3
 | false=>
  rw [if_neg Bool.false_ne_true]
  exact wpAny_execs_nil ⟨σ1,H2,I2,q2⟩
end
structure It where
 go:Nat->Hp->Prop
 yld:Nat->Hp->V->Hp->Prop
 stop:Nat->Hp->Prop
noncomputable def q5d (X:Cx) (pins:List (Addr×Obj)) (H:Hp) (b:Addr):Prop:=
 H b=none/\b≠X.env.locals/\b∉X.fs/\(b∈X.ex∨X.s₀.heap.objs.size<=b)/\(∀x c,X.env.cells.lookup x=some c->c≠b)/\∀p∈X.pn++pins,p.1≠b
theorem Inv.fpOk {X:Cx} {pins:List (Addr×Obj)} {σ:St} {H H':Hp} {s:Shared} {b:Addr} (I:Inv X pins σ H s) (hb:s.heap.objs.size<=b) (hn:H' b=none):q5d X pins H' b:=by
 refine ⟨hn,Nat.ne_of_gt (Nat.lt_of_lt_of_le I.lt hb),I.nofs hb,.inr (Nat.le_trans I.sz hb),λx c e z=>?_,λp hp z=>?_⟩
 ·obtain ⟨v,q⟩:=I.cell x c e
  exact absurd (Nat.lt_of_lt_of_le q.lt (by rw [z];exact hb)) (Nat.lt_irrefl _)
 ·exact absurd (Nat.lt_of_lt_of_le (Heap.lt_size (I.pin p hp).1) (by rw [z];exact hb)) (Nat.lt_irrefl _)
structure w0L (Cp:Cx->Prop) (P:Program) (w:World) (K:PySem.W.Frag) (tg:Expr) (J:It) (fp:List Addr) (it:Addr) (tn:Nat->Heap->Prop):Prop where
 mem:it∈fp
 obj:∀i h,tn i h->∀b∈fp,∃o,h.get? b=some o/\∀v,o.data≠.cell v
 keep:∀i h h',tn i h->(∀b∈fp,∀o,h.get? b=some o->h'.get? b=some o)->tn i h'
 item:∀(X:Cx),X.prog=P->X.w=w->X.K=K->Cp X->∀(i:Nat) (pins:List (Addr×Obj)) (s:Shared) (σ:St) (H:Hp) (E:Value->Shared->Prop),Inv X pins σ H s->(∀b∈fp,q5d X pins H b)->tn i s.heap->J.go i H ->
  wpAny (model P w) X.A (pyNext (.ref it)) (λr s1=>∃u,r=some u /\
   wpAny (model P w) X.A (letOwnedTupleGo tg (.ref it) u) (λ_ s2=>∃x H',Inv X pins σ H' s2/\RelV x u/\J.yld i H x H'/\tn (i+1) s2.heap/\∀b∈fp,H' b=none) E s1) E s
 done:∀(X:Cx),X.prog=P->X.w=w->X.K=K->Cp X->∀(i:Nat) (pins:List (Addr×Obj)) (s:Shared) (σ:St) (H:Hp) (E:Value->Shared->Prop),Inv X pins σ H s->(∀b∈fp,q5d X pins H b)->tn i s.heap->J.stop i H ->
  wpAny (model P w) X.A (pyNext (.ref it)) (λr s1=>r=none/\Inv X pins σ H s1) E s
 self:∀(A:Around) (i:Nat) (s:Shared) (Q:Value->Shared->Prop) (E:Value->Shared->Prop),tn i s.heap->Q (.ref it) s->wpAny (model P w) A (pyIter (.ref it)) Q E s
noncomputable abbrev Turn (P:Program) (w:World) (K:PySem.W.Frag) (tg:Expr) (J:It) (fp:List Addr) (it:Addr) (tn:Nat->Heap->Prop):Prop:=w0L (λX=>X.calm=true) P w K tg J fp it tn
noncomputable abbrev TI:=St->Hp->(It->Hp->Prop)->Prop
noncomputable def PIE (X:Cx) (pins:List (Addr×Obj)) (σ:St) (tg:Expr) (R:It->Hp->Prop) (itv:Value) (s2:Shared):Prop:=
 ∃(it:Addr) (fp:List Addr) (tn:Nat->Heap->Prop) (J:It) (H':Hp),itv=.ref it/\Inv X pins σ H' s2/\Turn X.prog X.w X.K tg J fp it tn/\tn 0 s2.heap/\(∀b∈fp,q5d X pins H' b)/\R J H'
noncomputable def PI (X:Cx) (tg iter:Expr) (wi:TI):Prop:=
 ∀(pins:List (Addr×Obj)) (s:Shared) (σ:St) (H:Hp) (R:It->Hp->Prop),Inv X pins σ H s->wi σ H R ->
  wpAny (model X.prog X.w) X.A (eval iter X.env) (λv s1=>wpAny (model X.prog X.w) X.A (pyIter v) (PIE X pins σ tg R) X.xe s1) X.xe s
theorem q9x {M:Model} {A:Around} {E:Value->Shared->Prop} {s:Shared} {tg:Expr} {it:Addr} {u:Value} {o:Obj} {n:String} {vs:Array Value} {Q:Unit->Shared->Prop} (ho:s.heap.get? it=some o) (hc:o.cls=.type n) (hd:o.data=.fields vs)
 (hn:["enumerate","zip","dict_itemiterator","dict_reverseitemiterator","odict_iterator","itertools.zip_longest","itertools.pairwise"].contains n=false) (hQ:Q () s):wpAny M A (letOwnedTupleGo tg (.ref it) u) Q E s:=by
 unfold letOwnedTupleGo
 cases tg<;>first
  | exact wpAny_pure hQ
  | (cases u<;>first
   | exact wpAny_pure hQ
   | (refine wpAny_bind (wpAny_load ho ?_)
      rw [hc,hd]
      show wpAny M A (if (["enumerate","zip","dict_itemiterator","dict_reverseitemiterator","odict_iterator","itertools.zip_longest","itertools.pairwise"].contains n && vs[0]?==some (rawInt _))=true then _ else _) Q E s
      rw [if_neg (by intro h;rw [hn,Bool.false_and] at h;cases h)]
      exact wpAny_pure hQ))
noncomputable def Itl (K:PySem.W.Frag) (a:Addr):It:=
 ⟨λi H=>∃xs x,SqL K H a xs/\xs[i]?=some x,λi H x H'=>H'=H/\∀xs,SqL K H a xs->xs[i]?=some x,λi H=>∃xs,SqL K H a xs/\xs.length<=i⟩
noncomputable def Itt (K:PySem.W.Frag) (a:Addr):It:=
 ⟨λi H=>∃xs x,SqT K H a xs/\xs[i]?=some x,λi H x H'=>H'=H/\∀xs,SqT K H a xs->xs[i]?=some x,λi H=>∃xs,SqT K H a xs/\xs.length<=i⟩
noncomputable def Itr (lo:Int) (n:Nat):It:=⟨λi _=>i < n,λi H x H'=>H'=H/\x=.int (lo+i),λi _=>n<=i⟩
theorem q8J {P:Program} {w:World} {K:PySem.W.Frag} {tg:Expr} (a it:Addr):Turn P w K tg (Itl K a) [it] it (λi h=>h.IsListIter it a i) where
 mem:=by simp
 obj:=λi h st b hb=>by
  have e:b=it:=by simpa using hb
  subst e
  obtain ⟨o,e,c,d⟩:=st
  exact ⟨o,e,λv z=>by rw [d] at z;cases z⟩
 keep:=λi h h' st k=>st.at λo e=>k it (by simp) o e
 item:=by
  intro X hP hw hK hc i pins s σ H E I hf st hg
  subst hP hw hK
  obtain ⟨xs,x,hq,hx⟩:=hg
  obtain ⟨its,rv,p,hz⟩:=I.list hq
  obtain ⟨u,hu,ru⟩:=rv.get hx
  obtain ⟨f0,f1,f2,f3,f4,f5⟩:=hf it (by simp)
  refine wpAny_pyNext_list_item st p.isList (x:=u) (by simpa using hu) λh' st' sb=>?_
  have I1:Inv X pins σ H { s with heap:=h' }:=I.turned (t':=s.toks) (λb o hb e=>(sb.2 b hb).trans e) f0 f1 f3 f4 f5
  obtain ⟨o,e,c,d⟩:=id st'
  exact ⟨u,rfl,q9x (s:={ s with heap:=h' }) e c d (by decide) ⟨x,H,I1,ru,⟨rfl,λys hy=>by rw [I.list_inj hy hq];exact hx⟩,st',λb hb=>(hf b hb).1⟩⟩
 done:=by
  intro X hP hw hK hc i pins s σ H E I hf st hg
  subst hP hw hK
  obtain ⟨xs,hq,hx⟩:=hg
  obtain ⟨its,rv,p,hz⟩:=I.list hq
  obtain ⟨f0,f1,f2,f3,f4,f5⟩:=hf it (by simp)
  have hl:=rv.length
  exact wpAny_pyNext_list_end (I.ok.hd hc) st p.isList (by simp;omega) λh' eb=>⟨rfl,I.turned (t':=s.toks) (λb o hb e=>eb b o hb e) f0 f1 f3 f4 f5⟩
 self:=λ_ _ _ _ _ st h=>wpAny_pyIter_listiter st h
theorem q76 {P:Program} {w:World} {K:PySem.W.Frag} {tg:Expr} (a it:Addr):Turn P w K tg (Itt K a) [it] it (λi h=>h.IsTupleIter it a i) where
 mem:=by simp
 obj:=λi h st b hb=>by
  have e:b=it:=by simpa using hb
  subst e
  obtain ⟨o,e,c,d⟩:=st
  exact ⟨o,e,λv z=>by rw [d] at z;cases z⟩
 keep:=λi h h' st k=>st.at λo e=>k it (by simp) o e
 item:=by
  intro X hP hw hK hc i pins s σ H E I hf st hg
  subst hP hw hK
  obtain ⟨xs,x,hq,hx⟩:=hg
  obtain ⟨its,rv,p,hz⟩:=I.tuple hq
  obtain ⟨u,hu,ru⟩:=rv.get hx
  obtain ⟨f0,f1,f2,f3,f4,f5⟩:=hf it (by simp)
  refine wpAny_pyNext_tuple_item st (show s.heap.IsTuple a its.toArray from p) (x:=u) (by simpa using hu) λh' st' sb=>?_
  have I1:Inv X pins σ H { s with heap:=h' }:=I.turned (t':=s.toks) (λb o hb e=>(sb.2 b hb).trans e) f0 f1 f3 f4 f5
  obtain ⟨o,e,c,d⟩:=id st'
  exact ⟨u,rfl,q9x (s:={ s with heap:=h' }) e c d (by decide) ⟨x,H,I1,ru,⟨rfl,λys hy=>by rw [I.tuple_inj hy hq];exact hx⟩,st',λb hb=>(hf b hb).1⟩⟩
 done:=by
  intro X hP hw hK hc i pins s σ H E I hf st hg
  subst hP hw hK
  obtain ⟨xs,hq,hx⟩:=hg
  obtain ⟨its,rv,p,hz⟩:=I.tuple hq
  obtain ⟨f0,f1,f2,f3,f4,f5⟩:=hf it (by simp)
  have hl:=rv.length
  exact wpAny_pyNext_tuple_end (I.ok.hd hc) st (show s.heap.IsTuple a its.toArray from p) (by simp;omega) λh' eb=>⟨rfl,I.turned (t':=s.toks) (λb o hb e=>eb b o hb e) f0 f1 f3 f4 f5⟩
 self:=λ_ _ _ _ _ st h=>wpAny_pyIter_tupleiter st h
theorem q7E {P:Program} {w:World} {K:PySem.W.Frag} {tg:Expr} (it:Addr) (lo:Int) (n:Nat):Turn P w K tg (Itr lo n) [it] it (λi h=>IsRangeIter h it (lo+(i:Nat)*1) ((n:Int)-(i:Nat)) 1) where
 mem:=by simp
 obj:=λi h st b hb=>by
  have e:b=it:=by simpa using hb
  subst e
  exact ⟨_,st,λv z=>by
   have z':Data.fields _=Data.cell v:=z
   cases z'⟩
 keep:=λi h h' st k=>k it (by simp) _ st
 item:=by
  intro X hP hw hK hc i pins s σ H E I hf st hg
  subst hP hw hK
  obtain ⟨f0,f1,f2,f3,f4,f5⟩:=hf it (by simp)
  have W:=Walks.range (prog:=X.prog) (w:=X.w) (I.ok.hd hc) it lo 1 n
  refine W.item i s _ _ hg st λv h' tk hv st' kk=>?_
  obtain ⟨t,rfl⟩:=hv
  have I1:Inv X pins σ H { s with heap:=h',toks:=tk }:=I.turned (λb o hb e=>kk b o (by simpa using hb) e) f0 f1 f3 f4 f5
  refine ⟨_,rfl,q9x (s:={ s with heap:=h',toks:=tk }) (n:="range_iterator") st' rfl rfl (by decide) ⟨.int (lo+i),H,I1,⟨t,?_⟩,⟨rfl,rfl⟩,st',λb hb=>(hf b hb).1⟩⟩
  rw [Int.mul_one]
 done:=by
  intro X hP hw hK hc i pins s σ H E I hf st hg
  subst hP hw hK
  obtain ⟨f0,f1,f2,f3,f4,f5⟩:=hf it (by simp)
  exact wpAny_pyNext_range_end (I.ok.hd hc) st (by have:n<=i:=hg;omega) λh' eb=>⟨rfl,I.turned (t':=s.toks) (λb o hb e=>eb b o hb e) f0 f1 f3 f4 f5⟩
 self:=λ_ _ _ _ _ st h=>wpAny_pyIter_rangeiter st h
section
variable {X:Cx} {tg:Expr}
noncomputable def w1k (K:PySem.W.Frag) (tl:TE):TI:=fun σ H R=>tl σ H λx H1=>∃a,x=.ref a/\(∃xs,SqL K H1 a xs)/\R (Itl K a) H1
noncomputable def w2P (K:PySem.W.Frag) (tl:TE):TI:=fun σ H R=>tl σ H λx H1=>∃a,x=.ref a/\(∃xs,SqT K H1 a xs)/\R (Itt K a) H1
theorem j59 {l:Expr} {tl:TE} (hl:PE X l tl):PI X tg l (w1k X.K tl):=by
 intro pins s σ H R I h
 refine thn (hl pins s σ H _ I h) λv s1 ⟨x,H1,I1,r1,q1⟩=>?_
 obtain ⟨a,e,⟨xs,hq⟩,q⟩:=q1
 subst e
 cases r1
 obtain ⟨its,rv,p,hz⟩:=I1.list hq
 refine wpAny_pyIter_list p.isList ?_
 refine ⟨s1.heap.objs.size,[s1.heap.objs.size],_,_,H1,rfl,I1.kept (t':=s1.toks) λb o e=>Heap.get?_push_of_some _ e,q8J a _,⟨_,Heap.get?_push_size _ rfl,rfl,rfl⟩,λb hb=>?_,q⟩
 have e:b=s1.heap.objs.size:=by simpa using hb
 subst e
 exact I1.fpOk (Nat.le_refl _) (I1.hok.fresh (Nat.le_refl _))
theorem j7t {l:Expr} {tl:TE} (hl:PE X l tl):PI X tg l (w2P X.K tl):=by
 intro pins s σ H R I h
 refine thn (hl pins s σ H _ I h) λv s1 ⟨x,H1,I1,r1,q1⟩=>?_
 obtain ⟨a,e,⟨xs,hq⟩,q⟩:=q1
 subst e
 cases r1
 obtain ⟨its,rv,p,hz⟩:=I1.tuple hq
 refine wpAny_pyIter_tuple (show s1.heap.IsTuple a its.toArray from p) ?_
 refine ⟨s1.heap.objs.size,[s1.heap.objs.size],_,_,H1,rfl,I1.kept (t':=s1.toks) λb o e=>Heap.get?_push_of_some _ e,q76 a _,⟨_,Heap.get?_push_size _ rfl,rfl,rfl⟩,λb hb=>?_,q⟩
 have e:b=s1.heap.objs.size:=by simpa using hb
 subst e
 exact I1.fpOk (Nat.le_refl _) (I1.hok.fresh (Nat.le_refl _))
theorem q7a {pins:List (Addr×Obj)} {σ:St} {H:Hp} {s:Shared} {R:It->Hp->Prop} {E:Value->Shared->Prop} {lo hi:Int} {t u v:Tok} {tk:Nat} (I:Inv X pins σ H s) (h1:-(2 ^ 62)<=lo) (h2:lo < 2 ^ 62) (h3:-(2 ^ 62)<=hi) (h4:hi < 2 ^ 62)
 (q:R (Itr lo (hi-lo).toNat) H):wpAny (model X.prog X.w) X.A (pyIter (.ref s.heap.objs.size)) (PIE X pins σ tg R) E { s with heap:=s.heap.push { cls:=.type "range",data:=.fields #[.int lo t,.int hi u,.int 1 v] },toks:=tk }:=by
 refine wpAny_pyIter_range (IsRange.new ..) (small_one h1 h2 h3 h4) ?_
 have I1:Inv X pins σ H { s with heap:=s.heap.push { cls:=.type "range",data:=.fields #[.int lo t,.int hi u,.int 1 v] },toks:=tk }:=I.kept λb o e=>Heap.get?_push_of_some _ e
 refine ⟨(s.heap.push { cls:=.type "range",data:=.fields #[.int lo t,.int hi u,.int 1 v] }).objs.size,[(s.heap.push { cls:=.type "range",data:=.fields #[.int lo t,.int hi u,.int 1 v] }).objs.size],_,_,H,rfl,
  I1.kept (t':=tk) λb o e=>Heap.get?_push_of_some _ e,q7E _ lo (hi-lo).toNat,?_,λb hb=>?_,q⟩
 ·have e1:lo+((0:Nat):Int)*1=lo:=by simp
  have e2:(((hi-lo).toNat:Nat):Int)-((0:Nat):Int)=Builtin.Range.rangeSize lo hi 1:=by rw [rangeSize_one];split<;>omega
  show IsRangeIter _ _ (lo+((0:Nat):Int)*1) ((((hi-lo).toNat:Nat):Int)-((0:Nat):Int)) 1
  rw [e1,e2]
  exact Heap.get?_push_size _ rfl
 ·have e:b=(s.heap.push { cls:=.type "range",data:=.fields #[.int lo t,.int hi u,.int 1 v] }).objs.size:=by simpa using hb
  subst e
  exact I1.fpOk (Nat.le_refl _) (I1.hok.fresh (Nat.le_refl _))
noncomputable def w1i (ta:TA):TI:=fun σ H R=>ta σ H λvs H1=>∃j:Int,vs=[.int j]/\-(2 ^ 62)<=j/\j < 2 ^ 62/\R (Itr 0 j.toNat) H1
noncomputable def w0v (ta:TA):TI:=fun σ H R=>ta σ H λvs H1=>∃i j:Int,vs=[.int i,.int j]/\(-(2 ^ 62)<=i/\i < 2 ^ 62/\-(2 ^ 62)<=j/\j < 2 ^ 62)/\R (Itr i (j-i).toNat) H1
theorem q8z {a:Expr} {ta:TA} {p pos:Pos} (hg:Gl X "range") (hm:X.mg "range" = none) (ha:PA X [a] ta) (hs:starEach [a] X.env=[(false,eval a X.env)]:=by rfl):PI X tg (.Call (.Name "range" p) [a] [] pos) (w1i ta):=by
 intro pins s σ H R I h
 refine Call_ (q2E I hg hm boot_range (PyProof.Rows.callWith_type1 (thn (ha pos pins s σ H _ I h) λus s1 ⟨vs,H1,I1,r1,q1⟩=>?_) hs rfl))
 obtain ⟨j,e,q1,q2,q⟩:=q1
 subst e
 cases r1 with
 | cons r rr=>
  cases rr
  obtain ⟨t,rfl⟩:=r
  exact call_range_1 (q7a I1 (by omega) (by omega) q1 q2 (by simpa using q))
theorem j0a {a b:Expr} {ta:TA} {p pos:Pos} (hg:Gl X "range") (hm:X.mg "range" = none) (ha:PA X [a,b] ta) (hs:starEach [a,b] X.env=[(false,eval a X.env),(false,eval b X.env)]:=by rfl) (hs2:starEach [b] X.env=[(false,eval b X.env)]:=by rfl) :
 PI X tg (.Call (.Name "range" p) [a,b] [] pos) (w0v ta):=by
 intro pins s σ H R I h
 refine Call_ (q2E I hg hm boot_range (PyProof.Rows.callWith_type1 (thn (ha pos pins s σ H _ I h) λus s1 ⟨vs,H1,I1,r1,q1⟩=>?_) (by rw [hs,hs2]) (by rw [hs2];rfl)))
 obtain ⟨i,j,e,⟨q1,q2,q3,q4⟩,q⟩:=q1
 subst e
 cases r1 with
 | cons r rr=>
  cases rr with
  | cons r' rr=>
   cases rr
   obtain ⟨t,rfl⟩:=r
   obtain ⟨t',rfl⟩:=r'
   exact call_range_2 (q7a I1 q1 q2 q3 q4 q)
noncomputable def w27 (wi:TI) (g:TG) (tb:TS):TS:=λD σ H=>wi σ H λJ H1=>∃W:Nat->Nat->St->Hp->Prop,(∃m,W 0 m σ H1)/\∀i m σ H,W i m σ H ->
 (J.stop i H/\D.nx σ H)∨(J.go i H/\∃N:St->Hp->Prop,(∀σ' H',N σ' H'->∃m',m' < m/\W (i+1) m' σ' H')/\∀x H',J.yld i H x H'->g x σ H' fun σ2 H2=>tb { D with nx:=N,ct:=N,bk:=D.nx } σ2 H2)
noncomputable def q6S (fp:List Addr) (h:Heap):List (Addr×Obj):=fp.filterMap λb=>(h.get? b).map λo=>(b,o)
theorem q1J {fp:List Addr} {h:Heap} {b:Addr} {o:Obj} (hb:b∈fp) (e:h.get? b=some o):(b,o)∈q6S fp h:=List.mem_filterMap.mpr ⟨b,hb,by rw [e];rfl⟩
theorem q9q {fp:List Addr} {h:Heap} {p:Addr×Obj} (hp:p∈q6S fp h):p.1∈fp/\h.get? p.1=some p.2:=by
 obtain ⟨b,hb,e⟩:=List.mem_filterMap.mp hp
 cases q:h.get? b with
 | none=>rw [q] at e;cases e
 | some o=>
  rw [q] at e
  have e':(b,o)=p:=Option.some.inj e
  subst e'
  exact ⟨hb,q⟩
theorem Inv.pinned {pins:List (Addr×Obj)} {σ:St} {H:Hp} {s:Shared} {fp:List Addr} (I:Inv X pins σ H s) (hf:∀b∈fp,q5d X pins H b) (ho:∀b∈fp,∃o,s.heap.get? b=some o/\∀v,o.data≠.cell v):Inv X (pins++q6S fp s.heap) σ H s:=
 I.pins_of λp hp=>(List.mem_append.mp hp).elim (λz=>I.pin p (List.mem_append_right _ z)) λz=>by
  obtain ⟨hb,e⟩:=q9q z
  obtain ⟨f0,f1,f2,_⟩:=hf p.1 hb
  obtain ⟨o,e',d⟩:=ho p.1 hb
  rw [e] at e';cases e'
  exact ⟨e,f0,f1,f2,d⟩
theorem Inv.unpinned {pins pl:List (Addr×Obj)} {σ:St} {H:Hp} {s:Shared} (I:Inv X (pins++pl) σ H s):Inv X pins σ H s:=I.pins_of λp hp=>I.pin p (List.mem_append_right _ (List.mem_append_left _ hp))
theorem j8C {iter:Expr} {body:List Stmt} {wi:TI} {g:TG} {tb:TS} {pos:Pos} (hp:PassesOwn (model X.prog X.w) X.A X.env X.xe) (hc:X.calm=true) (hi:PI X tg iter wi) (hg:PG X tg g) (hb:PSs X body tb)
 (hs:∀x,foldedSetIterable iter X.env x=pure x:=by intro _;rfl):PS X (.For tg iter body [] pos) (w27 wi g tb):=by
 intro pins s σ H D I h
 refine wpAny_For (thn (hi pins s σ H _ I h) λv s1 h1=>thn h1 λitv s2 h2=>?_) hs
 obtain ⟨it,fp,tn,J,H2,e,I2,T,st2,f2,W,⟨m0,w0⟩,turn⟩:=h2
 subst e
 have stat:∀{H':Hp},(∀b∈fp,H' b=none)->∀b∈fp,q5d X pins H' b:=λhn b hb=>⟨hn b hb,(f2 b hb).2⟩
 refine codeAny_forLoop_any (λn s'=>∃i σ' H',Inv X pins σ' H' s'/\tn i s'.heap/\(∀b∈fp,H' b=none)/\W i n σ' H') ?_ m0 ⟨0,σ,H2,I2,st2,λb hb=>(f2 b hb).1,w0⟩
 rintro n s3 ⟨i,σ3,H3,I3,st3,fr3,w3⟩
 rcases turn i n σ3 H3 w3 with ⟨stop,qn⟩ | ⟨go,N,hN,step⟩
 ·refine wpAny_passesOwn hp (thn (T.done X rfl rfl rfl hc i pins s3 σ3 H3 X.xe I3 (stat fr3) st3 stop) λr s4 ⟨hr,I4⟩=>?_)
  subst hr
  exact wpAny_execs_nil ⟨σ3,H3,I4,qn⟩
 ·refine wpAny_passesOwn hp (thn (T.item X rfl rfl rfl hc i pins s3 σ3 H3 X.xe I3 (stat fr3) st3 go) λr s4 ⟨u,hr,h4⟩=>?_)
  subst hr
  refine wpAny_passesOwn hp (thn h4 λ_ s5 ⟨x,H5,I5,r5,y5,st5,fr5⟩=>?_)
  have I5':=I5.pinned (stat fr5) (T.obj _ _ st5)
  refine wpAny_passesOwn hp (thn (hg _ s5 σ3 H5 x u _ I5' r5 (step x H5 y5)) λ_ s6 ⟨σ6,H6,I6,q6⟩=>?_)
  refine wpAny_passesOwn hp (thn (hb _ s6 σ6 H6 _ I6 q6) λf s7 q7=>?_)
  have again:∀{σ7:St} {H7:Hp},Inv X (pins++q6S fp s5.heap) σ7 H7 s7->N σ7 H7->∃m,m < n/\∃i σ' H',Inv X pins σ' H' s7/\tn i s7.heap/\(∀b∈fp,H' b=none)/\W i m σ' H':=λ{σ7 H7} I7 n7=>by
   obtain ⟨m',hm,w7⟩:=hN σ7 H7 n7
   refine ⟨m',hm,i+1,σ7,H7,I7.unpinned,T.keep _ _ _ st5 λb hb o e=>(I7.pin (b,o) (List.mem_append_right _ (List.mem_append_right _ (q1J hb e)))).1,λb hb=>?_,w7⟩
   obtain ⟨o,e,d⟩:=T.obj _ _ st5 b hb
   exact (I7.pin (b,o) (List.mem_append_right _ (List.mem_append_right _ (q1J hb e)))).2.1
  cases f with
  | next=>obtain ⟨σ7,H7,I7,n7⟩:=q7;exact again I7 n7
  | cont=>obtain ⟨σ7,H7,I7,n7⟩:=q7;exact again I7 n7
  | brk=>obtain ⟨σ7,H7,I7,q7⟩:=q7;exact ⟨σ7,H7,I7.unpinned,q7⟩
  | ret v=>obtain ⟨x7,σ7,H7,I7,r7,q7⟩:=q7;exact ⟨x7,σ7,H7,I7.unpinned,r7,q7⟩
end
noncomputable abbrev R2:=V->V->Hp->VK->Prop
noncomputable def OpR (X:Cx) (f:Value->Value->Sem Value) (r:R2):Prop:=
 ∀(pins:List (Addr×Obj)) (s:Shared) (σ:St) (H:Hp) (x y:V) (v u:Value) (Q:VK),Inv X pins σ H s->RelV x v->RelV y u->r x y H Q ->
  wpAny (model X.prog X.w) X.A (f v u) (EP X pins σ Q) X.xe s
noncomputable def q2n (X:Cx) (f:Value) (r:List V->Hp->VK->Prop):Prop:=
 ∀(pins:List (Addr×Obj)) (s:Shared) (σ:St) (H:Hp) (xs:List V) (us:List Value) (Q:VK),Inv X pins σ H s->Vals xs us->r xs H Q ->
  wpAny (model X.prog X.w) X.A (call f us) (EP X pins σ Q) X.xe s
noncomputable def w2R (X:Cx) (r:V->Hp->(Bool->Hp->Prop)->Prop):Prop:=
 ∀(pins:List (Addr×Obj)) (s:Shared) (σ:St) (H:Hp) (x:V) (v:Value) (Q:Bool->Hp->Prop),Inv X pins σ H s->RelV x v->r x H Q ->
  wpAny (model X.prog X.w) X.A (truthy v) (TP X pins σ Q) X.xe s
noncomputable def tOp (r:R2) (ta tb:TE):TE:=fun σ H Q=>ta σ H λx H1=>tb σ H1 λy H2=>r x y H2 Q
noncomputable def rI (C:Int->Int->Prop) (g:Int->Int->V):R2:=λx y H Q=>∃i j,x=.int i/\y=.int j/\C i j/\Q (g i j) H
noncomputable def rI0 (g:Int->Int->V):R2:=λx y H Q=>∃i j,x=.int i/\y=.int j/\Q (g i j) H
section
variable {X:Cx} {a b c:Expr} {ta tb tc:TE} {pos:Pos}
theorem w0N (ha:PE X a ta) (hb:PE X b tb) {pins:List (Addr×Obj)} {s:Shared} {σ:St} {H:Hp} {R:V->V->Hp->Prop} (I:Inv X pins σ H s)
 (h:ta σ H λx H1=>tb σ H1 λy H2=>R x y H2) {Q:Value->Shared->Prop} {f:Value->Value->Sem Value}
 (hf:∀v u s2 x y H2,Inv X pins σ H2 s2->RelV x v->RelV y u->R x y H2->wpAny (model X.prog X.w) X.A (f v u) Q X.xe s2) :
 wpAny (model X.prog X.w) X.A (eval a X.env) (λv s₁=>wpAny (model X.prog X.w) X.A (eval b X.env) (λu s₂=>wpAny (model X.prog X.w) X.A (f v u) Q X.xe s₂) X.xe s₁) X.xe s:=by
 refine thn (ha pins s σ H _ I h) λv s1 ⟨x,H1,I1,r1,q1⟩=>?_
 refine thn (hb pins s1 σ H1 _ I1 q1) λu s2 ⟨y,H2,I2,r2,q2⟩=>?_
 exact hf v u s2 x y H2 I2 r1 r2 q2
theorem j7q {op:Operator} {r:R2} (ho:OpR X (binaryOp op) r) (ha:PE X a ta) (hb:PE X b tb):PE X (.BinOp a op b pos) (tOp r ta tb):=by
 intro pins s σ H Q I h
 exact wpAny_BinOp (w0N ha hb I h λv u s2 x y H2 I2 rx ry q=>ho pins s2 σ H2 x y v u Q I2 rx ry q)
theorem opI {f:Value->Value->Sem Value} {C:Int->Int->Prop} {g:Int->Int->Int}
 (rule:∀(i j:Int) (t u:Tok) (s:Shared) (Q:Value->Shared->Prop) (E:Value->Shared->Prop),C i j->Q (.int (g i j) s.toks) { s with toks:=s.toks+1 }->wpAny (model X.prog X.w) X.A (f (.int i t) (.int j u)) Q E s) :
 OpR X f (rI C λi j=>.int (g i j)):=by
 intro pins s σ H x y v u Q I rx ry h
 obtain ⟨i,j,rfl,rfl,hc,q⟩:=h
 obtain ⟨t,rfl⟩:=rx
 obtain ⟨t',rfl⟩:=ry
 exact rule i j t t' s _ _ hc ⟨.int (g i j),H,I.tok _,⟨_,rfl⟩,q⟩
theorem w2y {f:Value->Value->Sem Value} {g:Int->Int->Int}
 (rule:∀(i j:Int) (t u:Tok) (s:Shared) (Q:Value->Shared->Prop) (E:Value->Shared->Prop),Q (.int (g i j) s.toks) { s with toks:=s.toks+1 }->wpAny (model X.prog X.w) X.A (f (.int i t) (.int j u)) Q E s) :
 OpR X f (rI0 λi j=>.int (g i j)):=by
 intro pins s σ H x y v u Q I rx ry h
 obtain ⟨i,j,rfl,rfl,q⟩:=h
 obtain ⟨t,rfl⟩:=rx
 obtain ⟨t',rfl⟩:=ry
 exact rule i j t t' s _ _ ⟨.int (g i j),H,I.tok _,⟨_,rfl⟩,q⟩
theorem w04 {f:Value->Value->Sem Value} {g:Int->Int->Bool}
 (rule:∀(i j:Int) (t u:Tok) (s:Shared) (Q:Value->Shared->Prop) (E:Value->Shared->Prop),Q (.bool (g i j)) s->wpAny (model X.prog X.w) X.A (f (.int i t) (.int j u)) Q E s) :
 OpR X f (rI0 λi j=>.bl (g i j)):=by
 intro pins s σ H x y v u Q I rx ry h
 obtain ⟨i,j,rfl,rfl,q⟩:=h
 obtain ⟨t,rfl⟩:=rx
 obtain ⟨t',rfl⟩:=ry
 exact rule i j t t' s _ _ ⟨.bl (g i j),H,I,rfl,q⟩
noncomputable def w3D (i j:Int):Prop:=0 < j/\j < 1073741824
noncomputable def w3d (i j:Int):Prop:=0<=j/\j<=1000000/\i.natAbs < 2 ^ 64
noncomputable def CMul (i j:Int):Prop:=(-(2 ^ 64) < i/\i < 2 ^ 64)∨(-(2 ^ 64) < j/\j < 2 ^ 64)
theorem CMul.ok {i j:Int} (h:CMul i j):IntMulOk i j:=by
 rcases h with ⟨h1,h2⟩ | ⟨h1,h2⟩
 ·exact .of_left (intBits_le_64 h1 h2)
 ·exact .of_right (intBits_le_64 h1 h2)
theorem j9a:OpR X (binaryOp .Add) (rI0 λi j=>.int (i+j)):=w2y λ_ _ _ _ _ _ _ q=>add_int q
theorem j7U:OpR X (binaryOp .Sub) (rI0 λi j=>.int (i-j)):=w2y λ_ _ _ _ _ _ _ q=>sub_int q
theorem j7h:OpR X (binaryOp .Mult) (rI CMul λi j=>.int (i*j)):=opI λ_ _ _ _ _ _ _ hc q=>mul_int q hc.ok
theorem j5W:OpR X (binaryOp .FloorDiv) (rI w3D λi j=>.int (i / j)):=opI λi j _ _ _ _ _ hc q=>by
 have h1:(0:Int) < j:=hc.1
 have h2:j < 1073741824:=hc.2
 exact floordiv_int (by omega) (by rw [Int.fdiv_eq_ediv_of_nonneg i (by omega)];exact q) (.inl (PyProof.noPylong_small (by omega)))
theorem j8x:OpR X (binaryOp .Mod) (rI (λ_ j=>0 < j) λi j=>.int (i % j)):=opI λi j _ _ _ _ _ hc q=>by
 have h1:(0:Int) < j:=hc
 exact mod_int' (by omega) (by rw [Int.fmod_eq_emod_of_nonneg i (by omega)];exact q)
theorem j6Y:OpR X (binaryOp .Pow) (rI w3d λi j=>.int (i ^ j.toNat)):=opI λ_ _ _ _ _ _ _ hc q=>pow_int_small hc.1 hc.2.1 hc.2.2 q
end
noncomputable def scal:V->V->Bool
 | .non,.non=>true | .non,.int _=>true | .int _,.non=>true | .non,.bl _=>true | .bl _,.non=>true | .non,.str _=>true | .str _,.non=>true
 | .int _,.int _=>true | .bl _,.bl _=>true | .str _,.str _=>true | .byt _,.byt _=>true
 | .int _,.str _=>true | .str _,.int _=>true | .bl _,.str _=>true | .str _,.bl _=>true
 | _,_=>false
noncomputable def rEq:R2:=λx y H Q=>scal x y=true/\Q (.bl (decide (x=y))) H
noncomputable def rNe:R2:=λx y H Q=>scal x y=true/\Q (.bl (!decide (x=y))) H
theorem q97 {i j:Int}:decide (V.int i=V.int j)=(i==j):=by
 rw [Bool.eq_iff_iff]
 simp
theorem j34 {i j:Bool}:decide (V.bl i=V.bl j)=(i==j):=by
 rw [Bool.eq_iff_iff]
 simp
theorem q8U {i j:Str}:decide (V.str i=V.str j)=(i==j):=by
 rw [Bool.eq_iff_iff]
 simp
theorem q93 {i j:Array UInt8}:decide (V.byt i=V.byt j)=(i.toList==j.toList):=by
 rw [Bool.eq_iff_iff]
 cases i
 cases j
 simp
section
variable {X:Cx} {a b c:Expr} {ta tb tc:TE} {pos:Pos}
theorem q0R {pins:List (Addr×Obj)} {σ:St} {H:Hp} {s:Shared} {Q:VK} {k k':Bool} (I:Inv X pins σ H s) (q:Q (.bl k) H) (e:k=k'):EP X pins σ Q (.bool k') s:=by
 subst e
 exact ⟨.bl k,H,I,rfl,q⟩
theorem w1z:OpR X (compareOp .Eq) rEq:=by
 intro pins s σ H x y v u Q I rx ry h
 obtain ⟨hs,q⟩:=h
 cases x with
 | non=>
  cases rx
  cases y with
  | non=>cases ry;exact PySem.EqNone.eq_none_none (q0R I q (by simp))
  | bl j=>cases ry;exact PySem.EqNone.eq_none_bool (q0R I q (by simp))
  | int j=>obtain ⟨t',rfl⟩:=ry;exact PySem.EqNone.eq_none_int (q0R I q (by simp))
  | str j=>obtain ⟨t',rfl⟩:=ry;exact PySem.EqNone.eq_none_str (q0R I q (by simp))
  | _=>exact absurd (show false=true from hs) Bool.false_ne_true
 | bl i=>
  cases rx
  cases y with
  | non=>cases ry;exact PySem.EqNone.eq_bool_none (q0R I q (by simp))
  | bl j=>cases ry;exact eq_bool (q0R I q j34)
  | str j=>obtain ⟨t',rfl⟩:=ry;exact PySem.EqMixed.eq_bool_str (q0R I q (by simp))
  | _=>exact absurd (show false=true from hs) Bool.false_ne_true
 | int i=>
  obtain ⟨t,rfl⟩:=rx
  cases y with
  | non=>cases ry;exact PySem.EqNone.eq_int_none (q0R I q (by simp))
  | int j=>obtain ⟨t',rfl⟩:=ry;exact eq_int (q0R I q q97)
  | str j=>obtain ⟨t',rfl⟩:=ry;exact PySem.EqMixed.eq_int_str (q0R I q (by simp))
  | _=>exact absurd (show false=true from hs) Bool.false_ne_true
 | str i=>
  obtain ⟨t,rfl⟩:=rx
  cases y with
  | non=>cases ry;exact PySem.EqNone.eq_str_none (q0R I q (by simp))
  | bl j=>cases ry;exact PySem.EqMixed.eq_str_bool (q0R I q (by simp))
  | int j=>obtain ⟨t',rfl⟩:=ry;exact PySem.EqMixed.eq_str_int (q0R I q (by simp))
  | str j=>obtain ⟨t',rfl⟩:=ry;exact eq_str (q0R I q q8U)
  | _=>exact absurd (show false=true from hs) Bool.false_ne_true
 | byt i=>
  obtain ⟨t,rfl⟩:=rx
  cases y with
  | byt j=>obtain ⟨t',rfl⟩:=ry;exact PySem.W.eq_bytes (q0R I q q93)
  | _=>exact absurd (show false=true from hs) Bool.false_ne_true
 | _=>cases y<;>exact absurd (show false=true from hs) Bool.false_ne_true
theorem w05:OpR X (compareOp .NotEq) rNe:=by
 intro pins s σ H x y v u Q I rx ry h
 obtain ⟨hs,q⟩:=h
 cases x with
 | non=>
  cases rx
  cases y with
  | non=>cases ry;exact PySem.EqNone.ne_none_none (q0R I q (by simp))
  | bl j=>cases ry;exact PySem.EqNone.ne_none_bool (q0R I q (by simp))
  | int j=>obtain ⟨t',rfl⟩:=ry;exact PySem.EqNone.ne_none_int (q0R I q (by simp))
  | str j=>obtain ⟨t',rfl⟩:=ry;exact PySem.EqNone.ne_none_str (q0R I q (by simp))
  | _=>exact absurd (show false=true from hs) Bool.false_ne_true
 | bl i=>
  cases rx
  cases y with
  | non=>cases ry;exact PySem.EqNone.ne_bool_none (q0R I q (by simp))
  | bl j=>cases ry;exact ne_bool (q0R I q (congrArg not j34))
  | str j=>obtain ⟨t',rfl⟩:=ry;exact PySem.EqMixed.ne_bool_str (q0R I q (by simp))
  | _=>exact absurd (show false=true from hs) Bool.false_ne_true
 | int i=>
  obtain ⟨t,rfl⟩:=rx
  cases y with
  | non=>cases ry;exact PySem.EqNone.ne_int_none (q0R I q (by simp))
  | int j=>obtain ⟨t',rfl⟩:=ry;exact ne_int (q0R I q (congrArg not q97))
  | str j=>obtain ⟨t',rfl⟩:=ry;exact PySem.EqMixed.ne_int_str (q0R I q (by simp))
  | _=>exact absurd (show false=true from hs) Bool.false_ne_true
 | str i=>
  obtain ⟨t,rfl⟩:=rx
  cases y with
  | non=>cases ry;exact PySem.EqNone.ne_str_none (q0R I q (by simp))
  | bl j=>cases ry;exact PySem.EqMixed.ne_str_bool (q0R I q (by simp))
  | int j=>obtain ⟨t',rfl⟩:=ry;exact PySem.EqMixed.ne_str_int (q0R I q (by simp))
  | str j=>obtain ⟨t',rfl⟩:=ry;exact ne_str (q0R I q (congrArg not q8U))
  | _=>exact absurd (show false=true from hs) Bool.false_ne_true
 | byt i=>
  obtain ⟨t,rfl⟩:=rx
  cases y with
  | byt j=>obtain ⟨t',rfl⟩:=ry;exact PySem.W.ne_bytes (q0R I q (congrArg not q93))
  | _=>exact absurd (show false=true from hs) Bool.false_ne_true
 | _=>cases y<;>exact absurd (show false=true from hs) Bool.false_ne_true
theorem w0V:OpR X (compareOp .Lt) (rI0 λi j=>.bl (decide (i < j))):=w04 λ_ _ _ _ _ _ _ q=>lt_int q
theorem w0n:OpR X (compareOp .LtE) (rI0 λi j=>.bl (decide (i<=j))):=w04 λ_ _ _ _ _ _ _ q=>le_int q
theorem w0J:OpR X (compareOp .Gt) (rI0 λi j=>.bl (decide (j < i))):=w04 λ_ _ _ _ _ _ _ q=>gt_int q
theorem q8M:OpR X (compareOp .In) (λx y H Q=>∃i j,x=.str i/\y=.str j/\Q (.bl (!(Builtin.Str.occurrences j i 0 j.length 1).isEmpty)) H):=by
 intro pins s σ H x y v u Q I rx ry h
 obtain ⟨i,j,rfl,rfl,q⟩:=h
 obtain ⟨t,rfl⟩:=rx
 obtain ⟨t',rfl⟩:=ry
 exact in_str (q0R I q rfl)
theorem q5p:OpR X (compareOp .NotIn) (λx y H Q=>∃i j,x=.str i/\y=.str j/\Q (.bl (!(!(Builtin.Str.occurrences j i 0 j.length 1).isEmpty))) H):=by
 intro pins s σ H x y v u Q I rx ry h
 obtain ⟨i,j,rfl,rfl,q⟩:=h
 obtain ⟨t,rfl⟩:=rx
 obtain ⟨t',rfl⟩:=ry
 exact notIn_str (q0R I q rfl)
theorem OpR.or {f:Value->Value->Sem Value} {r r':R2} (h:OpR X f r) (h':OpR X f r'):OpR X f (λx y H Q=>r x y H Q∨r' x y H Q):=by
 intro pins s σ H x y v u Q I rx ry q
 rcases q with q | q
 ·exact h pins s σ H x y v u Q I rx ry q
 ·exact h' pins s σ H x y v u Q I rx ry q
theorem nomark (b:Expr) {op:CmpOp} (h:op≠.In:=by decide) (h2:op≠.NotIn:=by decide):behindInMarks op b=false:=by
 have e1:(op==CmpOp.In)=false:=by cases op<;>first | rfl | exact absurd rfl h
 have e2:(op==CmpOp.NotIn)=false:=by cases op<;>first | rfl | exact absurd rfl h2
 cases b<;>simp [behindInMarks,e1,e2]
theorem j5j {op:CmpOp} {r:R2} (ho:OpR X (compareOp op) r) (ha:PE X a ta) (hb:PE X b tb) (hm:behindInMarks op b=false):PE X (.Compare a [op] [b] pos) (tOp r ta tb):=by
 intro pins s σ H Q I h
 exact wpAny_Compare1 (w0N ha hb I h λv u s2 x y H2 I2 rx ry q=>ho pins s2 σ H2 x y v u Q I2 rx ry q) hm
noncomputable def j70 (t:TE):TT:=fun σ H Q=>t σ H λx H'=>∃k,x=.bl k/\Q k H'
theorem j54 {op:CmpOp} {r:R2} (ho:OpR X (compareOp op) r) (ha:PE X a ta) (hb:PE X b tb) (hm:behindInMarks op b=false):PT X (.Compare a [op] [b] pos) (j70 (tOp r ta tb)):=by
 intro pins s σ H Q I h
 refine wpAny_isTrue_Compare1 (thn (ha pins s σ H _ I h) λv s1 ⟨x,H1,I1,r1,q1⟩=>thn (hb pins s1 σ H1 _ I1 q1) λu s2 ⟨y,H2,I2,r2,q2⟩=>
  thn (ho pins s2 σ H2 x y v u _ I2 r1 r2 q2) λc s3 ⟨z,H3,I3,r3,k,e,q3⟩=>?_) hm
 subst e
 cases r3
 exact wpAny_truthy_bool ⟨H3,I3,q3⟩
noncomputable def j3y (r r':R2) (ta tb tc:TE):TE:=fun σ H Q=>ta σ H λx H1=>tb σ H1 λy H2=>r x y H2 λz H3=>∃k,z=.bl k /\
 (if k=true then tc σ H3 λw' H4=>r' y w' H4 Q else Q (.bl false) H3)
theorem j2p {op op':CmpOp} {r r':R2} (ho:OpR X (compareOp op) r) (ho':OpR X (compareOp op') r') (ha:PE X a ta) (hb:PE X b tb) (hc:PE X c tc)
 (hm:lastMarks [op,op'] [b,c]=false:=by with_unfolding_all rfl):PT X (.Compare a [op,op'] [b,c] pos) (j70 (j3y r r' ta tb tc)):=by
 intro pins s σ H Q I h
 refine isTrue_chain (thn (ha pins s σ H _ I h) λv s1 ⟨x,H1,I1,r1,q1⟩=>test_link (thn (hb pins s1 σ H1 _ I1 q1) λu s2 ⟨y,H2,I2,r2,q2⟩=>
  thn (ho pins s2 σ H2 x y v u _ I2 r1 r2 q2) λd s3 ⟨z,H3,I3,r3,k,e,q3⟩=>?_)) hm
 subst e
 cases r3
 refine wpAny_truthy_bool ?_
 cases k with
 | false=>
  obtain ⟨k',e',q'⟩:=q3
  cases e'
  exact ite_ff ⟨H3,I3,q'⟩
 | true=>
  refine ite_tt (test_last (thn (hc pins s3 σ H3 _ I3 q3) λw' s4 ⟨z',H4,I4,r4,q4⟩=>thn (ho' pins s4 σ H4 y z' u w' _ I4 r2 r4 q4) λd' s5 ⟨z2,H5,I5,r5,k2,e2,q5⟩=>?_))
  subst e2
  cases r5
  exact wpAny_truthy_bool ⟨H5,I5,q5⟩
noncomputable def w1Q (K:PySem.W.Frag) (x:V) (H:Hp) (k:Bool):Prop:=
 match x with
 | .non=>k=false
 | .bl b=>k=b
 | .int i=>k=(i != 0)
 | .str y=>y.length<=sizeLine/\k=((y.length:Int) != 0)
 | .byt y=>y.size<=sizeLine/\k=((y.size:Int) != 0)
 | .ref p=>(∃xs,SqL K H p xs/\k=!xs.isEmpty)∨(∃xs,SqT K H p xs/\k=!xs.isEmpty)∨∃kvs,H p=some (.dK kvs)/\k=!kvs.isEmpty
 | _=>False
theorem q72 {κ:Type} {kvs:List (κ×V)} {vs:List (κ×Value)} (r:KV kvs vs):(!vs.isEmpty)=!kvs.isEmpty:=by
 cases r<;>rfl
theorem q3V {xs:List V} {its:List Value} (r:Vals xs its):(!its.toArray.isEmpty)=!xs.isEmpty:=by
 cases r<;>simp
theorem line63:(sizeLine:Nat) < 2 ^ 63:=by rw [sizeLine_eq];decide
theorem j8I:w2R X (λx H Q=>∃k,w1Q X.K x H k/\Q k H):=by
 intro pins s σ H x v Q I rx h
 obtain ⟨k,e,q⟩:=h
 have hl:=line63
 have hs:sizeLine=16777216:=sizeLine_eq
 cases x with
 | non=>
  cases rx
  have e':k=false:=e
  subst e'
  exact truthy_none ⟨H,I,q⟩
 | bl b=>
  cases rx
  have e':k=b:=e
  subst e'
  exact wpAny_truthy_bool ⟨H,I,q⟩
 | int i=>
  obtain ⟨t,rfl⟩:=rx
  have e':k=(i != 0):=e
  subst e'
  exact PySem.P.truthy_int ⟨H,I,q⟩
 | str y=>
  obtain ⟨t,rfl⟩:=rx
  obtain ⟨hy,e'⟩:y.length<=sizeLine/\k=((y.length:Int) != 0):=e
  subst e'
  exact PySem.P.truthy_str (by omega) ⟨H,I.tok _,q⟩
 | byt y=>
  obtain ⟨t,rfl⟩:=rx
  obtain ⟨hy,e'⟩:y.size<=sizeLine/\k=((y.size:Int) != 0):=e
  subst e'
  exact PySem.W.truthy_bytes (by omega) ⟨H,I.tok _,q⟩
 | ref p=>
  cases rx
  have e':(∃xs,SqL X.K H p xs/\k=!xs.isEmpty)∨(∃xs,SqT X.K H p xs/\k=!xs.isEmpty)∨∃kvs,H p=some (.dK kvs)/\k=!kvs.isEmpty:=e
  rcases e' with ⟨xs,hx,e'⟩ | ⟨xs,hx,e'⟩ | ⟨kvs,hx,e'⟩
  ·subst e'
   obtain ⟨its,r,pl,hz⟩:=I.list hx
   have hlen:=r.length
   exact wpAny_truthy_list pl.isList (by simp only [List.size_toArray];omega) ⟨H,I.tok _,by rw [q3V r];exact q⟩
  ·subst e'
   obtain ⟨its,r,pl,hz⟩:=I.tuple hx
   have hlen:=r.length
   exact truthy_tuple pl (by simp only [List.size_toArray];omega) ⟨H,I.tok _,by rw [q3V r];exact q⟩
  ·subst e'
   obtain ⟨hz,hS,vs,r,m⟩:kvs.length<=sizeLine/\(p==sysModules)=false/\∃vs,KV kvs vs/\s.heap.DictOf (q5D X.prog X.w) p vs:=I.hok p _ hx
   have hlen:kvs.length=vs.length:=Paired.length r
   exact wpAny_truthy_dict hS m (by omega) ⟨H,I.tok _,by rw [q72 r];exact q⟩
 | _=>exact (show False from e).elim
theorem j1Z (ha:PE X a ta) (he:∀whole,isTrue a X.env whole=(do let v <-whole;standAt a.pos;holding [v] (truthy v))) :
 PT X a (fun σ H Q=>ta σ H λx H'=>∃k,w1Q X.K x H' k/\Q k H'):=by
 intro pins s σ H Q I h
 exact isTrue_plain (thn (ha pins s σ H _ I h) λv s1 ⟨x,H1,I1,r1,q1⟩=>j8I pins s1 σ H1 x v Q I1 r1 q1) (he _)
theorem q7I:OpR X (binaryOp .Add) (λx y H Q=>∃i j,x=.str i/\y=.str j/\i.length+j.length<=sizeLine/\Q (.str (i++j)) H):=by
 intro pins s σ H x y v u Q I rx ry h
 obtain ⟨i,j,rfl,rfl,hz,q⟩:=h
 obtain ⟨t,rfl⟩:=rx
 obtain ⟨t',rfl⟩:=ry
 exact add_str (λt' tk=>⟨.str (i++j),H,I.tok _,⟨_,rfl⟩,q⟩) hz
theorem vals1 {x:V} {us:List Value} (r:Vals [x] us):∃u,us=[u]/\RelV x u:=by
 cases r with
 | cons r1 r2=>cases r2;exact ⟨_,rfl,r1⟩
theorem vals2 {x y:V} {us:List Value} (r:Vals [x,y] us):∃u w',us=[u,w']/\RelV x u/\RelV y w':=by
 cases r with
 | cons r1 r2=>
  cases r2 with
  | cons r3 r4=>cases r4;exact ⟨_,_,rfl,r1,r3⟩
theorem j0z (hc:X.calm=true):q2n X (.builtin "max") (λxs H Q=>∃i j,xs=[.int i,.int j]/\Q (.int (if j > i then j else i)) H):=by
 intro pins s σ H xs us Q I r h
 obtain ⟨i,j,rfl,q⟩:=h
 obtain ⟨u,w',rfl,⟨t,rfl⟩,⟨t',rfl⟩⟩:=vals2 r
 refine max_two_ints (I.ok.hd hc) λh' tk k=>⟨_,H,I.kept k,?_,q⟩
 by_cases hj:j > i
 ·rw [if_pos hj,if_pos hj];exact ⟨_,rfl⟩
 ·rw [if_neg hj,if_neg hj];exact ⟨_,rfl⟩
theorem q9i (hc:X.calm=true):q2n X (.builtin "min") (λxs H Q=>∃i j,xs=[.int i,.int j]/\Q (.int (if j < i then j else i)) H):=by
 intro pins s σ H xs us Q I r h
 obtain ⟨i,j,rfl,q⟩:=h
 obtain ⟨u,w',rfl,⟨t,rfl⟩,⟨t',rfl⟩⟩:=vals2 r
 refine min_two_ints (I.ok.hd hc) λh' tk k=>⟨_,H,I.kept k,?_,q⟩
 by_cases hj:j < i
 ·rw [if_pos hj,if_pos hj];exact ⟨_,rfl⟩
 ·rw [if_neg hj,if_neg hj];exact ⟨_,rfl⟩
theorem q8i:q2n X (.type "int") (λxs H Q=>(∃i,xs=[.int i]/\Q (.int i) H)∨∃k,xs=[.bl k]/\Q (.int (if k then 1 else 0)) H):=by
 intro pins s σ H xs us Q I r h
 rcases h with ⟨i,rfl,q⟩ | ⟨k,rfl,q⟩
 ·obtain ⟨u,rfl,t,rfl⟩:=vals1 r
  exact call_int_int ⟨.int i,H,I,⟨_,rfl⟩,q⟩
 ·obtain ⟨u,rfl,r1⟩:=vals1 r
  cases r1
  exact call_int_bool ⟨.int (if k then 1 else 0),H,I.tok _,⟨_,rfl⟩,q⟩
noncomputable def w3E (K:PySem.W.Frag) (x:V) (H:Hp) (n:Nat):Prop:=
 match x with
 | .str y=>y.length<=sizeLine/\n=y.length
 | .byt y=>y.size<=sizeLine/\n=y.size
 | .ref p=>(∃xs,SqL K H p xs/\n=xs.length)∨∃xs,SqT K H p xs/\n=xs.length
 | _=>False
theorem q7p:q2n X (.builtin "len") (λxs H Q=>∃x n,xs=[x]/\w3E X.K x H n/\Q (.int n) H):=by
 intro pins s σ H xs us Q I r h
 obtain ⟨x,n,rfl,e,q⟩:=h
 obtain ⟨u,rfl,rx⟩:=vals1 r
 have hl:=line63
 have hs:sizeLine=16777216:=sizeLine_eq
 cases x with
 | str y=>
  obtain ⟨t,rfl⟩:=rx
  obtain ⟨hy,e'⟩:y.length<=sizeLine/\n=y.length:=e
  subst e'
  exact len_str (by omega) ⟨.int _,H,I.tok _,⟨_,rfl⟩,q⟩
 | byt y=>
  obtain ⟨t,rfl⟩:=rx
  obtain ⟨hy,e'⟩:y.size<=sizeLine/\n=y.size:=e
  subst e'
  exact PySem.W.len_bytes (by omega) ⟨.int _,H,I.tok _,⟨_,rfl⟩,q⟩
 | ref p=>
  cases rx
  have e':(∃xs,SqL X.K H p xs/\n=xs.length)∨∃xs,SqT X.K H p xs/\n=xs.length:=e
  rcases e' with ⟨xs,hx,e'⟩ | ⟨xs,hx,e'⟩
  ·subst e'
   obtain ⟨its,r',pl,hz⟩:=I.list hx
   have hlen:=r'.length
   exact Calls.call_len_list pl.isList (by simp only [List.size_toArray];omega) ⟨.int xs.length,H,I.tok _,⟨_,by simp only [List.size_toArray];rw [hlen]⟩,q⟩
  ·subst e'
   obtain ⟨its,r',pl,hz⟩:=I.tuple hx
   have hlen:=r'.length
   exact len_tuple pl (by simp only [List.size_toArray];omega) ⟨.int xs.length,H,I.tok _,⟨_,by simp only [List.size_toArray];rw [hlen]⟩,q⟩
 | _=>exact (show False from e).elim
end
structure ObjM (h:Heap) (x dx C:Addr) (mA:Str->Option Value):Prop where
 obj:h.get? x=some (PySem.W.instObj C dx)
 ns:h.Ns1 dx mA
 ne:dx≠x
theorem j0y {h:Heap} {dx:Addr} {mA:Str->Option Value} (n:h.Ns1 dx mA):∃od,h.get? dx=some od/\∀name,PySem.W.lookIn name od=some (mA name):=by
 obtain ⟨o,es,ep,ho,hd,hk,_,hm⟩:=n
 refine ⟨o,ho,λname=>?_⟩
 have e:=hm name
 unfold nsFind findBy at e
 rw [<-Array.find?_toList] at e
 unfold PySem.W.lookIn
 rw [hd]
 dsimp only
 split
 ·rename_i y q
  rw [q] at e
  exact congrArg some e
 ·rename_i q
  rw [q] at e
  have a:es.toList.any (·.refKey)=false:=by
   rw [List.any_eq_false]
   intro y hy
   obtain ⟨z,t,hkey⟩:=hk y (Array.mem_toList_iff.mp hy)
   simp [DictEntry.refKey,hkey]
  have a':¬es.toList.any (·.refKey)=true:=by rw [a];exact Bool.false_ne_true
  rw [if_neg a']
  exact congrArg some e
theorem ObjM.look {h:Heap} {x dx C:Addr} {mA:Str->Option Value} (I:ObjM h x dx C mA):∃od,PySem.W.InstAt h x (PySem.W.instObj C dx) C (some od)/\∀name,PySem.W.lookIn name od=some (mA name):=
 let ⟨od,ho,hl⟩:=j0y I.ns
 ⟨od,⟨I.obj,rfl,rfl,ho⟩,hl⟩
section
variable {prog:Program} {w:World} {A:Around} {E:Value->Shared->Prop} {s:Shared} {K:PySem.W.Frag} {x dx C f:Addr} {mA:Str->Option Value} {name:Str} {v:Value}
theorem j47 {expr:Bool} {Q:Value->Shared->Prop} (X:K.In s.heap) (I:ObjM s.heap x dx C mA) (hg:PySem.W.plainGet K C name=true) (hh:PySem.W.hasDictIn K C=true)
 (ha:PySem.W.findIn K (.ref C) name=some none) (hv:mA name=some v) (hv':PySem.W.handedIn v=true) (h:Q v { s with toks:=s.toks+1 }) :
 wpAny (model prog w) A (getAttr (.ref x) name expr) Q E s:=by
 obtain ⟨od,J,hl⟩:=I.look
 exact PySem.W.get_value X J (PySem.W.plainGet_of hg).1 (PySem.W.findObj_own hh ha rfl (by rw [hl,hv])) hv' h
theorem j1T {pl:Sem Bool} {Q:Value×List Value->Shared->Prop} (X:K.In s.heap) (I:ObjM s.heap x dx C mA) (hg:PySem.W.plainGet K C name=true)
 (hf:PySem.W.findIn K (.ref C) name=some (some (.ref f))) (ht:PySem.W.isFn K (.ref f)=true) (hv:mA name=none) (h:Q (.ref f,[.ref x]) s) :
 wpAny (model prog w) A (getMethod (.ref x) name pl) Q E s:=by
 obtain ⟨od,J,hl⟩:=I.look
 exact PySem.W.method_fn X J (PySem.W.plainGet_of hg).1 (PySem.W.plainGet_of hg).2 hf (beq_iff_eq.mp ht) (by show (PySem.W.lookIn name od).map (·.isSome)=some false;rw [hl,hv];rfl) h
theorem j40 {ns:List Str} {Q:Unit->Shared->Prop} (X:K.In s.heap) (I:ObjM s.heap x dx C mA)
 (hs:PySem.W.findIn K (.ref C) "__setattr__" = some (some (.builtin "object.__setattr__"))) (hp:PySem.W.plainOver K C=true) (ht:PySem.W.takerIn K C name=some none) (hh:PySem.W.hasDictIn K C=true)
 (hw:PySem.Within mA ns) (hsz:ns.length<=sizeLine)
 (h:∀h',ObjM h' x dx C (λy=>if y=name then some v else mA y)->Heap.SameBut dx s.heap h'->Q () { s with heap:=h',toks:=s.toks+2 }) :
 wpAny (model prog w) A (setAttr (.ref x) name v) Q E s:=by
 obtain ⟨od,J,hl⟩:=I.look
 refine PySem.W.set_plain X J hs (PySem.W.osa_open (s:={ s with toks:=s.toks+1 }) (r:=none) X J hp ht λb=>?_)
 obtain ⟨cd,hc,hd'⟩:=PySem.W.any_some hh
 have hx:s.heap.get? x=some ⟨.ref C,some dx,.plain,#[]⟩:=I.obj
 refine wpAny_bind (wpAny_pure (wpAny_bind (wpAny_bind (wpAny_loadPart hx (wpAny_bind (PySem.W.Looks.here (s:={ s with toks:=s.toks+1 }) (PySem.W.looks_clsIn X hc) ?_))))))
 rw [hd']
 refine wpAny_pure (a:=some dx) (wpAny_bind (wpAny_pure (wpAny_bind ?_)))
 refine wpAny_nsSet1 (s:={ s with toks:=s.toks+1 }) I.ns λh' hn2 hs2=>?_
 obtain ⟨oD,esD,epD,hoD,hdD,hcD⟩:=hn2.count (PySem.Within.cons name v hw)
 refine wpAny_bind (wpAny_lookBehind hoD (by rw [hdD];exact pastItsLine_dict (Nat.le_trans hcD (by rw [List.length_cons];omega))) ?_)
 exact wpAny_pure (h _ ⟨(hs2.2 _ (Ne.symm I.ne)).trans I.obj,hn2,I.ne⟩ hs2)
theorem j2k {R:Result->Shared->Prop} {vs:List Value} {kw:List (Str×Value)} (X:K.In s.heap) (hm:PySem.W.makesIn K C=true)
 (hi:PySem.W.findIn K (.ref C) "__init__" = some (some (.ref f))) (hf:PySem.W.typeIn K (.ref f)=some (.type "function"))
 (h:codeAny (model prog w) (A.under (.builtin "type.__call__" ⟨.ref C::vs,kw⟩)) (.call (.ref f) ⟨.ref (s.heap.objs.size+1)::vs,kw⟩) (PySem.W.InitBack (s.heap.objs.size+1) R)
  { s with heap:=(s.heap.push PySem.W.emptyDict).push (PySem.W.instObj C s.heap.objs.size) }) :
 codeAny (model prog w) A (.call (.ref C) ⟨vs,kw⟩) R s:=by
 obtain ⟨hh,g,d,t,os⟩:=s
 exact PySem.W.make_core (PySem.W.makes_of X hm) (PySem.W.looks_findIn X hi) (λself=>PySem.W.bind_fn X self hf) (.inl rfl) h
end
noncomputable def q4n (f:Str) (v:V):List (Str×V)->List (Str×V)
 | []=>[(f,v)]
 | (g,x)::r=>if g=f then (g,v)::r else (g,x)::q4n f v r
theorem q3x (f g:Str) (v:V):∀fs:List (Str×V),(q4n f v fs).lookup g=if g=f then some v else fs.lookup g
 | []=>by
  show List.lookup g [(f,v)]=_
  by_cases h:g=f
  ·have hb:(g==f)=true:=beq_iff_eq.mpr h
   simp only [List.lookup,hb,if_pos h]
  ·have hb:(g==f)=false:=beq_eq_false_iff_ne.mpr h
   simp only [List.lookup,hb,if_neg h]
 | (k,x)::r=>by
  have ih:=q3x f g v r
  rw [show q4n f v ((k,x)::r)=(if k=f then (k,v)::r else (k,x)::q4n f v r) from rfl]
  by_cases hk:k=f
  ·rw [if_pos hk]
   by_cases h:g=k
   ·have hb:(g==k)=true:=beq_iff_eq.mpr h
    simp only [List.lookup,hb,if_pos (h.trans hk)]
   ·have hb:(g==k)=false:=beq_eq_false_iff_ne.mpr h
    simp only [List.lookup,hb,if_neg (λe:g=f=>h (e.trans hk.symm))]
  ·rw [if_neg hk]
   by_cases h:g=k
   ·have hb:(g==k)=true:=beq_iff_eq.mpr h
    simp only [List.lookup,hb,if_neg (λe:g=f=>hk (h.symm.trans e))]
   ·have hb:(g==k)=false:=beq_eq_false_iff_ne.mpr h
    simp only [List.lookup,hb]
    exact ih
theorem q3k (f:Str) (v:V):∀fs:List (Str×V),f∈(q4n f v fs).map (·.1)/\∀g,g∈fs.map (·.1)->g∈(q4n f v fs).map (·.1)
 | []=>⟨by simp [q4n],λg h=>by simp at h⟩
 | (k,x)::r=>by
  obtain ⟨i1,i2⟩:=q3k f v r
  rw [show q4n f v ((k,x)::r)=(if k=f then (k,v)::r else (k,x)::q4n f v r) from rfl]
  by_cases hk:k=f
  ·rw [if_pos hk]
   subst hk
   exact ⟨by simp,λg h=>by simpa using h⟩
  ·rw [if_neg hk]
   refine ⟨?_,λg h=>?_⟩
   ·rw [List.map_cons]
    exact List.mem_cons_of_mem _ i1
   ·rw [List.map_cons] at h ⊢
    rcases List.mem_cons.mp h with e | e
    ·exact List.mem_cons.mpr (.inl e)
    ·exact List.mem_cons_of_mem _ (i2 g e)
theorem q3B (f:Str) (v:V):∀fs:List (Str×V),(q4n f v fs).length<=fs.length+1
 | []=>by simp [q4n]
 | (k,x)::r=>by
  have ih:=q3B f v r
  rw [show q4n f v ((k,x)::r)=(if k=f then (k,v)::r else (k,x)::q4n f v r) from rfl]
  by_cases hk:k=f
  ·rw [if_pos hk,List.length_cons,List.length_cons];omega
  ·rw [if_neg hk,List.length_cons,List.length_cons];omega
theorem RelO.some_of {v:V} {o:Option Value} (r:RelO (some v) o):∃u,o=some u/\RelV v u:=by
 cases o with
 | none=>exact (show False from r).elim
 | some u=>exact ⟨u,rfl,r⟩
theorem RelO.none_of {o:Option Value} (r:RelO none o):o=none:=by
 cases o with
 | none=>rfl
 | some u=>exact (show False from r).elim
theorem q86 {v:V} {u:Value} (r:RelV v u):PySem.W.handedIn u=true:=by
 cases v with
 | non=>cases (show u=Value.none from r);rfl
 | bl b=>cases (show u=Value.bool b from r);rfl
 | int i=>obtain ⟨t,e⟩:=(show ∃t,u=Value.int i t from r);cases e;rfl
 | str x=>obtain ⟨t,e⟩:=(show ∃t,u=Value.str x t from r);cases e;rfl
 | byt b=>obtain ⟨t,e⟩:=(show ∃t,u=Value.bytes b t from r);cases e;rfl
 | flt b=>obtain ⟨t,e⟩:=(show ∃t,u=Value.float b t from r);cases e;rfl
 | ref a=>cases (show u=Value.ref a from r);rfl
 | ty n=>cases (show u=Value.type n from r);rfl
section
variable {P:Program} {w:World} {H H':Hp} {h h':Heap} {a C dx:Addr} {fs fs':List (Str×V)}
theorem q4f (hok:HOk P w H h) (e:H a=some (.ins C dx fs)):∃mA,ObjM h a dx C mA/\(∀f,RelO (fs.lookup f) (mA f))/\PySem.Within mA (fs.map (·.1))/\fs.length<=1000/\H dx=some (.own a):=by
 obtain ⟨d,z,ne,ob,mA,n,r,q⟩:=(show ObjOk P w H h a (.ins C dx fs) from hok a _ e)
 exact ⟨mA,⟨ob,n,ne⟩,r,q,z,d⟩
end
structure Cls (K:PySem.W.Frag) (C:Addr):Prop where
 pg:PySem.W.plainGet K C Str.empty=true
 hd:PySem.W.hasDictIn K C=true
 po:PySem.W.plainOver K C=true
 sa:PySem.W.findIn K (.ref C) "__setattr__" = some (some (.builtin "object.__setattr__"))
theorem Cls.get {K:PySem.W.Frag} {C:Addr} (c:Cls K C) (f:Str):PySem.W.plainGet K C f=true:=c.pg
noncomputable def NoAttr (K:PySem.W.Frag) (C:Addr) (f:Str):Prop:=PySem.W.findIn K (.ref C) f=some none
theorem NoAttr.taker {K:PySem.W.Frag} {C:Addr} {f:Str} (n:NoAttr K C f):PySem.W.takerIn K C f=some none:=by
 unfold PySem.W.takerIn
 rw [show PySem.W.findIn K (.ref C) f=some none from n]
 rfl
structure Meth (K:PySem.W.Frag) (C:Addr) (m:Str) (f:Addr):Prop where
 at_:PySem.W.findIn K (.ref C) m=some (some (.ref f))
 fn:PySem.W.isFn K (.ref f)=true
 kp:PySem.W.keepIn K (.ref f)=true
section
variable {X:Cx} {pins:List (Addr×Obj)} {σ:St} {H:Hp} {s:Shared} {a C dx:Addr} {fs:List (Str×V)} {f:Str} {v:V} {A:Around} {E:Value->Shared->Prop}
theorem q7v {b:Bool} {Q:Value->Shared->Prop} (I:Inv X pins σ H s) (e:H a=some (.ins C dx fs)) (c:Cls X.K C) (n:NoAttr X.K C f) (l:fs.lookup f=some v)
 (h:∀u s',Inv X pins σ H s'->RelV v u->Q u s'):wpAny (model X.prog X.w) A (getAttr (.ref a) f b) Q E s:=by
 obtain ⟨mA,O,r,_,_,_⟩:=q4f I.hok e
 obtain ⟨u,hu,ru⟩:=RelO.some_of (v:=v) (o:=mA f) (by rw [<-l];exact r f)
 exact j47 I.kIn O (c.get f) c.hd n hu (q86 ru) (h u _ (I.tok _) ru)
theorem q3S {m:Str} {g:Addr} {pl:Sem Bool} {Q:Value×List Value->Shared->Prop} (I:Inv X pins σ H s) (e:H a=some (.ins C dx fs)) (c:Cls X.K C) (k:Meth X.K C m g) (l:fs.lookup m=none)
 (h:Q (.ref g,[.ref a]) s):wpAny (model X.prog X.w) A (getMethod (.ref a) m pl) Q E s:=by
 obtain ⟨mA,O,r,_,_,_⟩:=q4f I.hok e
 have hn:mA m=none:=RelO.none_of (by rw [<-l];exact r m)
 exact j1T I.kIn O (c.get m) k.at_ k.fn hn h
theorem q7G {y:V} {u:Value} {Q:Unit->Shared->Prop} (I:Inv X pins σ H s) (e:H a=some (.ins C dx fs)) (c:Cls X.K C) (n:NoAttr X.K C f) (hl:fs.length < 1000) (ry:RelV y u)
 (h:∀s',Inv X pins σ (upd H a (.ins C dx (q4n f y fs))) s'->Q () s'):wpAny (model X.prog X.w) A (setAttr (.ref a) f u) Q E s:=by
 obtain ⟨mA,O,r,wi,_,ho⟩:=q4f I.hok e
 have hz:(fs.map (·.1)).length<=sizeLine:=by rw [List.length_map,sizeLine_eq];omega
 refine j40 I.kIn O c.sa c.po n.taker c.hd wi hz λh' O' sb=>h _ ?_
 have hd:∃o,h'.get? dx=some o:=let ⟨o,_,_,e',_⟩:=O'.ns;⟨o,e'⟩
 refine I.write (x:=a) (e:=dx) (by rw [e];exact True.intro) (.inr ho) (λb q hb z=>(sb.2 b hb).trans z) hd ?_
 refine ⟨by rw [q0i O.ne];exact ho,?_,O.ne,O'.obj,_,O'.ns,λg=>?_,λg hg=>?_⟩
 ·have:=q3B f y fs;omega
 ·show RelO ((q4n f y fs).lookup g) (if g=f then some u else mA g)
  rw [q3x]
  by_cases q:g=f
  ·rw [if_pos q,if_pos q];exact ry
  ·rw [if_neg q,if_neg q];exact r g
 ·by_cases q:g=f
  ·rw [q];exact (q3k f y fs).1
  ·refine (q3k f y fs).2 g (wi g λz=>hg ?_)
   show (if g=f then some u else mA g)=none
   rw [if_neg q];exact z
theorem Inv.made (I:Inv X pins σ H s):Inv X pins σ (upd (upd H s.heap.objs.size (.own (s.heap.objs.size+1))) (s.heap.objs.size+1) (.ins C s.heap.objs.size []))
 { s with heap:=(s.heap.push PySem.W.emptyDict).push (PySem.W.instObj C s.heap.objs.size) }:=by
 have e1:(s.heap.push PySem.W.emptyDict).get? s.heap.objs.size=some PySem.W.emptyDict:=Heap.get?_push_size s.heap rfl
 have e2:((s.heap.push PySem.W.emptyDict).push (PySem.W.instObj C s.heap.objs.size)).get? (s.heap.objs.size+1)=some (PySem.W.instObj C s.heap.objs.size):=by
  have:=Heap.get?_push_size (s.heap.push PySem.W.emptyDict) (o:=PySem.W.instObj C s.heap.objs.size) rfl
  rwa [Heap.size_push] at this
 have e3:(s.heap.push PySem.W.emptyDict).Ns s.heap.objs.size (λ_=>none):=⟨PySem.W.emptyDict,#[],_,e1,rfl,(λe he=>absurd he (by simp)),λ_=>rfl⟩
 have I1:=I.laid (a:=s.heap.objs.size) (o:=.own (s.heap.objs.size+1)) (h':=s.heap.push PySem.W.emptyDict) (t':=s.toks) (λb u q=>Heap.get?_push_of_some _ q) (Nat.le_refl _) ⟨_,e1⟩
 refine I1.laid (a:=s.heap.objs.size+1) (o:=.ins C s.heap.objs.size []) (t':=s.toks) (λb u q=>Heap.get?_push_of_some _ q) (Nat.le_of_eq (Heap.size_push _ _)) ?_
 have ne:s.heap.objs.size≠s.heap.objs.size+1:=Nat.ne_of_lt (Nat.lt_succ_self _)
 refine ⟨by rw [q0i ne,q0u],Nat.zero_le _,ne,e2,λ_=>none,(Heap.Ns1.of_empty e3).at λo q=>Heap.get?_push_of_some _ q,λ_=>True.intro,λy hy=>absurd rfl hy⟩
theorem j5x {prog:Program} {w:World} {env:Env} {e:Expr} {f:Str} {pos:Pos} {s:Shared} {Q:Value->Shared->Prop} (hb:attributeBase e f env (eval e env)=eval e env)
 (h:wpAny (model prog w) A (eval e env) (λo s₁=>wpAny (model prog w) A (getAttr o f true) Q E s₁) E s):wpAny (model prog w) A (eval (.Attribute e f pos) env) Q E s:=
 Attribute_any_ h (by rw [arm_eval_Attribute,hb])
end
noncomputable def w29 (K:PySem.W.Frag) (ta:TE) (f:Str):TE:=fun σ H Q=>ta σ H λx H1=>∃a C dx fs v,x=.ref a/\H1 a=some (.ins C dx fs)/\Cls K C/\NoAttr K C f/\fs.lookup f=some v/\Q v H1
noncomputable def w2V (K:PySem.W.Frag) (ta tv:TE) (f:Str):TS:=λD σ H=>tv σ H λy H1=>ta σ H1 λx H2=>∃a C dx fs,x=.ref a/\H2 a=some (.ins C dx fs)/\Cls K C/\NoAttr K C f/\fs.length < 1000 /\
 D.nx σ (upd H2 a (.ins C dx (q4n f y fs)))
section
variable {X:Cx} {o e value:Expr} {f:Str} {pos pos' tpos:Pos} {ta tv:TE}
theorem j8v (he:PE X e ta) (hb:attributeBase e f X.env (eval e X.env)=eval e X.env):PE X (.Attribute e f pos) (w29 X.K ta f):=by
 intro pins s σ H Q I h
 refine j5x hb (thn (he pins s σ H _ I h) λu s1 ⟨x,H1,I1,rx,a,C,dx,fs,v,ex,ea,c,n,l,q⟩=>?_)
 subst ex
 obtain rfl:u=Value.ref a:=rx
 exact q7v I1 ea c n l λu' s2 I2 ru=>⟨v,H1,I2,ru,q⟩
theorem j7l (ha:PE X o ta) (hv:PE X value tv) (hs:swapsWith value (some (.Attribute o f pos')) pos.line X.env=pure false):PS X (.Assign [.Attribute o f pos'] value pos) (w2V X.K ta tv f):=by
 intro pins s σ H D I h
 refine plainObj_wpAny_Assign_Attribute (thn (hv pins s σ H _ I h) λu s1 ⟨y,H1,I1,ry,q⟩=>thn (ha pins s1 σ H1 _ I1 q) λov s2 ⟨x,H2,I2,rx,a,C,dx,fs,ex,ea,c,n,l,q2⟩=>?_) hs
 subst ex
 obtain rfl:ov=Value.ref a:=rx
 exact q7G I2 ea c n l ry λs3 I3=>⟨σ,_,I3,q2⟩
end
section
variable {X:Cx} {pins:List (Addr×Obj)} {σ:St} {H:Hp} {s:Shared} {A:Around} {E:Value->Shared->Prop} {Q:Value->Shared->Prop} {c:Value} {b:Bool}
inductive q77 (K:PySem.W.Frag) (H:Hp):V->Value->Prop where
 | non:q77 K H .non (.type "NoneType")
 | bl (x:Bool):q77 K H (.bl x) (.type "bool")
 | int (i:Int):q77 K H (.int i) (.type "int")
 | str (x:Str):q77 K H (.str x) (.type "str")
 | flt (x:UInt64):q77 K H (.flt x) (.type "float")
 | lst {a:Addr} {xs:List V} (e:H a=some (.lst xs)):q77 K H (.ref a) (.type "list")
 | frz {a:Addr} {o:Obj} {xs:List V} (e:H a=some (.frz o (.lst xs))):q77 K H (.ref a) (.type "list")
 | tup {a:Addr} {xs:List V} (e:H a=some (.tup xs)):q77 K H (.ref a) (.type "tuple")
 | dK {a:Addr} {kvs:List (Key×V)} (e:H a=some (.dK kvs)):q77 K H (.ref a) (.type "dict")
 | dT {a:Addr} {kvs:List (List Key×V)} (e:H a=some (.dT kvs)):q77 K H (.ref a) (.type "dict")
 | ins {a C dx:Addr} {fs:List (Str×V)} (e:H a=some (.ins C dx fs)) (cl:Cls K C) (ha:PySem.W.findIn K (.ref C) "__class__" = some (some (.builtin "object.__class__")))
  (hn:PySem.W.specialIn K (.builtin "object.__class__") "__get__" = some (some (.builtin "getset_descriptor.__get__"))) (htk:PySem.W.takesIn K (.builtin "object.__class__")=some true)
  (hm:PySem.W.mroIn K C (.type "object")=some true):q77 K H (.ref a) (.ref C)
theorem q2o {x:V} {u t:Value} (I:Inv X pins σ H s) (rx:RelV x u) (ty:q77 X.K H x t) (e:PySem.W.kitOne X.K t c=some b) (h:∀tk,Q (.bool b) { s with toks:=tk }) :
 wpAny (model X.prog X.w) A (call (.builtin "isinstance") [u,c]) Q E s:=by
 cases ty with
 | non=>cases (show u=Value.none from rx);exact PySem.W.kia_one PySem.W.kitx_none I.kIn True.intro e (λz=>nomatch z) h
 | bl y=>cases (show u=Value.bool y from rx);exact PySem.W.kia_one PySem.W.kitx_bool I.kIn True.intro e (λz=>nomatch z) h
 | int i=>obtain ⟨t,q⟩:=(show ∃t,u=Value.int i t from rx);cases q;exact PySem.W.kia_one PySem.W.kitx_int I.kIn True.intro e (λz=>nomatch z) h
 | str y=>obtain ⟨t,q⟩:=(show ∃t,u=Value.str y t from rx);cases q;exact PySem.W.kia_one PySem.W.kitx_str I.kIn True.intro e (λz=>nomatch z) h
 | flt y=>obtain ⟨t,q⟩:=(show ∃t,u=Value.float y t from rx);cases q;exact PySem.W.kia_one PySem.W.kitx_float I.kIn True.intro e (λz=>nomatch z) h
 | @lst a xs ea=>
  cases (show u=Value.ref a from rx)
  obtain ⟨_,_,n,_,h1⟩:=(show ObjOk X.prog X.w H s.heap a (.lst xs) from I.hok a _ ea)
  exact PySem.W.kia_one PySem.W.kitx_list I.kIn ⟨_,h1,rfl⟩ e (λz=>nomatch z) h
 | @frz a ob xs ea=>
  cases (show u=Value.ref a from rx)
  obtain ⟨_,_,_,n,_,h1⟩:=(show ObjOk X.prog X.w H s.heap a (.frz ob (.lst xs)) from I.hok a _ ea)
  exact PySem.W.kia_one PySem.W.kitx_list I.kIn ⟨_,h1,rfl⟩ e (λz=>nomatch z) h
 | @tup a xs ea=>
  cases (show u=Value.ref a from rx)
  obtain ⟨_,_,_,p⟩:=(show ObjOk X.prog X.w H s.heap a (.tup xs) from I.hok a _ ea)
  obtain ⟨o,h1,h2,_⟩:=p
  exact PySem.W.kia_one PySem.W.kitx_tuple I.kIn ⟨o,h1,h2⟩ e (λz=>nomatch z) h
 | @dK a kvs ea=>
  cases (show u=Value.ref a from rx)
  obtain ⟨_,_,vs,_,p⟩:=(show ObjOk X.prog X.w H s.heap a (.dK kvs) from I.hok a _ ea)
  obtain ⟨o,es,ep,h1,h2,_⟩:=p
  exact PySem.W.kia_one PySem.W.kitx_dict I.kIn ⟨o,h1,h2.1⟩ e (λz=>nomatch z) h
 | @dT a kvs ea=>
  cases (show u=Value.ref a from rx)
  obtain ⟨_,_,xs,_,o,es,ep,h1,h2,_⟩:=(show ObjOk X.prog X.w H s.heap a (.dT kvs) from I.hok a _ ea)
  exact PySem.W.kia_one PySem.W.kitx_dict I.kIn ⟨o,h1,h2.1⟩ e (λz=>nomatch z) h
 | @ins a C dx fs ea cl ha hn htk hm=>
  cases (show u=Value.ref a from rx)
  obtain ⟨mA,O,_⟩:=q4f I.hok ea
  obtain ⟨od,J,_⟩:=O.look
  exact PySem.W.kia_one (PySem.W.kitx_own (cl.get _) cl.hd ha hn htk hm) I.kIn J e (λz=>nomatch z) h
end
structure Room (k:Nat) (A:Around):Prop where
 hd:A.handled=none
 dp:A.depth+3*k+5 < recursionLimit
 un:A.units+16*k+200 < cLine
 gd:A.guards=some []
theorem Room.mono {j k:Nat} {A:Around} (r:Room k A) (h:j<=k):Room j A:=⟨r.hd,by have:=r.dp;omega,by have:=r.un;omega,r.gd⟩
theorem Room.deeper {k:Nat} {A:Around} (r:Room (k+1) A) (env:Env):Room k (A.deeper env):=
 ⟨r.hd,by have:=r.dp;show A.depth+1+3*k+5 < _;omega,by have:=r.un;show A.units+3+16*k+200 < _;omega,r.gd⟩
theorem q75 {A:Around} {C:Addr} {us:List Value} {kw:List (Str×Value)}:(A.under (.builtin "type.__call__" ⟨.ref C::us,kw⟩)).depth=A.depth+1:=by
 first | rfl | simp [Around.under,Code.weight,Code.isCreation,Code.isGuard,Code.isCaller,Code.frames,Code.isFrame,guardIds]
theorem q7T {A:Around} {C:Addr} {us:List Value} {kw:List (Str×Value)}:(A.under (.builtin "type.__call__" ⟨.ref C::us,kw⟩)).units=A.units+1:=by
 first | rfl | simp [Around.under,Code.cUnits,Code.frames,Code.isFrame]
theorem q5Z {A:Around} {C:Addr} {us:List Value} {kw:List (Str×Value)}:(A.under (.builtin "type.__call__" ⟨.ref C::us,kw⟩)).guards=A.guards:=by
 first | rfl | simp [Around.under,Code.guards,Code.isGuard,guardIds,pushGuards]
theorem Room.make {k:Nat} {A:Around} (r:Room (k+1) A) (C:Addr) (us:List Value) (kw:List (Str×Value)):Room k (A.under (.builtin "type.__call__" ⟨.ref C::us,kw⟩)):=
 ⟨r.hd,by have:=r.dp;rw [q75];omega,by have:=r.un;rw [q7T];omega,by rw [q5Z];exact r.gd⟩
theorem Room.depth {k:Nat} {A:Around} (r:Room k A):A.depth < recursionLimit:=by have:=r.dp;omega
theorem Room.units0 {k:Nat} {A:Around} (r:Room k A):A.units < cLine:=by have:=r.un;omega
noncomputable def w3s:TA:=λ_ H Q=>Q [] H
noncomputable def w1J (ta:TE) (tr:TA):TA:=fun σ H Q=>ta σ H λx H1=>tr σ H1 λxs H2=>Q (x::xs) H2
section
variable {X:Cx} {e:Expr} {es:List Expr} {te:TE} {t:TA} {pos:Pos}
theorem q1t:PA X [] w3s:=λ_ _ _ _ H Q I h=>Calls.spliced_nil ⟨[],H,I,.nil,h⟩
theorem q0I (ha:PE X e te) (hr:PA X es t) (hs:starEach (e::es) X.env=(false,eval e X.env)::starEach es X.env:=by rfl):PA X (e::es) (w1J te t):=by
 intro pos pins s σ H Q I h
 rw [hs]
 show wpAny _ _ (spliced ((false,eval e X.env)::backTo pos (starEach es X.env))) _ _ s
 refine Calls.spliced_cons (thn (ha pins s σ H _ I h) λu s1 ⟨x,H1,I1,r1,q1⟩=>?_)
 exact thn (hr pos pins s1 σ H1 _ I1 q1) λus s2 ⟨xs,H2,I2,r2,q2⟩=>⟨x::xs,H2,I2,.cons r1 r2,q2⟩
noncomputable def w3y (t:TA):TE:=fun σ H Q=>t σ H λxs H1=>xs.length<=sizeLine/\∀p,H1 p=none->Q (.ref p) (upd H1 p (.tup xs))
noncomputable def w2M (t:TA):TE:=fun σ H Q=>t σ H λxs H1=>xs.length<=sizeLine/\∀p,H1 p=none->Q (.ref p) (upd H1 p (.lst xs))
theorem j4s {x1} (h:PA X es t):PE X (.Tuple es x1 pos) (w3y t):=by
 intro pins s σ H Q I hq
 refine wpAny_Tuple_spliced (thn (h pos pins s σ H _ I hq) λus s1 ⟨xs,H1,I1,r,z,q⟩=>⟨by rw [<-r.length];exact z,?_⟩)
 have hf:H1 s1.heap.objs.size=none:=I1.hok.fresh (Nat.le_refl _)
 refine ⟨.ref s1.heap.objs.size,upd H1 s1.heap.objs.size (.tup xs),I1.laid (t':=s1.toks) (λb u e=>Heap.get?_push_of_some _ e) (Nat.le_refl _) ?_,rfl,q _ hf⟩
 exact ⟨z,us,r,⟨_,Heap.get?_push_size _ rfl,rfl,_,rfl⟩⟩
theorem j8V (h:PA X es t):PE X (.List es pos) (w2M t):=by
 intro pins s σ H Q I hq
 refine wpAny_List_spliced (thn (h pos pins s σ H _ I hq) λus s1 ⟨xs,H1,I1,r,z,q⟩=>⟨by rw [<-r.length];exact z,?_⟩)
 have hf:H1 s1.heap.objs.size=none:=I1.hok.fresh (Nat.le_refl _)
 refine ⟨.ref s1.heap.objs.size,upd H1 s1.heap.objs.size (.lst xs),I1.laid (t':=s1.toks) (λb u e=>Heap.get?_push_of_some _ e) (Nat.le_refl _) ?_,rfl,q _ hf⟩
 exact ⟨z,us,0,r,Heap.get?_push_size _ rfl⟩
end
noncomputable abbrev Sp:=List V->Hp->VK->XK->Prop
noncomputable abbrev CXT:=List Env->Hp->Shared->XK->Value->Shared->Prop
structure Env0 (P:Program) (w:World) (K:PySem.W.Frag) (mg:Str->Option Value) (base:Heap) (A:Around) (outer:List Env) (s:Shared) (H:Hp):Prop where
 frames:A.frames=some outer
 mod:Mod K mg base
 bs:∀b o,base.get? b=some o->s.heap.get? b=some o/\H b=none
 bsz:base.objs.size<=s.heap.objs.size
 funs:s.heap.FunFrames base outer
 frf:∀b∈frs outer,H b=none
 hok:HOk P w H s.heap
 bare:AllBare s.gens
noncomputable def CE (outer:List Env) (P:Program) (w:World) (H:Hp) (s:Shared) (Q:VK) (u:Value) (s':Shared):Prop:=
 ∃v H',s'.os=s.os/\AllBare s'.gens/\Un (frs outer) [] H H' s.heap s'.heap/\HOk P w H' s'.heap/\RelV v u/\Q v H'
noncomputable def CR (CX:CXT) (outer:List Env) (P:Program) (w:World) (H:Hp) (s:Shared) (Q:VK) (E:XK) (r:Result) (s':Shared):Prop:=
 match r with
 | .ok (.ret u)=>CE outer P w H s Q u s'
 | .ok _=>False
 | .error e=>CX outer H s E e s'
structure q1j (P:Program) (w:World) (K:PySem.W.Frag) (mg:Str->Option Value) (base:Heap) (CX:CXT) (k:Nat) (f:Addr) (fd:FuncData) (ps:List Str) (sp:Sp):Prop where
 len:∀vs H Q E,sp vs H Q E->vs.length=ps.length
 run:∀(A:Around) (outer:List Env) (s:Shared) (H:Hp) (args:Args) (us:List Value) (vs:List V) (Q:VK) (E:XK),Room k A->Env0 P w K mg base A outer s H->BindsTo s fd args (ps.zip us)->Vals vs us->sp vs H Q E ->
  codeAny (model P w) A (.call (.ref f) args) (CR CX outer P w H s Q E) s
theorem Env0.make {P:Program} {w:World} {K:PySem.W.Frag} {mg:Str->Option Value} {base:Heap} {A:Around} {outer:List Env} {s:Shared} {H:Hp} (e:Env0 P w K mg base A outer s H) (C:Addr) (us:List Value) (kw:List (Str×Value)) :
 Env0 P w K mg base (A.under (.builtin "type.__call__" ⟨.ref C::us,kw⟩)) outer s H:=⟨by first | exact e.frames | (simpa [Around.under,Code.envs,Code.isFrame,pushEnvs] using e.frames),e.mod,e.bs,e.bsz,e.funs,e.frf,e.hok,e.bare⟩
section
variable {X:Cx} {pins:List (Addr×Obj)} {σ:St} {H:Hp} {s s':Shared}
theorem Inv.env0 (I:Inv X pins σ H s):Env0 X.prog X.w X.K X.mg X.base X.A X.stack s H:=
 ⟨I.ok.frames,I.ok.mod,I.bs,Nat.le_trans I.ok.bsz I.sz,I.stack,I.stkFree,I.hok,I.bare⟩
theorem Inv.after {Q:VK} {u:Value} (I:Inv X pins σ H s) (h:CE X.stack X.prog X.w H s Q u s'):EP X pins σ Q u s':=by
 obtain ⟨v,H',os,bare,un,hok,r,q⟩:=h
 obtain ⟨hh,g,d,t,os'⟩:=s'
 obtain rfl:os'=s.os:=os
 exact ⟨v,H',I.call (h':=hh) (g':=g) (d':=d) (t':=t) (ch:=[]) un hok bare (λb z=>absurd z (by simp)),r,q⟩
end
noncomputable def Binds (K:PySem.W.Frag) (fd:FuncData) (ps:List Str) (ds:List Value):Prop:=
 ∀(s:Shared) (us:List Value),K.In s.heap->(us++ds).length=ps.length->BindsTo s fd ⟨us,[]⟩ (ps.zip (us++ds))
theorem Binds.all {K:PySem.W.Frag} {fd:FuncData} {ps:List Str} (h:∀us:List Value,us.length=ps.length->bindArgs fd ⟨us,[]⟩=pure (ps.zip us)):Binds K fd ps []:=λs us _ hl=>by
 rw [List.append_nil] at hl ⊢
 exact .of_eq (h us hl)
section
variable {X:Cx} {CX:CXT} {k:Nat} {f C:Addr} {fd:FuncData} {ps:List Str} {sp:Sp} {dvs:List V} {ds:List Value} {E:XK} {x m:Str} {p pos apos:Pos} {e o:Expr} {es:List Expr} {ta:TE} {t:TA}
structure Mk (K:PySem.W.Frag) (C f:Addr):Prop where
 makes:PySem.W.makesIn K C=true
 init:PySem.W.findIn K (.ref C) "__init__" = some (some (.ref f))
 fn:PySem.W.isFn K (.ref f)=true
 kp:PySem.W.keepIn K (.ref C)=true
end
section
variable {X:Cx} {CX:CXT} {k:Nat} {f C:Addr} {fd:FuncData} {ps ks:List Str} {sp:Sp} {E:XK} {x m:Str} {p pos apos kpos:Pos} {e o:Expr} {es:List Expr} {kws:List Keyword} {te ta:TE} {t tk:TA} {nm:Option Str}
variable {g:List Value->List Value->List Value} {gV:List V->List V->List V}
end
structure q0q (N P:List Str) (sc:Scope):Prop where
 kind:sc.kind=.function
 co:sc.isCoroutine=false
 gen:sc.isGenerator=false
 nd:N.Nodup
 pre:N.take P.length=P
 par:∀x∈P,sc.names.lookup x=some .local∨sc.names.lookup x=some .cell
 nofree:∀y∈sc.names,y.2≠.free
theorem q5t {kindOf:Str->Option NameKind} {x:Str}:∀{binds:List (Str×Value)} {m:Str->Option Value},(∀v,(x,v)∉binds)->bindL kindOf binds m x=m x
 | [],_,_=>rfl
 | (n,v)::r,m,h=>by
  unfold bindL
  rw [q5t λw hw=>h w (List.mem_cons_of_mem _ hw)]
  split
  ·have:x≠n:=by rintro rfl;exact h v List.mem_cons_self
   simp [this]
  ·rfl
theorem q5g {kindOf:Str->Option NameKind} {x:Str}:∀{binds:List (Str×Value)} {m:Str->Option Value},(∀v,(x,v)∉binds)->bindC kindOf binds m x=m x
 | [],_,_=>rfl
 | (n,v)::r,m,h=>by
  unfold bindC
  rw [q5g λw hw=>h w (List.mem_cons_of_mem _ hw)]
  split
  ·rfl
  ·have:x≠n:=by rintro rfl;exact h v List.mem_cons_self
   simp [this]
theorem q4R {kindOf:Str->Option NameKind} {x:Str} {v:Value}:∀{P:List Str} {vs:List Value} {i:Nat} {m:Str->Option Value},P.Nodup->P[i]?=some x->vs[i]?=some v->kindOf x=some .local ->
 bindL kindOf (P.zip vs) m x=some v
 | [],_,_,_,_,h,_,_=>by simp at h
 | _::_,[],_,_,_,_,h,_=>by simp at h
 | p::P,w::vs,0,m,nd,h1,h2,hk=>by
  simp at h1 h2;subst h1;subst h2
  show bindL kindOf ((p,w)::P.zip vs) m p=_
  unfold bindL
  rw [q5t λv hv=>(List.nodup_cons.mp nd).1 (List.of_mem_zip hv).1,if_pos hk]
  simp
 | p::P,w::vs,i+1,m,nd,h1,h2,hk=>by
  show bindL kindOf ((p,w)::P.zip vs) m x=_
  unfold bindL
  exact q4R (i:=i) (List.nodup_cons.mp nd).2 (by simpa using h1) (by simpa using h2) hk
theorem q5r {kindOf:Str->Option NameKind} {x:Str} {v:Value}:∀{P:List Str} {vs:List Value} {i:Nat} {m:Str->Option Value},P.Nodup->P[i]?=some x->vs[i]?=some v->kindOf x≠some .local ->
 bindC kindOf (P.zip vs) m x=some v
 | [],_,_,_,_,h,_,_=>by simp at h
 | _::_,[],_,_,_,_,h,_=>by simp at h
 | p::P,w::vs,0,m,nd,h1,h2,hk=>by
  simp at h1 h2;subst h1;subst h2
  show bindC kindOf ((p,w)::P.zip vs) m p=_
  unfold bindC
  rw [q5g λv hv=>(List.nodup_cons.mp nd).1 (List.of_mem_zip hv).1,if_neg hk]
  simp
 | p::P,w::vs,i+1,m,nd,h1,h2,hk=>by
  show bindC kindOf ((p,w)::P.zip vs) m x=_
  unfold bindC
  exact q5r (i:=i) (List.nodup_cons.mp nd).2 (by simpa using h1) (by simpa using h2) hk
noncomputable def start (N:List Str) (vs:List V):St:=vs.map some++List.replicate (N.length-vs.length) none
noncomputable def j6t (CX:CXT) (P:Program) (w:World) (K:PySem.W.Frag) (mg:Str->Option Value) (base:Heap) (N:List Str) (qual:Str) (scope:Scope) (f:Addr) (cd:Value) (A:Around) (outer:List Env) (s:Shared) (H:Hp) (E:XK):Cx where
 prog:=P
 w:=w
 K:=K
 mg:=mg
 base:=base
 A:=A.deeper (envOfC qual scope s.heap.objs.size f cd)
 N:=N
 s₀:=s
 H₀:=H
 env:=envOfC qual scope s.heap.objs.size f cd
 outer:=outer
 stack:=envOfC qual scope s.heap.objs.size f cd::outer
 ex:=[]
 calm:=true
 fn:=λ_=>true
 pn:=[]
 xe:=λe s'=>wpAny (model P w) (A.deeper (envOfC qual scope s.heap.objs.size f cd)) (leaving (envOfC qual scope s.heap.objs.size f cd) e) (λ_ s''=>CX outer H s E e s'') (λe' s''=>CX outer H s E e' s'') s'
theorem q6h {sc:Scope} {n:Nat} {x:Str} (h:sc.names.lookup x=some .cell):∃c,(cellsFrom n sc.names []).lookup x=some c:=by
 have q:=PySem.W.cellsFrom_some sc.names n [] (.inl h)
 exact Option.isSome_iff_exists.mp q
theorem q8W (ca:Bool) {CX:CXT} {P:Program} {w:World} {K:PySem.W.Frag} {mg:Str->Option Value} {base:Heap} {N ps:List Str} {qual:Str} {scope:Scope} {f:Addr} {cd:Value} {A:Around} {outer:List Env} {s s1:Shared} {H:Hp} {E:XK} {us:List Value} {vs:List V}
 (S:q0q N ps scope) (hd:ca=true->A.handled=none) (e0:Env0 P w K mg base A outer s H) (hl:vs.length=ps.length) (r:Vals vs us)
 (x:InCallC s s.heap.objs.size (bindL (envOfC qual scope s.heap.objs.size f cd).kindOf (ps.zip us) λ_=>none) (cellsFrom (s.heap.objs.size+1) scope.names []) (bindC (envOfC qual scope s.heap.objs.size f cd).kindOf (ps.zip us) λ_=>none) s1) :
 Inv ({ j6t CX P w K mg base N qual scope f cd A outer s H E with calm:=ca }:Cx) [] (start N vs) H s1:=by
 have hpl:ps.length<=N.length:=by have:=congrArg List.length S.pre;rw [List.length_take] at this;omega
 obtain ⟨h1,tk,rfl,hk⟩:=x.done
 have noA:∀b:Addr,b∉({ j6t CX P w K mg base N qual scope f cd A outer s H E with calm:=ca }:Cx).ex:=λb z=>absurd (show b∈([]:List Addr) from z) (by simp)
 refine ⟨⟨e0.mod,S.kind,rfl,rfl,Nat.le_refl _,λy z c h1 h2=>?_,λy hy=>?_,λy c _ h=>?_,hd,Around.frames_deeper e0.frames,.inr ⟨rfl,rfl⟩,λb z=>absurd z (noA b),e0.bs,e0.bsz,λb _ _=>noA b,λb z=>absurd z (noA b),e0.funs,e0.frf⟩,
  rfl,e0.bare,Un.kept hk,⟨_,x.toInCall.ns,λi y v h1 h2 h3=>?_⟩,λy c h=>⟨_,x.cell y c h⟩,e0.hok.fresh (Nat.le_refl _),λy c h=>?_,λp hp=>absurd (show p∈([]:List (Addr×Obj)) from hp) (by simp),e0.hok.kept hk,?_⟩
 ·exact name_of_addr x.apart (PySem.mem_of_lookup h1) (PySem.mem_of_lookup h2)
 ·have hy:scope.names.lookup y=some .cell∨scope.names.lookup y=some .free:=hy
  rcases hy with hy | hy
  ·exact q6h hy
  ·exact absurd rfl (S.nofree _ (PySem.mem_of_lookup hy))
 ·exact Nat.le_of_lt (x.above y c (PySem.mem_of_lookup h))
 ·have hi:i < vs.length:=by
   unfold start at h2
   by_cases hi:i < vs.length
   ·exact hi
   ·rw [List.getElem?_append_right (by simpa using hi)] at h2
    rw [List.getElem?_replicate] at h2
    split at h2<;>cases h2
  have ha:vs[i]?=some v:=by
   unfold start at h2
   rw [List.getElem?_append_left (by simpa using hi),List.getElem?_map] at h2
   cases e:vs[i]? with
   | none=>rw [e] at h2;cases h2
   | some a=>rw [e] at h2;cases h2;rfl
  obtain ⟨u,hu,rv⟩:=r.get ha
  have hp:ps[i]?=some y:=by
   rw [<-S.pre,List.getElem?_take_of_lt (by omega)];exact h1
  have ndP:ps.Nodup:=by rw [<-S.pre];exact S.nd.sublist (List.take_sublist _ _)
  refine ⟨u,rv,?_⟩
  rcases S.par y (List.mem_of_getElem? hp) with k | k
  ·exact .inl ⟨k,q4R ndP hp hu k⟩
  ·obtain ⟨c,e⟩:=q6h (n:=s.heap.objs.size+1) k
   refine .inr ⟨.inl k,c,e,?_⟩
   have q:=x.cell y c e
   rw [q5r ndP hp hu (by show scope.names.lookup y≠_;rw [k];decide)] at q
   exact q
 ·exact e0.hok.fresh (Nat.le_of_lt (x.above y c (PySem.mem_of_lookup h)))
 ·unfold start
  show _=N.length
  rw [List.length_append,List.length_map,List.length_replicate]
  omega
theorem j8F {CX:CXT} {P:Program} {w:World} {K:PySem.W.Frag} {mg:Str->Option Value} {base:Heap} {k:Nat} {f:Addr} {name qual:Str} {params:Arguments} {body:List Stmt} {scope:Scope} {dV kV doc pm cdv ct oc:Value} {an od:Option Addr}
 {osl:Array (Option Value)} {N ps:List Str} {sp:Sp} (lk:K.lookup f=some ⟨oc,od,.func (PySem.W.fnOf name qual params body scope dV kV doc pm an cdv ct),osl⟩) (hcd:PySem.W.codeIn K cdv qual=true) (S:q0q N ps scope)
 (len:∀vs H Q E,sp vs H Q E->vs.length=ps.length)
 (hbody:∀(A:Around) (outer:List Env) (s:Shared) (H:Hp) (vs:List V) (Q:VK) (E:XK),Room k (A.deeper (envOfC qual scope s.heap.objs.size f cdv))->sp vs H Q E ->
  ∃t,PSs (j6t CX P w K mg base N qual scope f cdv A outer s H E) body t/\t { nx:=λ_ H'=>Q .non H',rt:=Q } (start N vs) H) :
 q1j P w K mg base CX (k+1) f (PySem.W.fnOf name qual params body scope dV kV doc pm an cdv ct) ps sp:=by
 refine ⟨len,λA outer s H args us vs Q E hr e0 hb r hsp=>?_⟩
 have hl:=len _ _ _ _ hsp
 have KX:K.In s.heap:=e0.mod.kin.keeps λb o e=>(e0.bs b o e).1
 have lim:s.heap.NoLimit:=e0.mod.nolimit.keeps λb o e=>(e0.bs b o e).1
 have hkind:∀y∈ps.zip us,scope.names.lookup y.1=some .local∨(scope.names.lookup y.1=some .cell/\((cellsFrom (s.heap.objs.size+1) scope.names []).lookup y.1).isSome=true):=λ⟨n,v⟩ hy=>by
  rcases S.par n (List.of_mem_zip hy).1 with q | q
  ·exact .inl q
  ·exact .inr ⟨q,PySem.W.cellsFrom_some _ _ _ (.inl q)⟩
 refine codeAny_call_function hr.depth (KX _ _ lk) rfl S.co S.gen rfl (PySem.W.codeRec_of KX hcd) (hb _ _ _ _ ?_)
 refine wpAny_newFunctionEnv_cells S.kind hkind λenv he s1 x=>?_
 subst he
 refine ⟨lim.keeps x.toInCall.keep,codeAny_func ?_⟩
 obtain ⟨t,ht,hq⟩:=hbody A outer s H vs Q E (hr.deeper _) hsp
 have I:Inv (j6t CX P w K mg base N qual scope f cdv A outer s H E) [] (start N vs) H s1:=q8W true S (λ_=>hr.hd) e0 hl r x
 refine wpAny_mono (ht [] s1 (start N vs) H _ I hq) (λfl s' hs=>?_) λe s' hs=>hs
 have fin:∀{σ':St} {H':Hp} {v:V} {u:Value},Inv (j6t CX P w K mg base N qual scope f cdv A outer s H E) [] σ' H' s'->RelV v u->Q v H'->CE outer P w H s Q u s':=
  λ{σ' H' v u} J rv q=>⟨v,H',J.os,J.bare,J.base,J.hok,rv,q⟩
 cases fl with
 | ret u=>
  obtain ⟨v,σ',H',J,rv,q⟩:=hs
  exact fin J rv q
 | next=>
  obtain ⟨σ',H',J,q⟩:=hs
  exact fin (v:=V.non) (u:=Value.none) J rfl q
 | brk=>
  obtain ⟨_,_,_,q⟩:=hs
  exact False.elim q
 | cont=>
  obtain ⟨_,_,_,q⟩:=hs
  exact False.elim q
section
variable {X:Cx} {x:Str} {p pos:Pos} {e:Expr} {es:List Expr} {t:TA} {id T:String} {r:List V->Hp->VK->Prop}
noncomputable def tCB (r:List V->Hp->VK->Prop) (t:TA):TE:=fun σ H Q=>t σ H λvs H1=>r vs H1 Q
theorem q4w (hc:q2n X (.builtin id) r) (hg:Gl X x) (hm:X.mg x=none) (hv:bootBuiltins x=some (.builtin id)) (ha:PA X (e::es) t) (hn:x≠"__name__":=by decide) (hdb:(x==("__debug__" : Str))=false:=by decide)
 (he:starEach (e::es) X.env=(false,eval e X.env)::starEach es X.env:=by rfl) (hpl:(backTo pos (starEach es X.env)).any (·.1)=false:=by rfl):PE X (.Call (.Name x p) (e::es) [] pos) (tCB r t):=by
 intro pins s σ H Q I h
 refine wpAny_Call_Name_kw (q2E I hg hm hv ?_ hn hdb)
 exact PyProof.Rows.callWith_builtin1 (thn (ha pos pins s σ H _ I h) λus s1 ⟨vs,H1,I1,r1,q1⟩=>hc pins s1 σ H1 vs us Q I1 r1 q1) he hpl
theorem q2u (hc:q2n X (.type T) r) (hg:Gl X x) (hm:X.mg x=none) (hv:bootBuiltins x=some (.type T)) (ha:PA X (e::es) t) (hn:x≠"__name__":=by decide) (hdb:(x==("__debug__" : Str))=false:=by decide)
 (he:starEach (e::es) X.env=(false,eval e X.env)::starEach es X.env:=by rfl) (hpl:(backTo pos (starEach es X.env)).any (·.1)=false:=by rfl):PE X (.Call (.Name x p) (e::es) [] pos) (tCB r t):=by
 intro pins s σ H Q I h
 refine wpAny_Call_Name_kw (q2E I hg hm hv ?_ hn hdb)
 exact PyProof.Rows.callWith_type1 (thn (ha pos pins s σ H _ I h) λus s1 ⟨vs,H1,I1,r1,q1⟩=>hc pins s1 σ H1 vs us Q I1 r1 q1) he hpl
end
end L2
namespace HT
open PySem PyProof.Rows
section
open PySem.SeqAt
open PySem.AutoSeq1 (wpAny_loadPart')
open PySem.MeetsSeq PySem.MeetsSeq2 PySem.MeetsSeq3
end
section
variable {prog:Program} {w:World} {A:Around} {E:Value->Shared->Prop} {s:Shared}
end
end HT
namespace L2
open PySem PySem.Spec PyProof.Rows
noncomputable abbrev TO:=St->Hp->(Option Int->Hp->Prop)->Prop
noncomputable def PO (X:Cx) (e:Option Expr) (t:TO):Prop:=
 ∀(pins:List (Addr×Obj)) (s:Shared) (σ:St) (H:Hp) (Q:Option Int->Hp->Prop),Inv X pins σ H s->t σ H Q ->
  wpAny (model X.prog X.w) X.A (evalPart e X.env) (λu s'=>∃o H',Inv X pins σ H' s'/\IsPart u o/\Q o H') X.xe s
noncomputable def j48:TO:=λ_ H Q=>Q none H
noncomputable def w1q (t:TE):TO:=fun σ H Q=>t σ H λx H1=>∃i,x=.int i/\Q (some i) H1
section
variable {X:Cx} {e:Expr} {te:TE} {lo hi:Option Expr} {tl th:TO} {pos p2:Pos}
theorem j5n:PO X none j48:=by
 intro pins s σ H Q I h
 rw [evalPart_none]
 exact wpAny_pure ⟨none,H,I,.none,h⟩
theorem j5D (h:PE X e te):PO X (some e) (w1q te):=by
 intro pins s σ H Q I hw
 rw [evalPart_some]
 refine thn (h pins s σ H _ I hw) λu s1 ⟨x,H1,I1,r1,q1⟩=>?_
 obtain ⟨i,rfl,q⟩:=q1
 obtain ⟨t,rfl⟩:=r1
 exact ⟨some i,H1,I1,.int i t,q⟩
noncomputable def SlR (X:Cx) (r:V->Option Int->Option Int->Hp->VK->Prop):Prop:=
 ∀(pins:List (Addr×Obj)) (s:Shared) (σ:St) (H:Hp) (x:V) (v vl vu:Value) (lo hi:Option Int) (sl:Addr) (Q:VK),Inv X pins σ H s->RelV x v->s.heap.IsSliceOf sl vl vu .none->IsPart vl lo->IsPart vu hi->r x lo hi H Q ->
  ∃T id,typeLookup (.type T) "__getitem__" = pure (some (.builtin id))/\s.TypeIs v T/\wpAny (model X.prog X.w) X.A (getItem v (.ref sl)) (EP X pins σ Q) X.xe s
noncomputable def tSl (r:V->Option Int->Option Int->Hp->VK->Prop) (te:TE) (tl th:TO):TE:=fun σ H Q=>te σ H λx H1=>tl σ H1 λl H2=>th σ H2 λu H3=>r x l u H3 Q
theorem j2q {r:V->Option Int->Option Int->Hp->VK->Prop} (hr:SlR X r) (he:PE X e te) (hl:PO X lo tl) (hu:PO X hi th):PE X (.Subscript e (.Slice lo hi none p2) pos) (tSl r te tl th):=by
 intro pins s σ H Q I h
 refine Subscript_ (thn (he pins s σ H _ I h) λv s1 ⟨x,H1,I1,r1,q1⟩=>?_)
 refine wpAny_Slice (thn (hl pins s1 σ H1 _ I1 q1) λvl s2 ⟨l,H2,I2,pl,q2⟩=>thn (hu pins s2 σ H2 _ I2 q2) λvu s3 ⟨u,H3,I3,pu,q3⟩=>?_)
 rw [evalPart_none]
 refine wpAny_pure ?_
 have I4:Inv X pins σ H3 { s3 with heap:=s3.heap.push { cls:=.type "slice",data:=.fields #[vl,vu,.none] } }:=I3.kept (t':=s3.toks) λb ob q=>Heap.get?_push_of_some _ q
 obtain ⟨T,id,hT,ht,hg⟩:=hr pins { s3 with heap:=s3.heap.push { cls:=.type "slice",data:=.fields #[vl,vu,.none] } } σ H3 x v vl vu l u s3.heap.objs.size Q I4 r1 (Heap.IsSliceOf.new ..) pl pu q3
 show wpAny (model X.prog X.w) X.A (subscriptTail e (.Slice lo hi none p2) v (.ref s3.heap.objs.size)) (EP X pins σ Q) X.xe { s3 with heap:=s3.heap.push { cls:=.type "slice",data:=.fields #[vl,vu,.none] } }
 exact tail_any (ops:=[.ref s3.heap.objs.size,v]) ht hT hg (by with_unfolding_all rfl)
end
noncomputable def ixN (n:Nat) (i:Int):Option Nat:=if 0<=i then (if i < n then some i.toNat else none) else if -(n:Int)<=i then some (i+n).toNat else none
noncomputable def atI {α:Type} (xs:List α) (i:Int):Option α:=(ixN xs.length i).bind λj=>xs[j]?
theorem q5Q {n:Nat} {i:Int} {j:Nat} (h:ixN n i=some j):seqIndex? i n=some j/\j < n/\-(n:Int)<=i/\i < n:=by
 unfold ixN at h
 by_cases h0:0<=i
 ·rw [if_pos h0] at h
  by_cases h1:i < n
  ·rw [if_pos h1] at h
   have e:i.toNat=j:=Option.some.inj h
   exact ⟨by rw [seqIndex_of h0 h1,e],by omega,by omega,h1⟩
  ·rw [if_neg h1] at h;cases h
 ·rw [if_neg h0] at h
  by_cases h1:-(n:Int)<=i
  ·rw [if_pos h1] at h
   have e:(i+n).toNat=j:=Option.some.inj h
   exact ⟨by rw [seqIndex_neg (by omega) h1,e],by omega,h1,by omega⟩
  ·rw [if_neg h1] at h;cases h
theorem q4A {α:Type} {xs:List α} {i:Int} {v:α} (h:atI xs i=some v):∃j,seqIndex? i xs.length=some j/\xs[j]?=some v/\j < xs.length/\-(xs.length:Int)<=i/\i < xs.length:=by
 unfold atI at h
 cases e:ixN xs.length i with
 | none=>rw [e] at h;cases h
 | some j=>
  rw [e] at h
  obtain ⟨h1,h2,h3,h4⟩:=q5Q e
  exact ⟨j,h1,h,h2,h3,h4⟩
theorem q0C {α:Type} {xs:List α} {j:Nat} {v:α} (h:xs[j]?=some v):atI xs (j:Int)=some v:=by
 have hj:j < xs.length:=(List.getElem?_eq_some_iff.mp h).1
 have e:ixN xs.length (j:Int)=some j:=by
  unfold ixN
  rw [if_pos (by omega),if_pos (by omega)];simp
 unfold atI;rw [e];exact h
noncomputable def q6e (b:Expr):Prop:=∀o i,subscripted b false o i=operate [o,i] (getItem o i)
noncomputable def IxR (X:Cx) (r:R2):Prop:=
 ∀(value slice:Expr) (pins:List (Addr×Obj)) (s:Shared) (σ:St) (H:Hp) (x y:V) (v u:Value) (Q:VK),Inv X pins σ H s->RelV x v->RelV y u->r x y H Q ->
  subscripted slice false v u=operate [v,u] (getItem v u)->wpAny (model X.prog X.w) X.A (subscriptTail value slice v u) (EP X pins σ Q) X.xe s
noncomputable def MtR (X:Cx) (id:String) (r:V->List V->Hp->VK->Prop):Prop:=
 ∀(pins:List (Addr×Obj)) (s:Shared) (σ:St) (H:Hp) (x:V) (xs:List V) (v:Value) (us:List Value) (Q:VK),Inv X pins σ H s->RelV x v->Vals xs us->r x xs H Q ->
  wpAny (model X.prog X.w) X.A (call (.builtin id) (v::us)) (EP X pins σ Q) X.xe s
section
variable {X:Cx} {a b:Expr} {ta tb:TE} {pos:Pos}
theorem IxR.or {r r':R2} (h:IxR X r) (h':IxR X r'):IxR X (λx y H Q=>r x y H Q∨r' x y H Q):=by
 intro value slice pins s σ H x y v u Q I rx ry q hs
 rcases q with q | q
 ·exact h value slice pins s σ H x y v u Q I rx ry q hs
 ·exact h' value slice pins s σ H x y v u Q I rx ry q hs
theorem j6m {r:R2} (hr:IxR X r) (ha:PE X a ta) (hb:PE X b tb) (hs:q6e b):PE X (.Subscript a b pos) (tOp r ta tb):=by
 intro pins s σ H Q I h
 exact Subscript_ (w0N ha hb I h λv u s2 x y H2 I2 rx ry q=>hr a b pins s2 σ H2 x y v u Q I2 rx ry q (hs _ _))
noncomputable def w2a (K:PySem.W.Frag):R2:=λx y H Q=>∃p xs i v,x=.ref p/\y=.int i/\SqL K H p xs/\atI xs i=some v/\Q v H
noncomputable def w2u (K:PySem.W.Frag):R2:=λx y H Q=>∃p xs i v,x=.ref p/\y=.int i/\SqT K H p xs/\atI xs i=some v/\Q v H
noncomputable def w3o:R2:=λx y H Q=>∃z i c,x=.str z/\y=.int i/\z.length<=sizeLine/\atI z.cps.toList i=some c/\Q (.str ⟨#[c]⟩) H
theorem q56:IxR X (w2a X.K):=by
 intro value slice pins s σ H x y v u Q I rx ry h hs
 obtain ⟨p,xs,i,z,rfl,rfl,hq,he,q⟩:=h
 cases rx
 obtain ⟨t,rfl⟩:=ry
 obtain ⟨its,r,pl,hz⟩:=I.list hq
 obtain ⟨j,h1,h2,h3,h4,h5⟩:=q4A he
 obtain ⟨w,ew,rw'⟩:=r.get h2
 have hl:=r.length
 have hn:=line63
 have fin:EP X pins σ Q w s:=⟨z,H,I,rw',q⟩
 by_cases h0:0<=i
 ·have hj:i.toNat=j:=by
   rw [seqIndex_of h0 h5] at h1
   exact Option.some.inj h1
  exact item_listR pl.isList h0 (by omega) (by rw [hj];simpa using ew) fin hs
 ·have hj:(i+(its.toArray.size:Int)).toNat=j:=by
   rw [seqIndex_neg (by omega) h4] at h1
   rw [List.size_toArray,<-hl]
   exact Option.some.inj h1
  exact subscriptTail_builtinR (x:=w) pl.isList.typeIs slot_list_getitem.lookup
   (wpAny_getItem_list_neg (Q:=λr s'=>r=w/\EP X pins σ Q r s') pl.isList (by omega) (by rw [List.size_toArray]<;>omega) (by omega) (by rw [hj];simpa using ew) ⟨rfl,fin⟩) hs
theorem j4n:IxR X (w2u X.K):=by
 intro value slice pins s σ H x y v u Q I rx ry h hs
 obtain ⟨p,xs,i,z,rfl,rfl,hq,he,q⟩:=h
 cases rx
 obtain ⟨t,rfl⟩:=ry
 obtain ⟨its,r,pl,hz⟩:=I.tuple hq
 obtain ⟨j,h1,h2,h3,h4,h5⟩:=q4A he
 obtain ⟨w,ew,rw'⟩:=r.get h2
 have hl:=r.length
 have hn:=line63
 have fin:EP X pins σ Q w s:=⟨z,H,I,rw',q⟩
 exact subscriptTail_builtinR (x:=w) pl.typeIs slot_tuple_getitem.lookup
  (getItem_tuple (j:=j) (Q:=λr s'=>r=w/\EP X pins σ Q r s') pl (by omega) (by omega) (by rw [List.size_toArray,<-hl];exact h1) (by simpa using ew) ⟨rfl,fin⟩) hs
theorem j6E:IxR X w3o:=by
 intro value slice pins s σ H x y v u Q I rx ry h hs
 obtain ⟨z,i,c,rfl,rfl,hz,he,q⟩:=h
 obtain ⟨t,rfl⟩:=rx
 obtain ⟨t',rfl⟩:=ry
 obtain ⟨j,h1,h2,h3,h4,h5⟩:=q4A he
 have hl:z.cps.toList.length=z.length:=by simp [Str.length]
 rw [hl] at h1 h4 h5
 have hn:=line63
 exact tail_any (typeIs_str s z t) slot_str_getitem.lookup (getItem_str (c:=c) (by
  have e1:decide (i < -(2 ^ 63:Int))=false:=decide_eq_false (by omega)
  have e2:decide (i ≥ 2 ^ 63)=false:=decide_eq_false (by omega)
  rw [e1,e2,Bool.or_false]) (by rw [h1];simpa using h2) ⟨.str ⟨#[c]⟩,H,I.tok _,⟨_,rfl⟩,q⟩) hs
theorem q7B (its:List Value) (n j:Nat) (u:Value):Obj.mapSeq (·.setIfInBounds j u) { cls:=.type "list",data:=.seq its.toArray n }={ cls:=.type "list",data:=.seq (its.set j u).toArray n }:=by
 simp [Obj.mapSeq]
theorem Inv.lst {pins:List (Addr×Obj)} {σ:St} {H:Hp} {s:Shared} {p:Addr} {xs:List V} (I:Inv X pins σ H s) (h:H p=some (.lst xs)) :
 ∃(its:List Value) (n:Nat),Vals xs its/\s.heap.get? p=some { cls:=.type "list",data:=.seq its.toArray n }/\xs.length<=sizeLine:=by
 obtain ⟨z,its,n,r,e⟩:=I.hok p _ h
 exact ⟨its,n,r,e,z⟩
theorem Inv.lstUpd {pins:List (Addr×Obj)} {σ:St} {H:Hp} {s:Shared} {p:Addr} {xs ys:List V} {its its':List Value} {n n':Nat} {f:Obj->Obj} (I:Inv X pins σ H s) (h:H p=some (.lst xs))
 (ho:s.heap.get? p=some { cls:=.type "list",data:=.seq its.toArray n }) (hf:f { cls:=.type "list",data:=.seq its.toArray n }={ cls:=.type "list",data:=.seq its'.toArray n' }) (r:Vals ys its') (hz:ys.length<=sizeLine) (t:Nat) :
 Inv X pins σ (upd H p (.lst ys)) { s with heap:=s.heap.update p f,toks:=t }:=by
 have e:(s.heap.update p f).get? p=some { cls:=.type "list",data:=.seq its'.toArray n' }:=by
  rw [Heap.get?_update_self f ho (by rw [hf]<;>rfl),hf]
 refine I.write (x:=p) (e:=p) (by rw [h];trivial) (.inl rfl) (λb u hb q=>(Heap.get?_update_other _ _ (Ne.symm hb)).trans q) ⟨_,e⟩ ?_
 exact ⟨hz,its',n',r,e⟩
noncomputable def w0B:V->V->V->Hp->(Hp->Prop)->Prop:=λo i v H Q=>∃p xs k j,o=.ref p/\i=.int k/\H p=some (.lst xs)/\ixN xs.length k=some j/\Q (upd H p (.lst (xs.set j v)))
theorem j2s:w19 X w0B:=by
 intro pins s σ H o i v ov iv u Q I ro ri rv h
 obtain ⟨p,xs,k,j,rfl,rfl,hp,hj,q⟩:=h
 cases ro
 obtain ⟨t,rfl⟩:=ri
 obtain ⟨its,n,r,ho,hz⟩:=I.lst hp
 obtain ⟨h1,h2,h3,h4⟩:=q5Q hj
 have hl:=r.length
 have hn:=line63
 have I':Inv X pins σ (upd H p (.lst (xs.set j v))) { s with heap:=s.heap.update p (Obj.mapSeq (·.setIfInBounds j u)) }:=
  I.lstUpd hp ho (q7B its n j u) (r.set rv j) (by rw [List.length_set];exact hz) s.toks
 by_cases h0:0<=k
 ·have hk:k.toNat=j:=by
   rw [seqIndex_of h0 h4] at h1
   exact Option.some.inj h1
  exact PySem.W.ki_setAt ho h0 (by omega) (by rw [List.size_toArray,<-hl];exact h4) (by rw [hk];exact ⟨_,I',q⟩)
 ·have hk:(k+(its.toArray.size:Int)).toNat=j:=by
   rw [seqIndex_neg (by omega) h3] at h1
   rw [List.size_toArray,<-hl]
   exact Option.some.inj h1
  exact PySem.W.ki_setBack ho (by omega) (by rw [List.size_toArray,<-hl];exact h3) (by omega) (by rw [hk];exact ⟨_,I',q⟩)
noncomputable def q2J:V->Bool
 | .non=>true
 | .bl _=>true
 | .int _=>true
 | .str _=>true
 | _=>false
noncomputable def eqV:V->V->Bool
 | .non,.non=>true
 | .bl a,.bl b=>a==b
 | .bl a,.int b=>(if a then 1 else 0)==b
 | .int a,.bl b=>a==(if b then 1 else 0)
 | .int a,.int b=>a==b
 | .str a,.str b=>a==b
 | _,_=>false
theorem j7T {A:Around} {s:Shared} {y x:V} {u v:Value} (ry:RelV y u) (rx:RelV x v) (fy:q2J y=true) (fx:q2J x=true):SeqAt.EqAt A s u v (eqV y x):=by
 cases y with
 | non=>
  cases ry
  cases x with
  | non=>cases rx;exact SeqAt.EqAt.same _
  | bl b=>cases rx;exact SeqAt.EqAt.none_bool b
  | int b=>obtain ⟨t,rfl⟩:=rx;exact SeqAt.EqAt.none_int b t
  | str b=>obtain ⟨t,rfl⟩:=rx;exact SeqAt.EqAt.none_str b t
  | _=>exact absurd (show false=true from fx) Bool.false_ne_true
 | bl a=>
  cases ry
  cases x with
  | non=>cases rx;exact SeqAt.EqAt.bool_none a
  | bl b=>cases rx;exact SeqAt.EqAt.bool_bool a b
  | int b=>obtain ⟨t,rfl⟩:=rx;exact SeqAt.EqAt.bool_int a b t
  | str b=>obtain ⟨t,rfl⟩:=rx;exact SeqAt.EqAt.bool_str a b t
  | _=>exact absurd (show false=true from fx) Bool.false_ne_true
 | int a=>
  obtain ⟨t',rfl⟩:=ry
  cases x with
  | non=>cases rx;exact SeqAt.EqAt.int_none a t'
  | bl b=>cases rx;exact SeqAt.EqAt.int_bool a t' b
  | int b=>obtain ⟨t,rfl⟩:=rx;exact SeqAt.EqAt.int_int a t' b t
  | str b=>obtain ⟨t,rfl⟩:=rx;exact SeqAt.EqAt.int_str a t' b t
  | _=>exact absurd (show false=true from fx) Bool.false_ne_true
 | str a=>
  obtain ⟨t',rfl⟩:=ry
  cases x with
  | non=>cases rx;exact SeqAt.EqAt.str_none a t'
  | bl b=>cases rx;exact SeqAt.EqAt.str_bool a t' b
  | int b=>obtain ⟨t,rfl⟩:=rx;exact SeqAt.EqAt.str_int a t' b t
  | str b=>obtain ⟨t,rfl⟩:=rx;exact SeqAt.EqAt.str_str a t' b t
  | _=>exact absurd (show false=true from fx) Bool.false_ne_true
 | _=>exact absurd (show false=true from fy) Bool.false_ne_true
noncomputable def eqU (x:V) (u:Value):Bool:=match u with
 | .none=>eqV .non x
 | .bool b=>eqV (.bl b) x
 | .int i _=>eqV (.int i) x
 | .str z _=>eqV (.str z) x
 | _=>false
theorem j0f {x y:V} {u:Value} (r:RelV y u) (f:q2J y=true):eqU x u=eqV y x:=by
 cases y with
 | non=>cases r;rfl
 | bl b=>cases r;rfl
 | int i=>obtain ⟨t,rfl⟩:=r;rfl
 | str z=>obtain ⟨t,rfl⟩:=r;rfl
 | _=>exact absurd (show false=true from f) Bool.false_ne_true
theorem q3s {x:V}:∀{xs:List V} {us:List Value},Vals xs us->xs.all q2J=true->us.any (eqU x)=xs.any λy=>eqV y x
 | _,_,.nil,_=>rfl
 | y::xs,u::us,.cons r t,f=>by
  rw [List.all_cons,Bool.and_eq_true] at f
  rw [List.any_cons,List.any_cons,j0f r f.1,q3s t f.2]
theorem q2w {A:Around} {s:Shared} {x:V} {v:Value} (rx:RelV x v) (fx:q2J x=true):∀{xs:List V} {us:List Value},Vals xs us->xs.all q2J=true->∀u∈us,SeqAt.EqAt A s u v (eqU x u)
 | _,_,.nil,_=>λu hu=>by cases hu
 | y::xs,u::us,.cons r t,f=>λu' hu=>by
  rw [List.all_cons,Bool.and_eq_true] at f
  rcases List.mem_cons.mp hu with rfl | hu
  ·rw [j0f r f.1];exact j7T r rx f.1 fx
  ·exact q2w rx fx t f.2 u' hu
noncomputable def inV (x:V) (xs:List V):Bool:=xs.any λy=>eqV y x
noncomputable def rIn (K:PySem.W.Frag) (neg:Bool):R2:=λx y H Q=>∃p xs,y=.ref p/\(SqL K H p xs∨SqT K H p xs)/\q2J x=true/\xs.all q2J=true/\Q (.bl (if neg then !inV x xs else inV x xs)) H
theorem q9u:OpR X (compareOp .In) (rIn X.K false):=by
 intro pins s σ H x y v u Q I rx ry h
 obtain ⟨p,xs,rfl,hq,fx,fs,q⟩:=h
 cases ry
 rcases hq with hq | hq
 ·obtain ⟨its,r,pl,hz⟩:=I.list hq
  refine SeqAt.in_listAt (eqU x) pl.isList (λw hw=>q2w rx fx r fs w (by simpa using hw)) ⟨.bl _,H,I,rfl,?_⟩
  rw [show its.toArray.any (eqU x)=its.any (eqU x) by simp,q3s r fs]
  exact q
 ·obtain ⟨its,r,pl,hz⟩:=I.tuple hq
  refine SeqAt.in_tupleAt (eqU x) pl (λw hw=>q2w rx fx r fs w (by simpa using hw)) ⟨.bl _,H,I,rfl,?_⟩
  rw [show its.toArray.any (eqU x)=its.any (eqU x) by simp,q3s r fs]
  exact q
theorem q4M:OpR X (compareOp .NotIn) (rIn X.K true):=by
 intro pins s σ H x y v u Q I rx ry h
 obtain ⟨p,xs,rfl,hq,fx,fs,q⟩:=h
 cases ry
 rcases hq with hq | hq
 ·obtain ⟨its,r,pl,hz⟩:=I.list hq
  refine SeqAt.notIn_listAt (eqU x) pl.isList (λw hw=>q2w rx fx r fs w (by simpa using hw)) ⟨.bl _,H,I,rfl,?_⟩
  rw [show its.toArray.any (eqU x)=its.any (eqU x) by simp,q3s r fs]
  exact q
 ·obtain ⟨its,r,pl,hz⟩:=I.tuple hq
  refine SeqAt.notIn_tupleAt (eqU x) pl (λw hw=>q2w rx fx r fs w (by simpa using hw)) ⟨.bl _,H,I,rfl,?_⟩
  rw [show its.toArray.any (eqU x)=its.any (eqU x) by simp,q3s r fs]
  exact q
theorem q22:q2n X (.type "list") (λxs H Q=>∃p ys,xs=[.ref p]/\(SqL X.K H p ys∨SqT X.K H p ys)/\∀l,H l=none->Q (.ref l) (upd H l (.lst ys))):=by
 intro pins s σ H xs us Q I r h
 obtain ⟨p,ys,rfl,hq,q⟩:=h
 obtain ⟨u,rfl,rx⟩:=vals1 r
 cases rx
 have fin:∀(its:List Value),Vals ys its->ys.length<=sizeLine->∀(h':Heap) (c':Nat),(∀b o',s.heap.get? b=some o'->h'.get? b=some o') ->
  h'.get? s.heap.objs.size=some { cls:=.type "list",dict:=none,data:=.seq its.toArray c',slots:=#[] }->EP X pins σ Q (.ref s.heap.objs.size) { s with heap:=h' }:=λits r' hz h' c' kp e=>
  ⟨.ref s.heap.objs.size,_,I.laid (t':=s.toks) kp (Nat.le_refl _) (show ObjOk X.prog X.w _ h' _ (.lst ys) from ⟨hz,its,c',r',e⟩),rfl,q _ (I.hok.fresh (Nat.le_refl _))⟩
 rcases hq with hq | hq
 ·obtain ⟨its,r',pl,hz⟩:=I.list hq
  have hlen:=r'.length
  obtain ⟨o,ho,hc,n,hd⟩:=pl.isList
  exact call_list_seq p (.inl rfl) ho hc hd (λh' c' kp e=>fin its r' hz h' c' kp e) (by simp only [List.size_toArray]<;>omega)
 ·obtain ⟨its,r',pl,hz⟩:=I.tuple hq
  have hlen:=r'.length
  obtain ⟨o,ho,hc,n,hd⟩:=pl
  exact call_list_seq p (.inr rfl) ho hc hd (λh' c' kp e=>fin its r' hz h' c' kp e) (by simp only [List.size_toArray]<;>omega)
theorem q4i:q2n X (.type "tuple") (λxs H Q=>∃p ys,xs=[.ref p]/\((SqL X.K H p ys/\∀l,H l=none->Q (.ref l) (upd H l (.tup ys)))∨(SqT X.K H p ys/\Q (.ref p) H))):=by
 intro pins s σ H xs us Q I r h
 obtain ⟨p,ys,rfl,h⟩:=h
 obtain ⟨u,rfl,rx⟩:=vals1 r
 cases rx
 rcases h with ⟨hq,q⟩ | ⟨hq,q⟩
 ·obtain ⟨its,r',pl,hz⟩:=I.list hq
  have hlen:=r'.length
  refine call_tuple_list pl.isList (λh' kp=>?_) (by simp only [List.size_toArray]<;>omega)
  have I1:Inv X pins σ H { s with heap:=h' }:=I.kept (t':=s.toks) kp
  have I2:Inv X pins σ (upd H h'.objs.size (.tup ys)) { s with heap:=h'.push { cls:=.type "tuple",data:=.seq its.toArray } }:=
   I1.laid (t':=s.toks) (λb o e=>Heap.get?_push_of_some _ e) (Nat.le_refl _) (show ObjOk X.prog X.w _ _ _ (.tup ys) from ⟨hz,its,r',IsTup.new _ _⟩)
  exact ⟨.ref h'.objs.size,_,I2,rfl,q _ (I1.hok.fresh (Nat.le_refl _))⟩
 ·obtain ⟨its,r',pl,hz⟩:=I.tuple hq
  exact call_tuple_same pl ⟨.ref p,H,I,rfl,q⟩
noncomputable def tyV (K:PySem.W.Frag) (T:String) (x:V) (H:Hp):Prop:=match x with
 | .str _=>T="str"
 | .int _=>T="int"
 | .ref p=>(T="list"/\∃xs,SqL K H p xs)∨(T="tuple"/\∃o,K.lookup p=some o/\o.cls=.type "tuple"/\o.dict=none) ∨
  (T="dict"/\((∃kvs,H p=some (.dK kvs))∨∃kvs,H p=some (.dT kvs)))∨(T="set"/\∃S n,H p=some (.set S n))
 | _=>False
theorem j8O {pins:List (Addr×Obj)} {σ:St} {H:Hp} {s:Shared} {T:String} {x:V} {v:Value} (I:Inv X pins σ H s) (r:RelV x v) (ty:tyV X.K T x H) :
 s.TypeIs v T/\∀a,v=.ref a->∃ob,s.heap.get? a=some ob/\ob.dict=none:=by
 cases x with
 | str z=>
  obtain ⟨t,rfl⟩:=r
  cases (show T="str" from ty)
  exact ⟨typeIs_str s z t,λ_ e=>nomatch e⟩
 | int i=>
  obtain ⟨t,rfl⟩:=r
  cases (show T="int" from ty)
  exact ⟨typeIs_int s i t,λ_ e=>nomatch e⟩
 | ref p=>
  cases r
  rcases ty with ⟨rfl,xs,hq⟩ | ⟨rfl,o,hk,hc,hd⟩ | ⟨rfl,hk⟩ | ⟨rfl,S,n,hk⟩
  ·obtain ⟨its,_,pl,_⟩:=I.list hq
   refine ⟨pl.isList.typeIs,λa e=>?_⟩
   cases e
   obtain ⟨o,n,e,c,hd,_⟩:=pl
   exact ⟨o,e,hd⟩
  ·refine ⟨⟨o,I.kIn p o hk,hc⟩,λa e=>?_⟩
   cases e
   exact ⟨o,I.kIn _ o hk,hd⟩
  ·have z:∃o,s.heap.get? p=some o/\o.ExactDict:=by
    rcases hk with ⟨kvs,hk⟩ | ⟨kvs,hk⟩
    ·obtain ⟨_,_,_,_,o,_,_,e,ex,_⟩:=I.hok p _ hk
     exact ⟨o,e,ex⟩
    ·obtain ⟨_,_,_,_,o,_,_,e,ex,_⟩:=I.hok p _ hk
     exact ⟨o,e,ex⟩
   obtain ⟨o,e,ex⟩:=z
   refine ⟨⟨o,e,ex.1⟩,λa e2=>?_⟩
   cases e2
   exact ⟨o,e,ex.2.1⟩
  ·obtain ⟨o,_,_,_,e,ex,_⟩:=I.hok p _ hk
   refine ⟨⟨o,e,ex.1⟩,λa e2=>?_⟩
   cases e2
   exact ⟨o,e,ex.2.1⟩
 | _=>exact False.elim ty
noncomputable def tBM (K:PySem.W.Frag) (T:String) (r:V->List V->Hp->VK->Prop) (to:TE) (t:TA):TE:=fun σ H Q=>to σ H λx H1=>tyV K T x H1/\t σ H1 λxs H2=>r x xs H2 Q
variable {o e:Expr} {es:List Expr} {to:TE} {t:TA} {name:Str} {apos cpos:Pos} {T id:String} {r:V->List V->Hp->VK->Prop}
theorem j2G (pa:PlainAttrs T) (slot:Slot T name id) (hty:typeOf (.builtin id)=pure (.type "method_descriptor")) (hm:MtR X id r) (ho:PE X o to) (ha:PA X (e::es) t)
 (hbase:attributeBase o name X.env (eval o X.env)=eval o X.env:=by rfl)
 (hfew:((backTo cpos (starEach (e::es) X.env)).all (λx=>!x.1) && (backToKw cpos (keywordEach [] X.env)).all (λx=>x.1.isSome)
  && decide ((e::es).length+([]:List Keyword).length+(if ([]:List Keyword).isEmpty then 0 else 1) < 30))=true:=by rfl)
 (hline:(apos.endLine==cpos.line)=true:=by rfl) (hs:starEach (e::es) X.env=(false,eval e X.env)::starEach es X.env:=by rfl) (hplain:(backTo cpos (starEach es X.env)).any (·.1)=false:=by rfl) :
 PE X (.Call (.Attribute o name apos) (e::es) [] cpos) (tBM X.K T r to t):=by
 intro pins s σ H Q I h
 refine wpAny_Call_method_late hbase hfew hline rfl (thn (ho pins s σ H _ I h) λv s1 ⟨x,H1,I1,r1,ty,q1⟩=>?_)
 obtain ⟨h1,h2⟩:=j8O I1 r1 ty
 refine ⟨T,id,pa,slot,hty,h1,h2,?_⟩
 have hA:=ha cpos pins s1 σ H1 _ I1 q1
 rw [hs] at hA ⊢
 refine Calls.callWith_builtin (by show (false || (backTo cpos (starEach es X.env)).any (·.1))=false;rw [hplain]<;>rfl) (Calls.evalArgs_plain ?_)
 exact thn hA λus s2 ⟨vs,H2,I2,r2,q2⟩=>hm pins s2 σ H2 x vs v us Q I2 r1 r2 q2
end
noncomputable def MtM (X:Cx) (id:String) (r:V->List V->Hp->VK->Prop):Prop:=
 ∀(pins:List (Addr×Obj)) (s:Shared) (σ:St) (H:Hp) (x:V) (xs:List V) (v:Value) (us:List Value) (Q:VK),Inv X pins σ H s->RelV x v->Vals xs us->r x xs H Q ->
  wpAny (model X.prog X.w) X.A (call (.builtin id) (v::us)) (EP X pins σ Q) X.xe s
theorem Vals.one:∀{x:V} {us:List Value},Vals [x] us->∃u,us=[u]/\RelV x u
 | _,_,.cons r .nil=>⟨_,rfl,r⟩
theorem Vals.two:∀{x y:V} {us:List Value},Vals [x,y] us->∃u v,us=[u,v]/\RelV x u/\RelV y v
 | _,_,_,.cons r (.cons q .nil)=>⟨_,_,rfl,r,q⟩
section
variable {X:Cx} {pins:List (Addr×Obj)} {σ:St} {H:Hp} {s:Shared} {l b:Addr} {xs ys zs:List V}
theorem Inv.lset {its its':List Value} {n:Nat} {f:Array Value->Array Value} {t':Nat} (I:Inv X pins σ H s) (hH:H l=some (.lst xs))
 (e:s.heap.get? l=some { cls:=.type "list",data:=.seq its.toArray n }) (hf:f its.toArray=its'.toArray) (hv:Vals ys its') (hz:ys.length<=sizeLine) :
 Inv X pins σ (upd H l (.lst ys)) { s with heap:=s.heap.update l (Obj.mapSeq f),toks:=t' }:=by
 have q:=PySem.IsL.update e f
 rw [hf] at q
 refine I.write (x:=l) (e:=l) (by rw [hH];exact trivial) (.inl rfl) (λb' u hb hu=>(Heap.get?_update_other s.heap (Obj.mapSeq f) (Ne.symm hb)).trans hu) ⟨_,q⟩ ?_
 exact ⟨hz,its',_,hv,q⟩
theorem Inv.lnew {its:List Value} {t':Nat} (I:Inv X pins σ H s) (hv:Vals ys its) (hz:ys.length<=sizeLine) :
 Inv X pins σ (upd H s.heap.objs.size (.lst ys)) { s with heap:=s.heap.push { cls:=.type "list",data:=.seq its.toArray },toks:=t' }:=
 I.laid (λ_ _ q=>Heap.get?_push_of_some _ q) (Nat.le_refl _) ⟨hz,its,0,hv,Heap.get?_push_size _ rfl⟩
theorem Inv.fresh (I:Inv X pins σ H s):H s.heap.objs.size=none:=I.hok.fresh (Nat.le_refl _)
theorem Inv.lstM (I:Inv X pins σ H s) (hH:H l=some (.lst xs)):xs.length<=sizeLine/\∃(its:List Value) (n:Nat),Vals xs its/\xs.length=its.length/\s.heap.get? l=some { cls:=.type "list",data:=.seq its.toArray n }:=by
 obtain ⟨z,its,n,r,e⟩:=I.hok l _ hH
 exact ⟨z,its,n,r,r.length,e⟩
end
section
variable {X:Cx}
noncomputable def j6a:V->List V->Hp->VK->Prop:=λx vs H Q=>∃l xs y,x=.ref l/\vs=[y]/\H l=some (.lst xs)/\xs.length < sizeLine/\Q .non (upd H l (.lst (xs++[y])))
theorem q3g:MtM X "list.append" j6a:=by
 intro pins s σ H x vs v us Q I rx rv h
 obtain ⟨l,xs,y,rfl,rfl,hH,hz,q⟩:=h
 cases rx
 obtain ⟨u,rfl,ru⟩:=rv.one
 obtain ⟨z,its,n,r,hl,e⟩:=I.lstM hH
 refine call_meets F.slot_list_append ⟨_,e,rfl⟩ F.entry_list_append (F.args_list_append_2 _ _) (PySem.list_append l its.toArray n u (by rw [List.size_toArray];omega)) ⟨e,?_⟩
 refine ⟨.non,_,I.lset (its':=its++[u]) hH e (by simp) (r.append (.cons ru .nil)) ?_,rfl,q⟩
 rw [List.length_append,List.length_singleton]
 omega
end
section
variable {prog:Program} {w:World} {A:Around} {E:Value->Shared->Prop} {s:Shared}
end
section
variable {X:Cx}
end
end L2
namespace Att
open PySem PySem.W PySem.Calls PyProof.Rows
theorem q3j {P:Params} {h:Heap}:∀(ns:List Int) (vs:List Value),WellAll P h vs (ns.map WData.int)->IntsAre vs ns:=by
 intro ns
 induction ns with
 | nil=>
  intro vs w
  rw [List.map_nil] at w
  cases w
  exact .nil
 | cons n ns ih=>
  intro vs w
  rw [List.map_cons] at w
  cases w with
  | cons a b=>
   cases a
   exact .cons _ _ (ih _ b)
theorem j0h {l:OpenLaw} {n:Nat} (hn:l.most=some n) {P:Params} {h:Heap} {args:List WData} {vals:List Value}
 (hpre:l.row.toRowW.claim.pre args=true) (hwl:WellAll P h vals args) :
 ∃a vs ns,vals=[Value.ref a]/\args=[WData.list (ns.map WData.int)]/\h.get? a=some { cls:=.type "list",data:=.seq vs.toArray }/\IntsAre vs ns/\ns.length<=n:=by
 have hsh:WShape.hasAll [] args [.list .int]=true:=(pre_splitW hpre).1
 have hc:l.pre.holds [] { args:=args }=true:=(pre_splitW hpre).2
 obtain ⟨d,r,rfl,h1,h2⟩:=hasAllW_cons hsh
 obtain rfl:=hasAllW_nil h2
 obtain ⟨xs,rfl,h3⟩:=hasW_list h1
 obtain ⟨ns,rfl⟩:=items_int h3
 have hlen:ns.length<=n:=by
  unfold OpenLaw.pre at hc
  have h4:(WTm.not (.lt (.lit (.int (n:Int))) (.len (.arg 0)))).holds [] { args:=[.list (ns.map .int)] }=true:=by
   have h4:=(holds_andW hc).1
   rw [hn] at h4
   exact h4
  have h5:=condW_of h4 (w_not (w_lt w_lit (w_len_list (w_arg rfl))))
  rw [List.length_map] at h5
  refine Nat.le_of_not_lt λq=>?_
  have q':(n:Int) < ((ns.length:Nat):Int):=by omega
  first
   | (rw [decide_eq_true q'] at h5;exact absurd h5 (by decide))
   | (simp at h5;omega)
 cases hwl with
 | cons w1 w2=>
  cases w2
  cases w1 with
  | list ho hall=>exact ⟨_,_,ns,rfl,rfl,ho,q3j ns _ hall,hlen⟩
theorem q9B (l:OpenLaw) (args:List WData):l.row.toRowW.claim.post args (.bool true) args=true:=
 postW_of (r:=l.row.toRowW) (X:=(true==true))
  (show WShape.has [] (.bool true) .bool=true by first | rfl | decide | simp [WShape.has,WShape.arms,WShape.armsAll])
  (show (WTm.eq .res (.lit (.bool true))).value [] { args:=args,res:=some (.bool true),after:=args }=some (.bool (true==true)) from w_eq_bool (w_res rfl) w_lit) rfl
theorem attach_call {l:OpenLaw} {n:Nat} {q:Program} {loose:List Str} {XP:(Str->Option Value)->Heap->Prop} {YP:World->Heap->Prop} {d:DefRec}
 (hn:l.most=some n) (hdf:d.params.defaults=[])
 (call:∀(w:World) (s₀ s₁:Shared) (mg mb:Str->Option Value) (fa:Addr) (o:Obj) (pm cd doc:Value) (a:Addr) (vs:List Value) (ns:List Int),
  Ground q loose [] XP w s₀ mg mb s₁.heap->YP w s₁.heap ->
  s₁.heap.get? fa=some o->o.data=.func (docDef d.name d.params d.body d.scope pm cd doc)->s₁.heap.CodeRec cd d.name->mg d.name=some (.ref fa) ->
  s₁.heap.get? a=some { cls:=.type "list",data:=.seq vs.toArray }->IntsAre vs ns->ns.length<=n->s₁.gens=#[] ->
  codeAny (model l.prog w) callerA (.call (.ref fa) ⟨[.ref a],[]⟩) (λr s'=>r=.ok (.ret (.bool true))/\OldK s₁.heap s'.heap/\s'.os=s₁.os/\AllBare s'.gens) s₁) :
 WalkO q loose XP YP l.row.toRowW d [] (λf vs=>PySem.call f vs):=by
 intro w s₀ s₁ mg mb G Y fa o pm cd doc dV kV ho hd hcd hD hmg hg args vals as hpre hlay hrd hwl hlo
 obtain rfl:dV=.none:=Dflts.none hD hdf
 obtain rfl:kV=.none:=Dflts.noKw hD
 obtain ⟨a,vs,ns,rfl,rfl,hobj,hints,hlen⟩:=j0h hn hpre hwl
 refine enter_call (codeAny_mono (call w s₀ s₁ mg mb fa o pm cd doc a vs ns G Y ho (fd_plain hd) hcd hmg hobj hints hlen hg) λr s' hq=>?_)
 obtain ⟨rfl,h2,h3,h4⟩:=hq
 exact ⟨.inl ⟨.bool true,.bool true,[],rfl,λ_=>rfl,.bool true,q9B l _,λ_=>⟨List.Pairwise.nil,λ_ hm=>(nomatch hm)⟩⟩,h2,h3,h4⟩
section
variable {prog:Program} {w:World} {A:Around} {E:Value->Shared->Prop} {s:Shared} {K:Frag}
end
end Att
namespace L2
open PySem PySem.Spec PyProof.Rows
theorem q11:∀{vs:List Value} {ns:List Int},IntsAre vs ns->Vals (ns.map V.int) vs
 | _,_,.nil=>.nil
 | _,_,.cons n t h=>.cons ⟨t,rfl⟩ (q11 h)
noncomputable def Only (H:Hp):Prop:=∀b,H b=none∨∃o xs,H b=some (.frz o (.lst xs))
theorem j1H {P:Program} {w:World} {K:PySem.W.Frag} {mg mb:Str->Option Value} {CX:CXT} {k:Nat} {fa a:Addr} {fd:FuncData} {x:Str} {sp:Sp} {s₁:Shared} {vs:List Value} {ns:List Int}
 (KX:K.In s₁.heap) (hns:s₁.heap.Ns mainGlobals mg) (hb:s₁.heap.Ns builtinsNs mb) (hbb:∀x:Str,x≠"__name__"->mb x=bootBuiltins x) (hlim:s₁.heap.NoLimit) (hg:s₁.gens=#[])
 (ha:s₁.heap.get? a=some { cls:=.type "list",data:=.seq vs.toArray }) (hi:IntsAre vs ns) (hl:ns.length<=sizeLine) (hr:Room k callerA)
 (F:∀base:Heap,K.In base->base.Ns mainGlobals mg->q1j P w K mg base CX k fa fd [x] sp) (hbind:∀(s:Shared) (u:Value),BindsTo s fd ⟨[u],[]⟩ [(x,u)])
 (hsp:∀H:Hp,Only H->SqL K H a (ns.map V.int)->sp [.ref a] H (λv _=>v=.bl true) λ_ _ _=>False)
 (hCX:∀H e s',CX [] H s₁ (λ_ _ _=>False) e s'->False) :
 codeAny (model P w) callerA (.call (.ref fa) ⟨[.ref a],[]⟩) (λr s'=>r=.ok (.ret (.bool true))/\OldK s₁.heap s'.heap/\s'.os=s₁.os/\AllBare s'.gens) s₁:=by
 have rv:=q11 hi
 have lenV:=hi.length
 have core:∀H:Hp,Only H->SqL K H a (ns.map V.int)->HOk P w H s₁.heap->(∀b,H b≠none->b=a)->(H a≠none->K.lookup a=none) ->
  codeAny (model P w) callerA (.call (.ref fa) ⟨[.ref a],[]⟩) (λr s'=>r=.ok (.ret (.bool true))/\OldK s₁.heap s'.heap/\s'.os=s₁.os/\AllBare s'.gens) s₁:=by
  intro H hO hS hok hA hK
  have base_of:∀{b:Addr} {o:Obj},s₁.heap.get? b=some o->H b=none->(j1o s₁.heap H).get? b=some o:=λe n=>j1N e n
  have noA:∀{b:Addr} {o:Obj} {es:Array DictEntry} {ep:Nat},s₁.heap.get? b=some o->o.data=.dict es ep->H b=none:=λ{b o es ep} e d=>by
   cases q:H b with
   | none=>rfl
   | some u=>
    have e':b=a:=hA b (by rw [q];simp)
    subst e'
    rw [ha] at e;cases e
    have d':Data.seq vs.toArray _=Data.dict es ep:=d
    cases d'
  have nsK:∀{b:Addr} {m:Str->Option Value},s₁.heap.Ns b m->(j1o s₁.heap H).Ns b m:=λ{b m} ⟨o,es,ep,e,d,r⟩=>⟨o,es,ep,base_of e (noA e d),d,r⟩
  have hKb:K.In (j1o s₁.heap H):=λb o e=>base_of (KX b o e) (by
   cases q:H b with
   | none=>rfl
   | some u=>
    have e':b=a:=hA b (by rw [q];simp)
    subst e'
    rw [hK (by rw [q];simp)] at e;cases e)
  have hM:Mod K mg (j1o s₁.heap H):=⟨hKb,nsK hns,⟨mb,nsK hb,hbb⟩,let ⟨mc,h1,h2⟩:=hlim;⟨mc,nsK h1,h2⟩⟩
  have e0:Env0 P w K mg (j1o s₁.heap H) callerA [] s₁ H:=⟨rfl,hM,λb o e=>j6p e,Nat.le_of_eq (j0c _ _),trivial,λb hb=>absurd (show b∈([]:List Addr) from hb) (by simp),hok,.of_eq hg⟩
  refine codeAny_mono ((F _ hKb (nsK hns)).run callerA [] s₁ H ⟨[.ref a],[]⟩ [.ref a] [.ref a] _ _ hr e0 (hbind s₁ (.ref a)) (.cons rfl .nil) (hsp H hO hS)) λr s' h=>?_
  cases r with
  | error e=>exact (hCX H e s' h).elim
  | ok fl=>
   cases fl with
   | next=>exact False.elim h
   | brk=>exact False.elim h
   | cont=>exact False.elim h
   | ret u=>
    obtain ⟨v,H',os,bare,un,hok',r',q⟩:=h
    have q':v=.bl true:=q
    subst q'
    obtain rfl:u=Value.bool true:=r'
    refine ⟨rfl,OldK.of_keep λb o e=>?_,os,bare⟩
    cases q:H b with
    | none=>exact un.keep b o e q (by intro z;exact absurd (show b∈([]:List Addr) from z) (by simp)) (by simp)
    | some u=>
     rcases hO b with z | ⟨ob,xs,z⟩
     ·rw [q] at z;cases z
     ·have z2:=un.frzs b ob _ z
      obtain ⟨e1,_⟩:=hok b _ z
      obtain ⟨e2,_⟩:=hok' b _ z2
      rw [e] at e1;cases e1
      exact e2
 cases hk:K.lookup a with
 | some o=>
  have e:=KX a o hk
  rw [ha] at e
  cases e
  refine core (λ_=>none) (λ_=>.inl rfl) (.inr ⟨_,vs.toArray,_,hk,rfl,rfl,rfl,by rw [List.size_toArray,lenV];exact hl,by simpa using rv⟩) (λb u z=>by have z':(none:Option HO)=some u:=z;cases z') (λb z=>absurd rfl z) λz=>absurd rfl z
 | none=>
  refine core (λb=>if b=a then some (.frz { cls:=.type "list",data:=.seq vs.toArray } (.lst (ns.map V.int))) else none) (λb=>?_) (.inl (.inr ⟨{ cls:=.type "list",data:=.seq vs.toArray },if_pos rfl⟩)) (λb u z=>?_) (λb z=>?_) λ_=>hk
  ·by_cases hb:b=a
   ·exact .inr ⟨_,_,if_pos hb⟩
   ·exact .inl (if_neg hb)
  ·by_cases hb:b=a
   ·have z':=(if_pos hb).symm.trans z
    cases z'
    subst hb
    exact ⟨ha,by rw [List.length_map];exact hl,vs,_,rv,ha⟩
   ·have z':=(if_neg hb).symm.trans z
    cases z'
  ·by_cases hb:b=a
   ·exact hb
   ·exact absurd (if_neg hb) z
structure Fun (K:PySem.W.Frag) (x qual:Str) (st:Stmt) (f:Addr) (fd:FuncData):Prop where
 ex:∃(oc:Value) (od:Option Addr) (kV doc pm:Value) (an:Option Addr) (cdv ct:Value) (osl:Array (Option Value)),
  fd=PySem.W.fnOf x qual (q1Y st) (q1D st) (q0j st) .none kV doc pm an cdv ct/\K.lookup f=some ⟨oc,od,.func fd,osl⟩/\PySem.W.codeIn K cdv qual=true
 kp:PySem.W.keepIn K (.ref f)=true
section
variable {P:Program} {w:World} {K:PySem.W.Frag} {mg:Str->Option Value} {base:Heap}
theorem Fun.binds {x qual:Str} {st:Stmt} {f:Addr} {fd:FuncData} {ps:List Str} (F:Fun K x qual st f fd)
 (h:∀(kV doc pm:Value) (an:Option Addr) (cdv ct:Value) (us:List Value),us.length=ps.length->bindArgs (PySem.W.fnOf x qual (q1Y st) (q1D st) (q0j st) .none kV doc pm an cdv ct) ⟨us,[]⟩=pure (ps.zip us)):Binds K fd ps []:=by
 obtain ⟨oc,od,kV,doc,pm,an,cdv,ct,osl,rfl,lk,hcd⟩:=F.ex
 exact .all (h kV doc pm an cdv ct)
theorem q0A {x qual:Str} {st:Stmt} {f:Addr} {oc:Value} {od an:Option Addr} {osl:Array (Option Value)} {kV doc pm cdv ct:Value} (l:K.lookup f=some ⟨oc,od,.func (PySem.W.fnOf x qual (q1Y st) (q1D st) (q0j st) .none kV doc pm an cdv ct),osl⟩)
 (c:PySem.W.codeIn K cdv qual=true) (k:PySem.W.keepIn K (.ref f)=true):Fun K x qual st f (PySem.W.fnOf x qual (q1Y st) (q1D st) (q0j st) .none kV doc pm an cdv ct):=⟨⟨oc,od,kV,doc,pm,an,cdv,ct,osl,rfl,l,c⟩,k⟩
end
section
variable {X:Cx}
end
noncomputable def Same (H H':Hp):Prop:=∀b o,H b=some o->H' b=some o
theorem Same.refl (H:Hp):Same H H:=λ_ _ h=>h
theorem Same.trans {H H1 H2:Hp} (a:Same H H1) (b:Same H1 H2):Same H H2:=λc o h=>b c o (a c o h)
theorem Same.free {H H':Hp} (e:Same H H') {l:Addr} (h:H' l=Option.none):H l=Option.none:=by
 cases q:H l with
 | none=>rfl
 | some o=>
  rw [e l o q] at h
  cases h
theorem Same.seq {K:PySem.W.Frag} {H H':Hp} {a:Addr} {xs:List V} (e:Same H H') (h:SqL K H a xs):SqL K H' a xs:=by
 rcases h with (h | ⟨o,h⟩) | h
 ·exact .inl (.inl (e _ _ h))
 ·exact .inl (.inr ⟨o,e _ _ h⟩)
 ·exact .inr h
end L2
namespace L3
open PySem PySem.Spec PyProof.Rows L2
inductive Kp (J:Heap->Prop) {α:Type}:Sem α->Prop
 | pure (a:α):Kp J (.pure a)
 | raise (e:Value):Kp J (.raise e)
 | uns (x:String):Kp J (.unsupported x)
 | load {a:Addr} {q:Option Value} {k:Obj->Sem α}:(∀o,Kp J (k o))->Kp J (.load a q k)
 | upd {a:Addr} {q:Option Value} {f:Obj->Obj} {k:Unit->Sem α}:(∀h,J h->J (h.update a f))->Kp J (k ())->Kp J (.update a q f k)
 | alloc {o:Obj} {k:Addr->Sem α}:(∀a,Kp J (k a))->Kp J (.alloc o k)
 | stack {k:List (Code×Pos)->Sem α}:(∀l,Kp J (k l))->Kp J (.stack k)
 | rule {t:String} {k:Unit->Sem α}:Kp J (k ())->Kp J (.rule t k)
section
variable {J:Heap->Prop} {α β:Type}
theorem Kp.bind {m:Sem α} {f:α->Sem β} (h:Kp J m) (hf:∀a,Kp J (f a)):Kp J (m >>= f):=by
 show Kp J (m.bind f)
 induction h with
 | pure a=>exact hf a
 | raise e=>exact .raise e
 | uns x=>exact .uns x
 | load _ ih=>exact .load ih
 | upd h1 _ ih=>exact .upd h1 ih
 | alloc _ ih=>exact .alloc ih
 | stack _ ih=>exact .stack ih
 | rule _ ih=>exact .rule ih
theorem Kp.run {M:Model} {Γ:PySem.Ctx} {t:Sem α} {Q:α->Pos->Shared->Prop} {E:Value->Pos->Shared->Prop} (hp:∀h o,J h->J (h.push o)) (h:Kp J t) :
 ∀(p:Pos) (s:Shared),J s.heap->Sem.wp M Γ t Q E p s->Sem.wp M Γ t (λa p s=>Q a p s/\J s.heap) (λe p s=>E e p s/\J s.heap) p s:=by
 induction h with
 | pure a=>exact λp s j z=>⟨z,j⟩
 | raise e=>exact λp s j z=>⟨z,j⟩
 | uns x=>exact λp s j z=>z
 | load _ ih=>rintro p s j ⟨o,e,z⟩;exact ⟨o,e,ih o p s j z⟩
 | upd h1 _ ih=>rintro p s j ⟨e,z⟩;exact ⟨e,ih p _ (h1 _ j) z⟩
 | alloc _ ih=>exact λp s j z=>ih _ p _ (hp _ _ j) z
 | stack _ ih=>exact λp s j z=>ih _ p s j z
 | rule _ ih=>exact λp s j z=>ih p s j z
theorem Kp.any {M:Model} {A:Around} {t:Sem α} {Q:α->Shared->Prop} {E:Value->Shared->Prop} {s:Shared} (hp:∀h o,J h->J (h.push o)) (h:Kp J t) (j:J s.heap) (z:wpAny M A t Q E s) :
 wpAny M A t (λa s=>Q a s/\J s.heap) (λe s=>E e s/\J s.heap) s:=fun Γ p hΓ=>h.run hp p s j (z Γ p hΓ)
end
noncomputable def Nc (ea:Addr) (h:Heap):Prop:=∃(oe:Obj) (vs:Array Value),h.get? ea=some oe/\oe.data=.fields vs/\vs[2]?=some .none/\oe.dict=none
section
variable {ea:Addr}
theorem j2x {o:Obj} {vs:Array Value} (d:o.data=.fields vs):o.isFreed=false:=by
 obtain ⟨c,dd,da,sl⟩:=o
 have d:da=.fields vs:=d
 subst d
 rfl
theorem Nc.push (h:Heap) (o:Obj) (j:Nc ea h):Nc ea (h.push o):=by
 obtain ⟨oe,vs,e,d,z⟩:=j
 exact ⟨oe,vs,Heap.get?_push_of_some _ e,d,z⟩
theorem Nc.upd {b:Addr} {f:Obj->Obj} (hf:∀o vs,o.data=.fields vs->vs[2]?=some .none->∃ws,(f o).data=.fields ws/\ws[2]?=some .none/\(f o).dict=o.dict) (h:Heap) (j:Nc ea h):Nc ea (h.update b f):=by
 obtain ⟨oe,vs,e,d,z,dn⟩:=j
 by_cases q:b=ea
 ·subst q
  obtain ⟨ws,d',z',dd⟩:=hf oe vs d z
  exact ⟨f oe,ws,Heap.get?_update_self _ e (j2x d'),d',z',dd.trans dn⟩
 ·exact ⟨oe,vs,by rw [Heap.get?_update_other _ _ q];exact e,d,z,dn⟩
theorem Nc.set {i:Nat} {x:Value} (hi:i≠2) (o:Obj) (vs:Array Value) (d:o.data=.fields vs) (z:vs[2]?=some .none):∃ws,(Obj.mapFields (·.setIfInBounds i x) o).data=.fields ws/\ws[2]?=some .none/\(Obj.mapFields (·.setIfInBounds i x) o).dict=o.dict:=by
 obtain ⟨c,dd,da,sl⟩:=o
 have d:da=.fields vs:=d
 subst d
 exact ⟨_,rfl,by rw [Array.getElem?_setIfInBounds_ne hi];exact z,rfl⟩
theorem q55 {v:Value} {J:Heap->Prop}:Kp J (PySem.fieldsOf v):=by
 unfold PySem.fieldsOf
 split
 ·refine Kp.bind (.load λo=>.pure o) λo=>?_
  split
  ·exact .pure _
  ·exact .uns _
 ·exact .uns _
theorem q29 {v:Value} {i:Nat} {J:Heap->Prop}:Kp J (field v i):=by
 unfold field
 refine Kp.bind q55 λvs=>?_
 split
 ·exact .pure _
 ·exact .uns _
theorem q2M {v x:Value} {i:Nat} (hi:i≠2):Kp (Nc ea) (setField v i x):=by
 unfold setField
 split
 ·unfold updateField
  refine Kp.bind (.load λo=>.pure o) λo=>?_
  split
  ·split
   ·exact .upd (Nc.upd λo vs=>Nc.set hi o vs) (.pure ())
   ·exact .uns _
  ·exact .uns _
 ·exact .uns _
theorem q49 {u:Value} {f:Option Addr}:Kp (Nc ea) (setFlight u f):=by
 unfold setFlight
 refine Kp.bind q29 λtb=>?_
 split
 ·exact q2M (by decide)
 ·exact .pure ()
theorem q7f:∀(l:List Env),Kp (Nc ea) (readyFrames l)
 | []=>.pure ()
 | env::outer=>by
  unfold readyFrames
  split
  ·refine Kp.bind (.load λo=>.pure o) λo=>?_
   split
   ·exact .pure ()
   ·refine Kp.bind ?_ λim=>Kp.bind ?_ λback=>Kp.bind (.upd (Nc.upd λo vs d z=>⟨vs,d,z,rfl⟩) (.pure ())) λ_=>q7f outer
    ·unfold behindIsImport
     split
     ·exact .pure _
     ·split
      ·exact .pure _
      ·exact Kp.bind q29 λ_=>.pure _
    ·unfold keptBack
     split
     ·split
      ·exact .pure _
      ·exact Kp.bind (Kp.bind (.stack λl=>.pure l) λ_=>.pure _) λ_=>.pure _
     ·exact .pure _
  ·exact .uns _
theorem q7W {env:Env}:Kp (Nc ea) (PySem.frameOf env):=by
 unfold PySem.frameOf
 refine Kp.bind (Kp.bind (.stack λl=>.pure l) λ_=>.pure _) λl=>Kp.bind ?_ λo=>?_
 ·unfold frameObject
  split
  ·exact .pure _
  ·exact Kp.bind (q7f _) λ_=>.pure _
 ·split
  ·exact .pure _
  ·exact .uns _
theorem q48 (vs:List Value):Kp (Nc ea) (newFields "traceback" vs):=by
 unfold newFields newObj
 have fin:∀d,Kp (Nc ea) (newObjAsIs (.type "traceback") d none):=λd=>Kp.bind (.alloc λa=>.pure a) λa=>.pure _
 dsimp only
 split
 ·exact Kp.bind (.uns _) λ_=>fin _
 ·exact fin _
theorem q4S {u:Value} {env:Env}:Kp (Nc ea) (noteFrame u env):=by
 unfold noteFrame
 split
 ·refine Kp.bind q29 λhead=>?_
  rename_i f _
  have last:Kp (Nc ea) (do setField u 1 (<-EntryCells.newEntry head (<-PySem.frameOf env) .none (rawInt f) .none (<-entryPlaceOf f (head != .none)))):=by
   refine Kp.bind q7W λfr=>Kp.bind ?_ λpl=>Kp.bind ?_ λtb=>q2M (by decide)
   ·unfold entryPlaceOf
    refine Kp.bind (.stack λl=>.pure l) λacts=>?_
    split
    ·exact .pure _
    ·exact .pure _
   ·exact q48 _
  split
  ·refine Kp.bind q29 λx=>?_
   split
   ·exact .pure ()
   ·exact Kp.bind (q2M (by decide)) λ_=>last
  ·exact last
 ·exact .uns _
theorem q7A {u:Value} {env:Env}:Kp (Nc ea) (leaving env u):=Kp.bind q4S λ_=>q49
end
structure j7u (K:PySem.W.Frag) (C:Addr):Prop where
 ga:PySem.W.findIn K (.ref C) "__getattribute__" = some (some (.builtin "BaseException.__getattribute__"))
 gh:PySem.W.findIn K (.ref C) "__getattr__" = some none
 ha:PySem.W.findIn K (.ref C) "__class__" = some (some (.builtin "object.__class__"))
 hn:PySem.W.specialIn K (.builtin "object.__class__") "__get__" = some (some (.builtin "getset_descriptor.__get__"))
 htk:PySem.W.takesIn K (.builtin "object.__class__")=some true
 hm:PySem.W.mroIn K C (.type "object")=some true
 hb:PySem.W.mroIn K C (.type "BaseException")=some true
noncomputable def j5u (x C:Addr) (h:Heap):Prop:=∃o,PySem.W.InstAt h x o C none
section
variable {K:PySem.W.Frag} {x C:Addr}
theorem j2v {prog:Program} {w:World} {A:Around} {E:Value->Shared->Prop} {Q:Fin->Shared->Prop} {s:Shared} {tk:Tok} (F:j7u K C) (X:K.In s.heap) (p:j5u x C s.heap) (hq:Q (.done (.ret (.ref C))) s) :
 wpAny (model prog w) A (Builtin.«object.__getattribute__» ⟨[.ref x,.str "__class__" tk],[]⟩) Q E s:=by
 obtain ⟨o,I⟩:=p
 have hc:(PySem.W.clsIn K C).isSome=true:=by
  obtain ⟨cd,h,_⟩:=Option.bind_eq_some_iff.mp F.hm
  rw [h];rfl
 have hf:PySem.W.findObj K C none "__class__" = some (.bind (.builtin "getset_descriptor.__get__") (.builtin "object.__class__")):=by
  obtain ⟨cd,hc⟩:=Option.isSome_iff_exists.mp hc
  unfold PySem.W.findObj
  rw [hc,Option.bind_some,F.ha,Option.bind_some]
  simp [F.hn,F.htk]
 have L0:=I.type (M:=model prog w)
 have L1:=PySem.W.looks_find (M:=model prog w) X I hf
 unfold Builtin.«object.__getattribute__»
 refine wpAny_bind (m:=slotArgs _ _ _) (wpAny_pure ?_)
 refine wpAny_bind (wpAny_pure ?_)
 refine wpAny_bind (L0.at (wpAny_bind (L1.at ?_)))
 show wpAny _ _ (holding [_] (call _ _) >>= ret) _ _ _
 exact wpAny_bind (wpAny_holding (wpAny_call (PySem.W.class_get X I F.hm (wpAny_pure hq))))
theorem q8f {prog:Program} {w:World} {A:Around} {E:Value->Shared->Prop} {Q:Option Value->Shared->Prop} {s:Shared} (F:j7u K C) (X:K.In s.heap) (p:j5u x C s.heap) (hq:Q (some (.ref C)) { s with toks:=s.toks+1 }) :
 wpAny (model prog w) A (getAttr? (.ref x) "__class__") Q E s:=by
 have p2:=p
 obtain ⟨o,I⟩:=p
 have L0:=I.type (M:=model prog w)
 have L1:=PySem.W.looks_findIn (M:=model prog w) X F.ga
 have L2:=PySem.W.looks_findIn (M:=model prog w) X F.gh
 have LB:=PySem.W.looks_mroIn (M:=model prog w) X F.hb
 have ne:¬(onTheHeap (Value.ref C) && Value.builtin "BaseException.__getattribute__"==Value.builtin "object.__getattribute__")=true:=by
  have:(Value.builtin "BaseException.__getattribute__"==Value.builtin "object.__getattribute__")=false:=by decide +kernel
  rw [this];simp
 unfold getAttr? getAttrBy? getAttrBy
 refine wpAny_bind (wpAny_mkText (wpAny_bind (wpAny_attempt (wpAny_holding (wpAny_bind (L0.at (wpAny_bind (L1.at ?_))))))))
 dsimp only
 rw [if_neg ne]
 unfold getAttrByItsOwn hookBefore
 refine wpAny_bind ?_
 rw [if_pos (show onTheHeap (Value.ref C)=true from rfl)]
 refine L2.at ?_
 refine wpAny_bind (wpAny_attempt (wpAny_holding ?_))
 unfold callGetattribute
 rw [if_neg (by simp)]
 unfold boundAndCalled
 have f3:=PySem.F.excAttr_ValueError.ga.bind (.ref x)
 rw [f3]
 refine wpAny_bind (wpAny_pure ?_)
 have hk:builtinKind "BaseException.__getattribute__" = some .slot:=by decide +kernel
 have hsplit:splitId "BaseException.__getattribute__" = some ("BaseException","__getattribute__"):=by decide +kernel
 refine wpAny_call (codeAny_call_builtin PySem.F.excAttr_ValueError.ga.plain PySem.F.entry_bexc_ga ?_)
 have ha:=PySem.F.args_bexc_ga (.ref x) (.str "__class__" s.toks)
 simp only [checkBuiltinCall,hk,hsplit]
 refine wpAny_bind ?_
 unfold isInstance
 refine wpAny_bind (L0.at (LB.at ?_))
 rw [if_neg (by simp)]
 refine wpAny_of_eq (a:=()) ha ?_
 exact j2v (s:={ s with toks:=s.toks+1 }) F X p2 (PySem.W.handed_on rfl (wpAny_pure hq))
theorem j2b (F:j7u K C):PySem.W.KitX K (.ref x) (.ref C) (j5u x C) where
 ty:=λ_ _ _ ⟨_,I⟩=>I.type
 it:=λ_ _ X _=>by
  obtain ⟨cdD,hcD,_⟩:=Option.bind_eq_some_iff.mp F.hm
  unfold PySem.W.clsIn at hcD
  split at hcD
  ·rename_i c' d' cd' sl' ho
   intro A' Q' E' s' k q
   unfold isType loadHead
   exact wpAny_bind (wpAny_loadPart (k _ _ (X _ _ ho)) (wpAny_pure q))
  ·cases hcD
 ne:=λh tp dd its n sl X htp=>by
  obtain ⟨cdD,hcD,_⟩:=Option.bind_eq_some_iff.mp F.hm
  refine Bool.eq_false_iff.mpr λq=>?_
  have e:C=tp:=Value.ref.inj (beq_iff_eq.mp q)
  subst e
  unfold PySem.W.clsIn at hcD
  split at hcD
  ·rename_i c' d' cd' sl' ho
   have z:=(X _ _ ho).symm.trans htp
   cases z
  ·cases hcD
 ca:=λX p k=>q8f F X p k
end
inductive D where
 | non | bl (b:Bool) | int (i:Int) | str (x:Str)
 | tup (ds:List D) | lst (ds:List D) | ins (c:Nat) (ds:List D) | exc (c:Nat)
inductive Out (α:Type) where
 | ok (a:α) | exc (c:Nat) | bad
noncomputable def Out.bind {α β:Type}:Out α->(α->Out β)->Out β
 | .ok a,k=>k a
 | .exc c,_=>.exc c
 | .bad,_=>.bad
@[simp] theorem Out.ok_bind {α β:Type} (a:α) (k:α->Out β):(Out.ok a).bind k=k a:=(rfl)
@[simp] theorem Out.exc_bind {α β:Type} (c:Nat) (k:α->Out β):(Out.exc c:Out α).bind k=.exc c:=(rfl)
@[simp] theorem Out.bad_bind {α β:Type} (k:α->Out β):(Out.bad:Out α).bind k=.bad:=(rfl)
structure Tb where
 ca:Nat->Addr
 fa:Addr->List Str
 me:Option Addr:=none
 mo:Option Addr:=none
noncomputable def Tb.fl (T:Tb) (c:Nat):List Str:=T.fa (T.ca c)
section
variable (T:Tb) (K:PySem.W.Frag)
noncomputable def FzL (K:PySem.W.Frag) (H:Hp) (a:Addr) (xs:List V):Prop:=
 (∃o,H a=some (.frz o (.lst xs))) ∨
  ∃(o:Obj) (its:Array Value) (n:Nat),K.lookup a=some o/\o.cls=.type "list"/\o.dict=none/\o.data=.seq its n/\its.size<=sizeLine/\Vals xs its.toList
theorem FzL.sq {K:PySem.W.Frag} {H:Hp} {a:Addr} {xs:List V} (h:FzL K H a xs):SqL K H a xs:=by
 rcases h with h | h
 ·exact .inl (.inr h)
 ·exact .inr h
mutual
noncomputable def Rep (T:Tb) (K:PySem.W.Frag) (H:Hp):D->V->Prop
 | .non,v=>v=.non
 | .bl b,v=>v=.bl b
 | .int i,v=>v=.int i
 | .str x,v=>v=.str x
 | .tup ds,v=>∃a vs,v=.ref a/\SqT K H a vs/\RepL T K H ds vs
 | .lst ds,v=>∃a vs,v=.ref a/\FzL K H a vs/\RepL T K H ds vs
 | .ins c ds,v=>∃a dx fs,v=.ref a/\H a=some (.ins (T.ca c) dx fs)/\fs.map (·.1)=T.fl c/\RepL T K H ds (fs.map (·.2))
 | .exc c,v=>∃a o,v=.ref a/\H a=some (.frz o (.ext λ_=>True))/\o.cls=.ref (T.ca c)/\PySem.W.notCls o=true/\o.dict=none
noncomputable def RepL (T:Tb) (K:PySem.W.Frag) (H:Hp):List D->List V->Prop
 | [],vs=>vs=[]
 | d::ds,vs=>∃v r,vs=v::r/\Rep T K H d v/\RepL T K H ds r
end
end
section
variable {T:Tb} {K:PySem.W.Frag} {H H':Hp}
theorem Same.sqT {a:Addr} {xs:List V} (e:Same H H') (h:SqT K H a xs):SqT K H' a xs:=by
 rcases h with (h | ⟨o,h⟩) | h
 ·exact .inl (.inl (e _ _ h))
 ·exact .inl (.inr ⟨o,e _ _ h⟩)
 ·exact .inr h
theorem Same.fz {a:Addr} {xs:List V} (e:Same H H') (h:FzL K H a xs):FzL K H' a xs:=by
 rcases h with ⟨o,h⟩ | h
 ·exact .inl ⟨o,e _ _ h⟩
 ·exact .inr h
mutual
theorem Rep.mono (e:Same H H'):∀(d:D) (v:V),Rep T K H d v->Rep T K H' d v
 | .non,_,h=>h
 | .bl _,_,h=>h
 | .int _,_,h=>h
 | .str _,_,h=>h
 | .tup ds,_,h=>by
  obtain ⟨a,vs,r1,r2,r3⟩:=h
  exact ⟨a,vs,r1,Same.sqT e r2,RepL.mono e ds vs r3⟩
 | .lst ds,_,h=>by
  obtain ⟨a,vs,r1,r2,r3⟩:=h
  exact ⟨a,vs,r1,Same.fz e r2,RepL.mono e ds vs r3⟩
 | .ins c ds,_,h=>by
  obtain ⟨a,dx,fs,r1,r2,r3,r4⟩:=h
  exact ⟨a,dx,fs,r1,e _ _ r2,r3,RepL.mono e ds _ r4⟩
 | .exc c,_,h=>by
  obtain ⟨a,o,r1,r2,r3⟩:=h
  exact ⟨a,o,r1,e _ _ r2,r3⟩
theorem RepL.mono (e:Same H H'):∀(ds:List D) (vs:List V),RepL T K H ds vs->RepL T K H' ds vs
 | [],_,h=>h
 | d::ds,_,h=>by
  obtain ⟨v,r,r1,r2,r3⟩:=h
  exact ⟨v,r,r1,Rep.mono e d v r2,RepL.mono e ds r r3⟩
end
mutual
theorem q21 {T:Tb} {K:PySem.W.Frag} {H:Hp} {z u:Option Addr}:∀(d:D) (v:V),Rep { T with me:=z,mo:=u } K H d v↔Rep T K H d v
 | .non,_=>Iff.rfl
 | .bl _,_=>Iff.rfl
 | .int _,_=>Iff.rfl
 | .str _,_=>Iff.rfl
 | .tup ds,_=>⟨λ⟨a,vs,r1,r2,r3⟩=>⟨a,vs,r1,r2,(repL_me ds vs).mp r3⟩,λ⟨a,vs,r1,r2,r3⟩=>⟨a,vs,r1,r2,(repL_me ds vs).mpr r3⟩⟩
 | .lst ds,_=>⟨λ⟨a,vs,r1,r2,r3⟩=>⟨a,vs,r1,r2,(repL_me ds vs).mp r3⟩,λ⟨a,vs,r1,r2,r3⟩=>⟨a,vs,r1,r2,(repL_me ds vs).mpr r3⟩⟩
 | .ins c ds,_=>⟨λ⟨a,dx,fs,r1,r2,r3,r4⟩=>⟨a,dx,fs,r1,r2,r3,(repL_me ds _).mp r4⟩,λ⟨a,dx,fs,r1,r2,r3,r4⟩=>⟨a,dx,fs,r1,r2,r3,(repL_me ds _).mpr r4⟩⟩
 | .exc c,_=>Iff.rfl
theorem repL_me {T:Tb} {K:PySem.W.Frag} {H:Hp} {z u:Option Addr}:∀(ds:List D) (vs:List V),RepL { T with me:=z,mo:=u } K H ds vs↔RepL T K H ds vs
 | [],_=>Iff.rfl
 | d::ds,_=>⟨λ⟨v,r,r1,r2,r3⟩=>⟨v,r,r1,(q21 d v).mp r2,(repL_me ds r).mp r3⟩,λ⟨v,r,r1,r2,r3⟩=>⟨v,r,r1,(q21 d v).mpr r2,(repL_me ds r).mpr r3⟩⟩
end
theorem RepL.length:∀(ds:List D) (vs:List V),RepL T K H ds vs->vs.length=ds.length
 | [],_,h=>by cases h;rfl
 | d::ds,_,h=>by
  obtain ⟨v,r,rfl,_,h3⟩:=h
  simp [RepL.length ds r h3]
theorem RepL.get:∀(ds:List D) (vs:List V) (i:Nat) (d:D),RepL T K H ds vs->ds[i]?=some d->∃v,vs[i]?=some v/\Rep T K H d v
 | [],_,_,_,_,e=>by simp at e
 | d::ds,_,0,x,h,e=>by
  obtain ⟨v,r,rfl,h2,_⟩:=h
  simp at e;subst e
  exact ⟨v,rfl,h2⟩
 | d::ds,_,i+1,x,h,e=>by
  obtain ⟨v,r,rfl,_,h3⟩:=h
  obtain ⟨u,e1,e2⟩:=RepL.get ds r i x h3 (by simpa using e)
  exact ⟨u,by simpa using e1,e2⟩
theorem RepL.append:∀(ds:List D) (vs:List V) (es:List D) (us:List V),RepL T K H ds vs->RepL T K H es us->RepL T K H (ds++es) (vs++us)
 | [],_,_,_,h,h'=>by cases h;exact h'
 | d::ds,_,es,us,h,h'=>by
  obtain ⟨v,r,rfl,h2,h3⟩:=h
  exact ⟨v,r++us,rfl,h2,RepL.append ds r es us h3 h'⟩
theorem RepL.set:∀(ds:List D) (vs:List V) (i:Nat) (d:D) (v:V),RepL T K H ds vs->Rep T K H d v->RepL T K H (ds.set i d) (vs.set i v)
 | [],_,_,_,_,h,_=>by cases h;exact rfl
 | d::ds,_,0,x,y,h,q=>by
  obtain ⟨v,r,rfl,_,h3⟩:=h
  exact ⟨y,r,rfl,q,h3⟩
 | d::ds,_,i+1,x,y,h,q=>by
  obtain ⟨v,r,rfl,h2,h3⟩:=h
  exact ⟨v,r.set i y,rfl,h2,RepL.set ds r i x y h3 q⟩
theorem RepL.ints (ns:List Int):RepL T K H (ns.map D.int) (ns.map V.int):=by
 induction ns with
 | nil=>exact rfl
 | cons n ns ih=>exact ⟨.int n,ns.map V.int,rfl,rfl,ih⟩
end
noncomputable abbrev WK:=Int×List Int×Int
noncomputable abbrev KI:=Sum Int (List Int)
@[simp] noncomputable def w24 (k:WK):List KI:=[.inl k.1,.inr k.2.1,.inl k.2.2]
noncomputable abbrev WE:=WK×Addr×Value
@[simp] noncomputable def w2U (k:WK):D:=.tup [.int k.1,.tup (k.2.1.map D.int),.int k.2.2]
noncomputable def kiH:KI->Int
 | .inl i=>hashInt i
 | .inr is=>reduceHash (Builtin.Tuple.tupleHashOf (is.map hashInt))
noncomputable def w3w (x:WE):DictEntry:=⟨reduceHash (Builtin.Tuple.tupleHashOf ((w24 x.1).map kiH)),.ref x.2.1,x.2.2⟩
noncomputable def w3q (d:Addr) (xs:List WE) (h:Heap):Prop:=∃o es ep,h.get? d=some o/\o.ExactDict/\o.data=.dict es ep/\es.toList=xs.map w3w/\(xs.map (·.1)).Nodup
noncomputable def w0G (kvs:List (WK×Bool)) (xs:List WE):Prop:=xs.map (λe=>(e.1,e.2.2))=kvs.map (λq=>(q.1,Value.bool q.2))
inductive Sl where
 | no | sh (d:D) | ow (ds:List D) | bo (ds:List D) | me (c:Nat) (ds:List D)
 | ox (t:Bool) (pre ds post:List D)
 | od (kvs:List (WK×Bool)) | mo (ds:List D) | lm (ms:List (Option Nat×List D)) | bi (c:Nat) (ds:List D)
inductive Rv where
 | sh (d:D) | fr (ds:List D)
 | tf (t:Bool) (pre ds post:List D)
noncomputable abbrev Ro:=List Sl
noncomputable def OutAt (H:Hp):Bool->Addr->List V->Prop
 | true,a,us=>H a=some (.tup us)
 | false,a,us=>∃o,H a=some (.frz o (.lst us))
theorem OutAt.uniq {H:Hp} {t:Bool} {a:Addr} {us ws:List V} (h:OutAt H t a us) (h':OutAt H t a ws):us=ws:=by
 cases t with
 | true=>
  have h:H a=some (.tup us):=h
  have h':H a=some (.tup ws):=h'
  rw [h] at h';cases h';rfl
 | false=>
  obtain ⟨o,h⟩:=h
  obtain ⟨o',h'⟩:=h'
  rw [h] at h';cases h';rfl
theorem OutAt.keep {H H':Hp} {t:Bool} {a:Addr} {us:List V} (k:∀o,H a=some o->(∀xs,o≠.lst xs)->(∀c dx fs,o≠.ins c dx fs)->H' a=some o) (h:OutAt H t a us):OutAt H' t a us:=by
 cases t with
 | true=>exact k _ h (λ_ z=>by cases z) (λ_ _ _ z=>by cases z)
 | false=>
  obtain ⟨o,h⟩:=h
  exact ⟨o,k _ h (λ_ z=>by cases z) (λ_ _ _ z=>by cases z)⟩
theorem OutAt.nlst {H:Hp} {t:Bool} {a:Addr} {us ws:List V} (h:OutAt H t a us):H a≠some (.lst ws):=λz=>by
 cases t with
 | true=>
  have h:H a=some (.tup us):=h
  rw [h] at z;cases z
 | false=>
  obtain ⟨o,h⟩:=h
  rw [h] at z;cases z
noncomputable def InsAt (T:Tb) (K:PySem.W.Frag) (H:Hp) (c:Nat) (a:Addr) (ds:List D):Prop:=∃dx fs,H a=some (.ins (T.ca c) dx fs)/\fs.map (·.1)=(T.fl c).take ds.length/\ds.length < (T.fl c).length/\RepL T K H ds (fs.map (·.2))
noncomputable def MuAt (T:Tb) (K:PySem.W.Frag) (G H:Hp) (v:V):Option Nat×List D->Prop
 | (none,ds)=>∃a vs,v=.ref a/\H a=some (.lst vs)/\G a=none/\RepL T K H ds vs
 | (some c,ds)=>∃a,v=.ref a/\T.me≠some a/\G a=none/\InsAt T K H c a ds
noncomputable def SlOk (T:Tb) (K:PySem.W.Frag) (G H:Hp) (x:Option (Option V)):Sl->Prop
 | .no=>True
 | .sh d=>∃v,x=some (some v)/\Rep T K H d v
 | .ow ds=>∃a vs,x=some (some (.ref a))/\H a=some (.lst vs)/\G a=none/\RepL T K H ds vs
 | .bo ds=>∃a vs,x=some (some (.ref a))/\G a=some (.lst vs)/\RepL T K H ds vs
 | .me c ds=>∃a dx fs,T.me=some a/\x=some (some (.ref a))/\H a=some (.ins (T.ca c) dx fs)/\G a=none/\fs.map (·.1)=(T.fl c).take ds.length/\RepL T K H ds (fs.map (·.2))
 | .ox t pre ds post=>∃a vp b vq ws,x=some (some (.ref a))/\OutAt H t a (vp++.ref b::vq)/\RepL T K H pre vp/\RepL T K H post vq/\H b=some (.lst ws)/\G b=none/\RepL T K H ds ws
 | .od kvs=>∃d xs,x=some (some (.ref d))/\H d=some (.ext (w3q d xs))/\G d=none/\(d==sysModules)=false/\w0G kvs xs/\∀e∈xs,Rep T K H (w2U e.1) (.ref e.2.1)
 | .mo ds=>∃a vs,T.mo=some a/\x=some (some (.ref a))/\H a=some (.lst vs)/\G a=none/\RepL T K H ds vs
 | .lm ms=>∃a us,x=some (some (.ref a))/\OutAt H false a us/\us.length=ms.length/\(∀(i:Nat) (m:Option Nat×List D) (v:V),ms[i]?=some m->us[i]?=some v->MuAt T K G H v m)/\∀(i j:Nat) (v:V),us[i]?=some v->us[j]?=some v->i=j
 | .bi c ds=>∃a dx fs,x=some (some (.ref a))/\G a=some (.ins (T.ca c) dx fs)/\fs.map (·.1)=(T.fl c).take ds.length/\ds.length < (T.fl c).length/\RepL T K H ds (fs.map (·.2))
noncomputable def q3J (H:Hp) (x:Option (Option V)) (b:Addr):Sl->Prop
 | .ow _=>x=some (some (.ref b))
 | .mo _=>x=some (some (.ref b))
 | .lm ms=>∃(a:Addr) (us:List V) (i:Nat) (ks:List D),x=some (some (.ref a))/\OutAt H false a us/\us[i]?=some (.ref b)/\ms[i]?=some (none,ks)
 | .ox t pre _ _=>∃a us,x=some (some (.ref a))/\OutAt H t a us/\us[pre.length]?=some (.ref b)
 | _=>False
structure FR (T:Tb) (K:PySem.W.Frag) (G H:Hp) (σ:L2.St) (ρ:Ro):Prop where
 same:Same G H
 len:ρ.length=σ.length
 sl:∀(i:Nat) (s:Sl),ρ[i]?=some s->SlOk T K G H σ[i]? s
 ne:∀(i j:Nat) (s t:Sl) (b:Addr),i≠j->ρ[i]?=some s->ρ[j]?=some t->q3J H σ[i]? b s->q3J H σ[j]? b t->False
 me:∀x,T.me=some x->σ[0]?=some (some (.ref x))
 me0:∀(i:Nat) (c:Nat) (ds:List D),ρ[i]?=some (.me c ds)->i=0
noncomputable def q5J (T:Tb) (K:PySem.W.Frag) (G H:Hp) (v:V):Rv->Prop
 | .sh d=>Rep T K H d v
 | .fr ds=>∃a vs,v=.ref a/\H a=some (.lst vs)/\G a=none/\RepL T K H ds vs
 | .tf t pre ds post=>∃a vp b vq ws,v=.ref a/\OutAt H t a (vp++.ref b::vq)/\RepL T K H pre vp/\RepL T K H post vq/\H b=some (.lst ws)/\G b=none/\RepL T K H ds ws
section
variable {T:Tb} {K:PySem.W.Frag} {G H H':Hp} {σ:L2.St} {ρ:Ro}
theorem InsAt.mono {c:Nat} {a:Addr} {ds:List D} (e:Same H H') (h:InsAt T K H c a ds):InsAt T K H' c a ds:=by
 obtain ⟨dx,fs,e1,e2,e3,r⟩:=h
 exact ⟨dx,fs,e _ _ e1,e2,e3,RepL.mono e _ _ r⟩
theorem MuAt.mono {v:V}:∀{m:Option Nat×List D},Same H H'->MuAt T K G H v m->MuAt T K G H' v m
 | (none,_),e,⟨a,vs,e1,e2,e3,r⟩=>⟨a,vs,e1,e _ _ e2,e3,RepL.mono e _ _ r⟩
 | (some _,_),e,⟨a,e1,e2,e3,r⟩=>⟨a,e1,e2,e3,r.mono e⟩
theorem SlOk.mono {x:Option (Option V)} {s:Sl} (e:Same H H') (h:SlOk T K G H x s):SlOk T K G H' x s:=by
 cases s with
 | no=>trivial
 | sh d=>
  obtain ⟨v,e1,r⟩:=h
  exact ⟨v,e1,Rep.mono e _ _ r⟩
 | ow ds=>
  obtain ⟨a,vs,e1,e2,e3,r⟩:=h
  exact ⟨a,vs,e1,e _ _ e2,e3,RepL.mono e _ _ r⟩
 | bo ds=>
  obtain ⟨a,vs,e1,e2,r⟩:=h
  exact ⟨a,vs,e1,e2,RepL.mono e _ _ r⟩
 | me c ds=>
  obtain ⟨a,dx,fs,e0,e1,e2,e3,e4,r⟩:=h
  exact ⟨a,dx,fs,e0,e1,e _ _ e2,e3,e4,RepL.mono e _ _ r⟩
 | ox t pre ds post=>
  obtain ⟨a,vp,b,vq,ws,e1,e2,r1,r2,e3,e4,r3⟩:=h
  exact ⟨a,vp,b,vq,ws,e1,e2.keep λo q _ _=>e _ _ q,RepL.mono e _ _ r1,RepL.mono e _ _ r2,e _ _ e3,e4,RepL.mono e _ _ r3⟩
 | mo ds=>
  obtain ⟨a,vs,e0,e1,e2,e3,r⟩:=h
  exact ⟨a,vs,e0,e1,e _ _ e2,e3,RepL.mono e _ _ r⟩
 | od kvs=>
  obtain ⟨d,xs,e1,e2,e3,e4,e5,e6⟩:=h
  exact ⟨d,xs,e1,e _ _ e2,e3,e4,e5,λq hq=>Rep.mono e _ _ (e6 q hq)⟩
 | lm ms=>
  obtain ⟨a,us,e1,e2,e3,e4,e5⟩:=h
  exact ⟨a,us,e1,e2.keep λo q _ _=>e _ _ q,e3,λi m v q1 q2=>MuAt.mono e (e4 i m v q1 q2),e5⟩
 | bi c ds=>
  obtain ⟨a,dx,fs,e1,e2,e3,e4,r⟩:=h
  exact ⟨a,dx,fs,e1,e2,e3,e4,RepL.mono e _ _ r⟩
theorem SlOk.own {x:Option (Option V)} {s:Sl} {b:Addr} (h:SlOk T K G H x s) (o:q3J H x b s):(∃ws,H b=some (.lst ws))/\G b=none:=by
 cases s with
 | ow ds=>
  obtain ⟨a,vs,e1,e2,e3,r⟩:=h
  have o:x=some (some (.ref b)):=o
  rw [e1] at o;cases o
  exact ⟨⟨vs,e2⟩,e3⟩
 | ox t pre ds post=>
  obtain ⟨a,vp,c,vq,ws,e1,e2,r1,r2,e3,e4,r3⟩:=h
  obtain ⟨a',us,o1,o2,o3⟩:=o
  rw [e1] at o1;cases o1
  have:=e2.uniq o2
  subst this
  rw [<-RepL.length _ _ r1,List.getElem?_append_right (Nat.le_refl _),Nat.sub_self] at o3
  have o3:(some (V.ref c))=some (.ref b):=o3
  cases o3
  exact ⟨⟨ws,e3⟩,e4⟩
 | mo ds=>
  obtain ⟨a,vs,_,e1,e2,e3,r⟩:=h
  have o:x=some (some (.ref b)):=o
  rw [e1] at o;cases o
  exact ⟨⟨vs,e2⟩,e3⟩
 | lm ms=>
  obtain ⟨a,us,e1,e2,e3,e4,e5⟩:=h
  obtain ⟨a',us',i,ks,o1,o2,o3,o4⟩:=o
  rw [e1] at o1;cases o1
  have:=e2.uniq o2
  subst this
  obtain ⟨c,vs,q,q1,q2,_⟩:=e4 i _ _ o4 o3
  cases q
  exact ⟨⟨vs,q1⟩,q2⟩
 | _=>exact o.elim
theorem SlOk.back {x:Option (Option V)} {s:Sl} {b:Addr} (h:SlOk T K G H x s) (k:∀a o,H a=some o->(∀xs,o≠.lst xs)->(∀c dx fs,o≠.ins c dx fs)->H' a=some o) (o:q3J H' x b s):q3J H x b s:=by
 cases s with
 | ow ds=>exact o
 | mo ds=>exact o
 | lm ms=>
  obtain ⟨a,us,e1,e2,_⟩:=h
  obtain ⟨a',us',i,ks,o1,o2,o3,o4⟩:=o
  rw [e1] at o1;cases o1
  have:=(e2.keep (k a)).uniq o2
  subst this
  exact ⟨a,_,i,ks,e1,e2,o3,o4⟩
 | ox t pre ds post=>
  obtain ⟨a,vp,c,vq,ws,e1,e2,r1,r2,e3,e4,r3⟩:=h
  obtain ⟨a',us,o1,o2,o3⟩:=o
  rw [e1] at o1;cases o1
  have:=(e2.keep (k a)).uniq o2
  subst this
  exact ⟨a,_,e1,e2,o3⟩
 | _=>exact o.elim
theorem SlOk.off {x:Option (Option V)} {s:Sl} {a:Addr} {vs:List V} {o:HO} (e2:H a=some (.lst vs)) (tr:∀ds us,RepL T K H ds us->RepL T K (upd H a o) ds us) (hn:¬q3J H x a s) (h:SlOk T K G H x s):SlOk T K G (upd H a o) x s:=by
 have kp:∀{b:Addr} {u:HO},H b=some u->(∀xs,u≠.lst xs)->upd H a o b=some u:=λ{b u} w n=>by
  rw [q0i (λz=>by subst z;rw [e2] at w;cases w;exact n _ rfl)];exact w
 have ik:∀{b:Addr} {c:Nat} {ds:List D},InsAt T K H c b ds->InsAt T K (upd H a o) c b ds:=λ⟨dx,fs,z1,z2,z3,z4⟩=>⟨dx,fs,kp z1 (λ_ z=>by cases z),z2,z3,tr _ _ z4⟩
 have t1:∀{d:D} {v:V},Rep T K H d v->Rep T K (upd H a o) d v:=λ{d v} z2=>by
  obtain ⟨_,_,q,r,_⟩:=tr [d] [v] ⟨v,[],rfl,z2,rfl⟩
  cases q
  exact r
 cases s with
 | no=>trivial
 | sh d=>
  obtain ⟨v,z1,z2⟩:=h
  exact ⟨v,z1,t1 z2⟩
 | od kvs=>
  obtain ⟨d,xs,z1,z2,z3,z4,z5,z6⟩:=h
  exact ⟨d,xs,z1,kp z2 (λ_ z=>by cases z),z3,z4,z5,λq hq=>t1 (z6 q hq)⟩
 | ow es=>
  obtain ⟨b,ws,z1,z2,z3,z4⟩:=h
  exact ⟨b,ws,z1,by rw [q0i (λz=>by subst z;exact hn z1)];exact z2,z3,tr _ _ z4⟩
 | mo es=>
  obtain ⟨b,ws,z0,z1,z2,z3,z4⟩:=h
  exact ⟨b,ws,z0,z1,by rw [q0i (λz=>by subst z;exact hn z1)];exact z2,z3,tr _ _ z4⟩
 | bo es=>obtain ⟨b,ws,z1,z2,z4⟩:=h;exact ⟨b,ws,z1,z2,tr _ _ z4⟩
 | bi c es=>obtain ⟨b,dx,fs,z1,z2,z3,z4,z5⟩:=h;exact ⟨b,dx,fs,z1,z2,z3,z4,tr _ _ z5⟩
 | me c es=>
  obtain ⟨b,dx,fs,z0,z1,z2,z3,z4,z5⟩:=h
  exact ⟨b,dx,fs,z0,z1,kp z2 (λ_ z=>by cases z),z3,z4,tr _ _ z5⟩
 | lm ms=>
  obtain ⟨c,us,z1,z2,z3,z4,z5⟩:=h
  refine ⟨c,us,z1,z2.keep λu w n _=>kp w n,z3,λi m v q1 q2=>?_,z5⟩
  have z:=z4 i m v q1 q2
  match m,q1,z with
  | (none,ks),q1,⟨b,ws,y1,y2,y3,y4⟩=>
   subst y1
   exact ⟨b,ws,rfl,by rw [q0i (λy=>by subst y;exact hn ⟨c,us,i,ks,z1,z2,q2,q1⟩)];exact y2,y3,tr _ _ y4⟩
  | (some k,ks),q1,⟨b,y1,y2,y3,y4⟩=>exact ⟨b,y1,y2,y3,ik y4⟩
 | ox t pre es post=>
  obtain ⟨c,vp,b,vq,ws,z1,z2,z3,z4,z5,z6,z7⟩:=h
  have hab:b≠a:=λz=>hn ⟨c,_,z1,z2,by rw [<-RepL.length _ _ z3,List.getElem?_append_right (Nat.le_refl _),Nat.sub_self,z];rfl⟩
  exact ⟨c,vp,b,vq,ws,z1,z2.keep λu w n _=>kp w n,tr _ _ z3,tr _ _ z4,by rw [q0i hab];exact z5,z6,tr _ _ z7⟩
theorem FR.mono (e:Same H H') (h:FR T K G H σ ρ):FR T K G H' σ ρ:=⟨h.same.trans e,h.len,λi s q=>SlOk.mono e (h.sl i s q),λi j s t b hij q1 q2 o1 o2=>h.ne i j s t b hij q1 q2 ((h.sl i s q1).back (λa o z _ _=>e a o z) o1) ((h.sl j t q2).back (λa o z _ _=>e a o z) o2),h.me,h.me0⟩
theorem FR.sh_at (h:FR T K G H σ ρ) {i:Nat} {d:D} (e:ρ[i]?=some (.sh d)):∃v,σ[i]?=some (some v)/\Rep T K H d v:=h.sl i _ e
theorem q3R {H1:Hp} {v:V} {r:Rv} (s1:Same H H1) (h:q5J T K H1 H' v r):q5J T K H H' v r:=by
 cases r with
 | sh d=>exact h
 | fr ds=>
  obtain ⟨a,us,e1,e2,e3,e4⟩:=h
  exact ⟨a,us,e1,e2,s1.free e3,e4⟩
 | tf t pre ds post=>
  obtain ⟨a,vp,b,vq,ws,e1,e2,r1,r2,e3,e4,r3⟩:=h
  exact ⟨a,vp,b,vq,ws,e1,e2,r1,r2,e3,s1.free e4,r3⟩
theorem j2R {i:Nat} {v:Option V} (hz:T.me=none∨i≠0) (h:∀x,T.me=some x->σ[0]?=some (some (.ref x))):∀x,T.me=some x->(σ.set i v)[0]?=some (some (.ref x)):=λx e=>by
 rcases hz with z | z
 ·rw [z] at e;cases e
 ·rw [List.getElem?_set_ne z];exact h x e
theorem q3v {i:Nat} {s:Sl} (hs:∀c ds,s≠.me c ds) (h:∀(i:Nat) (c:Nat) (ds:List D),ρ[i]?=some (.me c ds)->i=0):∀(j:Nat) (c:Nat) (ds:List D),(ρ.set i s)[j]?=some (.me c ds)->j=0:=λj c ds e=>by
 by_cases hj:j=i
 ·subst hj
  have hl:j < ρ.length:=by
   have:=(List.getElem?_eq_some_iff.mp e).1;simpa using this
  rw [List.getElem?_set_self hl] at e
  exact absurd (Option.some.inj e) (hs c ds)
 ·rw [List.getElem?_set_ne (Ne.symm hj)] at e;exact h j c ds e
theorem FR.set_sh (h:FR T K G H σ ρ) {i:Nat} {d:D} {v:V} (r:Rep T K H d v) (hz:T.me=none∨i≠0):FR T K G H (σ.set i (some v)) (ρ.set i (.sh d)):=by
 refine ⟨h.same,by simp [h.len],λj s q=>?_,λj k s1 s2 b hjk q1 q2 o1 o2=>?_,j2R hz h.me,q3v (λ_ _ z=>by cases z) h.me0⟩
 ·by_cases hj:j=i
  ·subst hj
   have hl:j < ρ.length:=by
    have:=(List.getElem?_eq_some_iff.mp q).1;simpa using this
   rw [List.getElem?_set_self hl] at q
   cases q
   exact ⟨v,by rw [List.getElem?_set_self (by rw [<-h.len];exact hl)],r⟩
  ·rw [List.getElem?_set_ne (Ne.symm hj)] at q ⊢
   exact h.sl j s q
 ·have hj:j≠i:=by
   rintro rfl
   have hl:j < ρ.length:=by
    have:=(List.getElem?_eq_some_iff.mp q1).1;simpa using this
   rw [List.getElem?_set_self hl] at q1;cases q1;exact o1
  have hk:k≠i:=by
   rintro rfl
   have hl:k < ρ.length:=by
    have:=(List.getElem?_eq_some_iff.mp q2).1;simpa using this
   rw [List.getElem?_set_self hl] at q2;cases q2;exact o2
  rw [List.getElem?_set_ne (Ne.symm hj)] at q1 o1
  rw [List.getElem?_set_ne (Ne.symm hk)] at q2 o2
  exact h.ne j k s1 s2 b hjk q1 q2 o1 o2
theorem FR.set_own (h:FR T K G H σ ρ) {i:Nat} {v:V} (w:Sl) (hw:i < ρ.length->SlOk T K G H (some (some v)) w)
 (hn:∀j s b,j≠i->ρ[j]?=some s->q3J H (some (some v)) b w->¬q3J H σ[j]? b s) (hm:∀c ds,w≠.me c ds) (hz:T.me=none∨i≠0):FR T K G H (σ.set i (some v)) (ρ.set i w):=by
 have hlen:(ρ.set i w).length=(σ.set i (some v)).length:=by simp [h.len]
 have lt:∀{m:Nat} {z:Sl},(ρ.set i w)[m]?=some z->(m=i/\z=w/\(σ.set i (some v))[m]?=some (some v)/\i < ρ.length)∨(m≠i/\ρ[m]?=some z/\(σ.set i (some v))[m]?=σ[m]?):=λ{m z} q=>by
  by_cases hmi:m=i
  ·subst hmi
   have hl:m < ρ.length:=by
    have:=(List.getElem?_eq_some_iff.mp q).1;simpa using this
   rw [List.getElem?_set_self hl] at q
   exact .inl ⟨rfl,(Option.some.inj q).symm,by rw [List.getElem?_set_self (by rw [<-h.len];exact hl)],hl⟩
  ·rw [List.getElem?_set_ne (Ne.symm hmi)] at q
   exact .inr ⟨hmi,q,by rw [List.getElem?_set_ne (Ne.symm hmi)]⟩
 refine ⟨h.same,hlen,λj s q=>?_,λj k s1 s2 b hjk q1 q2 o1 o2=>?_,j2R hz h.me,q3v hm h.me0⟩
 ·rcases lt q with ⟨rfl,rfl,e,hl⟩ | ⟨_,q,e⟩
  ·rw [e];exact hw hl
  ·rw [e];exact h.sl j s q
 ·rcases lt q1 with ⟨rfl,rfl,e,hl⟩ | ⟨hj,p1,e⟩
  ·rw [e] at o1
   rcases lt q2 with ⟨rfl,_⟩ | ⟨hk,q2,e'⟩
   ·exact hjk rfl
   ·rw [e'] at o2;exact hn k s2 b hk q2 o1 o2
  ·rw [e] at o1
   rcases lt q2 with ⟨rfl,rfl,e',hl⟩ | ⟨hk,q2,e'⟩
   ·rw [e'] at o2;exact hn j s1 b hj p1 o2 o1
   ·rw [e'] at o2;exact h.ne j k s1 s2 b hjk p1 q2 o1 o2
theorem FR.set_ow (h:FR T K G H σ ρ) {i:Nat} {ds:List D} {a:Addr} {vs:List V} (ha:H a=some (.lst vs)) (hg:G a=none) (r:RepL T K H ds vs)
 (hn:∀j s,j≠i->ρ[j]?=some s->¬q3J H σ[j]? a s) (hz:T.me=none∨i≠0):FR T K G H (σ.set i (some (.ref a))) (ρ.set i (.ow ds)):=by
 refine h.set_own (.ow ds) ?_ ?_ (λc ds z=>by cases z) hz
 ·exact λ_=>⟨a,vs,rfl,ha,hg,r⟩
 ·intro j s b hj q o1 o2
  have o1:some (some (V.ref a))=some (some (.ref b)):=o1
  cases o1
  exact hn j s hj q o2
end
noncomputable def Free (X:Cx) (pins:List (Addr×Obj)) (b:Addr):Prop:=
 (b∈X.ex∨X.s₀.heap.get? b=none)/\b≠X.env.locals/\(∀x c,X.env.cells.lookup x=some c->c≠b)/\∀p∈X.pn++pins,p.1≠b
noncomputable def w11 (T:Tb) (c:Nat) (ea:Addr) (H:Hp) (h:Heap) (P:Addr->Prop):Prop:=
 H ea=none/\P ea/\Nc ea h/\∃(oe:Obj) (vs:Array Value) (a0:Value),h.get? ea=some oe/\oe.cls=.ref (T.ca c)/\oe.data=.fields vs/\vs[0]?=some a0 /\
  (vs[1]?=some .none∨∃(tb:Addr) (ot:Obj) (ts:Array Value),vs[1]?=some (.ref tb)/\tb≠ea/\h.get? tb=some ot/\ot.data=.fields ts/\ts[3]?=some .none/\H tb=none/\P tb)
noncomputable def Flying (T:Tb) (X:Cx) (pins:List (Addr×Obj)) (c:Nat) (u:Value) (H:Hp) (s:Shared):Prop:=
 ∃ea,u=.ref ea/\w11 T c ea H s.heap (Free X pins)
noncomputable def XW (T:Tb) (X:Cx) (E:Value->Shared->Prop) (σ:L2.St) (H:Hp) (c:Nat):Prop:=
 ∀(pins:List (Addr×Obj)) (s:Shared) (u:Value) (H':Hp),Inv X pins σ H' s->Same H H'->Flying T X pins c u H' s->E u s
theorem XW.mono {T:Tb} {X:Cx} {E:Value->Shared->Prop} {σ:L2.St} {H H':Hp} {c:Nat} (e:Same H H') (h:XW T X E σ H c):XW T X E σ H' c:=
 λpins s u H'' I q f=>h pins s u H'' I (e.trans q) f
noncomputable def Acc {α:Type} (T:Tb) (X:Cx) (E:Value->Shared->Prop) (σ:L2.St) (H:Hp) (o:Out α) (k:α->Prop):Prop:=
 match o with
 | .ok a=>k a
 | .exc c=>XW T X E σ H c
 | .bad=>False
section
variable {T:Tb} {X:Cx} {E:Value->Shared->Prop} {σ:L2.St} {H H':Hp} {α β:Type}
theorem Acc.mono {o:Out α} {k k':α->Prop} (h:Acc T X E σ H o k) (f:∀a,o=.ok a->k a->k' a):Acc T X E σ H o k':=by
 cases o with
 | ok a=>exact f a rfl h
 | exc c=>exact h
 | bad=>exact h
theorem Acc.heap {o:Out α} {k:α->Prop} (e:Same H H') (h:Acc T X E σ H o k):Acc T X E σ H' o k:=by
 cases o with
 | ok a=>exact h
 | exc c=>exact XW.mono e h
 | bad=>exact h
theorem Acc.bind {o:Out α} {g:α->Out β} {k:β->Prop} (h:Acc T X E σ H (o.bind g) k):Acc T X E σ H o (λa=>Acc T X E σ H (g a) k):=by
 cases o with
 | ok a=>exact h
 | exc c=>exact h
 | bad=>exact h
end
noncomputable abbrev Ev:=Ro->Out D
noncomputable def kE (T:Tb) (K:PySem.W.Frag) (H:Hp) (Q:VK) (d:D):Prop:=∀v H',Same H H'->Rep T K H' d v->Q v H'
noncomputable def tE (T:Tb) (X:Cx) (G:Hp) (E:Value->Shared->Prop) (f:Ev):TE:=fun σ H Q=>∃ρ,FR T X.K G H σ ρ/\Acc T X E σ H (f ρ) (kE T X.K H Q)
structure DE (T:Tb) (X:Cx) (e:Expr) (f:Ev):Prop where
 mk ::
 run:∀(G:Hp) (E:Value->Shared->Prop),PassesOwn (model X.prog X.w) X.A X.env E->PE (X.wish E) e (tE T X G E f)
noncomputable def kT (H:Hp) (Q:Bool->Hp->Prop) (b:Bool):Prop:=∀H',Same H H'->Q b H'
noncomputable def tT (T:Tb) (X:Cx) (G:Hp) (E:Value->Shared->Prop) (f:Ro->Out Bool):TT:=fun σ H Q=>∃ρ,FR T X.K G H σ ρ/\Acc T X E σ H (f ρ) (kT H Q)
structure DT (T:Tb) (X:Cx) (e:Expr) (f:Ro->Out Bool):Prop where
 mk ::
 run:∀(G:Hp) (E:Value->Shared->Prop),PassesOwn (model X.prog X.w) X.A X.env E->PT (X.wish E) e (tT T X G E f)
structure DW (T:Tb) (X:Cx) (e:Expr) (f:Ro->Out Bool):Prop where
 mk ::
 run:∀(G:Hp) (E:Value->Shared->Prop),PassesOwn (model X.prog X.w) X.A X.env E->PW (X.wish E) e (tT T X G E f)
theorem DW.dt {T:Tb} {X:Cx} {e:Expr} {f:Ro->Out Bool} (h:DW T X e f):DT T X e f:=.mk λG E hp=>(h.run G E hp).pt
noncomputable def tA (T:Tb) (X:Cx) (G:Hp) (E:Value->Shared->Prop) (f:Ro->Out (List D)):TA:=fun σ H Q=>∃ρ,FR T X.K G H σ ρ/\Acc T X E σ H (f ρ) (λds=>∀vs H',Same H H'->RepL T X.K H' ds vs->Q vs H')
structure DA (T:Tb) (X:Cx) (es:List Expr) (f:Ro->Out (List D)):Prop where
 mk ::
 run:∀(G:Hp) (E:Value->Shared->Prop),PassesOwn (model X.prog X.w) X.A X.env E->PA (X.wish E) es (tA T X G E f)
noncomputable def tF (T:Tb) (X:Cx) (G:Hp) (E:Value->Shared->Prop) (f:Ro->Out (List D)):TE:=fun σ H Q=>∃ρ,FR T X.K G H σ ρ/\Acc T X E σ H (f ρ) (λds=>∀a vs H',Same H H'->H a=none->H' a=some (.lst vs)->RepL T X.K H' ds vs->Q (.ref a) H')
structure DF (T:Tb) (X:Cx) (e:Expr) (f:Ro->Out (List D)):Prop where
 mk ::
 run:∀(G:Hp) (E:Value->Shared->Prop),PassesOwn (model X.prog X.w) X.A X.env E->PE (X.wish E) e (tF T X G E f)
noncomputable def tL (T:Tb) (X:Cx) (G:Hp) (E:Value->Shared->Prop) (f:Ro->Out (List D)):TE:=fun σ H Q=>∃ρ,FR T X.K G H σ ρ/\Acc T X E σ H (f ρ) (λds=>∀a vs H',Same H H'->SqL X.K H' a vs->RepL T X.K H' ds vs->Q (.ref a) H')
structure DL (T:Tb) (X:Cx) (e:Expr) (f:Ro->Out (List D)):Prop where
 mk ::
 run:∀(G:Hp) (E:Value->Shared->Prop),PassesOwn (model X.prog X.w) X.A X.env E->PE (X.wish E) e (tL T X G E f)
noncomputable def tR (T:Tb) (X:Cx) (G:Hp) (E:Value->Shared->Prop) (f:Ro->Out Rv):TE:=fun σ H Q=>∃ρ,FR T X.K G H σ ρ/\Acc T X E σ H (f ρ) (λr=>∀v H',Same H H'->q5J T X.K H H' v r->Q v H')
structure DR (T:Tb) (X:Cx) (e:Expr) (f:Ro->Out Rv):Prop where
 mk ::
 run:∀(G:Hp) (E:Value->Shared->Prop),PassesOwn (model X.prog X.w) X.A X.env E->PE (X.wish E) e (tR T X G E f)
theorem PE.imp {X:Cx} {e:Expr} {t t':TE} (h:PE X e t) (k:∀σ H Q,t' σ H Q->t σ H Q):PE X e t':=λpins s σ H Q I q=>h pins s σ H Q I (k σ H Q q)
theorem PT.imp {X:Cx} {e:Expr} {t t':TT} (h:PT X e t) (k:∀σ H Q,t' σ H Q->t σ H Q):PT X e t':=λpins s σ H Q I q=>h pins s σ H Q I (k σ H Q q)
theorem PW.imp {X:Cx} {e:Expr} {t t':TT} (h:PW X e t) (k:∀σ H Q,t' σ H Q->t σ H Q):PW X e t':=λw pins s σ H Q I q=>h w pins s σ H Q I (k σ H Q q)
theorem PA.imp {X:Cx} {es:List Expr} {t t':TA} (h:PA X es t) (k:∀σ H Q,t' σ H Q->t σ H Q):PA X es t':=λp pins s σ H Q I q=>h p pins s σ H Q I (k σ H Q q)
theorem PS.imp {X:Cx} {e:Stmt} {t t':TS} (h:PS X e t) (k:∀D σ H,t' D σ H->t D σ H):PS X e t':=λpins s σ H D I q=>h pins s σ H D I (k D σ H q)
theorem PSs.imp {X:Cx} {e:List Stmt} {t t':TS} (h:PSs X e t) (k:∀D σ H,t' D σ H->t D σ H):PSs X e t':=λpins s σ H D I q=>h pins s σ H D I (k D σ H q)
inductive Fl where
 | nx (ρ:Ro) | rt (r:Rv) | rm (r:D) (c:Nat) (ds ks:List D) | exc (c:Nat) (ρ:Ro) | bk (ρ:Ro) | ct (ρ:Ro) | bad
noncomputable def stays (T:Tb) (b:Bool):HO->Bool
 | .lst _=>false
 | .ext _=>false
 | .ins C _ fs=>!b && decide (fs.map (·.1)=T.fa C)
 | _=>true
noncomputable def Pers (T:Tb) (b:Bool) (H H':Hp):Prop:=∀a o,H a=some o->stays T b o=true->H' a=some o
theorem Pers.refl {T:Tb} {b:Bool} (H:Hp):Pers T b H H:=λ_ _ e _=>e
theorem Pers.trans {T:Tb} {b:Bool} {H H1 H2:Hp} (x:Pers T b H H1) (y:Pers T b H1 H2):Pers T b H H2:=λc o e s=>y c o (x c o e s) s
theorem Pers.of {T:Tb} {b:Bool} {H H':Hp} (x:Same H H'):Pers T b H H':=λc o e _=>x c _ e
theorem Pers.fz {T:Tb} {b:Bool} {K:PySem.W.Frag} {H H':Hp} {a:Addr} {vs:List V} (p:Pers T b H H') (h:FzL K H a vs):FzL K H' a vs:=by
 rcases h with ⟨o,h⟩ | h
 ·exact .inl ⟨o,p _ _ h rfl⟩
 ·exact .inr h
mutual
theorem Rep.pers {T:Tb} {K:PySem.W.Frag} {H H':Hp} (e:Pers T false H H'):∀(d:D) (v:V),Rep T K H d v->Rep T K H' d v
 | .non,_,h=>h
 | .bl _,_,h=>h
 | .int _,_,h=>h
 | .str _,_,h=>h
 | .tup ds,_,h=>by
  obtain ⟨a,vs,r1,r2,r3⟩:=h
  refine ⟨a,vs,r1,?_,RepL.pers e ds vs r3⟩
  rcases r2 with (r2 | ⟨o,r2⟩) | r2
  ·exact .inl (.inl (e _ _ r2 rfl))
  ·exact .inl (.inr ⟨o,e _ _ r2 rfl⟩)
  ·exact .inr r2
 | .lst ds,_,h=>by
  obtain ⟨a,vs,r1,r2,r3⟩:=h
  exact ⟨a,vs,r1,e.fz r2,RepL.pers e ds vs r3⟩
 | .ins c ds,_,h=>by
  obtain ⟨a,dx,fs,r1,r2,r3,r4⟩:=h
  exact ⟨a,dx,fs,r1,e _ _ r2 (by show (!false && decide (fs.map (·.1)=T.fa (T.ca c)))=true;rw [r3];simp [Tb.fl]),r3,RepL.pers e ds _ r4⟩
 | .exc c,_,h=>by
  obtain ⟨a,o,r1,r2,r3⟩:=h
  exact ⟨a,o,r1,e _ _ r2 rfl,r3⟩
theorem RepL.pers {T:Tb} {K:PySem.W.Frag} {H H':Hp} (e:Pers T false H H'):∀(ds:List D) (vs:List V),RepL T K H ds vs->RepL T K H' ds vs
 | [],_,h=>h
 | d::ds,_,h=>by
  obtain ⟨v,r,r1,r2,r3⟩:=h
  exact ⟨v,r,r1,Rep.pers e d v r2,RepL.pers e ds r r3⟩
end
noncomputable def w28 (T:Tb) (K:PySem.W.Frag) (H:Hp) (c:Nat) (ds:List D):Prop:=∃a,T.me=some a/\InsAt T K H c a ds
noncomputable def w22 (T:Tb) (K:PySem.W.Frag) (H:Hp):Option Addr->List D->Prop
 | none,ks=>ks=[]
 | some a,ks=>∃vs,H a=some (.lst vs)/\RepL T K H ks vs
noncomputable def AccS (T:Tb) (b:Bool) (X:Cx) (G:Hp) (E:Value->Shared->Prop) (H₁:Hp) (o:Fl) (D:Ends):Prop:=
 match o with
 | .nx ρ=>∀σ H,FR T X.K G H σ ρ->Pers T b H₁ H->D.nx σ H
 | .bk ρ=>∀σ H,FR T X.K G H σ ρ->Pers T b H₁ H->D.bk σ H
 | .ct ρ=>∀σ H,FR T X.K G H σ ρ->Pers T b H₁ H->D.ct σ H
 | .rt r=>∀v H,Same G H->q5J T X.K G H v r->D.rt v H
 | .rm r c ds ks=>∀v H,Same G H->Rep T X.K H r v->w28 T X.K H c ds->w22 T X.K H T.mo ks->D.rt v H
 | .exc c ρ=>∀σ H,FR T X.K G H σ ρ->Pers T b H₁ H->XW T X E σ H c
 | .bad=>False
theorem AccS.heap {T:Tb} {b:Bool} {X:Cx} {G:Hp} {E:Value->Shared->Prop} {H H':Hp} {o:Fl} {D:Ends} (p:Pers T b H H') (h:AccS T b X G E H o D):AccS T b X G E H' o D:=by
 cases o with
 | nx ρ=>exact fun σ H2 fr q=>h σ H2 fr (p.trans q)
 | bk ρ=>exact fun σ H2 fr q=>h σ H2 fr (p.trans q)
 | ct ρ=>exact fun σ H2 fr q=>h σ H2 fr (p.trans q)
 | rt r=>exact h
 | rm r c ds ks=>exact h
 | exc c ρ=>exact fun σ H2 fr q=>h σ H2 fr (p.trans q)
 | bad=>exact h
noncomputable def tS (T:Tb) (b:Bool) (X:Cx) (G:Hp) (E:Value->Shared->Prop) (f:Ro->Fl):TS:=λD σ H=>∃ρ,FR T X.K G H σ ρ/\AccS T b X G E H (f ρ) D
structure DS (T:Tb) (b:Bool) (X:Cx) (st:Stmt) (f:Ro->Fl):Prop where
 mk ::
 run:∀(G:Hp) (E:Value->Shared->Prop),PassesOwn (model X.prog X.w) X.A X.env E->PS (X.wish E) st (tS T b X G E f)
structure DSs (T:Tb) (b:Bool) (X:Cx) (st:List Stmt) (f:Ro->Fl):Prop where
 mk ::
 run:∀(G:Hp) (E:Value->Shared->Prop),PassesOwn (model X.prog X.w) X.A X.env E->PSs (X.wish E) st (tS T b X G E f)
noncomputable def Fl.bind (o:Fl) (k:Ro->Fl):Fl:=match o with
 | .nx ρ=>k ρ
 | o=>o
@[simp] theorem Fl.nx_bind (ρ:Ro) (k:Ro->Fl):(Fl.nx ρ).bind k=k ρ:=(rfl)
@[simp] theorem Fl.rt_bind (r:Rv) (k:Ro->Fl):(Fl.rt r).bind k=.rt r:=(rfl)
@[simp] theorem Fl.rm_bind (r:D) (c:Nat) (ds ks:List D) (k:Ro->Fl):(Fl.rm r c ds ks).bind k=.rm r c ds ks:=(rfl)
@[simp] theorem Fl.exc_bind (c:Nat) (ρ:Ro) (k:Ro->Fl):(Fl.exc c ρ).bind k=.exc c ρ:=(rfl)
@[simp] theorem Fl.bk_bind (ρ:Ro) (k:Ro->Fl):(Fl.bk ρ).bind k=.bk ρ:=(rfl)
@[simp] theorem Fl.ct_bind (ρ:Ro) (k:Ro->Fl):(Fl.ct ρ).bind k=.ct ρ:=(rfl)
@[simp] theorem Fl.bad_bind (k:Ro->Fl):Fl.bad.bind k=.bad:=(rfl)
noncomputable def Out.fl {α:Type} (o:Out α) (ρ:Ro) (k:α->Fl):Fl:=match o with
 | .ok a=>k a
 | .exc c=>.exc c ρ
 | .bad=>.bad
@[simp] theorem Out.ok_fl {α:Type} (a:α) (ρ:Ro) (k:α->Fl):(Out.ok a).fl ρ k=k a:=(rfl)
@[simp] theorem Out.exc_fl {α:Type} (c:Nat) (ρ:Ro) (k:α->Fl):(Out.exc c:Out α).fl ρ k=.exc c ρ:=(rfl)
@[simp] theorem Out.bad_fl {α:Type} (ρ:Ro) (k:α->Fl):(Out.bad:Out α).fl ρ k=.bad:=(rfl)
section
variable {T:Tb} {b:Bool} {X:Cx} {G:Hp} {E:Value->Shared->Prop} {σ:L2.St} {H:Hp} {α:Type}
theorem AccS.fl {o:Out α} {ρ:Ro} {k:α->Fl} {D:Ends} (fr:FR T X.K G H σ ρ) (h:AccS T b X G E H (o.fl ρ k) D):Acc T X E σ H o (λa=>AccS T b X G E H (k a) D):=by
 cases o with
 | ok a=>exact h
 | exc c=>exact h σ H fr (Pers.refl H)
 | bad=>exact h
end
noncomputable def q2G:Expr->Bool
 | .Starred ..=>false
 | _=>true
theorem q0D {e:Expr} {es:List Expr} {env:Env} (h:q2G e=true):starEach (e::es) env=(false,eval e env)::starEach es env:=by
 cases e<;>first | rfl | cases h
theorem q0J {pos:Pos} {env:Env}:∀{es:List Expr},es.all q2G=true->(backTo pos (starEach es env)).any (·.1)=false
 | [],_=>rfl
 | e::es,h=>by
  rw [List.all_cons,Bool.and_eq_true] at h
  rw [q0D h.1]
  show (false || (backTo pos (starEach es env)).any (·.1))=false
  rw [q0J h.2];rfl
theorem q3q {pos:Pos} {env:Env}:∀{es:List Expr},es.all q2G=true->(backTo pos (starEach es env)).all (λx=>!x.1)=true
 | [],_=>rfl
 | e::es,h=>by
  rw [List.all_cons,Bool.and_eq_true] at h
  rw [q0D h.1]
  show (true && (backTo pos (starEach es env)).all (λx=>!x.1))=true
  rw [q3q h.2];rfl
theorem q7r {pos:Pos} {env:Env} {e:Expr} {es:List Expr} (h:(e::es).all q2G=true) (hl:decide ((e::es).length+([]:List Keyword).length+(if ([]:List Keyword).isEmpty then 0 else 1) < 30)=true) :
 ((backTo pos (starEach (e::es) env)).all (λx=>!x.1) && (backToKw pos (keywordEach [] env)).all (λx=>x.1.isSome) && decide ((e::es).length+([]:List Keyword).length+(if ([]:List Keyword).isEmpty then 0 else 1) < 30))=true:=by
 rw [q3q h,hl];rfl
noncomputable def j0d:Expr->Bool
 | .ListComp ..=>false
 | .SetComp ..=>false
 | .DictComp ..=>false
 | _=>true
theorem q2c {e:Expr} {t:Option Expr} {n:Nat} {env:Env} (h:j0d e=true):swapsWith e t n env=pure false:=by
 cases e<;>first | rfl | cases h
section
variable {T:Tb} {X:Cx} {pos:Pos}
@[simp] noncomputable def q0d (i:Nat) (ρ:Ro):Out D:=match ρ[i]? with
 | some (.sh d)=>.ok d
 | _=>.bad
theorem q0a (i:Nat) {x:Str} (hN:X.N[i]?=some x:=by rfl) (hv:Vis X.env.scope x:=by walk_at "v0") (hd:(x==("__debug__" : Str))=false:=by decide)
 (hcd:(x==("__classdict__" : Str))=false:=by decide):DE T X (.Name x pos) (q0d i):=.mk λG E hp=>by
 refine PE.imp (q2D (X:=X.wish E) hN hv hd hcd) fun σ H Q ⟨ρ,fr,h⟩=>?_
 unfold q0d at h
 split at h
 ·rename_i d e
  obtain ⟨v,e1,r⟩:=fr.sh_at e
  exact ⟨v,e1,h v H (Same.refl H) r⟩
 ·exact h.elim
@[simp] noncomputable def j3R (i:Nat) (ρ:Ro):Out (List D):=match ρ[i]? with
 | some (.ow ds)=>.ok ds
 | some (.bo ds)=>.ok ds
 | some (.mo ds)=>.ok ds
 | some (.sh (.lst ds))=>.ok ds
 | _=>.bad
theorem q3L (i:Nat) {x:Str} (hN:X.N[i]?=some x:=by rfl) (hv:Vis X.env.scope x:=by walk_at "v0") (hd:(x==("__debug__" : Str))=false:=by decide)
 (hcd:(x==("__classdict__" : Str))=false:=by decide):DL T X (.Name x pos) (j3R i):=.mk λG E hp=>by
 refine PE.imp (q2D (X:=X.wish E) hN hv hd hcd) fun σ H Q ⟨ρ,fr,h⟩=>?_
 unfold j3R at h
 split at h
 ·rename_i ds e
  obtain ⟨a,vs,e1,e2,e3,r⟩:=fr.sl i _ e
  exact ⟨_,e1,h a vs H (Same.refl H) (SqL.of e2) r⟩
 ·rename_i ds e
  obtain ⟨a,vs,e1,e2,r⟩:=fr.sl i _ e
  exact ⟨_,e1,h a vs H (Same.refl H) (SqL.of (fr.same _ _ e2)) r⟩
 ·rename_i ds e
  obtain ⟨a,vs,_,e1,e2,e3,r⟩:=fr.sl i _ e
  exact ⟨_,e1,h a vs H (Same.refl H) (SqL.of e2) r⟩
 ·rename_i ds e
  obtain ⟨v,e1,a,vs,rfl,e2,r⟩:=fr.sl i _ e
  exact ⟨_,e1,h a vs H (Same.refl H) e2.sq r⟩
 ·exact h.elim
@[simp] noncomputable def eC (d:D) (ρ:Ro):Out D:=.ok d
theorem PE.const {e:Expr} {v:V} {d:D} {E:Value->Shared->Prop} {G:Hp} (h:PE (X.wish E) e (tC v)) (r:∀H,Rep T X.K H d v):PE (X.wish E) e (tE T X G E (eC d)):=
 PE.imp h fun σ H Q ⟨ρ,fr,h⟩=>h v H (Same.refl H) (r H)
theorem q0c {i j}:DE T X (.Constant (.int i) j pos) (eC (.int i)):=.mk λG E hp=>PE.const j3F λ_=>rfl
theorem q2k {b j}:DE T X (.Constant (.bool b) j pos) (eC (.bl b)):=.mk λG E hp=>PE.const w1T λ_=>rfl
theorem j6z {j}:DE T X (.Constant .none j pos) (eC .non):=.mk λG E hp=>PE.const j8o λ_=>rfl
theorem q16 {x j}:DE T X (.Constant (.str x) j pos) (eC (.str x)):=.mk λG E hp=>PE.const j8b λ_=>rfl
theorem q6b {x:Str} {d:D} {v:V} {u:Value} (hg:Gl X x) (hm:X.mg x=some u) (r:RelV v u) (rd:∀H,Rep T X.K H d v) (hd:(x==("__debug__" : Str))=false:=by decide):DE T X (.Name x pos) (eC d):=
 .mk λG E hp=>PE.const (j5m (X:=X.wish E) hg hm r hd) rd
end
noncomputable def OpD (T:Tb) (X:Cx) (f:Value->Value->Sem Value) (g:D->D->Out D):Prop:=∀E:Value->Shared->Prop,∃r:R2,OpR (X.wish E) f r /\
 ∀(dx dy:D) (x y:V) (σ:L2.St) (H:Hp) (Q:VK),Rep T X.K H dx x->Rep T X.K H dy y->Acc T X E σ H (g dx dy) (kE T X.K H Q)->r x y H Q
@[simp] noncomputable def e2 (g:D->D->Out D) (fa fb:Ev) (ρ:Ro):Out D:=(fa ρ).bind λx=>(fb ρ).bind λy=>g x y
section
variable {T:Tb} {X:Cx} {pos:Pos} {a b:Expr} {fa fb:Ev}
theorem q6T {G H:Hp} {E:Value->Shared->Prop} {σ:L2.St} {Q:VK} {g:D->D->Out D} {r:R2}
 (hg:∀(dx dy:D) (x y:V) (σ:L2.St) (H:Hp) (Q:VK),Rep T X.K H dx x->Rep T X.K H dy y->Acc T X E σ H (g dx dy) (kE T X.K H Q)->r x y H Q) {ρ:Ro} (fr:FR T X.K G H σ ρ) (h:Acc T X E σ H (e2 g fa fb ρ) (kE T X.K H Q)) :
 tOp r (tE T X G E fa) (tE T X G E fb) σ H Q:=by
 refine ⟨ρ,fr,Acc.mono (Acc.bind h) λdx _ hx v H1 s1 r1=>⟨ρ,fr.mono s1,Acc.mono (Acc.bind (Acc.heap s1 hx)) λdy _ hy u H2 s2 r2=>?_⟩⟩
 refine hg dx dy v u σ H2 Q (Rep.mono s2 _ _ r1) r2 (Acc.mono (Acc.heap s2 hy) λd _ hd w H3 s3 r3=>hd w H3 ((s1.trans s2).trans s3) r3)
theorem q0n {op:Operator} {g:D->D->Out D} (ho:OpD T X (binaryOp op) g) (ha:DE T X a fa) (hb:DE T X b fb):DE T X (.BinOp a op b pos) (e2 g fa fb):=.mk λG E hp=>by
 obtain ⟨r,hr,hg⟩:=ho E
 exact PE.imp (j7q hr (ha.run G E hp) (hb.run G E hp)) fun σ H Q ⟨ρ,fr,h⟩=>q6T hg fr h
theorem q6w {op:CmpOp} {g:D->D->Out D} (ho:OpD T X (compareOp op) g) (ha:DE T X a fa) (hb:DE T X b fb) (hm:behindInMarks op b=false):DE T X (.Compare a [op] [b] pos) (e2 g fa fb):=.mk λG E hp=>by
 obtain ⟨r,hr,hg⟩:=ho E
 exact PE.imp (j5j hr (ha.run G E hp) (hb.run G E hp) hm) fun σ H Q ⟨ρ,fr,h⟩=>q6T hg fr h
@[simp] noncomputable def D.toB:D->Out Bool
 | .bl b=>.ok b
 | _=>.bad
@[simp] noncomputable def tB2 (g:D->D->Out D) (fa fb:Ev) (ρ:Ro):Out Bool:=(e2 g fa fb ρ).bind D.toB
theorem q0S {op:CmpOp} {g:D->D->Out D} (ho:OpD T X (compareOp op) g) (ha:DE T X a fa) (hb:DE T X b fb) (hm:behindInMarks op b=false):DT T X (.Compare a [op] [b] pos) (tB2 g fa fb):=.mk λG E hp=>by
 obtain ⟨r,hr,hg⟩:=ho E
 refine PT.imp (j54 hr (ha.run G E hp) (hb.run G E hp) hm) fun σ H Q ⟨ρ,fr,h⟩=>q6T hg fr (Acc.mono (Acc.bind h) λd _ hd v H1 s1 r1=>?_)
 cases d with
 | bl k=>exact ⟨k,r1,hd H1 s1⟩
 | _=>exact hd.elim
@[simp] noncomputable def i2 (f:Int->Int->D):D->D->Out D
 | .int i,.int j=>.ok (f i j)
 | _,_=>.bad
theorem j1I {f:Value->Value->Sem Value} {g:Int->Int->V} {g':Int->Int->D} (h:∀E,OpR (X.wish E) f (rI0 g)) (hg:∀i j H,Rep T X.K H (g' i j) (g i j)):OpD T X f (i2 g'):=λE=>
 ⟨_,h E,λdx dy x y σ H Q rx ry q=>by
  cases dx with
  | int i=>
   cases dy with
   | int j=>exact ⟨i,j,rx,ry,q _ H (Same.refl H) (hg i j H)⟩
   | _=>exact q.elim
  | _=>first | exact q.elim | (cases dy<;>exact q.elim)⟩
@[simp] noncomputable def i2c (c:Int->Int->Bool) (f:Int->Int->D):D->D->Out D
 | .int i,.int j=>if c i j=true then .ok (f i j) else .bad
 | _,_=>.bad
theorem q68 {f:Value->Value->Sem Value} {C:Int->Int->Prop} {g:Int->Int->V} {c:Int->Int->Bool} {g':Int->Int->D} (h:∀E,OpR (X.wish E) f (rI C g)) (hc:∀i j,c i j=true->C i j) (hg:∀i j H,Rep T X.K H (g' i j) (g i j)):OpD T X f (i2c c g'):=λE=>
 ⟨_,h E,λdx dy x y σ H Q rx ry q=>by
  cases dx with
  | int i=>
   cases dy with
   | int j=>
    have q':Acc T X E σ H (if c i j=true then .ok (g' i j) else .bad) (kE T X.K H Q):=q
    by_cases e:c i j=true
    ·rw [if_pos e] at q'
     exact ⟨i,j,rx,ry,hc i j e,q' _ H (Same.refl H) (hg i j H)⟩
    ·rw [if_neg e] at q'
     exact q'.elim
   | _=>exact q.elim
  | _=>first | exact q.elim | (cases dy<;>exact q.elim)⟩
noncomputable def q1R (i j:Int):Bool:=(decide (-(2 ^ 64) < i) && decide (i < 2 ^ 64)) || (decide (-(2 ^ 64) < j) && decide (j < 2 ^ 64))
@[simp] noncomputable def q1K (_ j:Int):Bool:=decide (0 < j) && decide (j < 1073741824)
@[simp] noncomputable def q0G (_ j:Int):Bool:=decide (0 < j)
@[simp] noncomputable def j5R (i j:Int):Bool:=decide (0<=j) && decide (j<=1000000) && decide (i.natAbs < 2 ^ 64)
theorem q2t:OpD T X (binaryOp .Sub) (i2 λi j=>.int (i-j)):=j1I (λE=>j7U) λ_ _ _=>rfl
theorem q3i:OpD T X (binaryOp .Mult) (i2c q1R λi j=>.int (i*j)):=q68 (λE=>j7h) (λi j h=>by
 simp only [q1R,Bool.or_eq_true,Bool.and_eq_true,decide_eq_true_eq] at h;exact h) λ_ _ _=>rfl
theorem q06:OpD T X (binaryOp .FloorDiv) (i2c q1K λi j=>.int (i / j)):=q68 (λE=>j5W) (λi j h=>by
 simp only [q1K,Bool.and_eq_true,decide_eq_true_eq] at h;exact h) λ_ _ _=>rfl
theorem q0w:OpD T X (binaryOp .Mod) (i2c q0G λi j=>.int (i % j)):=q68 (λE=>j8x) (λi j h=>by
 simp only [q0G,decide_eq_true_eq] at h;exact h) λ_ _ _=>rfl
theorem j7W:OpD T X (binaryOp .Pow) (i2c j5R λi j=>.int (i ^ j.toNat)):=q68 (λE=>j6Y) (λi j h=>by
 simp only [j5R,Bool.and_eq_true,decide_eq_true_eq] at h;exact ⟨h.1.1,h.1.2,h.2⟩) λ_ _ _=>rfl
theorem j1k:OpD T X (compareOp .Lt) (i2 λi j=>.bl (decide (i < j))):=j1I (λE=>w0V) λ_ _ _=>rfl
theorem q26:OpD T X (compareOp .LtE) (i2 λi j=>.bl (decide (i<=j))):=j1I (λE=>w0n) λ_ _ _=>rfl
theorem j4Z:OpD T X (compareOp .Gt) (i2 λi j=>.bl (decide (j < i))):=j1I (λE=>w0J) λ_ _ _=>rfl
end
theorem q66 {P:Program} {w:World} {H:Hp} {h:Heap} {a:Addr} {o:HO} (x:ObjOk P w H h a o):∃u,h.get? a=some u:=by
 cases o with
 | lst xs=>obtain ⟨_,_,_,_,e⟩:=x;exact ⟨_,e⟩
 | tup xs=>obtain ⟨_,_,_,_,e,_⟩:=x;exact ⟨_,e⟩
 | dK kvs=>obtain ⟨_,_,_,_,o,_,_,e,_⟩:=x;exact ⟨_,e⟩
 | dT kvs=>obtain ⟨_,_,_,_,o,_,_,e,_⟩:=x;exact ⟨_,e⟩
 | set S n=>obtain ⟨o,_,_,_,e,_⟩:=x;exact ⟨_,e⟩
 | ins C dx fs=>obtain ⟨_,_,_,e,_⟩:=x;exact ⟨_,e⟩
 | own y=>obtain ⟨_,e⟩:=x;exact ⟨_,e⟩
 | xd fs=>obtain ⟨_,⟨_,_,_,e,_⟩,_⟩:=x;exact ⟨_,e⟩
 | rng lo hi=>obtain ⟨_,_,_,e⟩:=x;exact ⟨_,e⟩
 | frz ob u=>obtain ⟨e,_⟩:=x;exact ⟨_,e⟩
 | tbl ps=>exact ⟨_,(show h.get? a=some _ from x)⟩
 | met f y=>exact ⟨_,(show h.get? a=some _ from x)⟩
 | ext φ=>obtain ⟨_,⟨_,e⟩,_⟩:=x;exact ⟨_,e⟩
noncomputable def CXE (T:Tb) (P:Program) (w:World):CXT:=λouter H s E e s'=>
 ∃(ea:Addr) (c:Nat) (H':Hp),e=.ref ea/\s'.os=s.os/\AllBare s'.gens/\Un (frs outer) [] H H' s.heap s'.heap/\HOk P w H' s'.heap/\w11 T c ea H' s'.heap (λb=>s.heap.get? b=none)/\E (.ref (T.ca c)) none H'
section
variable {T:Tb} {X:Cx} {pins:List (Addr×Obj)} {σ:L2.St} {H:Hp} {s:Shared} {c:Nat} {u:Value}
structure Noted (X:Cx) (L:List Addr) (h h':Heap):Prop where
 kb:∀b o,h.get? b=some o->b∉L->h'.get? b=some o
 up:∀b o,h.get? b=some o->(∀vs,o.data≠.fields vs)->∃sl,h'.get? b=some { o with slots:=sl }
theorem q8V {L:List Addr} {h':Heap} (I:Inv X pins σ H s) (N:Noted X L s.heap h') (hL:∀b∈L,H b=none):HOk X.prog X.w H h':=λa o e=>
 (I.hok a o e).stay (λb v hb q=>N.kb b v q λhm=>by
  rcases hb with z | z
  ·rw [z] at hm;rw [hL _ hm] at e;cases e
  ·rw [hL b hm] at z;cases z) (λ_ q=>q) λ_ _ q=>q
theorem q64 {E:XK} {L:List Addr} {h':Heap} {ea:Addr} {a0:Value} (I:Inv X pins σ H s) (hst:X.stack=X.env::X.outer) (hex:X.ex=[]) (hn:H ea=none) (hfr:X.s₀.heap.get? ea=none)
 (hea:ea∈L) (hL:∀b∈L,H b=none/\(X.s₀.heap.get? b=none∨b∈X.fs)) (hS:∀b∈L,b=ea∨(∃o vs,s.heap.get? b=some o/\o.data=.fields vs/\X.s₀.heap.get? b=none)∨b∈frs X.stack)
 (lw:Heap.LeftW (PySem.W.hideAll s.heap L) (X.env::X.outer) ea (.ref (T.ca c)) a0 s.heap h') (nc:Nc ea h') (hE:E (.ref (T.ca c)) none H) :
 CXE T X.prog X.w X.outer X.H₀ X.s₀ E (.ref ea) { s with heap:=h' }:=by
 obtain ⟨k1,k2,k3,k4⟩:=lw
 have kb:∀b o,s.heap.get? b=some o->b∉L->h'.get? b=some o:=λb o e n=>k1 b o (PySem.W.hideAll_get _ e n)
 have nofl:∀b∈X.fs,∀o,s.heap.get? b=some o->∀vs,o.data≠.fields vs:=λb hb o e=>by
  obtain ⟨_,o',e',d⟩:=I.funs.mem hb
  rw [e] at e';cases e';exact d
 have hok:=q8V I ⟨kb,k4⟩ λb hb=>(hL b hb).1
 refine ⟨ea,c,H,rfl,I.os,I.bare,⟨λb o e n hb _=>?_,λb o e n hb _=>?_,λb o e n _=>?_,λb o e _=>?_,I.base.tups,I.base.frzs,I.base.tbls⟩,hok,⟨hn,hfr,nc,?_⟩,hE⟩
 ·refine kb b o (I.base.keep b o e n hb (by rw [hex];simp)) λhm=>?_
  rcases (hL b hm).2 with z | z
  ·rw [e] at z;cases z
  ·exact hb z
 ·obtain ⟨sl,e1⟩:=I.base.slot b o e n hb (by rw [hex];simp)
  obtain ⟨sl',e2⟩:=k4 b _ e1 (nofl b hb _ e1)
  exact ⟨sl',e2⟩
 ·exact I.base.free b o e n (by rw [hex];simp)
 ·obtain ⟨o',e1⟩:=I.base.there b o e (by rw [hex];simp)
  by_cases hm:b∈L
  ·rcases (hL b hm).2 with z | z
   ·rw [e] at z;cases z
   ·obtain ⟨sl',e2⟩:=k4 b _ e1 (nofl b z _ e1)
    exact ⟨_,e2⟩
  ·exact ⟨o',kb b o' e1 hm⟩
 ·obtain ⟨oe,vs,tb,ot,ts,he,⟨hc,h0⟩,hd,h1,hnT,hTe,hT,hdT,h3⟩:=k3
  have hid:∀b,(PySem.W.hideAll s.heap L).get? b=none->(∃o,s.heap.get? b=some o)->b∈L:=λb hb ⟨o,e⟩=>Classical.byContradiction λz=>by
   rw [PySem.W.hideAll_get _ e z] at hb;cases hb
  have notfr:tb∉frs X.stack:=λhm=>by
   rw [hst] at hm
   obtain ⟨_,o,e,d⟩:=k2.mem hm
   rw [hT] at e;cases e;exact d ts hdT
  have key:∀o,s.heap.get? tb=some o->X.s₀.heap.get? tb=none:=λo e=>by
   rcases hS tb (hid tb hnT ⟨o,e⟩) with z | ⟨_,_,_,_,z⟩ | z
   ·exact absurd z hTe
   ·exact z
   ·exact absurd z notfr
  refine ⟨oe,vs,a0,he,hc,hd,h0,.inr ⟨tb,ot,ts,h1,hTe,hT,hdT,h3,?_,?_⟩⟩
  ·cases q:H tb with
   | none=>rfl
   | some z=>
    obtain ⟨o,e⟩:=q66 (I.hok tb z q)
    have:=(hL tb (hid tb hnT ⟨o,e⟩)).1
    rw [q] at this;cases this
  ·show X.s₀.heap.get? tb=none
   cases q:X.s₀.heap.get? tb with
   | none=>rfl
   | some o=>
    obtain ⟨o',e⟩:=I.base.there tb o q (by rw [hex];simp)
    rw [key o' e] at q;cases q
theorem q4L {E:XK} {E':Value->Shared->Prop} (I:Inv X pins σ H s) (hst:X.stack=X.env::X.outer) (hf:X.env.frame=some X.env.locals) (hex:X.ex=[]) (fl:Flying T X pins c u H s) (hE:E (.ref (T.ca c)) none H) :
 wpAny (model X.prog X.w) X.A (leaving X.env u) (λ_ s''=>CXE T X.prog X.w X.outer X.H₀ X.s₀ E u s'') E' s:=by
 obtain ⟨ea,rfl,hn,fe,nc,oe,vs,a0,he,hc,hd,h0,h1⟩:=fl
 have hfr:X.A.frames=some (X.env::X.outer):=by rw [I.ok.frames,hst]
 have FF:s.heap.FunFrames X.base (X.env::X.outer):=by rw [<-hst];exact I.stack
 have fr0:∀b,Free X pins b->X.s₀.heap.get? b=none:=λb ⟨z,_⟩=>by
  rcases z with z | z
  ·rw [hex] at z;simp at z
  ·exact z
 have stk:∀b∈frs X.stack,H b=none/\(X.s₀.heap.get? b=none∨b∈X.fs):=λb hb=>⟨I.stkFree b hb,by
  rcases List.mem_cons.mp (I.stkSub b hb) with z | z
  ·rw [z];exact .inl (Heap.get?_none_of_le I.ok.above)
  ·exact .inr z⟩
 have infr:∀(L:List Addr),(∀b∈frs X.stack,b∈L)->s.heap.FunFrames (PySem.W.hideAll s.heap L) (X.env::X.outer):=λL hL=>PySem.W.funFrames_hide FF λenv he b hb=>hL b (by
  rw [hst];exact List.mem_filterMap.mpr ⟨env,he,hb⟩)
 have hidn:∀(L:List Addr) (b:Addr),b∈L->(PySem.W.hideAll s.heap L).get? b=none:=λL b hb=>PySem.W.hideAll_none L hb
 refine wpAny_mono (Kp.any (Q:=λ_ s''=>Nc ea s''.heap->CXE T X.prog X.w X.outer X.H₀ X.s₀ E (.ref ea) s'') (E:=E') Nc.push q7A nc ?_) (λ_ _ z=>z.1 z.2) λ_ _ z=>z.1
 rcases h1 with h1 | ⟨tb,ot,ts,h1,hne,ht,hdt,h3,hnt,ft⟩
 ·refine wpAny_leaving_firstW (base:=PySem.W.hideAll s.heap (ea::frs X.stack)) hfr (infr _ λb hb=>List.mem_cons_of_mem _ hb) hf he (λb o q=>PySem.W.of_hideAll _ q) (hidn _ _ List.mem_cons_self) hd h1 h0 λh' lw nc'=>?_
  rw [hc] at lw
  refine q64 (L:=ea::frs X.stack) I hst hex hn (fr0 ea fe) List.mem_cons_self (λb hb=>?_) (λb hb=>?_) lw nc' hE
  ·rcases List.mem_cons.mp hb with z | z
   ·rw [z];exact ⟨hn,.inl (fr0 ea fe)⟩
   ·exact stk b z
  ·rcases List.mem_cons.mp hb with z | z
   ·exact .inl z
   ·exact .inr (.inr z)
 ·refine wpAny_leaving_nextW (base:=PySem.W.hideAll s.heap (ea::tb::frs X.stack)) (cls:=.ref (T.ca c)) (a0:=a0) hfr (infr _ λb hb=>List.mem_cons_of_mem _ (List.mem_cons_of_mem _ hb)) hf ⟨oe,vs,tb,ot,ts,he,⟨hc,h0⟩,hd,h1,hidn _ _ (by simp),hne,ht,hdt,h3⟩ (λb o q=>PySem.W.of_hideAll _ q) (hidn _ _ List.mem_cons_self) λh' lw nc'=>?_
  refine q64 (L:=ea::tb::frs X.stack) I hst hex hn (fr0 ea fe) List.mem_cons_self (λb hb=>?_) (λb hb=>?_) lw nc' hE
  ·rcases List.mem_cons.mp hb with z | z
   ·rw [z];exact ⟨hn,.inl (fr0 ea fe)⟩
   ·rcases List.mem_cons.mp z with z | z
    ·rw [z];exact ⟨hnt,.inl (fr0 tb ft)⟩
    ·exact stk b z
  ·rcases List.mem_cons.mp hb with z | z
   ·exact .inl z
   ·rcases List.mem_cons.mp z with z | z
    ·rw [z];exact .inr (.inl ⟨ot,ts,ht,hdt,fr0 tb ft⟩)
    ·exact .inr (.inr z)
end
noncomputable def j19 (T:Tb) (K:PySem.W.Frag) (H:Hp) (v:V):Sl->Prop
 | .sh d=>Rep T K H d v
 | .bo ds=>∃a vs,v=.ref a/\H a=some (.lst vs)/\RepL T K H ds vs
 | .bi c ds=>∃a,v=.ref a/\InsAt T K H c a ds
 | _=>False
noncomputable def ArgsOk (T:Tb) (K:PySem.W.Frag) (H:Hp):List V->List Sl->Prop
 | vs,[]=>vs=[]
 | vs,s::ss=>∃v r,vs=v::r/\j19 T K H v s/\ArgsOk T K H r ss
section
variable {T:Tb} {K:PySem.W.Frag} {H H':Hp}
theorem ArgsOk.length:∀(ss:List Sl) (vs:List V),ArgsOk T K H vs ss->vs.length=ss.length
 | [],_,h=>by cases h;rfl
 | s::ss,_,h=>by
  obtain ⟨v,r,rfl,_,h2⟩:=h
  simp [ArgsOk.length ss r h2]
theorem ArgsOk.get:∀(ss:List Sl) (vs:List V) (i:Nat) (s:Sl),ArgsOk T K H vs ss->ss[i]?=some s->∃v,vs[i]?=some v/\j19 T K H v s
 | [],_,_,_,_,e=>by simp at e
 | s::ss,_,0,x,h,e=>by
  obtain ⟨v,r,rfl,h1,_⟩:=h
  simp at e;subst e
  exact ⟨v,rfl,h1⟩
 | s::ss,_,i+1,x,h,e=>by
  obtain ⟨v,r,rfl,_,h2⟩:=h
  obtain ⟨u,e1,e2⟩:=ArgsOk.get ss r i x h2 (by simpa using e)
  exact ⟨u,by simpa using e1,e2⟩
theorem ArgsOk.append:∀(ss:List Sl) (vs:List V) (ts:List Sl) (us:List V),ArgsOk T K H vs ss->ArgsOk T K H us ts->ArgsOk T K H (vs++us) (ss++ts)
 | [],_,_,_,h,h'=>by cases h;exact h'
 | s::ss,_,ts,us,h,h'=>by
  obtain ⟨v,r,rfl,h1,h2⟩:=h
  exact ⟨v,r++us,rfl,h1,ArgsOk.append ss r ts us h2 h'⟩
end
noncomputable abbrev Fn:=List Sl->Out Rv
noncomputable def w0t (T:Tb) (K:PySem.W.Frag) (H:Hp) (Q:VK) (E:XK):Out Rv->Prop
 | .ok r=>∀v H',Same H H'->q5J T K H H' v r->Q v H'
 | .exc c=>∀H',Same H H'->E (.ref (T.ca c)) none H'
 | .bad=>False
noncomputable def spD (T:Tb) (K:PySem.W.Frag) (n:Nat) (F:Fn):Sp:=λvs H Q E=>∃ss:List Sl,ArgsOk T K H vs ss/\vs.length=n/\w0t T K H Q E (F ss)
@[simp] noncomputable def fnF (n:Nat) (f:Ro->Fl) (ss:List Sl):Out Rv:=match f (ss++List.replicate (n-ss.length) .no) with
 | .nx _=>.ok (.sh .non)
 | .rt r=>.ok r
 | .exc c _=>.exc c
 | _=>.bad
theorem j2h {T:Tb} {K:PySem.W.Frag} {H:Hp} {N:List Str} {vs:List V} {ss:List Sl} (hT:T.me=none) (h:ArgsOk T K H vs ss):FR T K H H (start N vs) (ss++List.replicate (N.length-ss.length) .no):=by
 have hl:=ArgsOk.length ss vs h
 have noow:∀(i:Nat) (s:Sl) (x:Option (Option V)) (b:Addr),(ss++List.replicate (N.length-ss.length) Sl.no)[i]?=some s->¬q3J H x b s:=λi s x b z o=>by
  by_cases hi:i < ss.length
  ·rw [List.getElem?_append_left hi] at z
   obtain ⟨v,_,r⟩:=ArgsOk.get ss vs i _ h z
   cases s with
   | sh d=>exact o
   | bo ds=>exact o
   | bi c ds=>exact o
   | _=>exact r
  ·rw [List.getElem?_append_right (by omega),List.getElem?_replicate] at z
   split at z
   ·cases z;exact o
   ·cases z
 have nome:∀(i:Nat) (c:Nat) (es:List D),(ss++List.replicate (N.length-ss.length) Sl.no)[i]?≠some (.me c es):=λi c es z=>by
  by_cases hi:i < ss.length
  ·rw [List.getElem?_append_left hi] at z
   obtain ⟨v,_,r⟩:=ArgsOk.get ss vs i _ h z
   exact r
  ·rw [List.getElem?_append_right (by omega),List.getElem?_replicate] at z
   split at z<;>cases z
 refine ⟨Same.refl H,by unfold L2.start;simp [hl],λi s e=>?_,λi j s t b _ z _ o _=>noow i s _ b z o,(λx e=>by rw [hT] at e;cases e),(λi c es z=>absurd z (nome i c es))⟩
 by_cases hi:i < ss.length
 ·rw [List.getElem?_append_left hi] at e
  obtain ⟨v,e1,r⟩:=ArgsOk.get ss vs i s h e
  have e2:(start N vs)[i]?=some (some v):=by
   unfold L2.start
   rw [List.getElem?_append_left (by simp [hl,hi]),List.getElem?_map,e1];rfl
  rw [e2]
  cases s with
  | sh d=>exact ⟨v,rfl,r⟩
  | bo ds=>
   obtain ⟨a,us,rfl,r2,r3⟩:=r
   exact ⟨a,us,rfl,r2,r3⟩
  | bi c ds=>
   obtain ⟨a,rfl,dx,fs,r2,r3,r4,r5⟩:=r
   exact ⟨a,dx,fs,rfl,r2,r3,r4,r5⟩
  | _=>exact r.elim
 ·rw [List.getElem?_append_right (by omega),List.getElem?_replicate] at e
  split at e
  ·cases e;trivial
  ·cases e
section
variable {P:Program} {w:World} {K:PySem.W.Frag} {mg:Str->Option Value} {base:Heap} {T:Tb}
noncomputable abbrev CxD (T:Tb) (P:Program) (w:World) (K:PySem.W.Frag) (mg:Str->Option Value) (base:Heap) (N:List Str) (qual:Str) (scope:Scope) (f:Addr) (cd:Value) (A:Around) (outer:List Env) (s:Shared) (H:Hp) (E:XK):Cx:=
 j6t (CXE T P w) P w K mg base N qual scope f cd A outer s H E
theorem q15 {x qual:Str} {st:Stmt} {fa:Addr} {fd:FuncData} {N ps:List Str} {k:Nat} {f:Ro->Fl} (hT:T.me=none) (F:L2.Fun K x qual st fa fd) (S:q0q N ps (q0j st))
 (hb:∀(cdv:Value) (A:Around) (outer:List Env) (s:Shared) (H:Hp) (E:XK),Room k (A.deeper (envOfC qual (q0j st) s.heap.objs.size fa cdv))->DSs T false (CxD T P w K mg base N qual (q0j st) fa cdv A outer s H E) (q1D st) f) :
 q1j P w K mg base (CXE T P w) (k+1) fa fd ps (spD T K ps.length (fnF N.length f)):=by
 obtain ⟨oc,od,kV,doc,pm,an,cdv,ct,osl,rfl,lk,hcd⟩:=F.ex
 refine j8F lk hcd S (λvs H Q E ⟨ss,_,e,_⟩=>e) λA outer s H vs Q E hr ⟨ss,ha,hl,ho⟩=>?_
 have fr:=j2h (N:=N) hT ha
 have hb':=hb cdv A outer s H E hr
 refine ⟨_,hb'.run H (CxD T P w K mg base N qual (q0j st) fa cdv A outer s H E).xe PassesOwn.leaving,_,fr,?_⟩
 unfold fnF at ho
 cases e:f (ss++List.replicate (N.length-ss.length) .no) with
 | nx ρ=>
  rw [e] at ho
  exact fun σ H' fr' _=>ho .non H' fr'.same rfl
 | rt r=>
  rw [e] at ho
  exact λv H' hs r'=>ho v H' hs r'
 | exc c ρ=>
  rw [e] at ho
  intro σ' H' fr' _ pins s' u H'' I hs fl
  exact q4L I rfl rfl rfl fl (ho H'' (fr'.same.trans hs))
 | rm r c ds ks=>rw [e] at ho;exact ho.elim
 | bk ρ=>rw [e] at ho;exact ho.elim
 | ct ρ=>rw [e] at ho;exact ho.elim
 | bad=>rw [e] at ho;exact ho.elim
end
noncomputable def tG (T:Tb) (X:Cx) (G:Hp) (E:Value->Shared->Prop) (f:Ro->Out (List Sl)):TA:=fun σ H Q=>∃ρ,FR T X.K G H σ ρ/\Acc T X E σ H (f ρ) (λss=>∀vs H',Same H H'->ArgsOk T X.K H' vs ss->Q vs H')
structure DG (T:Tb) (X:Cx) (es:List Expr) (f:Ro->Out (List Sl)):Prop where
 mk ::
 run:∀(G:Hp) (E:Value->Shared->Prop),PassesOwn (model X.prog X.w) X.A X.env E->PA (X.wish E) es (tG T X G E f)
section
variable {T:Tb} {X:Cx} {e:Expr} {es:List Expr} {pos p:Pos} {fe:Ev} {fs:Ro->Out (List Sl)}
@[simp] noncomputable def gN0 (ρ:Ro):Out (List Sl):=.ok []
@[simp] noncomputable def gSh (fe:Ev) (fs:Ro->Out (List Sl)) (ρ:Ro):Out (List Sl):=(fe ρ).bind λd=>(fs ρ).bind λss=>.ok (.sh d::ss)
@[simp] noncomputable def gBo (i:Nat) (fs:Ro->Out (List Sl)) (ρ:Ro):Out (List Sl):=match ρ[i]? with
 | some (.ow ds)=>(fs ρ).bind λss=>.ok (.bo ds::ss)
 | some (.bo ds)=>(fs ρ).bind λss=>.ok (.bo ds::ss)
 | some (.mo ds)=>(fs ρ).bind λss=>.ok (.bo ds::ss)
 | some (.sh d)=>(fs ρ).bind λss=>.ok (.sh d::ss)
 | _=>.bad
theorem q0m:DG T X [] gN0:=.mk λG E hp=>PA.imp q1t fun σ H Q ⟨ρ,fr,h⟩=>h [] H (Same.refl H) rfl
theorem q0f (ha:DE T X e fe) (hr:DG T X es fs) (hs:starEach (e::es) X.env=(false,eval e X.env)::starEach es X.env:=by exact q0D rfl):DG T X (e::es) (gSh fe fs):=.mk λG E hp=>by
 refine PA.imp (q0I (X:=X.wish E) (ha.run G E hp) (hr.run G E hp) hs) fun σ H Q ⟨ρ,fr,h⟩=>?_
 refine ⟨ρ,fr,Acc.mono (Acc.bind h) λd _ hd v H1 s1 r1=>⟨ρ,fr.mono s1,Acc.mono (Acc.bind (Acc.heap s1 hd)) λss _ hss vs H2 s2 r2=>?_⟩⟩
 exact hss (v::vs) H2 (s1.trans s2) ⟨v,vs,rfl,Rep.mono s2 _ _ r1,r2⟩
theorem j88 (i:Nat) {x:Str} (hr:DG T X es fs) (hs:starEach (.Name x pos::es) X.env=(false,eval (.Name x pos) X.env)::starEach es X.env:=by exact q0D rfl) (hN:X.N[i]?=some x:=by rfl) (hv:Vis X.env.scope x:=by walk_at "v0") (hd:(x==("__debug__" : Str))=false:=by decide)
 (hcd:(x==("__classdict__" : Str))=false:=by decide):DG T X (.Name x pos::es) (gBo i fs):=.mk λG E hp=>by
 refine PA.imp (q0I (X:=X.wish E) (q2D (X:=X.wish E) hN hv hd hcd) (hr.run G E hp) hs) fun σ H Q ⟨ρ,fr,h⟩=>?_
 unfold gBo at h
 split at h
 ·rename_i ds e
  obtain ⟨a,vs,e1,e2,e3,r⟩:=fr.sl i _ e
  refine ⟨_,e1,ρ,fr,Acc.mono (Acc.bind h) λss _ hss us H2 s2 r2=>?_⟩
  exact hss (.ref a::us) H2 s2 ⟨_,us,rfl,⟨a,vs,rfl,s2 _ _ e2,RepL.mono s2 _ _ r⟩,r2⟩
 ·rename_i ds e
  obtain ⟨a,vs,e1,e2,r⟩:=fr.sl i _ e
  refine ⟨_,e1,ρ,fr,Acc.mono (Acc.bind h) λss _ hss us H2 s2 r2=>?_⟩
  exact hss (.ref a::us) H2 s2 ⟨_,us,rfl,⟨a,vs,rfl,s2 _ _ (fr.same _ _ e2),RepL.mono s2 _ _ r⟩,r2⟩
 ·rename_i ds e
  obtain ⟨a,vs,_,e1,e2,e3,r⟩:=fr.sl i _ e
  refine ⟨_,e1,ρ,fr,Acc.mono (Acc.bind h) λss _ hss us H2 s2 r2=>?_⟩
  exact hss (.ref a::us) H2 s2 ⟨_,us,rfl,⟨a,vs,rfl,s2 _ _ e2,RepL.mono s2 _ _ r⟩,r2⟩
 ·rename_i d e
  obtain ⟨v,e1,r⟩:=fr.sl i _ e
  refine ⟨_,e1,ρ,fr,Acc.mono (Acc.bind h) λss _ hss us H2 s2 r2=>?_⟩
  exact hss (v::us) H2 s2 ⟨_,us,rfl,Rep.mono s2 _ _ r,r2⟩
 ·exact h.elim
theorem Inv.flown {pins:List (Addr×Obj)} {σ:L2.St} {H:Hp} {s s':Shared} {E:XK} {u:Value} (I:Inv X pins σ H s) (h:CXE T X.prog X.w X.stack H s E u s'):∃c H',Inv X pins σ H' s'/\Flying T X pins c u H' s'/\E (.ref (T.ca c)) none H':=by
 obtain ⟨ea,c,H',rfl,os,bare,un,hok,⟨h1,h2,nc,oe,vs,a0,he,hc,hd,h0,ht⟩,hE⟩:=h
 have free:∀b,s.heap.get? b=none->Free X pins b:=λb hb=>by
  refine ⟨?_,λz=>?_,λx cc e z=>?_,λq hq z=>?_⟩
  ·by_cases hx:b∈X.ex
   ·exact .inl hx
   ·refine .inr ?_
    cases q:X.s₀.heap.get? b with
    | none=>rfl
    | some o=>
     obtain ⟨o',e⟩:=I.base.there b o q hx
     rw [hb] at e;cases e
  ·obtain ⟨m,⟨o,_,_,ho,_⟩,_⟩:=I.loc
   rw [<-z,hb] at ho;cases ho
  ·obtain ⟨v,o,ho,_⟩:=I.cell x cc e
   rw [z,hb] at ho;cases ho
  ·obtain ⟨e,_⟩:=I.pin q hq
   rw [z,hb] at e;cases e
 refine ⟨c,H',I.call' os un hok bare λb z=>absurd z (by simp),⟨ea,rfl,h1,free ea h2,nc,oe,vs,a0,he,hc,hd,h0,?_⟩,hE⟩
 rcases ht with ht | ⟨tb,ot,ts,t1,t2,t3,t4,t5,t6,t7⟩
 ·exact .inl ht
 ·exact .inr ⟨tb,ot,ts,t1,t2,t3,t4,t5,t6,free tb t7⟩
variable {k n:Nat} {f C:Addr} {fd:FuncData} {ps:List Str} {F:Fn} {ds:List Value} {dvs:List V} {dss:List Sl} {x m:Str} {apos:Pos} {o:Expr}
theorem j6j {pins:List (Addr×Obj)} {σ:L2.St} {H:Hp} {s:Shared} {E:Value->Shared->Prop} {Q:VK} {us:List Value} {vs:List V} {ss:List Sl} (FO:q1j X.prog X.w X.K X.mg X.base (CXE T X.prog X.w) k f fd ps (spD T X.K ps.length F)) (hr:Room k X.A) (hb:Binds X.K fd ps ds) (hd:Vals dvs ds)
 (I:Inv (X.wish E) pins σ H s) (r:Vals vs us) (ha:ArgsOk T X.K H (vs++dvs) ss) (hl:(us++ds).length=ps.length) (h:Acc T X E σ H (F ss) (λr=>∀v H',Same H H'->q5J T X.K H H' v r->Q v H')) :
 wpAny (model X.prog X.w) X.A (call (.ref f) us) (EP (X.wish E) pins σ Q) E s:=by
 have r2:Vals (vs++dvs) (us++ds):=r.append hd
 have IX:Inv X pins σ H s:=I.unwish
 let EX:XK:=λcls _ H'=>∃c,cls=.ref (T.ca c)/\F ss=.exc c/\Same H H'
 refine wpAny_call (codeAny_mono (FO.run X.A X.stack s H ⟨us,[]⟩ (us++ds) (vs++dvs) Q EX hr IX.env0 (hb s us IX.kIn hl) r2 ⟨ss,ha,r2.length.trans hl,?_⟩) λres s' hq=>?_)
 ·cases e:F ss with
  | ok r=>rw [e] at h;exact h
  | exc c=>exact λH' hs=>⟨c,rfl,e,hs⟩
  | bad=>rw [e] at h;exact h.elim
 ·cases res with
  | error ev=>
   obtain ⟨c,H',I',fl,c',ec,eF,hs⟩:=Inv.flown IX hq
   rw [eF] at h
   refine h pins s' ev H' I' hs ?_
   obtain ⟨ea,rfl,h1,h2,nc,oe,vs',a0,he,hc,rest⟩:=fl
   exact ⟨ea,rfl,h1,h2,nc,oe,vs',a0,he,hc.trans ec,rest⟩
  | ok fl=>
   cases fl with
   | ret u=>
    obtain ⟨v,H',I',rv,q⟩:=IX.after hq
    exact ⟨v,H',I'.wish E,rv,q⟩
   | next=>exact False.elim hq
   | brk=>exact False.elim hq
   | cont=>exact False.elim hq
@[simp] noncomputable def q0r (F:Fn) (dss:List Sl) (fs:Ro->Out (List Sl)) (ρ:Ro):Out Rv:=(fs ρ).bind λss=>if ss.length+dss.length=n then F (ss++dss) else .bad
theorem j5s (FO:q1j X.prog X.w X.K X.mg X.base (CXE T X.prog X.w) k f fd ps (spD T X.K ps.length F)) (hr:Room k X.A) (hg:Gl X x) (hm:X.mg x=some (.ref f)) (hk:PySem.W.keepIn X.K (.ref f)=true) (hb:Binds X.K fd ps ds) (hd:Vals dvs ds)
 (hds:∀H,ArgsOk T X.K H dvs dss) (hn:n=ps.length) (ha:DG T X (e::es) fs) (hdb:(x==("__debug__" : Str))=false:=by decide) (he:starEach (e::es) X.env=(false,eval e X.env)::starEach es X.env:=by exact q0D rfl) (hpl:(backTo pos (starEach es X.env)).any (·.1)=false:=by exact q0J rfl) :
 DR T X (.Call (.Name x p) (e::es) [] pos) (q0r (n:=n) F dss fs):=.mk λG E hp=>by
 rintro pins s σ H Q I ⟨ρ,fr,h⟩
 refine wpAny_Call_Name_kw (q4c (X:=X.wish E) I hg hm ?_ hdb)
 refine PySem.W.callWith_K (h₀:=X.base) I.ok.mod.kin hk (thn (ha.run G E hp pos pins s σ H (λvs H1=>∃ss,ArgsOk T X.K H1 vs ss/\ss.length+dss.length=n/\Same H H1/\Acc T X E σ H1 (F (ss++dss)) (λr=>∀v H',Same H1 H'->q5J T X.K H1 H' v r->Q v H')) I ⟨ρ,fr,?_⟩) λus s1 ⟨vs,H1,I1,r,ss,ha1,hl1,s1',q⟩=>⟨I1.kIn,?_⟩) he hpl
 ·refine Acc.mono (Acc.bind h) λss _ hss vs H1 s1 r1=>?_
  by_cases hl:ss.length+dss.length=n
  ·rw [if_pos hl] at hss
   exact ⟨ss,r1,hl,s1,Acc.mono (Acc.heap s1 hss) λr _ hr' v H' s2 r2=>hr' v H' (s1.trans s2) (q3R s1 r2)⟩
  ·rw [if_neg hl] at hss;exact hss.elim
 ·have la:=ArgsOk.length ss vs ha1
  have lr:=r.length
  have ld:=ArgsOk.length dss dvs (hds H1)
  have lv:=hd.length
  exact j6j (X:=X) FO hr hb hd I1 r (ArgsOk.append _ _ _ _ ha1 (hds H1)) (by simp only [List.length_append,List.nil_append];omega) q
end
theorem Inv.freeze {X:Cx} {pins:List (Addr×Obj)} {σ:L2.St} {H:Hp} {s:Shared} {a:Addr} {vs:List V} (I:Inv X pins σ H s) (h:H a=some (.lst vs)):∃o,Inv X pins σ (upd H a (.frz o (.lst vs))) s:=by
 obtain ⟨z,its,n,r,e⟩:=I.hok a _ h
 refine ⟨{ cls:=.type "list",data:=.seq its.toArray n },I.un (H':=upd H a (.frz { cls:=.type "list",data:=.seq its.toArray n } (.lst vs))) (h':=s.heap) (t':=s.toks) ⟨λb o q _ _ _=>q,λb o q _ _ _=>⟨o.slots,q⟩,λb o q n' _=>?_,λb o q _=>⟨o,q⟩,λb xs q=>?_,λb o u q=>?_,λb ps q=>⟨#[],?_⟩⟩ λb u q=>?_⟩
 ·rw [q0i (λz=>by rw [z,h] at n';cases n')];exact n'
 ·rw [q0i (λz=>by rw [z,h] at q;cases q)];exact q
 ·rw [q0i (λz=>by rw [z,h] at q;cases q)];exact q
 ·rw [q0i (λz=>by rw [z,h] at q;cases q),q];simp
 ·have own:∀b y,H b=some (.own y)->upd H a (.frz { cls:=.type "list",data:=.seq its.toArray n } (.lst vs)) b=some (.own y):=λb y q=>by
   rw [q0i (λz=>by rw [z,h] at q;cases q)];exact q
  have tup:∀b xs,H b=some (.tup xs)->upd H a (.frz { cls:=.type "list",data:=.seq its.toArray n } (.lst vs)) b=some (.tup xs):=λb y q=>by
   rw [q0i (λz=>by rw [z,h] at q;cases q)];exact q
  by_cases hb:b=a
  ·subst hb
   rw [q0u] at q;cases q
   exact ⟨e,(I.hok _ _ h).stay (λ_ _ _ q=>q) (λc=>own c _) tup⟩
  ·rw [q0i hb] at q
   exact (I.hok b u q).stay (λ_ _ _ q=>q) (λc=>own c _) tup
theorem PE.freeze {X:Cx} {e:Expr} {t:TE} (h:PE X e t):PE X e (fun σ H Q=>t σ H λv H1=>∃a vs,v=.ref a/\H1 a=some (.lst vs)/\∀o,Q v (upd H1 a (.frz o (.lst vs)))):=λpins s σ H Q I q=>
 thn (h pins s σ H _ I q) λu s1 ⟨v,H1,I1,r,a,vs,e,ha,k⟩=>by
  obtain ⟨o,I2⟩:=Inv.freeze I1 ha
  exact ⟨v,_,I2,r,k o⟩
theorem q0z {H:Hp} {a:Addr} {o:HO} (h:H a=none):Same H (upd H a o):=λb u e=>by
 rw [q0i (λz=>by rw [z,h] at e;cases e)];exact e
section
variable {T:Tb} {X:Cx} {e:Expr}
mutual
theorem Rep.froz {K:PySem.W.Frag} {H:Hp} {a:Addr} {vs:List V} {o:Obj} (h:H a=some (.lst vs)):∀(d:D) (v:V),Rep T K H d v->Rep T K (upd H a (.frz o (.lst vs))) d v
 | .non,_,q=>q
 | .bl _,_,q=>q
 | .int _,_,q=>q
 | .str _,_,q=>q
 | .tup ds,_,q=>by
  obtain ⟨b,ws,r1,r2,r3⟩:=q
  refine ⟨b,ws,r1,?_,RepL.froz h ds ws r3⟩
  rcases r2 with (r2 | ⟨o',r2⟩) | r2
  ·exact .inl (.inl (by rw [q0i (λz=>by rw [z,h] at r2;cases r2)];exact r2))
  ·exact .inl (.inr ⟨o',by rw [q0i (λz=>by rw [z,h] at r2;cases r2)];exact r2⟩)
  ·exact .inr r2
 | .lst ds,_,q=>by
  obtain ⟨b,ws,r1,r2,r3⟩:=q
  refine ⟨b,ws,r1,?_,RepL.froz h ds ws r3⟩
  rcases r2 with ⟨o',r2⟩ | r2
  ·exact .inl ⟨o',by rw [q0i (λz=>by rw [z,h] at r2;cases r2)];exact r2⟩
  ·exact .inr r2
 | .ins c ds,_,q=>by
  obtain ⟨b,dx,fs,r1,r2,r3,r4⟩:=q
  exact ⟨b,dx,fs,r1,by rw [q0i (λz=>by rw [z,h] at r2;cases r2)];exact r2,r3,RepL.froz h ds _ r4⟩
 | .exc c,_,q=>by
  obtain ⟨b,o',r1,r2,r3⟩:=q
  exact ⟨b,o',r1,by rw [q0i (λz=>by rw [z,h] at r2;cases r2)];exact r2,r3⟩
theorem RepL.froz {K:PySem.W.Frag} {H:Hp} {a:Addr} {vs:List V} {o:Obj} (h:H a=some (.lst vs)):∀(ds:List D) (us:List V),RepL T K H ds us->RepL T K (upd H a (.frz o (.lst vs))) ds us
 | [],_,q=>q
 | d::ds,_,q=>by
  obtain ⟨v,r,r1,r2,r3⟩:=q
  exact ⟨v,r,r1,Rep.froz h d v r2,RepL.froz h ds r r3⟩
end
@[simp] noncomputable def q1I (f:Ro->Out (List D)) (ρ:Ro):Out D:=(f ρ).bind λds=>.ok (.lst ds)
theorem DF.de {f:Ro->Out (List D)} (h:DF T X e f):DE T X e (q1I f):=.mk λG E hp=>by
 refine PE.imp (PE.freeze (h.run G E hp)) fun σ H Q ⟨ρ,fr,q⟩=>⟨ρ,fr,Acc.mono (Acc.bind q) λds _ hd a vs H' s1 ha ha' r=>⟨a,vs,rfl,ha',λo=>?_⟩⟩
 refine hd _ _ (λb u e=>?_) ⟨a,vs,rfl,.inl ⟨o,q0u⟩,RepL.froz ha' _ _ r⟩
 rw [q0i (λz=>by rw [z,ha] at e;cases e)];exact s1 b u e
theorem DF.dr {f:Ro->Out (List D)} (h:DF T X e f):DR T X e (fun ρ=>(f ρ).bind λds=>.ok (.fr ds)):=.mk λG E hp=>
 PE.imp (h.run G E hp) fun σ H Q ⟨ρ,fr,q⟩=>⟨ρ,fr,Acc.mono (Acc.bind q) λds _ hd a vs H' s1 ha ha' r=>hd _ _ s1 ⟨a,vs,rfl,ha',ha,r⟩⟩
@[simp] noncomputable def mkO (t:Bool) (ds:List D):D:=if t=true then .tup ds else .lst ds
@[simp] noncomputable def Rv.d:Rv->D
 | .sh d=>d
 | .fr ds=>.lst ds
 | .tf t pre ds post=>mkO t (pre++.lst ds::post)
theorem OutAt.rep {K:PySem.W.Frag} {H:Hp} {t:Bool} {a b:Addr} {vp vq ws:List V} {pre ds post:List D} {o:Obj} (e2:OutAt H t a (vp++.ref b::vq)) (r1:RepL T K H pre vp) (r2:RepL T K H post vq) (e3:H b=some (.lst ws)) (r3:RepL T K H ds ws) :
 Rep T K (upd H b (.frz o (.lst ws))) (mkO t (pre++.lst ds::post)) (.ref a):=by
 have hl:RepL T K (upd H b (.frz o (.lst ws))) (pre++.lst ds::post) (vp++.ref b::vq):=
  RepL.append _ _ _ _ (RepL.froz e3 _ _ r1) ⟨_,_,rfl,⟨b,ws,rfl,.inl ⟨o,q0u⟩,RepL.froz e3 _ _ r3⟩,RepL.froz e3 _ _ r2⟩
 have ha:OutAt (upd H b (.frz o (.lst ws))) t a (vp++.ref b::vq):=e2.keep λu q _ _=>by
  rw [q0i (λz=>by subst z;exact e2.nlst e3)];exact q
 cases t with
 | true=>exact ⟨a,_,rfl,.inl (.inl ha),hl⟩
 | false=>
  obtain ⟨o',ha⟩:=ha
  exact ⟨a,_,rfl,.inl ⟨o',ha⟩,hl⟩
@[simp] noncomputable def rD (f:Ro->Out Rv) (ρ:Ro):Out D:=(f ρ).bind λr=>.ok r.d
theorem DR.de {f:Ro->Out Rv} (h:DR T X e f):DE T X e (rD f):=.mk λG E hp=>by
 rintro pins s σ H Q I ⟨ρ,fr,q⟩
 refine thn (h.run G E hp pins s σ H (λv H1=>∃r,Same H H1/\q5J T X.K H H1 v r/\kE T X.K H Q r.d) I ⟨ρ,fr,Acc.mono (Acc.bind q) λr _ hr v H' s1 r1=>⟨r,s1,r1,hr⟩⟩) λu s1 ⟨v,H1,I1,rv,r,sm,rok,k⟩=>?_
 cases r with
 | sh d=>exact ⟨v,H1,I1,rv,k v H1 sm rok⟩
 | fr ds=>
  obtain ⟨a,vs,rfl,ha',ha,rl⟩:=rok
  obtain ⟨o,I2⟩:=Inv.freeze I1 ha'
  refine ⟨_,_,I2,rv,k _ _ (λb u e=>?_) ⟨a,vs,rfl,.inl ⟨o,q0u⟩,RepL.froz ha' _ _ rl⟩⟩
  rw [q0i (λz=>by rw [z,ha] at e;cases e)];exact sm b u e
 | tf t pre ds post=>
  obtain ⟨a,vp,b,vq,ws,rfl,e2,r1,r2,e3,e4,r3⟩:=rok
  obtain ⟨o,I2⟩:=Inv.freeze I1 e3
  refine ⟨_,_,I2,rv,k _ _ (λc u e=>?_) (e2.rep r1 r2 e3 r3)⟩
  rw [q0i (λz=>by rw [z,e4] at e;cases e)];exact sm c u e
theorem DF.dl {f:Ro->Out (List D)} (h:DF T X e f):DL T X e f:=.mk λG E hp=>
 PE.imp (h.run G E hp) fun σ H Q ⟨ρ,fr,q⟩=>⟨ρ,fr,Acc.mono q λds _ hd a vs H' s1 ha ha' r=>hd a vs H' s1 (SqL.of ha') r⟩
@[simp] noncomputable def D.toL:D->Out (List D)
 | .lst ds=>.ok ds
 | _=>.bad
@[simp] noncomputable def q1y (f:Ev) (ρ:Ro):Out (List D):=(f ρ).bind D.toL
theorem DE.dl {f:Ev} (h:DE T X e f):DL T X e (q1y f):=.mk λG E hp=>
 PE.imp (h.run G E hp) fun σ H Q ⟨ρ,fr,q⟩=>⟨ρ,fr,Acc.mono (Acc.bind q) λd _ hd v H' s1 r=>by
  cases d with
  | lst ds=>
   obtain ⟨a,vs,rfl,e2,r2⟩:=r
   exact hd a vs H' s1 e2.sq r2
  | _=>exact hd.elim⟩
end
section
variable {T:Tb} {X:Cx} {a b:Expr} {rest:List Expr} {pos:Pos} {fa fb:Ro->Out Bool} {f:Ev}
@[simp] noncomputable def D.tru:D->Out Bool
 | .non=>.ok false
 | .bl b=>.ok b
 | .int i=>.ok (i != 0)
 | .str x=>if x.length<=1000000 then .ok ((x.length:Int) != 0) else .bad
 | .tup ds=>.ok (!ds.isEmpty)
 | .lst ds=>.ok (!ds.isEmpty)
 | _=>.bad
theorem line6 {n:Nat} (h:n<=1000000):n<=sizeLine:=by rw [sizeLine_eq];omega
theorem q4K {ds:List D} {vs:List V} (h:vs.length=ds.length):(!vs.isEmpty)=!ds.isEmpty:=by
 cases ds<;>cases vs<;>simp_all
theorem w3i {H:Hp} {d:D} {v:V} {k:Bool} (r:Rep T X.K H d v) (h:d.tru=.ok k):w1Q X.K v H k:=by
 cases d with
 | non=>cases r;cases h;exact rfl
 | bl b=>cases r;cases h;exact rfl
 | int i=>cases r;cases h;exact rfl
 | str x=>
  cases r
  have h':(if x.length<=1000000 then Out.ok ((x.length:Int) != 0) else .bad)=.ok k:=h
  by_cases z:x.length<=1000000
  ·rw [if_pos z] at h';cases h';exact ⟨line6 z,rfl⟩
  ·rw [if_neg z] at h';cases h'
 | tup ds=>
  obtain ⟨a,vs,rfl,e,r⟩:=r
  cases h
  exact .inr (.inl ⟨vs,e,(q4K (RepL.length _ _ r)).symm⟩)
 | lst ds=>
  obtain ⟨a,vs,rfl,e,r⟩:=r
  cases h
  exact .inl ⟨vs,e.sq,(q4K (RepL.length _ _ r)).symm⟩
 | ins c ds=>cases h
 | exc c=>cases h
@[simp] noncomputable def q46 (f:Ev) (ρ:Ro):Out Bool:=(f ρ).bind D.tru
theorem q01 (h:DE T X a f) (he:∀whole,isTrue a X.env whole=(do let v <-whole;standAt a.pos;holding [v] (truthy v)):=by intro _;rfl):DT T X a (q46 f):=.mk λG E hp=>by
 refine PT.imp (j1Z (X:=X.wish E) (h.run G E hp) he) fun σ H Q ⟨ρ,fr,q⟩=>⟨ρ,fr,Acc.mono (Acc.bind q) λd _ hd v H' s1 r=>?_⟩
 cases e:d.tru with
 | ok k=>rw [e] at hd;exact ⟨k,w3i r e,hd H' s1⟩
 | exc c=>
  cases d with
  | str x=>
   have h':(if x.length<=1000000 then Out.ok ((x.length:Int) != 0) else .bad)=.exc c:=e
   by_cases z:x.length<=1000000
   ·rw [if_pos z] at h';cases h'
   ·rw [if_neg z] at h';cases h'
  | _=>cases e
 | bad=>rw [e] at hd;exact hd.elim
@[simp] noncomputable def q1X (f:Ro->Out Bool) (ρ:Ro):Out Bool:=(f ρ).bind λb=>.ok (!b)
@[simp] noncomputable def q4Q (f g:Ro->Out Bool) (ρ:Ro):Out Bool:=(f ρ).bind λb=>if b=true then g ρ else .ok false
@[simp] noncomputable def j5o (f g:Ro->Out Bool) (ρ:Ro):Out Bool:=(f ρ).bind λb=>if b=true then .ok true else g ρ
theorem q1k (h:DT T X a fa):DT T X (.UnaryOp .Not a pos) (q1X fa):=.mk λG E hp=>
 PT.imp (j7i (X:=X.wish E) (h.run G E hp)) fun σ H Q ⟨ρ,fr,q⟩=>⟨ρ,fr,Acc.mono (Acc.bind q) λb _ hb H' s1=>hb H' s1⟩
theorem q3r (ha:DT T X a fa):DW T X (.BoolOp .And [a] pos) fa:=.mk λG E hp=>j50 (ha.run G E hp)
theorem q3W (ha:DT T X a fa):DW T X (.BoolOp .Or [a] pos) fa:=.mk λG E hp=>j73 (ha.run G E hp)
theorem q4U (ha:DT T X a fa) (hb:DW T X (.BoolOp .And (b::rest) pos) fb):DW T X (.BoolOp .And (a::b::rest) pos) (q4Q fa fb):=.mk λG E hp=>
 PW.imp (j7e (ha.run G E hp) (hb.run G E hp)) fun σ H Q ⟨ρ,fr,q⟩=>⟨ρ,fr,Acc.mono (Acc.bind q) λb _ hb H' s1=>by
  cases b with
  | true=>exact ⟨ρ,fr.mono s1,Acc.mono (Acc.heap s1 hb) λc _ hc H2 s2=>hc H2 (s1.trans s2)⟩
  | false=>exact hb H' s1⟩
theorem q7C (ha:DT T X a fa) (hb:DW T X (.BoolOp .Or (b::rest) pos) fb):DW T X (.BoolOp .Or (a::b::rest) pos) (j5o fa fb):=.mk λG E hp=>
 PW.imp (w1B (ha.run G E hp) (hb.run G E hp)) fun σ H Q ⟨ρ,fr,q⟩=>⟨ρ,fr,Acc.mono (Acc.bind q) λb _ hb H' s1=>by
  cases b with
  | false=>exact ⟨ρ,fr.mono s1,Acc.mono (Acc.heap s1 hb) λc _ hc H2 s2=>hc H2 (s1.trans s2)⟩
  | true=>exact hb H' s1⟩
variable {ga gb:Ev}
@[simp] noncomputable def j53 (f g:Ev) (ρ:Ro):Out D:=(f ρ).bind λd=>d.toB.bind λb=>if b=true then g ρ else .ok (.bl false)
@[simp] noncomputable def j8Z (f:Ev) (ρ:Ro):Out D:=(f ρ).bind λd=>d.toB.bind λb=>.ok (.bl (!b))
theorem q5G {α:Type} {E:Value->Shared->Prop} {σ:L2.St} {H:Hp} {d:D} {g:Bool->Out α} {k:α->Prop} (h:Acc T X E σ H (d.toB.bind g) k):∃b,d=.bl b/\Acc T X E σ H (g b) k:=by
 cases d with
 | bl b=>exact ⟨b,rfl,h⟩
 | _=>exact h.elim
theorem j6V {op} (h:DE T X a ga):DE T X (.BoolOp op [a] pos) ga:=.mk λG E hp=>j8q (h.run G E hp)
theorem j31 (ha:DE T X a ga) (hb:DE T X (.BoolOp .And (b::rest) pos) gb):DE T X (.BoolOp .And (a::b::rest) pos) (j53 ga gb):=.mk λG E hp=>
 PE.imp (j8H (ha.run G E hp) (hb.run G E hp)) fun σ H Q ⟨ρ,fr,q⟩=>⟨ρ,fr,Acc.mono (Acc.bind q) λd _ hd v H' s1 r=>by
  obtain ⟨c,rfl,hc⟩:=q5G hd
  refine ⟨c,r,?_⟩
  cases c with
  | true=>exact ⟨ρ,fr.mono s1,Acc.mono (Acc.heap s1 hc) λc _ hc v2 H2 s2 r2=>hc v2 H2 (s1.trans s2) r2⟩
  | false=>exact hc _ H' s1 rfl⟩
theorem j7X (ha:DE T X a ga):DE T X (.UnaryOp .Not a pos) (j8Z ga):=.mk λG E hp=>
 PE.imp (j7f (ha.run G E hp)) fun σ H Q ⟨ρ,fr,q⟩=>⟨ρ,fr,Acc.mono (Acc.bind q) λd _ hd v H' s1 r=>by
  obtain ⟨c,rfl,hc⟩:=q5G hd
  exact ⟨c,r,hc _ H' s1 rfl⟩⟩
@[simp] noncomputable def eIf (t:Ro->Out Bool) (f g:Ev) (ρ:Ro):Out D:=(t ρ).bind λb=>if b=true then f ρ else g ρ
theorem w1G {c:Expr} {ft:Ro->Out Bool} (hc:DT T X c ft) (ha:DE T X a ga) (hb:DE T X b gb):DE T X (.IfExp c a b pos) (eIf ft ga gb):=.mk λG E hp=>
 PE.imp (j1w (hc.run G E hp) (ha.run G E hp) (hb.run G E hp)) fun σ H Q ⟨ρ,fr,q⟩=>⟨ρ,fr,Acc.mono (Acc.bind q) λb _ hb H' s1=>by
  cases b with
  | true=>exact ⟨ρ,fr.mono s1,Acc.mono (Acc.heap s1 hb) λc _ hc v2 H2 s2 r2=>hc v2 H2 (s1.trans s2) r2⟩
  | false=>exact ⟨ρ,fr.mono s1,Acc.mono (Acc.heap s1 hb) λc _ hc v2 H2 s2 r2=>hc v2 H2 (s1.trans s2) r2⟩⟩
end
section
variable {T:Tb} {ib:Bool} {X:Cx} {e:Expr} {st:Stmt} {sts:List Stmt} {pos pos':Pos} {f g:Ro->Fl} {fe:Ev}
theorem q0B:DSs T ib X [] Fl.nx:=.mk λG E hp=>PSs.imp j5M λD σ H ⟨ρ,fr,h⟩=>h σ H fr (Pers.refl H)
theorem q0b (h1:DS T ib X st f) (h2:DSs T ib X sts g):DSs T ib X (st::sts) (fun ρ=>(f ρ).bind g):=.mk λG E hp=>
 PSs.imp (j10 (h1.run G E hp) (h2.run G E hp)) λD σ H ⟨ρ,fr,h⟩=>⟨ρ,fr,by
  have h:AccS T ib X G E H ((f ρ).bind g) D:=h
  cases e:f ρ with
  | nx ρ'=>rw [e] at h;exact fun σ' H' fr' p=>⟨ρ',fr',AccS.heap p h⟩
  | rt r=>rw [e] at h;exact h
  | rm r c ds ks=>rw [e] at h;exact h
  | exc c ρ'=>rw [e] at h;exact h
  | bk ρ'=>rw [e] at h;exact h
  | ct ρ'=>rw [e] at h;exact h
  | bad=>rw [e] at h;exact h⟩
theorem q0h (h1:DS T ib X st f):DSs T ib X [st] f:=.mk λG E hp=>j43 (h1.run G E hp)
@[simp] noncomputable def q08 (i:Nat) (fe:Ev) (ρ:Ro):Fl:=(fe ρ).fl ρ λd=>.nx (ρ.set i (.sh d))
theorem q0s (i:Nat) {x:Str} (hN:X.N.Nodup) (he:DE T X e fe) (hi:X.N[i]?=some x:=by rfl) (hx:Loc X.env.scope x:=by walk_at "v3") (hs:swapsWith e (some (.Name x pos')) pos.line X.env=pure false:=by exact q2c rfl) (hf:X.fn x=true∨X.env.scope.names.lookup x=some .local:=by walk_at "v2")
 (hz:T.me=none∨i≠0:=by walk_at "v1") :
 DS T ib X (.Assign [.Name x pos'] e pos) (q08 i fe):=.mk λG E hp=>
 PS.imp (j3z (X:=X.wish E) hN hi hx (he.run G E hp) hs hf) λD σ H ⟨ρ,fr,h⟩=>⟨ρ,fr,Acc.mono (AccS.fl fr h) λd _ hd v H1 s1 r1=>hd _ _ ((fr.mono s1).set_sh r1 hz) (Pers.of s1)⟩
theorem q4b {K:PySem.W.Frag} {G H H1:Hp} {σ:L2.St} {ρ:Ro} {a:Addr} (fr:FR T K G H σ ρ) (s1:Same H H1) (ha:H a=none) (j:Nat) (s:Sl) (e:ρ[j]?=some s):¬q3J H1 σ[j]? a s:=λz=>by
 obtain ⟨⟨ws,q⟩,_⟩:=(fr.sl j s e).own ((fr.sl j s e).back (λa o q _ _=>s1 a o q) z)
 rw [ha] at q;cases q
@[simp] noncomputable def q1V (i:Nat) (f:Ro->Out Rv) (ρ:Ro):Fl:=(f ρ).fl ρ λr=>.nx (ρ.set i (match r with | .sh d=>.sh d | .fr ds=>.ow ds | .tf t pre ds post=>.ox t pre ds post))
theorem q1g (i:Nat) {x:Str} {f:Ro->Out Rv} (hN:X.N.Nodup) (he:DR T X e f) (hi:X.N[i]?=some x:=by rfl) (hx:Loc X.env.scope x:=by walk_at "v3") (hs:swapsWith e (some (.Name x pos')) pos.line X.env=pure false:=by exact q2c rfl) (hf:X.fn x=true∨X.env.scope.names.lookup x=some .local:=by walk_at "v2")
 (hz:T.me=none∨i≠0:=by walk_at "v1") :
 DS T ib X (.Assign [.Name x pos'] e pos) (q1V i f):=.mk λG E hp=>
 PS.imp (j3z (X:=X.wish E) hN hi hx (he.run G E hp) hs hf) λD σ H ⟨ρ,fr,h⟩=>⟨ρ,fr,Acc.mono (AccS.fl fr h) λr _ hr v H1 s1 r1=>by
  cases r with
  | sh d=>exact hr _ _ ((fr.mono s1).set_sh r1 hz) (Pers.of s1)
  | fr ds=>
   obtain ⟨a,vs,rfl,ha',ha,rl⟩:=r1
   exact hr _ _ ((fr.mono s1).set_ow ha' (fr.same.free ha) rl (λj es _ e=>q4b (H1:=H1) fr s1 ha j es e) hz) (Pers.of s1)
  | tf t pre ds post=>
   obtain ⟨a,vp,b,vq,ws,rfl,e2,q1,q2,e3,e4,q3⟩:=r1
   refine hr _ _ ((fr.mono s1).set_own (.ox t pre ds post) (λ_=>⟨a,vp,b,vq,ws,rfl,e2,q1,q2,e3,fr.same.free e4,q3⟩) (λj s c hj q o1 o2=>?_) (λ_ _ z=>by cases z) hz) (Pers.of s1)
   obtain ⟨a',us,z1,z2,z3⟩:=o1
   cases z1
   have:=e2.uniq z2
   subst this
   rw [<-RepL.length _ _ q1,List.getElem?_append_right (Nat.le_refl _),Nat.sub_self] at z3
   have z3:(some (V.ref b))=some (.ref c):=z3
   cases z3
   exact q4b (H1:=H1) fr s1 e4 j s q o2⟩
@[simp] noncomputable def sIf (t:Ro->Out Bool) (f g:Ro->Fl) (ρ:Ro):Fl:=(t ρ).fl ρ λb=>if b=true then f ρ else g ρ
theorem q1d {c:Expr} {a b:List Stmt} {ft:Ro->Out Bool} (hc:DT T X c ft) (ha:DSs T ib X a f) (hb:DSs T ib X b g):DS T ib X (.If c a b pos) (sIf ft f g):=.mk λG E hp=>
 PS.imp (w1r (hc.run G E hp) (ha.run G E hp) (hb.run G E hp)) λD σ H ⟨ρ,fr,h⟩=>⟨ρ,fr,Acc.mono (AccS.fl fr h) λb _ hb H1 s1=>by
  cases b with
  | true=>exact ⟨ρ,fr.mono s1,AccS.heap (Pers.of s1) hb⟩
  | false=>exact ⟨ρ,fr.mono s1,AccS.heap (Pers.of s1) hb⟩⟩
@[simp] noncomputable def q2N (fe:Ev) (ρ:Ro):Fl:=(fe ρ).fl ρ λd=>.rt (.sh d)
theorem q0W (he:DE T X e fe):DS T ib X (.Return (some e) pos) (q2N fe):=.mk λG E hp=>
 PS.imp (q7b (he.run G E hp)) λD σ H ⟨ρ,fr,h⟩=>⟨ρ,fr,Acc.mono (AccS.fl fr h) λd _ hd v H1 s1 r1=>hd v H1 (fr.same.trans s1) r1⟩
@[simp] noncomputable def q27 (f:Ro->Out Rv) (ρ:Ro):Fl:=(f ρ).fl ρ λr=>.rt r
theorem q1N {f:Ro->Out Rv} (he:DR T X e f):DS T ib X (.Return (some e) pos) (q27 f):=.mk λG E hp=>
 PS.imp (q7b (he.run G E hp)) λD σ H ⟨ρ,fr,h⟩=>⟨ρ,fr,Acc.mono (AccS.fl fr h) λr _ hr v H1 s1 r1=>hr v H1 (fr.same.trans s1) (q3R fr.same r1)⟩
@[simp] noncomputable def q3y (i:Nat) (ρ:Ro):Fl:=match ρ[i]? with
 | some (.ow ds)=>.rt (.fr ds)
 | some (.sh d)=>.rt (.sh d)
 | _=>.bad
theorem q18 (i:Nat) {x:Str} (hN:X.N[i]?=some x:=by rfl) (hv:Vis X.env.scope x:=by walk_at "v0") (hd:(x==("__debug__" : Str))=false:=by decide)
 (hcd:(x==("__classdict__" : Str))=false:=by decide):DS T ib X (.Return (some (.Name x pos')) pos) (q3y i):=.mk λG E hp=>
 PS.imp (q7b (q2D (X:=X.wish E) hN hv hd hcd)) λD σ H ⟨ρ,fr,h⟩=>by
  unfold q3y at h
  split at h
  ·rename_i ds e
   obtain ⟨a,vs,e1,e2,e3,r⟩:=fr.sl i _ e
   exact ⟨_,e1,h _ H fr.same ⟨a,vs,rfl,e2,e3,r⟩⟩
  ·rename_i d e
   obtain ⟨v,e1,r⟩:=fr.sl i _ e
   exact ⟨_,e1,h _ H fr.same r⟩
  ·exact h.elim
@[simp] noncomputable def q1Q (fe:Ev) (ρ:Ro):Fl:=(fe ρ).fl ρ λ_=>.nx ρ
theorem q0Y (he:DE T X e fe) (hs:swapsWith e none pos.line X.env=pure false:=by exact q2c rfl):DS T ib X (.Expr e pos) (q1Q fe):=.mk λG E hp=>
 PS.imp (q5V (X:=X.wish E) (he.run G E hp) hs) λD σ H ⟨ρ,fr,h⟩=>⟨ρ,fr,Acc.mono (AccS.fl fr h) λd _ hd v H1 s1 r1=>hd σ H1 (fr.mono s1) (Pers.of s1)⟩
@[simp] noncomputable def j7y (i:Nat) (f:Ro->Fl) (ρ:Ro):Fl:=match ρ[i]? with
 | some (.ow ds)=>f (ρ.set i (.sh (.lst ds)))
 | some (.sh _)=>f ρ
 | some (.ox t pre ds post)=>f (ρ.set i (.sh (mkO t (pre++.lst ds::post))))
 | _=>.bad
theorem q85 {K:PySem.W.Frag} {G H:Hp} {σ:L2.St} {ρ:Ro} {i:Nat} {a:Addr} {vs:List V} {s0:Sl} {d:D} {v:V} {o:Obj} (fr:FR T K G H σ ρ) (e:ρ[i]?=some s0) (oa:q3J H σ[i]? a s0) (e2:H a=some (.lst vs)) (e3:G a=none) (e1:σ[i]?=some (some v)) (r:Rep T K (upd H a (.frz o (.lst vs))) d v) :
 FR T K G (upd H a (.frz o (.lst vs))) σ (ρ.set i (.sh d)):=by
 have hl:i < ρ.length:=(List.getElem?_eq_some_iff.mp e).1
 have lt:∀{m:Nat} {z:Sl},(ρ.set i (.sh d))[m]?=some z->m=i∨(m≠i/\ρ[m]?=some z):=λ{m z} q=>by
  by_cases hm:m=i
  ·exact .inl hm
  ·rw [List.getElem?_set_ne (Ne.symm hm)] at q;exact .inr ⟨hm,q⟩
 refine ⟨λb u q=>?_,by simp [fr.len],λj s q=>?_,λj k s1 s2 b hjk q1 q2 o1 o2=>?_,fr.me,q3v (λ_ _ z=>by cases z) fr.me0⟩
 ·rw [q0i (λz=>by rw [z,e3] at q;cases q)];exact fr.same b u q
 ·rcases lt q with rfl | ⟨hj,q⟩
  ·rw [List.getElem?_set_self hl] at q;cases q
   exact ⟨_,e1,r⟩
  ·have h:=fr.sl j s q
   exact SlOk.off e2 (λ_ _=>RepL.froz e2 _ _) (λo1=>fr.ne j i _ _ a hj q e o1 oa) h
 ·have hj:j≠i:=by
   rintro rfl
   rw [List.getElem?_set_self hl] at q1;cases q1;exact o1
  have hk:k≠i:=by
   rintro rfl
   rw [List.getElem?_set_self hl] at q2;cases q2;exact o2
  rw [List.getElem?_set_ne (Ne.symm hj)] at q1
  rw [List.getElem?_set_ne (Ne.symm hk)] at q2
  have bk:∀(c:Addr) (u:HO),H c=some u->(∀xs,u≠.lst xs)->(∀x dx fs,u≠.ins x dx fs)->upd H a (.frz o (.lst vs)) c=some u:=λc u w n _=>by
   rw [q0i (λy=>by subst y;rw [e2] at w;cases w;exact n _ rfl)];exact w
  exact fr.ne j k s1 s2 b hjk q1 q2 ((fr.sl j s1 q1).back bk o1) ((fr.sl k s2 q2).back bk o2)
theorem j7o {K:PySem.W.Frag} {G H:Hp} {σ:L2.St} {ρ:Ro} {i:Nat} {a:Addr} {vs:List V} {ds:List D} {o:Obj} (fr:FR T K G H σ ρ) (e:ρ[i]?=some (.ow ds)) (e1:σ[i]?=some (some (.ref a))) (e2:H a=some (.lst vs)) (e3:G a=none) (r:RepL T K H ds vs) :
 FR T K G (upd H a (.frz o (.lst vs))) σ (ρ.set i (.sh (.lst ds))):=q85 fr e e1 e2 e3 e1 ⟨a,vs,rfl,.inl ⟨o,q0u⟩,RepL.froz e2 _ _ r⟩
theorem j7j {K:PySem.W.Frag} {H:Hp} {x:Option (Option V)} {t:Bool} {a b:Addr} {vp vq:List V} {pre ds post:List D} (z1:x=some (some (.ref a))) (z2:OutAt H t a (vp++.ref b::vq)) (z3:RepL T K H pre vp):q3J H x b (.ox t pre ds post):=
 ⟨a,_,z1,z2,by rw [<-RepL.length _ _ z3,List.getElem?_append_right (Nat.le_refl _),Nat.sub_self];rfl⟩
theorem j4I {K:PySem.W.Frag} {G H:Hp} {σ:L2.St} {ρ:Ro} {i:Nat} {t:Bool} {a b:Addr} {vp vq ws:List V} {pre ds post:List D} {o:Obj} (fr:FR T K G H σ ρ) (e:ρ[i]?=some (.ox t pre ds post)) (e1:σ[i]?=some (some (.ref a))) (e2:OutAt H t a (vp++.ref b::vq)) (r1:RepL T K H pre vp) (r2:RepL T K H post vq) (e3:H b=some (.lst ws)) (e4:G b=none) (r3:RepL T K H ds ws) :
 FR T K G (upd H b (.frz o (.lst ws))) σ (ρ.set i (.sh (mkO t (pre++.lst ds::post)))):=q85 fr e (j7j e1 e2 r1) e3 e4 e1 (e2.rep r1 r2 e3 r3)
theorem q5S (i:Nat) (h:DSs T ib X sts f):DSs T ib X sts (j7y i f):=.mk λG E hp=>by
 rintro pins s σ H D I ⟨ρ,fr,q⟩
 unfold j7y at q
 split at q
 ·rename_i ds e
  obtain ⟨a,vs,e1,e2,e3,r⟩:=fr.sl i _ e
  obtain ⟨o,I2⟩:=Inv.freeze I e2
  exact h.run G E hp pins s σ _ D I2 ⟨_,j7o fr e e1 e2 e3 r,AccS.heap (λb u z w=>by rw [q0i (λy=>by rw [y,e2] at z;cases z;cases w)];exact z) q⟩
 ·exact h.run G E hp pins s σ H D I ⟨ρ,fr,q⟩
 ·rename_i t pre ds post e
  obtain ⟨a,vp,b,vq,ws,e1,e2,r1,r2,e3,e4,r3⟩:=fr.sl i _ e
  obtain ⟨o,I2⟩:=Inv.freeze I e3
  exact h.run G E hp pins s σ _ D I2 ⟨_,j4I fr e e1 e2 r1 r2 e3 e4 r3,AccS.heap (λb u z w=>by rw [q0i (λy=>by rw [y,e3] at z;cases z;cases w)];exact z) q⟩
 ·exact q.elim
end
noncomputable def q2R (b:Ro->D->Fl):List D->Ro->Fl
 | [],ρ=>.nx ρ
 | d::ds,ρ=>match b ρ d with
  | .nx ρ'=>q2R b ds ρ'
  | .ct ρ'=>q2R b ds ρ'
  | .bk ρ'=>.nx ρ'
  | o=>o
noncomputable def whD (t:Ro->Out Bool) (b:Ro->Fl):Nat->Ro->Fl
 | 0,_=>.bad
 | n+1,ρ=>(t ρ).fl ρ λk=>if k=true then (match b ρ with
  | .nx ρ'=>whD t b n ρ'
  | .ct ρ'=>whD t b n ρ'
  | .bk ρ'=>.nx ρ'
  | o=>o) else .nx ρ
section
variable {T:Tb} {ib:Bool} {X:Cx} {tg iter:Expr} {body:List Stmt} {pos:Pos} {fb:Ro->Fl}
noncomputable def TgD (T:Tb) (X:Cx) (tg:Expr) (g:Ro->D->Out Ro):Prop:=∀(E:Value->Shared->Prop),∃tgr:TG,PG (X.wish E) tg tgr/\∀(G H:Hp) (σ:L2.St) (ρ ρ':Ro) (d:D) (v:V) (Q:L2.St->Hp->Prop),FR T X.K G H σ ρ->Rep T X.K H d v->g ρ d=.ok ρ'->(∀σ',FR T X.K G H σ' ρ'->Q σ' H)->tgr v σ H Q
@[simp] noncomputable def q1n (i:Nat) (ρ:Ro) (d:D):Out Ro:=.ok (ρ.set i (.sh d))
theorem q0X (i:Nat) {x:Str} (hN:X.N.Nodup) (hi:X.N[i]?=some x:=by rfl) (hx:Loc X.env.scope x:=by walk_at "v3") (hf:X.fn x=true∨X.env.scope.names.lookup x=some .local:=by walk_at "v2") (hz:T.me=none∨i≠0:=by walk_at "v1"):TgD T X (.Name x pos) (q1n i):=λE=>
 ⟨_,q4l (X:=X.wish E) (i:=i) hN hi hx hf,λG H σ ρ ρ' d v Q fr r e k=>by cases e;exact k _ (fr.set_sh r hz)⟩
@[simp] noncomputable def q0x (g:Ro->D->Out Ro) (fb:Ro->Fl) (ρ:Ro) (d:D):Fl:=match g ρ d with
 | .ok ρ'=>fb ρ'
 | _=>.bad
theorem q6v {G H:Hp} {E:Value->Shared->Prop} {D:Ends} {o:Fl} {N:L2.St->Hp->Prop} {k:Ro->Fl}
 (h:AccS T ib X G E H (match o with | .nx ρ'=>k ρ' | .ct ρ'=>k ρ' | .bk ρ'=>.nx ρ' | o=>o) D)
 (hN:∀ρ' σ' H',FR T X.K G H' σ' ρ'->Pers T ib H H'->AccS T ib X G E H' (k ρ') D->N σ' H'):AccS T ib X G E H o { D with nx:=N,ct:=N,bk:=D.nx }:=by
 cases o with
 | nx ρ'=>exact fun σ' H' fr p=>hN ρ' σ' H' fr p (AccS.heap p h)
 | ct ρ'=>exact fun σ' H' fr p=>hN ρ' σ' H' fr p (AccS.heap p h)
 | bk ρ'=>exact h
 | rt r=>exact h
 | rm r c ds ks=>exact h
 | exc c ρ'=>exact h
 | bad=>exact h
theorem j0W (b:Ro->D->Fl) (d:D) (ds:List D) (ρ:Ro):q2R b (d::ds) ρ=(match b ρ d with | .nx ρ'=>q2R b ds ρ' | .ct ρ'=>q2R b ds ρ' | .bk ρ'=>.nx ρ' | o=>o):=rfl
theorem j1V {g:Ro->D->Out Ro} {G H:Hp} {E:Value->Shared->Prop} {DD:Ends} {N:L2.St->Hp->Prop} {σ:L2.St} {ρ:Ro} {d:D} {ds:List D} {v:V} {tgr:TG} {tb:TS}
 (hg:∀(G H:Hp) (σ:L2.St) (ρ ρ':Ro) (d:D) (v:V) (Q:L2.St->Hp->Prop),FR T X.K G H σ ρ->Rep T X.K H d v->g ρ d=.ok ρ'->(∀σ',FR T X.K G H σ' ρ'->Q σ' H)->tgr v σ H Q)
 (htb:∀DD σ H,tS T ib X G E fb DD σ H->tb DD σ H)
 (fr:FR T X.K G H σ ρ) (r:Rep T X.K H d v) (h:AccS T ib X G E H (q2R (q0x g fb) (d::ds) ρ) DD)
 (hN:∀ρ' σ' H',FR T X.K G H' σ' ρ'->Pers T ib H H'->AccS T ib X G E H' (q2R (q0x g fb) ds ρ') DD->N σ' H') :
 tgr v σ H fun σ2 H2=>tb { DD with nx:=N,ct:=N,bk:=DD.nx } σ2 H2:=by
 rw [j0W] at h
 cases e:g ρ d with
 | ok ρ'=>
  have e2:q0x g fb ρ d=fb ρ':=by unfold q0x;rw [e]
  rw [e2] at h
  exact hg G H σ ρ ρ' d v _ fr r e fun σ' fr'=>htb _ _ _ ⟨ρ',fr',q6v h hN⟩
 | exc c=>
  have e2:q0x g fb ρ d=.bad:=by unfold q0x;rw [e]
  rw [e2] at h;exact h.elim
 | bad=>
  have e2:q0x g fb ρ d=.bad:=by unfold q0x;rw [e]
  rw [e2] at h;exact h.elim
noncomputable def Stb (K:PySem.W.Frag) (G H:Hp) (a:Addr) (vs:List V):Prop:=FzL K H a vs∨G a=some (.lst vs)
theorem Stb.sq {K:PySem.W.Frag} {G H:Hp} {a:Addr} {vs:List V} (h:Stb K G H a vs) (s:Same G H):SqL K H a vs:=by
 rcases h with h | h
 ·exact h.sq
 ·exact SqL.of (s _ _ h)
theorem Stb.pers {K:PySem.W.Frag} {G H H':Hp} {a:Addr} {vs:List V} (h:Stb K G H a vs) (p:Pers T ib H H'):Stb K G H' a vs:=by
 rcases h with h | h
 ·exact .inl (p.fz h)
 ·exact .inr h
noncomputable def tP (T:Tb) (X:Cx) (G:Hp) (E:Value->Shared->Prop) (f:Ro->Out (List D)):TE:=fun σ H Q=>∃ρ,FR T X.K G H σ ρ/\Acc T X E σ H (f ρ) (λds=>∀a vs H',Same H H'->Stb X.K G H' a vs->RepL T X.K H' ds vs->Q (.ref a) H')
structure DP (T:Tb) (X:Cx) (e:Expr) (f:Ro->Out (List D)):Prop where
 mk ::
 run:∀(G:Hp) (E:Value->Shared->Prop),PassesOwn (model X.prog X.w) X.A X.env E->PE (X.wish E) e (tP T X G E f)
theorem DE.dp {e:Expr} {f:Ev} (h:DE T X e f):DP T X e (q1y f):=.mk λG E hp=>
 PE.imp (h.run G E hp) fun σ H Q ⟨ρ,fr,q⟩=>⟨ρ,fr,Acc.mono (Acc.bind q) λd _ hd v H' s1 r=>by
  cases d with
  | lst ds=>
   obtain ⟨a,vs,rfl,e2,r2⟩:=r
   exact hd a vs H' s1 (.inl e2) r2
  | _=>exact hd.elim⟩
@[simp] noncomputable def w1s (i:Nat) (ρ:Ro):Out (List D):=match ρ[i]? with
 | some (.bo ds)=>.ok ds
 | some (.sh (.lst ds))=>.ok ds
 | _=>.bad
theorem j8N (i:Nat) {x:Str} (hN:X.N[i]?=some x:=by rfl) (hv:Vis X.env.scope x:=by walk_at "v0") (hd:(x==("__debug__" : Str))=false:=by decide)
 (hcd:(x==("__classdict__" : Str))=false:=by decide):DP T X (.Name x pos) (w1s i):=.mk λG E hp=>by
 refine PE.imp (q2D (X:=X.wish E) hN hv hd hcd) fun σ H Q ⟨ρ,fr,h⟩=>?_
 unfold w1s at h
 split at h
 ·rename_i ds e
  obtain ⟨a,vs,e1,e2,r⟩:=fr.sl i _ e
  exact ⟨_,e1,h a vs H (Same.refl H) (.inr e2) r⟩
 ·rename_i ds e
  obtain ⟨v,e1,a,vs,rfl,e2,r⟩:=fr.sl i _ e
  exact ⟨_,e1,h a vs H (Same.refl H) (.inl e2) r⟩
 ·exact h.elim
@[simp] noncomputable def q2T (fl:Ro->Out (List D)) (g:Ro->D->Out Ro) (fb:Ro->Fl) (ρ:Ro):Fl:=(fl ρ).fl ρ λds=>q2R (q0x g fb) ds ρ
noncomputable def rgD (lo:Int) (n:Nat):List D:=(List.range n).map λ(k:Nat)=>D.int (lo+(k:Int))
noncomputable def tN (T:Tb) (X:Cx) (G:Hp) (E:Value->Shared->Prop) (f:Ro->Out (Int×Nat)):TI:=fun σ H R=>∃ρ,FR T X.K G H σ ρ/\Acc T X E σ H (f ρ) (λp=>∀H',Same H H'->R (Itr p.1 p.2) H')
structure DN (T:Tb) (X:Cx) (tg e:Expr) (f:Ro->Out (Int×Nat)):Prop where
 mk ::
 run:∀(G:Hp) (E:Value->Shared->Prop),PassesOwn (model X.prog X.w) X.A X.env E->PI (X.wish E) tg e (tN T X G E f)
theorem PI.imp {X:Cx} {tg e:Expr} {t t':TI} (h:PI X tg e t) (k:∀σ H R,t' σ H R->t σ H R):PI X tg e t':=λpins s σ H R I q=>h pins s σ H R I (k σ H R q)
@[simp] noncomputable def n1 (fe:Ev) (ρ:Ro):Out (Int×Nat):=(fe ρ).bind λd=>match d with
 | .int i=>if -(2 ^ 62)<=i/\i < 2 ^ 62 then .ok (0,i.toNat) else .bad
 | _=>.bad
@[simp] noncomputable def n2 (fa fe:Ev) (ρ:Ro):Out (Int×Nat):=(fa ρ).bind λd=>(fe ρ).bind λd'=>match d,d' with
 | .int i,.int j=>if (-(2 ^ 62)<=i/\i < 2 ^ 62)/\-(2 ^ 62)<=j/\j < 2 ^ 62 then .ok (i,(j-i).toNat) else .bad
 | _,_=>.bad
theorem q5k {a:Expr} {fe:Ev} {p:Pos} (hg:Gl X "range") (hm:X.mg "range" = none) (ha:DE T X a fe) (hs:starEach [a] X.env=[(false,eval a X.env)]:=by rfl):DN T X tg (.Call (.Name "range" p) [a] [] pos) (n1 fe):=.mk λG E hp=>by
 refine PI.imp (q8z (X:=X.wish E) hg hm (q0I (X:=X.wish E) (ha.run G E hp) q1t hs) hs) fun σ H R ⟨ρ,fr,h⟩=>⟨ρ,fr,Acc.mono (Acc.bind h) λd _ hd v H1 s1 r=>?_⟩
 cases d with
 | int i=>
  have hd':Acc T X E σ H (if -(2 ^ 62)<=i/\i < 2 ^ 62 then Out.ok ((0:Int),i.toNat) else .bad) (λp=>∀H',Same H H'->R (Itr p.1 p.2) H'):=hd
  by_cases z:-(2 ^ 62)<=i/\i < 2 ^ 62
  ·rw [if_pos z] at hd'
   exact ⟨i,by rw [show v=V.int i from r],z.1,z.2,hd' H1 s1⟩
  ·rw [if_neg z] at hd';exact hd'.elim
 | _=>exact hd.elim
theorem j1W {c:Expr} {ft:Ro->Out Bool} (n:Nat) (hc:DT T X c ft) (hb:DSs T ib X body fb):DS T ib X (.While c body [] pos) (fun ρ=>whD ft fb n ρ):=.mk λG E hp=>by
 refine PS.imp (j1m (X:=X.wish E) hp (hc.run G E hp) (hb.run G E hp)) λDD σ H ⟨ρ,fr,h⟩=>?_
 refine ⟨λm σ' H'=>∃ρ',FR T X.K G H' σ' ρ'/\AccS T ib X G E H' (whD ft fb m ρ') DD,⟨n,ρ,fr,h⟩,?_⟩
 rintro m σ' H' ⟨ρ',fr',ha⟩
 cases m with
 | zero=>exact ha.elim
 | succ m=>
  refine ⟨ρ',fr',Acc.mono (AccS.fl fr' ha) λk _ hk H1 s1=>?_⟩
  cases k with
  | true=>
   refine ⟨fun σ2 H2=>∃ρ2,FR T X.K G H2 σ2 ρ2/\AccS T ib X G E H2 (whD ft fb m ρ2) DD,fun σ2 H2 q=>⟨m,Nat.lt_succ_self m,q⟩,ρ',fr'.mono s1,?_⟩
   have hk':AccS T ib X G E H' (match fb ρ' with | .nx ρ2=>whD ft fb m ρ2 | .ct ρ2=>whD ft fb m ρ2 | .bk ρ2=>.nx ρ2 | o=>o) DD:=hk
   exact q6v (AccS.heap (Pers.of s1) hk') fun ρ2 σ2 H2 fr2 p2 h2=>⟨ρ2,fr2,h2⟩
  | false=>exact hk σ' H1 (fr'.mono s1) (Pers.of s1)
end
section
variable {T:Tb} {X:Cx} {e a b:Expr} {es:List Expr} {pos p:Pos} {fe fa fb:Ev} {fs:Ro->Out (List D)}
@[simp] noncomputable def q0E (ρ:Ro):Out (List D):=.ok []
@[simp] noncomputable def q0k (fe:Ev) (fs:Ro->Out (List D)) (ρ:Ro):Out (List D):=(fe ρ).bind λd=>(fs ρ).bind λds=>.ok (d::ds)
theorem q0l:DA T X [] q0E:=.mk λG E hp=>PA.imp q1t fun σ H Q ⟨ρ,fr,h⟩=>h [] H (Same.refl H) rfl
theorem q0e (ha:DE T X e fe) (hr:DA T X es fs) (hs:starEach (e::es) X.env=(false,eval e X.env)::starEach es X.env:=by exact q0D rfl):DA T X (e::es) (q0k fe fs):=.mk λG E hp=>by
 refine PA.imp (q0I (X:=X.wish E) (ha.run G E hp) (hr.run G E hp) hs) fun σ H Q ⟨ρ,fr,h⟩=>?_
 refine ⟨ρ,fr,Acc.mono (Acc.bind h) λd _ hd v H1 s1 r1=>⟨ρ,fr.mono s1,Acc.mono (Acc.bind (Acc.heap s1 hd)) λds _ hds vs H2 s2 r2=>?_⟩⟩
 exact hds (v::vs) H2 (s1.trans s2) ⟨v,vs,rfl,Rep.mono s2 _ _ r1,r2⟩
noncomputable def CaD (T:Tb) (X:Cx) (f:Value) (g:List D->Out D):Prop:=∀E:Value->Shared->Prop,∃r:List V->Hp->VK->Prop,q2n (X.wish E) f r /\
 ∀(ds:List D) (vs:List V) (σ:L2.St) (H:Hp) (Q:VK),RepL T X.K H ds vs->Acc T X E σ H (g ds) (kE T X.K H Q)->r vs H Q
@[simp] noncomputable def eCB (g:List D->Out D) (fs:Ro->Out (List D)) (ρ:Ro):Out D:=(fs ρ).bind g
theorem j0U {G H:Hp} {E:Value->Shared->Prop} {σ:L2.St} {Q:VK} {g:List D->Out D} {r:List V->Hp->VK->Prop}
 (hg:∀(ds:List D) (vs:List V) (σ:L2.St) (H:Hp) (Q:VK),RepL T X.K H ds vs->Acc T X E σ H (g ds) (kE T X.K H Q)->r vs H Q) {ρ:Ro} (fr:FR T X.K G H σ ρ) (h:Acc T X E σ H (eCB g fs ρ) (kE T X.K H Q)) :
 tCB r (tA T X G E fs) σ H Q:=
 ⟨ρ,fr,Acc.mono (Acc.bind h) λds _ hd vs H1 s1 r1=>hg ds vs σ H1 Q r1 (Acc.mono (Acc.heap s1 hd) λd _ k v H2 s2 r2=>k v H2 (s1.trans s2) r2)⟩
theorem q0p {id:String} {x:Str} {g:List D->Out D} (hc:CaD T X (.builtin id) g) (hg:Gl X x) (hm:X.mg x=none) (hv:bootBuiltins x=some (.builtin id)) (ha:DA T X (e::es) fs) (hn:x≠"__name__":=by decide) (hdb:(x==("__debug__" : Str))=false:=by decide)
 (he:starEach (e::es) X.env=(false,eval e X.env)::starEach es X.env:=by exact q0D rfl) (hpl:(backTo pos (starEach es X.env)).any (·.1)=false:=by exact q0J rfl):DE T X (.Call (.Name x p) (e::es) [] pos) (eCB g fs):=.mk λG E hp=>by
 obtain ⟨r,hr,hg'⟩:=hc E
 exact PE.imp (q4w (X:=X.wish E) hr hg hm hv (ha.run G E hp) hn hdb he hpl) fun σ H Q ⟨ρ,fr,h⟩=>j0U hg' fr h
theorem q8T {TT:String} {x:Str} {g:List D->Out D} (hc:CaD T X (.type TT) g) (hg:Gl X x) (hm:X.mg x=none) (hv:bootBuiltins x=some (.type TT)) (ha:DA T X (e::es) fs) (hn:x≠"__name__":=by decide) (hdb:(x==("__debug__" : Str))=false:=by decide)
 (he:starEach (e::es) X.env=(false,eval e X.env)::starEach es X.env:=by exact q0D rfl) (hpl:(backTo pos (starEach es X.env)).any (·.1)=false:=by exact q0J rfl):DE T X (.Call (.Name x p) (e::es) [] pos) (eCB g fs):=.mk λG E hp=>by
 obtain ⟨r,hr,hg'⟩:=hc E
 exact PE.imp (q2u (X:=X.wish E) hr hg hm hv (ha.run G E hp) hn hdb he hpl) fun σ H Q ⟨ρ,fr,h⟩=>j0U hg' fr h
theorem RepL.one {K:PySem.W.Frag} {H:Hp} {d:D} {vs:List V} (h:RepL T K H [d] vs):∃v,vs=[v]/\Rep T K H d v:=by
 obtain ⟨v,r,rfl,h1,rfl⟩:=h;exact ⟨v,rfl,h1⟩
theorem RepL.two {K:PySem.W.Frag} {H:Hp} {d d':D} {vs:List V} (h:RepL T K H [d,d'] vs):∃v v',vs=[v,v']/\Rep T K H d v/\Rep T K H d' v':=by
 obtain ⟨v,r,rfl,h1,v',r',rfl,h2,rfl⟩:=h;exact ⟨v,v',rfl,h1,h2⟩
@[simp] noncomputable def j5H:List D->Out D
 | [.int i,.int j]=>.ok (.int (if j < i then j else i))
 | _=>.bad
@[simp] noncomputable def w0Q:List D->Out D
 | [.int i,.int j]=>.ok (.int (if j > i then j else i))
 | _=>.bad
theorem q5h (hc:X.calm=true):CaD T X (.builtin "min") j5H:=λE=>⟨_,q9i hc,λds vs σ H Q r h=>by
 unfold j5H at h
 split at h
 ·rename_i i j
  obtain ⟨v,v',rfl,rv,rv'⟩:=r.two
  exact ⟨i,j,by rw [show v=V.int i from rv,show v'=V.int j from rv'],h _ H (Same.refl H) rfl⟩
 ·exact h.elim⟩
theorem j7K (hc:X.calm=true):CaD T X (.builtin "max") w0Q:=λE=>⟨_,j0z hc,λds vs σ H Q r h=>by
 unfold w0Q at h
 split at h
 ·rename_i i j
  obtain ⟨v,v',rfl,rv,rv'⟩:=r.two
  exact ⟨i,j,by rw [show v=V.int i from rv,show v'=V.int j from rv'],h _ H (Same.refl H) rfl⟩
 ·exact h.elim⟩
@[simp] noncomputable def q1Z:List D->Out D
 | [.str x]=>if x.length<=1000000 then .ok (.int x.length) else .bad
 | [.tup ds]=>.ok (.int ds.length)
 | [.lst ds]=>.ok (.int ds.length)
 | _=>.bad
theorem q0H:CaD T X (.builtin "len") q1Z:=λE=>⟨_,q7p,λds vs σ H Q r h=>by
 unfold q1Z at h
 split at h
 ·rename_i x
  obtain ⟨v,rfl,rv⟩:=r.one
  by_cases z:x.length<=1000000
  ·rw [if_pos z] at h
   exact ⟨v,x.length,rfl,by rw [show v=V.str x from rv];exact ⟨line6 z,rfl⟩,h _ H (Same.refl H) rfl⟩
  ·rw [if_neg z] at h;exact h.elim
 ·rename_i es
  obtain ⟨v,rfl,a,us,rfl,e,rl⟩:=r.one
  exact ⟨_,us.length,rfl,.inr ⟨us,e,rfl⟩,h _ H (Same.refl H) (by rw [RepL.length _ _ rl];exact rfl)⟩
 ·rename_i es
  obtain ⟨v,rfl,a,us,rfl,e,rl⟩:=r.one
  exact ⟨_,us.length,rfl,.inl ⟨us,e.sq,rfl⟩,h _ H (Same.refl H) (by rw [RepL.length _ _ rl];exact rfl)⟩
 ·exact h.elim⟩
@[simp] noncomputable def j5I (fl:Ro->Out (List D)) (ρ:Ro):Out D:=(fl ρ).bind λds=>.ok (.int ds.length)
theorem q2U {fl:Ro->Out (List D)} (hg:Gl X "len") (hm:X.mg "len" = none) (hl:DL T X e fl) (he:starEach [e] X.env=[(false,eval e X.env)]:=by rfl):DE T X (.Call (.Name "len" p) [e] [] pos) (j5I fl):=.mk λG E hp=>
 PE.imp (q4w (X:=X.wish E) q7p hg hm rfl (q0I (X:=X.wish E) (hl.run G E hp) q1t he) (by decide) (by decide) he rfl) fun σ H Q ⟨ρ,fr,h⟩=>⟨ρ,fr,Acc.mono (Acc.bind h) λds _ hd a vs H1 s1 sq r=>
  ⟨_,vs.length,rfl,.inl ⟨vs,sq,rfl⟩,hd _ H1 s1 (by rw [RepL.length _ _ r];exact rfl)⟩⟩
noncomputable def j8W (T:Tb):D->Value
 | .non=>.type "NoneType"
 | .bl _=>.type "bool"
 | .int _=>.type "int"
 | .str _=>.type "str"
 | .tup _=>.type "tuple"
 | .lst _=>.type "list"
 | .ins c _=>.ref (T.ca c)
 | .exc c=>.ref (T.ca c)
structure w2c (K:PySem.W.Frag) (C:Addr):Prop where
 cl:Cls K C
 ha:PySem.W.findIn K (.ref C) "__class__" = some (some (.builtin "object.__class__"))
 hn:PySem.W.specialIn K (.builtin "object.__class__") "__get__" = some (some (.builtin "getset_descriptor.__get__"))
 htk:PySem.W.takesIn K (.builtin "object.__class__")=some true
 hm:PySem.W.mroIn K C (.type "object")=some true
noncomputable def q7Y (T:Tb) (K:PySem.W.Frag) (cls:Value) (g:D->Out Bool):Prop:=∀d b,g d=.ok b->PySem.W.kitOne K (j8W T d) cls=some b/\(∀c ds,d=.ins c ds->w2c K (T.ca c))/\∀c,d=.exc c->j7u K (T.ca c)
theorem j45 {pins:List (Addr×Obj)} {σ:L2.St} {H:Hp} {s:Shared} {A:Around} {E:Value->Shared->Prop} {Q:Value->Shared->Prop} {cls u:Value} {d:D} {v:V} {k:Bool} (I:Inv X pins σ H s) (rv:RelV v u) (r:Rep T X.K H d v)
 (hk:PySem.W.kitOne X.K (j8W T d) cls=some k) (hi:∀c ds,d=.ins c ds->w2c X.K (T.ca c)) (hx:∀c,d=.exc c->j7u X.K (T.ca c)) (h:∀tk,Q (.bool k) { s with toks:=tk }):wpAny (model X.prog X.w) A (call (.builtin "isinstance") [u,cls]) Q E s:=by
 cases d with
 | non=>cases r;exact q2o I rv .non hk h
 | bl y=>cases r;exact q2o I rv (.bl y) hk h
 | int i=>cases r;exact q2o I rv (.int i) hk h
 | str y=>cases r;exact q2o I rv (.str y) hk h
 | tup ds=>
  obtain ⟨a,vs,rfl,e,_⟩:=r
  cases (show u=Value.ref a from rv)
  obtain ⟨its,_,⟨o,h1,h2,_⟩,_⟩:=I.tuple e
  exact PySem.W.kia_one PySem.W.kitx_tuple I.kIn ⟨o,h1,h2⟩ hk (λz=>nomatch z) h
 | lst ds=>
  obtain ⟨a,vs,rfl,e,_⟩:=r
  cases (show u=Value.ref a from rv)
  obtain ⟨its,_,⟨o,n,h1,h2,_⟩,_⟩:=I.list e.sq
  exact PySem.W.kia_one PySem.W.kitx_list I.kIn ⟨o,h1,h2⟩ hk (λz=>nomatch z) h
 | ins c ds=>
  obtain ⟨a,dx,fs,rfl,e,_⟩:=r
  obtain ⟨cl,ha,hn,htk,hm⟩:=hi c ds rfl
  exact q2o I rv (.ins e cl ha hn htk hm) hk h
 | exc c=>
  obtain ⟨a,o,rfl,e1,e2,e3,e4⟩:=r
  cases (show u=Value.ref a from rv)
  obtain ⟨ho,_⟩:=(show ObjOk X.prog X.w H s.heap a (.frz o _) from I.hok a _ e1)
  exact PySem.W.kia_one (j2b (hx c rfl)) I.kIn ⟨o,ho,e2,e3,by rw [e4];trivial⟩ hk (λz=>nomatch z) h
@[simp] noncomputable def j6o (g:D->Out Bool) (fe:Ev) (ρ:Ro):Out D:=(fe ρ).bind λd=>(g d).bind λb=>.ok (.bl b)
theorem j84 {c:Str} {cv:V} {clsv:Value} {g:D->Out Bool} {p2:Pos} (hg:Gl X "isinstance") (hm:X.mg "isinstance" = none) (ha:DE T X e fe) (hc:∀E,PE (X.wish E) (.Name c p2) (tC cv)) (rc:∀u,RelV cv u->u=clsv) (hi:q7Y T X.K clsv g)
 (hng:∀d cc,g d≠.exc cc) (hs1:starEach [e,.Name c p2] X.env=(false,eval e X.env)::starEach [.Name c p2] X.env:=by rfl):DE T X (.Call (.Name "isinstance" p) [e,.Name c p2] [] pos) (j6o g fe):=.mk λG E hp=>by
 rintro pins s σ H Q I ⟨ρ,fr,h⟩
 refine wpAny_Call_Name_kw (q2E (X:=X.wish E) I hg hm (u:=.builtin "isinstance") rfl ?_)
 refine PyProof.Rows.callWith_builtin1 (thn ((q0I (X:=X.wish E) (ha.run G E hp) (q0I (X:=X.wish E) (hc E) q1t rfl) hs1) pos pins s σ H (λvs H1=>∃d v,vs=[v,cv]/\Same H H1/\Rep T X.K H1 d v/\Acc T X E σ H ((g d).bind λb=>.ok (.bl b)) (kE T X.K H Q)) I ⟨ρ,fr,Acc.mono (Acc.bind h) λd _ hd v H1 s1 r1=>⟨d,v,rfl,s1,r1,hd⟩⟩) λus s1 ⟨vs,H1,I1,rvs,d,v,ev,sm,rd,hd⟩=>?_) hs1 rfl
 subst ev
 obtain ⟨u,u',rfl,r1,r2⟩:=Vals.two rvs
 obtain rfl:=rc u' r2
 cases e1:g d with
 | ok k=>
  rw [e1] at hd
  obtain ⟨z1,z2,z3⟩:=hi d k e1
  exact j45 (X:=X.wish E) I1 r1 rd z1 z2 z3 λtk=>⟨.bl k,H1,I1.tok _,rfl,hd _ H1 sm rfl⟩
 | exc cc=>exact absurd e1 (hng d cc)
 | bad=>rw [e1] at hd;exact hd.elim
@[simp] noncomputable def atD (ds:List D) (i:Int):Out D:=match atI ds i with
 | some d=>.ok d
 | none=>.bad
theorem RepL.at {K:PySem.W.Frag} {H:Hp} {ds:List D} {vs:List V} {i:Int} {d:D} (r:RepL T K H ds vs) (h:atI ds i=some d):∃v,atI vs i=some v/\Rep T K H d v:=by
 obtain ⟨j,e1,e2,e3,e4,e5⟩:=q4A h
 obtain ⟨v,e6,e7⟩:=RepL.get _ _ _ _ r e2
 refine ⟨v,?_,e7⟩
 have hl:=RepL.length _ _ r
 unfold atI at h ⊢
 rw [hl]
 cases z:ixN ds.length i with
 | none=>rw [z] at h;cases h
 | some k=>
  have:k=j:=by
   have:=(q5Q z).1
   rw [e1] at this;exact (Option.some.inj this).symm
  subst this
  exact e6
@[simp] noncomputable def ixD:D->D->Out D
 | .tup ds,.int i=>atD ds i
 | .lst ds,.int i=>atD ds i
 | .str z,.int i=>if z.length<=1000000 then (match atI z.cps.toList i with | some c=>.ok (.str ⟨#[c]⟩) | none=>.bad) else .bad
 | _,_=>.bad
theorem q0o (ha:DE T X a fa) (hb:DE T X b fb) (hs:q6e b:=by exact λ_ _=>rfl):DE T X (.Subscript a b pos) (e2 ixD fa fb):=.mk λG E hp=>by
 refine PE.imp (j6m (X:=X.wish E) (IxR.or (IxR.or q56 j4n) j6E) (ha.run G E hp) (hb.run G E hp) hs) fun σ H Q ⟨ρ,fr,h⟩=>q6T (T:=T) (g:=ixD) (λdx dy x y σ H Q rx ry q=>?_) fr h
 have key:∀(ds:List D) (i:Int) (vs:List V),RepL T X.K H ds vs->Acc T X E σ H (atD ds i) (kE T X.K H Q)->∃v,atI vs i=some v/\Q v H:=λds i vs r q=>by
  unfold atD at q
  split at q
  ·rename_i d e
   obtain ⟨v,e1,rd⟩:=r.at e
   exact ⟨v,e1,q v H (Same.refl H) rd⟩
  ·exact q.elim
 cases dy with
 | int i=>
  cases dx with
  | tup ds=>
   obtain ⟨a,vs,rfl,sq,r⟩:=rx
   obtain ⟨v,e1,q⟩:=key ds i vs r q
   exact .inl (.inr ⟨a,vs,i,v,rfl,ry,sq,e1,q⟩)
  | lst ds=>
   obtain ⟨a,vs,rfl,sq,r⟩:=rx
   obtain ⟨v,e1,q⟩:=key ds i vs r q
   exact .inl (.inl ⟨a,vs,i,v,rfl,ry,sq.sq,e1,q⟩)
  | str z=>
   have q':Acc T X E σ H (if z.length<=1000000 then (match atI z.cps.toList i with | some c=>.ok (.str ⟨#[c]⟩) | none=>.bad) else .bad) (kE T X.K H Q):=q
   by_cases hz:z.length<=1000000
   ·rw [if_pos hz] at q'
    split at q'
    ·rename_i c e
     exact .inr ⟨z,i,c,rx,ry,line6 hz,e,q' _ H (Same.refl H) rfl⟩
    ·exact q'.elim
   ·rw [if_neg hz] at q';exact q'.elim
  | _=>exact q.elim
 | _=>first | exact q.elim | (cases dx<;>exact q.elim)
@[simp] noncomputable def w0F (fl:Ro->Out (List D)) (fb:Ev) (ρ:Ro):Out D:=(fl ρ).bind λds=>(fb ρ).bind λd=>match d with
 | .int i=>atD ds i
 | _=>.bad
theorem j4d {fl:Ro->Out (List D)} (ha:DL T X a fl) (hb:DE T X b fb) (hs:q6e b:=by exact λ_ _=>rfl):DE T X (.Subscript a b pos) (w0F fl fb):=.mk λG E hp=>by
 refine PE.imp (j6m (X:=X.wish E) q56 (ha.run G E hp) (hb.run G E hp) hs) fun σ H Q ⟨ρ,fr,h⟩=>⟨ρ,fr,Acc.mono (Acc.bind h) λds _ hd a vs H1 s1 sq r=>⟨ρ,fr.mono s1,Acc.mono (Acc.bind (Acc.heap s1 hd)) λd _ hd2 v H2 s2 r2=>?_⟩⟩
 cases d with
 | int i=>
  have hd3:Acc T X E σ H1 (atD ds i) (kE T X.K H Q):=hd2
  unfold atD at hd3
  split at hd3
  ·rename_i d e
   obtain ⟨w,e1,rd⟩:=(RepL.mono s2 _ _ r).at e
   exact ⟨a,vs,i,w,rfl,r2,s2.seq sq,e1,hd3 w H2 (s1.trans s2) rd⟩
  ·exact hd3.elim
 | _=>exact hd2.elim
@[simp] noncomputable def j2j (fs:Ro->Out (List D)) (ρ:Ro):Out D:=(fs ρ).bind λds=>if ds.length<=1000000 then .ok (.tup ds) else .bad
theorem q2X {x1} (h:DA T X es fs):DE T X (.Tuple es x1 pos) (j2j fs):=.mk λG E hp=>
 PE.imp (j4s (X:=X.wish E) (h.run G E hp)) fun σ H Q ⟨ρ,fr,q⟩=>⟨ρ,fr,Acc.mono (Acc.bind q) λds _ hd vs H1 s1 r=>by
  have hl:=RepL.length _ _ r
  by_cases z:ds.length<=1000000
  ·rw [if_pos z] at hd
   exact ⟨by rw [hl];exact line6 z,λp hp'=>hd _ _ (s1.trans (q0z hp')) ⟨p,vs,rfl,SqT.of q0u,RepL.mono (q0z hp') _ _ r⟩⟩
  ·rw [if_neg z] at hd;exact hd.elim⟩
@[simp] noncomputable def q09 (fs:Ro->Out (List D)) (ρ:Ro):Out (List D):=(fs ρ).bind λds=>if ds.length<=1000000 then .ok ds else .bad
theorem q0L (h:DA T X es fs):DF T X (.List es pos) (q09 fs):=.mk λG E hp=>
 PE.imp (j8V (X:=X.wish E) (h.run G E hp)) fun σ H Q ⟨ρ,fr,q⟩=>⟨ρ,fr,Acc.mono (Acc.bind q) λds _ hd vs H1 s1 r=>by
  have hl:=RepL.length _ _ r
  by_cases z:ds.length<=1000000
  ·rw [if_pos z] at hd
   exact ⟨by rw [hl];exact line6 z,λp hp'=>hd p vs _ (s1.trans (q0z hp')) (s1.free hp') q0u (RepL.mono (q0z hp') _ _ r)⟩
  ·rw [if_neg z] at hd;exact hd.elim⟩
@[simp] noncomputable def q1l:D->D->Out D
 | .int i,.int j=>.ok (.int (i+j))
 | .str x,.str y=>if x.length+y.length<=1000000 then .ok (.str (x++y)) else .bad
 | _,_=>.bad
theorem q0y:OpD T X (binaryOp .Add) q1l:=λE=>⟨_,OpR.or j9a q7I,λdx dy x y σ H Q rx ry q=>by
 cases dx with
 | int i=>
  cases dy with
  | int j=>exact .inl ⟨i,j,rx,ry,q _ H (Same.refl H) rfl⟩
  | _=>exact q.elim
 | str u=>
  cases dy with
  | str v=>
   have q':Acc T X E σ H (if u.length+v.length<=1000000 then .ok (.str (u++v)) else .bad) (kE T X.K H Q):=q
   by_cases z:u.length+v.length<=1000000
   ·rw [if_pos z] at q'
    exact .inr ⟨u,v,rx,ry,line6 z,q' _ H (Same.refl H) rfl⟩
   ·rw [if_neg z] at q';exact q'.elim
  | _=>exact q.elim
 | _=>first | exact q.elim | (cases dy<;>exact q.elim)⟩
@[simp] noncomputable def eqS:D->D->Out Bool
 | .int i,.int j=>.ok (decide (i=j))
 | .bl i,.bl j=>.ok (decide (i=j))
 | .str i,.str j=>.ok (decide (i=j))
 | .non,.non=>.ok true
 | _,_=>.bad
@[simp] noncomputable def bD (neg:Bool) (o:Out Bool):Out D:=o.bind λb=>.ok (.bl (if neg then !b else b))
theorem j3T (neg:Bool) (op:CmpOp) (ho:∀E,OpR (X.wish E) (compareOp op) (λx y H Q=>scal x y=true/\Q (.bl (if neg then !decide (x=y) else decide (x=y))) H)):OpD T X (compareOp op) (λa b=>bD neg (eqS a b)):=λE=>⟨_,ho E,λdx dy x y σ H Q rx ry q=>by
 have key:∀(k:Bool),scal x y=true->decide (x=y)=k->eqS dx dy=.ok k->scal x y=true/\Q (.bl (if neg then !decide (x=y) else decide (x=y))) H:=λk h1 h2 h3=>by
  have q':Acc T X E σ H (bD neg (eqS dx dy)) (kE T X.K H Q):=q
  rw [h3] at q'
  refine ⟨h1,?_⟩
  rw [h2]
  exact q' _ H (Same.refl H) rfl
 cases dx with
 | int i=>
  cases dy with
  | int j=>cases rx;cases ry;exact key _ rfl (by simp) rfl
  | _=>exact q.elim
 | bl i=>
  cases dy with
  | bl j=>cases rx;cases ry;exact key _ rfl (by simp) rfl
  | _=>exact q.elim
 | str i=>
  cases dy with
  | str j=>cases rx;cases ry;exact key _ rfl (by simp) rfl
  | _=>exact q.elim
 | non=>
  cases dy with
  | non=>cases rx;cases ry;exact key true rfl (by simp) rfl
  | _=>exact q.elim
 | _=>first | exact q.elim | (cases dy<;>exact q.elim)⟩
theorem q2K:OpD T X (compareOp .Eq) (λa b=>bD false (eqS a b)):=j3T false .Eq λE=>w1z
theorem q4C:OpD T X (compareOp .NotEq) (λa b=>bD true (eqS a b)):=j3T true .NotEq λE=>w05
end
section
variable {T:Tb} {X:Cx} {e:Expr} {pos p:Pos} {fe:Ev}
theorem q3e {c:Str} {t:String} {g:D->Out Bool} {p2:Pos} (hg:Gl X "isinstance") (hm:X.mg "isinstance" = none) (ha:DE T X e fe) (hgc:Gl X c) (hmc:X.mg c=none) (hv:bootBuiltins c=some (.type t)) (hi:q7Y T X.K (.type t) g)
 (hng:∀d cc,g d≠.exc cc) (hs1:starEach [e,.Name c p2] X.env=(false,eval e X.env)::starEach [.Name c p2] X.env:=by rfl) (hn:c≠"__name__":=by decide) (hd:(c==("__debug__" : Str))=false:=by decide):DE T X (.Call (.Name "isinstance" p) [e,.Name c p2] [] pos) (j6o g fe):=
 j84 (cv:=.ty t) (clsv:=.type t) hg hm ha (λE=>j6b (X:=X.wish E) hgc hmc hv rfl hn hd) (λu r=>r) hi hng hs1
@[simp] noncomputable def j6l:D->Out Bool
 | .int _=>.ok true
 | .bl _=>.ok true
 | .non=>.ok false
 | .str _=>.ok false
 | .tup _=>.ok false
 | .lst _=>.ok false
 | _=>.bad
@[simp] noncomputable def q9S:D->Out Bool
 | .bl _=>.ok true
 | .int _=>.ok false
 | .non=>.ok false
 | .str _=>.ok false
 | .tup _=>.ok false
 | .lst _=>.ok false
 | _=>.bad
@[simp] noncomputable def q6x:D->Out Bool
 | .lst _=>.ok true
 | .bl _=>.ok false
 | .int _=>.ok false
 | .non=>.ok false
 | .str _=>.ok false
 | .tup _=>.ok false
 | _=>.bad
@[simp] noncomputable def q3h:D->Out Bool
 | .tup _=>.ok true
 | .bl _=>.ok false
 | .int _=>.ok false
 | .non=>.ok false
 | .str _=>.ok false
 | .lst _=>.ok false
 | _=>.bad
theorem j5F {K:PySem.W.Frag}:q7Y T K (.type "int") j6l:=λd b h=>by
 cases d<;>first | (cases h;exact ⟨(by with_unfolding_all rfl),(λ_ _ z=>by cases z),(λ_ z=>by cases z)⟩) | (cases h)
theorem j15 {K:PySem.W.Frag}:q7Y T K (.type "bool") q9S:=λd b h=>by
 cases d<;>first | (cases h;exact ⟨(by with_unfolding_all rfl),(λ_ _ z=>by cases z),(λ_ z=>by cases z)⟩) | (cases h)
theorem j1M {K:PySem.W.Frag}:q7Y T K (.type "list") q6x:=λd b h=>by
 cases d<;>first | (cases h;exact ⟨(by with_unfolding_all rfl),(λ_ _ z=>by cases z),(λ_ z=>by cases z)⟩) | (cases h)
theorem q5f {K:PySem.W.Frag}:q7Y T K (.type "tuple") q3h:=λd b h=>by
 cases d<;>first | (cases h;exact ⟨(by with_unfolding_all rfl),(λ_ _ z=>by cases z),(λ_ z=>by cases z)⟩) | (cases h)
theorem q7J (d:D) (c:Nat):j6l d≠.exc c:=by cases d<;>(intro h;cases h)
theorem q5L (d:D) (c:Nat):q9S d≠.exc c:=by cases d<;>(intro h;cases h)
theorem q5F (d:D) (c:Nat):q6x d≠.exc c:=by cases d<;>(intro h;cases h)
theorem q2Z (d:D) (c:Nat):q3h d≠.exc c:=by cases d<;>(intro h;cases h)
end
theorem q9V {a:Int} (h:a.natAbs.log2 < 1920):(Str.ofString (toString a)).length<=1921:=by
 have e:=int_text_length_le (k:=1920) (by decide) h
 rw [PySem.ofString_length];exact e
@[simp] noncomputable def q7L:D->Out Str
 | .int i=>if i.natAbs.log2 < 1920 then .ok (toString i) else .bad
 | .str x=>if x.length<=200000 then .ok x else .bad
 | _=>.bad
@[simp] noncomputable def j02:D->Out Str
 | .int i=>if i.natAbs.log2 < 1920 then .ok (toString i) else .bad
 | .str x=>if (reprText x).length<=200000 then .ok (reprText x) else .bad
 | _=>.bad
section
variable {T:Tb} {X:Cx} {e v:Expr} {es:List Expr} {pos p:Pos} {fe:Ev} {fs:Ro->Option (List Str)}
theorem j6s {M:Program} {w:World} {A:Around} {E:Value->Shared->Prop} {pins:List (Addr×Obj)} {σ:L2.St} {H:Hp} {s:Shared} {d:D} {x:V} {u:Value} {y:Str} {Q:Value->Shared->Prop} (r:Rep T X.K H d x) (rv:RelV x u) (e:q7L d=.ok y) (k:∀t tk,y.length<=200000->Q (.str y t) { s with toks:=tk }) :
 wpAny (model M w) A (formatField u Str.empty) Q E s:=by
 cases d with
 | int i=>
  obtain rfl:x=V.int i:=r
  obtain ⟨t,rfl⟩:=rv
  have e':(if i.natAbs.log2 < 1920 then Out.ok (toString i:Str) else .bad)=.ok y:=e
  by_cases z:i.natAbs.log2 < 1920
  ·rw [if_pos z] at e'
   cases e'
   exact formatField_int_small z (k _ _ (by have:=q9V z;omega))
  ·rw [if_neg z] at e';cases e'
 | str z=>
  obtain rfl:x=V.str z:=r
  obtain ⟨t,rfl⟩:=rv
  have e':(if z.length<=200000 then Out.ok z else .bad)=.ok y:=e
  by_cases h:z.length<=200000
  ·rw [if_pos h] at e'
   cases e'
   exact formatField_str (λt' tk=>k t' tk h) (by rw [sizeLine_eq];omega)
  ·rw [if_neg h] at e';cases e'
 | _=>cases e
theorem j17 {M:Program} {w:World} {A:Around} {E:Value->Shared->Prop} {σ:L2.St} {H:Hp} {s:Shared} {d:D} {x:V} {u:Value} {y:Str} {Q:Value->Shared->Prop} (r:Rep T X.K H d x) (rv:RelV x u) (e:j02 d=.ok y) (k:∀t tk,y.length<=200000->Q (.str y t) { s with toks:=tk }) :
 wpAny (model M w) A (pyReprObj u) (λr s₂=>wpAny (model M w) A (formatField r Str.empty) Q E s₂) E s:=by
 have fin:∀(y:Str) (t:Tok) (tk:Nat),y.length<=200000->(∀t tk,y.length<=200000->Q (.str y t) { s with toks:=tk })->wpAny (model M w) A (formatField (.str y t) Str.empty) Q E { s with toks:=tk }:=λy t tk hy k=>formatField_str (λt' tk'=>k t' tk' hy) (by rw [sizeLine_eq];omega)
 cases d with
 | int i=>
  obtain rfl:x=V.int i:=r
  obtain ⟨t,rfl⟩:=rv
  have e':(if i.natAbs.log2 < 1920 then Out.ok (toString i:Str) else .bad)=.ok y:=e
  by_cases z:i.natAbs.log2 < 1920
  ·rw [if_pos z] at e'
   cases e'
   exact pyReprObj_int z (fin _ _ _ (by have:=q9V z;omega) k)
  ·rw [if_neg z] at e';cases e'
 | str z=>
  obtain rfl:x=V.str z:=r
  obtain ⟨t,rfl⟩:=rv
  have e':(if (reprText z).length<=200000 then Out.ok (reprText z) else .bad)=.ok y:=e
  by_cases h:(reprText z).length<=200000
  ·rw [if_pos h] at e'
   cases e'
   exact pyReprObj_str (fin _ _ _ h k) (by rw [sizeLine_eq];omega)
  ·rw [if_neg h] at e';cases e'
 | _=>cases e
structure DJ (T:Tb) (X:Cx) (es:List Expr) (f:Ro->Option (List Str)):Prop where
 mk ::
 run:∀(G:Hp) (E:Value->Shared->Prop),PassesOwn (model X.prog X.w) X.A X.env E->∀(pins:List (Addr×Obj)) (s:Shared) (σ:L2.St) (H:Hp) (acc:Str) (Q:Str->Shared->Prop),Inv (X.wish E) pins σ H s ->
 (∃ρ xs,FR T X.K G H σ ρ/\f ρ=some xs/\acc.length+200000*xs.length<=sizeLine/\∀H' s',Same H H'->Inv (X.wish E) pins σ H' s'->(xs.foldl (·++·) acc).length<=acc.length+200000*xs.length->Q (xs.foldl (·++·) acc) s') ->
 Joins (model X.prog X.w) X.A E (evalEach es X.env) acc Q s
@[simp] noncomputable def jN0 (ρ:Ro):Option (List Str):=some []
@[simp] noncomputable def q6k (x:Str) (fs:Ro->Option (List Str)) (ρ:Ro):Option (List Str):=if x.length<=200000 then (match fs ρ with | some xs=>some (x::xs) | none=>none) else none
@[simp] noncomputable def q4I (g:D->Out Str) (fe:Ev) (fs:Ro->Option (List Str)) (ρ:Ro):Option (List Str):=match (fe ρ).bind g with
 | .ok x=>(match fs ρ with | some xs=>some (x::xs) | none=>none)
 | _=>none
theorem q2Y:DJ T X [] jN0:=.mk λG E hp pins s σ H acc Q I ⟨ρ,xs,fr,e,_,h⟩=>by
 cases e
 exact h H s (Same.refl H) I (by simp)
theorem q4h {G:Hp} {E:Value->Shared->Prop} (hp:PassesOwn (model X.prog X.w) X.A X.env E) {pins:List (Addr×Obj)} {s:Shared} {σ:L2.St} {H H1:Hp} {acc x:Str} {Q:Str->Shared->Prop} {t:Tok} {ρ:Ro} {xs:List Str} (hr:DJ T X es fs) (I:Inv (X.wish E) pins σ H1 s) (fr:FR T X.K G H1 σ ρ) (s1:Same H H1) (hx:x.length<=200000)
 (ef:fs ρ=some xs) (z:acc.length+200000*(x::xs).length<=sizeLine) (k:∀H' s',Same H H'->Inv (X.wish E) pins σ H' s'->((x::xs).foldl (·++·) acc).length<=acc.length+200000*(x::xs).length->Q ((x::xs).foldl (·++·) acc) s') :
 ∃y t',(Value.str x t)=.str y t'/\(acc++y).length<=sizeLine/\Joins (model X.prog X.w) X.A E (evalEach es X.env) (acc++y) Q s:=by
 have hl:(acc++x).length=acc.length+x.length:=strLen_append acc x
 rw [List.length_cons] at z k
 refine ⟨x,t,rfl,by rw [hl];omega,hr.run G E hp pins s σ H1 (acc++x) Q I ⟨ρ,xs,fr,ef,by rw [hl];omega,λH' s' s2 I' hz=>?_⟩⟩
 have hz':(List.foldl (·++·) acc (x::xs)).length<=acc.length+200000*(xs.length+1):=by
  rw [List.foldl_cons];rw [hl] at hz;omega
 exact k H' s' (s1.trans s2) I' hz'
theorem q2d {x:Str} {j:Nat} (hr:DJ T X es fs):DJ T X (.Constant (.str x) j pos::es) (q6k x fs):=.mk λG E hp pins s σ H acc Q I ⟨ρ,ys,fr,e,z,k⟩=>by
 simp only [q6k] at e
 by_cases hx:x.length<=200000
 ·rw [if_pos hx] at e
  cases ef:fs ρ with
  | none=>rw [ef] at e;cases e
  | some xs=>
   rw [ef] at e
   cases e
   exact Calls.Constant_str (q4h hp hr (I.tok _) fr (Same.refl H) hx ef z k)
 ·rw [if_neg hx] at e;cases e
theorem q7t {g:D->Out Str} {ρ:Ro} {ys:List Str} (e:q4I g fe fs ρ=some ys):∃d x xs,fe ρ=.ok d/\g d=.ok x/\fs ρ=some xs/\ys=x::xs:=by
 simp only [q4I] at e
 cases ed:fe ρ with
 | ok d=>
  rw [ed] at e
  cases eg:g d with
  | ok x=>
   simp only [Out.ok_bind,eg] at e
   cases ef:fs ρ with
   | some xs=>rw [ef] at e;cases e;exact ⟨d,x,xs,rfl,eg,rfl,rfl⟩
   | none=>rw [ef] at e;cases e
  | exc c=>simp only [Out.ok_bind,eg] at e;cases e
  | bad=>simp only [Out.ok_bind,eg] at e;cases e
 | exc c=>rw [ed] at e;cases e
 | bad=>rw [ed] at e;cases e
theorem q2m (he:DE T X v fe) (hr:DJ T X es fs):DJ T X (.FormattedValue v (-1) none pos::es) (q4I q7L fe fs):=.mk λG E hp pins s σ H acc Q I ⟨ρ,ys,fr,e,z,k⟩=>by
 obtain ⟨d,x,xs,ed,eg,ef,rfl⟩:=q7t e
 refine FormattedValue_plain (thn (he.run G E hp pins s σ H (λw H1=>Same H H1/\Rep T X.K H1 d w) I ⟨ρ,fr,?_⟩) λu s1 ⟨w,H1,I1,rv,sm,rd⟩=>?_)
 ·rw [ed];exact λw H1 sm rd=>⟨sm,rd⟩
 ·exact j6s (X:=X) (pins:=pins) (σ:=σ) rd rv eg λt tk hx=>q4h hp hr (I1.tok _) (fr.mono sm) sm hx ef z k
theorem q5U (he:DE T X v fe) (hr:DJ T X es fs):DJ T X (.FormattedValue v 114 none pos::es) (q4I j02 fe fs):=.mk λG E hp pins s σ H acc Q I ⟨ρ,ys,fr,e,z,k⟩=>by
 obtain ⟨d,x,xs,ed,eg,ef,rfl⟩:=q7t e
 refine wpAny_FormattedValue_repr (thn (he.run G E hp pins s σ H (λw H1=>Same H H1/\Rep T X.K H1 d w) I ⟨ρ,fr,?_⟩) λu s1 ⟨w,H1,I1,rv,sm,rd⟩=>?_)
 ·rw [ed];exact λw H1 sm rd=>⟨sm,rd⟩
 ·exact j17 (X:=X) (σ:=σ) rd rv eg λt tk hx=>q4h hp hr (I1.tok _) (fr.mono sm) sm hx ef z k
@[simp] noncomputable def eJ (fs:Ro->Option (List Str)) (ρ:Ro):Out D:=match fs ρ with
 | some xs=>if xs.length<=20 then .ok (.str (xs.foldl (·++·) Str.empty)) else .bad
 | none=>.bad
theorem q2s {v1 v2:Expr} (h:DJ T X (v1::v2::es) fs):DE T X (.JoinedStr (v1::v2::es) pos) (eJ fs):=.mk λG E hp=>by
 rintro pins s σ H Q I ⟨ρ,fr,q⟩
 simp only [eJ] at q
 cases ef:fs ρ with
 | none=>rw [ef] at q;exact q.elim
 | some xs=>
  rw [ef] at q
  by_cases hx:xs.length<=20
  ·simp only [if_pos hx] at q
   refine wpAny_JoinedStr (h.run G E hp pins s σ H Str.empty _ I ⟨ρ,xs,fr,ef,by rw [sizeLine_eq];show 0+_<=_;omega,λH' s' sm I' hz=>⟨?_,?_⟩⟩)
   ·have z0:Str.empty.length=0:=rfl
    rw [sizeLine_eq];omega
   ·exact ⟨.str _,H',I'.tok _,⟨_,rfl⟩,q _ H' sm rfl⟩
  ·simp only [if_neg hx] at q;exact q.elim
end
noncomputable abbrev j8k:List Value:=[.type "ValueError",.type "Exception",.type "BaseException",.type "object"]
noncomputable def q7V (K:PySem.W.Frag) (C:Addr):Prop:=PySem.W.excIn K C j8k "ValueError.__new__" = true
theorem j5U {K:PySem.W.Frag} {h:Heap} {C:Addr} (X:K.In h) (q:q7V K C) :
 ∃bm N nm qn bs hd sn sub ab col dd k0 k1 k2 k3 k5 mN,h.get? C=some (excClassObj nm qn C N bs bm hd sn sub ab col dd k0 k1 k2 k3 k5 "ValueError.__new__")/\h.Ns N mN/\mN "__init__" = none/\OwnTail h j8k bm:=by
 have q2:=q
 unfold q7V PySem.W.excIn at q2
 split at q2
 ·rename_i dd cd sl lk
  split at q2
  ·rename_i C2 bm k0 k1 k2 k3 n k5 em es
   simp only [Bool.and_eq_true,beq_iff_eq,Bool.not_eq_true'] at q2
   obtain ⟨⟨⟨⟨⟨eC,en⟩,nd⟩,tl⟩,okN⟩,ni⟩:=q2
   subst eC en
   cases cd with
   | mk nm bs mro ns qn hd sn sub ab col del=>
    simp only at em nd okN ni
    subst em nd
    have e3:sl=#[k0,k1,k2,k3,some (.builtin "ValueError.__new__"),k5]:=Array.toList_inj.mp es
    subst e3
    exact ⟨bm,ns,nm,qn,bs,hd,sn,sub,ab,col,dd,k0,k1,k2,k3,k5,_,X _ _ lk,.of_isNs (PySem.W.isNs_of_in X okN),PySem.W.nsMap_none_of_in X okN ni,PySem.W.tail_of_in X tl⟩
  ·cases q2
 ·cases q2
theorem q9F {X:Cx} {pins:List (Addr×Obj)} {σ:L2.St} {H:Hp} {s:Shared} (I:Inv X pins σ H s) {b:Addr} (hb:s.heap.get? b=none):Free X pins b:=by
 refine ⟨?_,λz=>?_,λx cc e z=>?_,λq hq z=>?_⟩
 ·by_cases hx:b∈X.ex
  ·exact .inl hx
  ·refine .inr ?_
   cases q:X.s₀.heap.get? b with
   | none=>rfl
   | some o=>
    obtain ⟨o',e⟩:=I.base.there b o q hx
    rw [hb] at e;cases e
 ·obtain ⟨m,⟨o,_,_,ho,_⟩,_⟩:=I.loc
  rw [<-z,hb] at ho;cases ho
 ·obtain ⟨v,o,ho,_⟩:=I.cell x cc e
  rw [z,hb] at ho;cases ho
 ·obtain ⟨e,_⟩:=I.pin q hq
  rw [z,hb] at e;cases e
section
variable {T:Tb} {ib:Bool} {X:Cx} {e:Expr} {es:List Expr} {pos np cpos:Pos} {fe:Ev} {fs:Ro->Out (List D)} {x:Str} {c:Nat}
@[simp] noncomputable def q1U (c:Nat) (fs:Ro->Out (List D)) (ρ:Ro):Fl:=(fs ρ).fl ρ λ_=>.exc c ρ
theorem q1c (hc:X.calm=true) (hx:q7V X.K (T.ca c)) (hg:Gl X x) (hm:X.mg x=some (.ref (T.ca c))) (ha:DA T X (e::es) fs) (hsh:∀ρ ds,fs ρ=.ok ds->ds.length<=1000) (hdb:(x==("__debug__" : Str))=false:=by decide)
 (he:starEach (e::es) X.env=(false,eval e X.env)::starEach es X.env:=by exact q0D rfl) (hpl:(backTo cpos (starEach (e::es) X.env)).any (·.1)=false:=by exact q0J rfl):DS T ib X (.Raise (some (.Call (.Name x np) (e::es) [] cpos)) none pos) (q1U c fs):=.mk λG E hp=>by
 rintro pins s σ H D I ⟨ρ,fr,h⟩
 have IX:Inv X pins σ H s:=I.unwish
 obtain ⟨bm,N,nm,qn,bs,hd,sn,sub,ab,col,dd,k0,k1,k2,k3,k5,mN,hC,hN,hni,TL⟩:=j5U I.ok.mod.kin hx
 refine wpAny_Raise_call_subU (C:=T.ca c) (nm:=nm) (q:=qn) (N:=N) (bs:=bs) (bm:=bm) (hdct:=hd) (sn:=sn) (sub:=sub) (ab:=ab) (col:=col) (dd:=dd) (k0:=k0) (k1:=k1) (k2:=k2) (k3:=k3) (k5:=k5)
  PySem.F.excBase_ValueError (by decide) PySem.F.excBase_ValueError (mN:=mN) (TL.hasType (by decide)) (I.ok.hd hc) hpl hni (q4c (X:=X.wish E) I hg hm ⟨rfl,?_⟩ hdb)
 have hA:=ha.run G E hp cpos pins s σ H (λvs H1=>∃ds,fs ρ=.ok ds/\Same H H1/\vs.length=ds.length) I ⟨ρ,fr,Acc.mono (AccS.fl fr h) λds e1 _ vs H1 s1 r=>⟨ds,e1,s1,RepL.length _ _ r⟩⟩
 rw [he] at hA ⊢
 refine Calls.evalArgs_plain (thn hA λus s1 ⟨vs,H1,I1,rv,ds,e1,sm,hl⟩=>?_)
 have I1X:Inv X pins σ H1 s1:=I1.unwish
 have hlen:us.length<=sizeLine:=by
  have:=hsh ρ ds e1
  rw [<-rv.length,hl,sizeLine_eq];omega
 refine ⟨rfl,hlen,I1X.bk _ _ hC,hN.keeps I1X.bk,TL.keeps I1X.bk,λh' ea hm'=>?_⟩
 have h2:=AccS.fl fr h
 rw [e1] at h2
 refine h2 σ H fr (Pers.refl H) pins { s1 with heap:=h' } (.ref ea) H1 (I1X.kept (t':=s1.toks) hm'.keeps) sm ⟨ea,rfl,?_,q9F I1X hm'.new,?_,?_⟩
 ·cases q:H1 ea with
  | none=>rfl
  | some o=>
   obtain ⟨u,eu⟩:=q66 (I1X.hok ea o q)
   rw [hm'.new] at eu;cases eu
 ·obtain ⟨t,ht,_⟩:=hm'.there
  exact ⟨_,_,ht,rfl,rfl,rfl⟩
 ·obtain ⟨t,ht,_⟩:=hm'.there
  exact ⟨_,_,_,ht,rfl,rfl,rfl,.inl rfl⟩
end
section
variable {T:Tb} {ib:Bool} {X:Cx} {pins:List (Addr×Obj)} {σ:L2.St} {H:Hp} {s:Shared} {c:Nat} {u:Value}
end
noncomputable abbrev mk (X:Cx) (u:Value):Cx:={ X with A:=X.A.mark (some u),calm:=false }
section
variable {T:Tb} {ib:Bool} {X:Cx} {pins:List (Addr×Obj)} {σ:L2.St} {H:Hp} {s:Shared} {c:Nat} {u:Value}
section
variable {x n:Str} {k i:Nat} {m:Nat->Option Bool} {np pos:Pos} {b₀:Stmt} {suite:List Stmt} {hs:List ExceptHandler} {fh:Ro->Fl} {fr':Nat->Ro->Fl}
end
end
section
variable {T:Tb} {z u:Option Addr} {K:PySem.W.Frag}
theorem q6l {H:Hp} {c:Nat} {a:Addr} {ds:List D}:InsAt { T with me:=z,mo:=u } K H c a ds↔InsAt T K H c a ds:=
 ⟨λ⟨dx,fs,e1,e2,e3,r⟩=>⟨dx,fs,e1,e2,e3,(repL_me _ _).mp r⟩,λ⟨dx,fs,e1,e2,e3,r⟩=>⟨dx,fs,e1,e2,e3,(repL_me _ _).mpr r⟩⟩
theorem q3A {H:Hp}:∀(ss:List Sl) (vs:List V),ArgsOk { T with me:=z,mo:=u } K H vs ss↔ArgsOk T K H vs ss
 | [],_=>Iff.rfl
 | s::ss,vs=>by
  have one:∀v,j19 { T with me:=z,mo:=u } K H v s↔j19 T K H v s:=λv=>by
   cases s with
   | sh d=>exact q21 d v
   | bo ds=>exact ⟨λ⟨a,us,e1,e2,r⟩=>⟨a,us,e1,e2,(repL_me ds us).mp r⟩,λ⟨a,us,e1,e2,r⟩=>⟨a,us,e1,e2,(repL_me ds us).mpr r⟩⟩
   | bi c ds=>exact ⟨λ⟨a,e,r⟩=>⟨a,e,q6l.mp r⟩,λ⟨a,e,r⟩=>⟨a,e,q6l.mpr r⟩⟩
   | _=>exact Iff.rfl
  exact ⟨λ⟨v,r,e,h1,h2⟩=>⟨v,r,e,(one v).mp h1,(q3A ss r).mp h2⟩,λ⟨v,r,e,h1,h2⟩=>⟨v,r,e,(one v).mpr h1,(q3A ss r).mpr h2⟩⟩
theorem j4T {G H:Hp} {v:V} (r:Rv):q5J { T with me:=z,mo:=u } K G H v r↔q5J T K G H v r:=by
 cases r with
 | sh d=>exact q21 d v
 | fr ds=>exact ⟨λ⟨a,us,e1,e2,e3,r⟩=>⟨a,us,e1,e2,e3,(repL_me ds us).mp r⟩,λ⟨a,us,e1,e2,e3,r⟩=>⟨a,us,e1,e2,e3,(repL_me ds us).mpr r⟩⟩
 | tf t pre ds post=>exact ⟨λ⟨a,vp,b,vq,ws,e1,e2,r1,r2,e3,e4,r3⟩=>⟨a,vp,b,vq,ws,e1,e2,(repL_me _ _).mp r1,(repL_me _ _).mp r2,e3,e4,(repL_me _ _).mp r3⟩,λ⟨a,vp,b,vq,ws,e1,e2,r1,r2,e3,e4,r3⟩=>⟨a,vp,b,vq,ws,e1,e2,(repL_me _ _).mpr r1,(repL_me _ _).mpr r2,e3,e4,(repL_me _ _).mpr r3⟩⟩
theorem j2L {n:Nat} {F:Fn} {vs:List V} {H:Hp} {Q:VK} {E:XK} (h:spD { T with me:=z,mo:=u } K n F vs H Q E):spD T K n F vs H Q E:=by
 obtain ⟨ss,h1,h2,h3⟩:=h
 refine ⟨ss,(q3A ss vs).mp h1,h2,?_⟩
 cases e:F ss with
 | ok r=>rw [e] at h3;exact λv H' sm ro=>h3 v H' sm ((j4T r).mpr ro)
 | exc c=>rw [e] at h3;exact h3
 | bad=>rw [e] at h3;exact h3
theorem q2C {P:Program} {w:World} {mg:Str->Option Value} {base:Heap} {k:Nat} {f:Addr} {fd:FuncData} {ps:List Str} {n:Nat} {F:Fn} (h:q1j P w K mg base (CXE T P w) k f fd ps (spD T K n F)):q1j P w K mg base (CXE { T with me:=z,mo:=u } P w) k f fd ps (spD { T with me:=z,mo:=u } K n F):=
 ⟨λvs H Q E q=>h.len vs H Q E (j2L q),λA outer s H args us vs Q E hr he hb hv hs=>h.run A outer s H args us vs Q E hr he hb hv (j2L hs)⟩
end
noncomputable def spI (T:Tb) (K:PySem.W.Frag) (c n:Nat) (F:Fn):Sp:=λvs H Q E=>∃(x dx:Addr) (rest:List V) (ss:List Sl) (G:Hp),vs=.ref x::rest/\H=upd (upd G dx (.own x)) x (.ins (T.ca c) dx [])/\G x=none/\G dx=none/\dx≠x/\ArgsOk T K G rest ss/\vs.length=n /\
 (match F ss with
 | .ok (.sh d)=>∀H',Same G H'->Rep T K H' d (.ref x)->Q .non H'
 | .exc c=>∀H',Same G H'->E (.ref (T.ca c)) none H'
 | _=>False)
@[simp] noncomputable def q24 (n c ar:Nat) (f:Ro->Fl) (ss:List Sl):Out Rv:=match f (.me c []::ss++List.replicate (n-(ss.length+1)) .no) with
 | .nx ρ=>(match (ρ[0]?:Option Sl) with
  | some (.me c' ds)=>if c'=c/\ds.length=ar then .ok (.sh (.ins c ds)) else .bad
  | _=>.bad)
 | .exc c _=>.exc c
 | _=>.bad
section
variable {P:Program} {w:World} {K:PySem.W.Frag} {mg:Str->Option Value} {base:Heap} {T:Tb}
theorem j6f {H G:Hp} {N:List Str} {x dx:Addr} {rest:List V} {ss:List Sl} {c:Nat} (hH:H=upd (upd G dx (.own x)) x (.ins (T.ca c) dx [])) (hx:G x=none) (hdx:G dx=none) (hne:dx≠x) (h:ArgsOk T K G rest ss) (hN:rest.length+1<=N.length) :
 FR { T with me:=some x } K G H (L2.start N (.ref x::rest)) (.me c []::ss++List.replicate (N.length-(ss.length+1)) .no):=by
 have hl:=ArgsOk.length ss rest h
 have sm:Same G H:=λb o e=>by
  rw [hH,q0i (λz=>by rw [z,hx] at e;cases e),q0i (λz=>by rw [z,hdx] at e;cases e)];exact e
 have st:∀(i:Nat) (v:V),(V.ref x::rest)[i]?=some v->(L2.start N (.ref x::rest))[i]?=some (some v):=λi v e=>by
  unfold L2.start
  have hi:i < (V.ref x::rest).length:=(List.getElem?_eq_some_iff.mp e).1
  rw [List.getElem?_append_left (by simpa using hi),List.getElem?_map,e];rfl
 have cases_:∀(i:Nat) (s:Sl),(Sl.me c []::ss++List.replicate (N.length-(ss.length+1)) Sl.no)[i]?=some s->(i=0/\s=.me c [])∨(∃j,i=j+1/\ss[j]?=some s)∨s=.no:=λi s e=>by
  cases i with
  | zero=>exact .inl ⟨rfl,by simpa using e.symm⟩
  | succ j=>
   rw [List.cons_append,List.getElem?_cons_succ] at e
   by_cases hj:j < ss.length
   ·rw [List.getElem?_append_left hj] at e;exact .inr (.inl ⟨j,rfl,e⟩)
   ·rw [List.getElem?_append_right (by omega),List.getElem?_replicate] at e
    split at e
    ·cases e;exact .inr (.inr rfl)
    ·cases e
 have noow:∀(i:Nat) (s:Sl) (x:Option (Option V)) (b:Addr),(Sl.me c []::ss++List.replicate (N.length-(ss.length+1)) Sl.no)[i]?=some s->¬q3J H x b s:=λi s x b z o=>by
  rcases cases_ i _ z with ⟨_,y⟩ | ⟨j,_,y⟩ | y
  ·subst y;exact o
  ·obtain ⟨v,_,r⟩:=ArgsOk.get ss rest j _ h y
   cases s with
   | sh d=>exact o
   | bo ds=>exact o
   | bi c ds=>exact o
   | _=>exact r
  ·subst y;exact o
 refine ⟨sm,?_,λi s e=>?_,λi j s t b _ z _ o _=>noow i s _ b z o,λy e=>?_,λi c' es z=>?_⟩
 ·unfold L2.start;simp;omega
 ·rcases cases_ i s e with ⟨rfl,rfl⟩ | ⟨j,rfl,y⟩ | rfl
  ·exact ⟨x,dx,[],rfl,st 0 _ rfl,by rw [hH];exact q0u,hx,rfl,rfl⟩
  ·obtain ⟨v,e1,r⟩:=ArgsOk.get ss rest j s h y
   rw [st (j+1) v (by simpa using e1)]
   cases s with
   | sh d=>exact ⟨v,rfl,(q21 d v).mpr (Rep.mono sm _ _ r)⟩
   | bo ds=>
    obtain ⟨a,us,rfl,r2,r3⟩:=r
    exact ⟨a,us,rfl,r2,(repL_me ds us).mpr (RepL.mono sm _ _ r3)⟩
   | bi c ds=>
    obtain ⟨a,rfl,dx,fs,r2,r3,r4,r5⟩:=r
    exact ⟨a,dx,fs,rfl,r2,r3,r4,(repL_me ds _).mpr (RepL.mono sm _ _ r5)⟩
   | _=>exact r.elim
  ·trivial
 ·cases e;exact st 0 _ rfl
 ·rcases cases_ i _ z with ⟨y,_⟩ | ⟨j,_,y⟩ | y
  ·exact y
  ·obtain ⟨v,_,r⟩:=ArgsOk.get ss rest j _ h y;exact r.elim
  ·cases y
theorem j3i {c ar:Nat} {x qual:Str} {st:Stmt} {fa:Addr} {fd:FuncData} {N ps:List Str} {k:Nat} {f:Ro->Fl} (hT:T.me=none) (har:(T.fl c).length=ar) (F:∃(oc:Value) (od:Option Addr) (dV kV doc pm:Value) (an:Option Addr) (cdv ct:Value) (osl:Array (Option Value)),
 fd=PySem.W.fnOf x qual (q1Y st) (q1D st) (q0j st) dV kV doc pm an cdv ct/\K.lookup fa=some ⟨oc,od,.func fd,osl⟩/\PySem.W.codeIn K cdv qual=true) (S:q0q N ps (q0j st))
 (hb:∀(y:Addr) (cdv:Value) (A:Around) (outer:List Env) (s:Shared) (H:Hp) (E:XK),Room k (A.deeper (envOfC qual (q0j st) s.heap.objs.size fa cdv))->DSs { T with me:=some y } true (CxD T P w K mg base N qual (q0j st) fa cdv A outer s H E) (q1D st) f) :
 q1j P w K mg base (CXE T P w) (k+1) fa fd ps (spI T K c ps.length (q24 N.length c ar f)):=by
 obtain ⟨oc,od,dV,kV,doc,pm,an,cdv,ct,osl,rfl,lk,hcd⟩:=F
 refine j8F lk hcd S (λvs H Q E ⟨_,_,_,_,_,_,_,_,_,_,_,e,_⟩=>e) λA outer s H vs Q E hr ⟨y,dx,rest,ss,G,ev,hH,hx,hdx,hne,ha,hl,ho⟩=>?_
 subst ev
 have hpl:ps.length<=N.length:=by have:=congrArg List.length S.pre;rw [List.length_take] at this;omega
 have fr:=j6f (T:=T) (K:=K) (N:=N) hH hx hdx hne ha (by simp at hl;omega)
 refine ⟨_,(hb y cdv A outer s H E hr).run G (CxD T P w K mg base N qual (q0j st) fa cdv A outer s H E).xe PassesOwn.leaving,_,fr,?_⟩
 unfold q24 at ho
 cases e:f (.me c []::ss++List.replicate (N.length-(ss.length+1)) .no) with
 | nx ρ=>
  rw [e] at ho
  intro σ H' fr' _
  cases e0:ρ[0]? with
  | none=>simp only [e0] at ho
  | some sl=>
   cases sl with
   | me c' ds=>
    simp only [e0] at ho
    by_cases hc:c'=c/\ds.length=ar
    ·rw [if_pos hc] at ho
     obtain ⟨rfl,hd⟩:=hc
     obtain ⟨a,dx',fs,m0,e1,e2,e3,e4,r⟩:=fr'.sl 0 _ e0
     cases m0
     exact ho H' fr'.same ⟨y,dx',fs,rfl,e2,by rw [e4];exact List.take_of_length_le (by show (T.fl c').length<=_;omega),(repL_me ds _).mp r⟩
    ·rw [if_neg hc] at ho;exact ho.elim
   | _=>simp only [e0] at ho
 | exc c' ρ=>
  rw [e] at ho
  intro σ' H' fr' _ pins s' u H'' I hs fl
  exact q4L I rfl rfl rfl fl (ho H'' (fr'.same.trans hs))
 | rt r=>rw [e] at ho;exact ho.elim
 | rm r c ds ks=>rw [e] at ho;exact ho.elim
 | bk ρ=>rw [e] at ho;exact ho.elim
 | ct ρ=>rw [e] at ho;exact ho.elim
 | bad=>rw [e] at ho;exact ho.elim
end
section
variable {T:Tb} {ib:Bool} {X:Cx} {e o:Expr} {es:List Expr} {pos pos' p apos:Pos} {fe fo:Ev} {fs:Ro->Out (List Sl)} {k n c:Nat} {f:Addr} {fd:FuncData} {ps:List Str} {F:Fn} {ds:List Value} {dvs:List V} {dss:List Sl} {x:Str}
theorem q4v {a:Str} {v:V}:∀{fs:List (Str×V)},a∉fs.map (·.1)->q4n a v fs=fs++[(a,v)]
 | [],_=>rfl
 | (b,u)::r,h=>by
  have hb:¬b=a:=λz=>h (by simp [z])
  have hr:a∉r.map (·.1):=λz=>h (by simp at z ⊢; exact .inr z)
  show (if b=a then _ else _)=_
  rw [if_neg hb,q4v hr];rfl
mutual
theorem Rep.wr {K:PySem.W.Frag} {H:Hp} {y dx:Addr} {c:Nat} {fs:List (Str×V)} {o:HO} (h:H y=some (.ins (T.ca c) dx fs)) (hn:fs.map (·.1)≠T.fl c):∀(d:D) (v:V),Rep T K H d v->Rep T K (upd H y o) d v
 | .non,_,q=>q
 | .bl _,_,q=>q
 | .int _,_,q=>q
 | .str _,_,q=>q
 | .tup ds,_,q=>by
  obtain ⟨b,ws,r1,r2,r3⟩:=q
  refine ⟨b,ws,r1,?_,RepL.wr h hn ds ws r3⟩
  rcases r2 with (r2 | ⟨o',r2⟩) | r2
  ·exact .inl (.inl (by rw [q0i (λz=>by rw [z,h] at r2;cases r2)];exact r2))
  ·exact .inl (.inr ⟨o',by rw [q0i (λz=>by rw [z,h] at r2;cases r2)];exact r2⟩)
  ·exact .inr r2
 | .lst ds,_,q=>by
  obtain ⟨b,ws,r1,r2,r3⟩:=q
  refine ⟨b,ws,r1,?_,RepL.wr h hn ds ws r3⟩
  rcases r2 with ⟨o',r2⟩ | r2
  ·exact .inl ⟨o',by rw [q0i (λz=>by rw [z,h] at r2;cases r2)];exact r2⟩
  ·exact .inr r2
 | .ins c2 ds,_,q=>by
  obtain ⟨b,dx2,fs2,r1,r2,r3,r4⟩:=q
  refine ⟨b,dx2,fs2,r1,?_,r3,RepL.wr h hn ds _ r4⟩
  rw [q0i (λz=>?_)]
  ·exact r2
  ·rw [z,h] at r2
   injection r2 with r2
   injection r2 with q1 q2 q3
   subst q3
   exact hn (by rw [r3];unfold Tb.fl;rw [q1])
 | .exc c,_,q=>by
  obtain ⟨b,o',r1,r2,r3⟩:=q
  exact ⟨b,o',r1,by rw [q0i (λz=>by rw [z,h] at r2;cases r2)];exact r2,r3⟩
theorem RepL.wr {K:PySem.W.Frag} {H:Hp} {y dx:Addr} {c:Nat} {fs:List (Str×V)} {o:HO} (h:H y=some (.ins (T.ca c) dx fs)) (hn:fs.map (·.1)≠T.fl c):∀(ds:List D) (us:List V),RepL T K H ds us->RepL T K (upd H y o) ds us
 | [],_,q=>q
 | d::ds,_,q=>by
  obtain ⟨v,r,r1,r2,r3⟩:=q
  exact ⟨v,r,r1,Rep.wr h hn d v r2,RepL.wr h hn ds r r3⟩
end
@[simp] noncomputable def q0P (c j:Nat) (fe:Ev) (ρ:Ro):Fl:=match (ρ[0]?:Option Sl) with
 | some (.me c' ds)=>if c'=c/\ds.length=j then (fe ρ).fl ρ λd=>.nx (ρ.set 0 (.me c (ds++[d]))) else .bad
 | _=>.bad
theorem q0V {a:Str} (j:Nat) (cl:Cls X.K (T.ca c)) (na:NoAttr X.K (T.ca c) a) (hj:(T.fl c)[j]?=some a) (hnd:(T.fl c).Nodup) (h1000:j < 1000) (he:DE T X e fe) (hN:X.N[0]?=some x:=by rfl) (hv:Vis X.env.scope x:=by walk_at "v0")
 (hs:swapsWith e (some (.Attribute (.Name x p) a pos')) pos.line X.env=pure false:=by exact q2c rfl) (hd:(x==("__debug__" : Str))=false:=by decide) (hcd:(x==("__classdict__" : Str))=false:=by decide) :
 DS T true X (.Assign [.Attribute (.Name x p) a pos'] e pos) (q0P c j fe):=.mk λG E hp=>by
 refine PS.imp (j7l (X:=X.wish E) (q2D (X:=X.wish E) hN hv hd hcd) (he.run G E hp) hs) λD σ H ⟨ρ,fr,h⟩=>?_
 have h:AccS T true X G E H (q0P c j fe ρ) D:=h
 unfold q0P at h
 cases e0:ρ[0]? with
 | none=>simp only [e0] at h;exact h.elim
 | some sl=>
  cases sl with
  | me c' ds=>
   simp only [e0] at h
   by_cases hc:c'=c/\ds.length=j
   ·rw [if_pos hc] at h
    obtain ⟨rfl,hl⟩:=hc
    refine ⟨ρ,fr,Acc.mono (AccS.fl fr h) λd _ hd2 v H1 s1 rd=>?_⟩
    obtain ⟨y,dx,fs,m0,e1,e2,e3,e4,r⟩:=(fr.mono s1).sl 0 _ e0
    have hjl:j < (T.fl c').length:=(List.getElem?_eq_some_iff.mp hj).1
    have hnm:a∉fs.map (·.1):=λz=>by
     rw [e4,hl] at z
     obtain ⟨i,hi⟩:=List.getElem?_of_mem z
     obtain ⟨hi1,_⟩:=List.getElem?_eq_some_iff.mp hi
     rw [List.length_take] at hi1
     rw [List.getElem?_take_of_lt (by omega)] at hi
     have:=q4E hnd hi hj
     omega
    have hfl:fs.length=ds.length:=by
     have:=RepL.length _ _ r;simpa using this
    have hnf:fs.map (·.1)≠T.fl c':=λz=>by
     have:=congrArg List.length z
     simp at this;omega
    refine ⟨_,e1,y,T.ca c',dx,fs,rfl,e2,cl,na,by omega,?_⟩
    have fr1:=fr.mono s1
    have h0:0 < ρ.length:=(List.getElem?_eq_some_iff.mp e0).1
    refine hd2 σ _ ⟨λb u q=>?_,by simp [fr1.len],λi s q=>?_,λi k s1 s2 b hik q1 q2 o1 o2=>?_,fr1.me,λi c2 es q=>?_⟩ (λb u q st=>?_)
    ·rw [q0i (λz=>by rw [z,e3] at q;cases q)];exact fr1.same b u q
    ·by_cases hi:i=0
     ·subst hi
      rw [List.getElem?_set_self h0] at q
      cases q
      refine ⟨y,dx,q4n a v fs,m0,e1,q0u,e3,?_,?_⟩
      ·rw [q4v hnm,List.map_append,e4,List.length_append,List.length_cons,List.length_nil,hl]
       rw [List.take_succ,hj];rfl
      ·rw [q4v hnm,List.map_append]
       exact RepL.append _ _ _ _ (RepL.wr e2 hnf _ _ r) ⟨v,[],rfl,Rep.wr e2 hnf _ _ rd,rfl⟩
     ·rw [List.getElem?_set_ne (Ne.symm hi)] at q
      have hs:=fr1.sl i s q
      cases s with
      | no=>trivial
      | sh d'=>obtain ⟨w,z1,z2⟩:=hs;exact ⟨w,z1,Rep.wr e2 hnf _ _ z2⟩
      | ow es=>
       obtain ⟨b,ws,z1,z2,z3,z4⟩:=hs
       exact ⟨b,ws,z1,by rw [q0i (λz=>by rw [z,e2] at z2;cases z2)];exact z2,z3,RepL.wr e2 hnf _ _ z4⟩
      | bo es=>obtain ⟨b,ws,z1,z2,z4⟩:=hs;exact ⟨b,ws,z1,z2,RepL.wr e2 hnf _ _ z4⟩
      | me c2 es=>
       exact absurd (fr1.me0 i c2 es q) hi
      | mo es=>
       obtain ⟨b,ws,z0,z1,z2,z3,z4⟩:=hs
       exact ⟨b,ws,z0,z1,by rw [q0i (λz=>by rw [z,e2] at z2;cases z2)];exact z2,z3,RepL.wr e2 hnf _ _ z4⟩
      | od kvs=>
       obtain ⟨b,xs,z1,z2,z3,z4,z5,z6⟩:=hs
       exact ⟨b,xs,z1,by rw [q0i (λz=>by rw [z,e2] at z2;cases z2)];exact z2,z3,z4,z5,λq hq=>Rep.wr e2 hnf _ _ (z6 q hq)⟩
      | bi c2 es=>obtain ⟨b,dx2,fs2,z1,z2,z3,z4,z5⟩:=hs;exact ⟨b,dx2,fs2,z1,z2,z3,z4,RepL.wr e2 hnf _ _ z5⟩
      | lm ms=>
       obtain ⟨c2,us,z1,z2,z3,z4,z5⟩:=hs
       refine ⟨c2,us,z1,z2.keep (λu w _ n=>by rw [q0i (λz=>by subst z;rw [e2] at w;cases w;exact n _ _ _ rfl)];exact w),z3,λi' m v' q1 q2=>?_,z5⟩
       have z:=z4 i' m v' q1 q2
       match m,z with
       | (none,ks),⟨b,ws,y1,y2,y3,y4⟩=>exact ⟨b,ws,y1,by rw [q0i (λz=>by rw [z,e2] at y2;cases y2)];exact y2,y3,RepL.wr e2 hnf _ _ y4⟩
       | (some k,ks),⟨b,y1,y2,y3,dx3,fs3,w1,w2,w3,w4⟩=>exact ⟨b,y1,y2,y3,dx3,fs3,by rw [q0i (λz=>by subst z;exact y2 m0)];exact w1,w2,w3,RepL.wr e2 hnf _ _ w4⟩
      | ox t pre es post=>
       obtain ⟨c2,vp,b,vq,ws,z1,z2,z3,z4,z5,z6,z7⟩:=hs
       exact ⟨c2,vp,b,vq,ws,z1,z2.keep (λu w _ n=>by rw [q0i (λz=>by subst z;rw [e2] at w;cases w;exact n _ _ _ rfl)];exact w),RepL.wr e2 hnf _ _ z3,RepL.wr e2 hnf _ _ z4,by rw [q0i (λz=>by rw [z,e2] at z5;cases z5)];exact z5,z6,RepL.wr e2 hnf _ _ z7⟩
    ·have ni:i≠0:=by rintro rfl;rw [List.getElem?_set_self h0] at q1;cases q1;exact o1
     have nk:k≠0:=by rintro rfl;rw [List.getElem?_set_self h0] at q2;cases q2;exact o2
     rw [List.getElem?_set_ne (Ne.symm ni)] at q1
     rw [List.getElem?_set_ne (Ne.symm nk)] at q2
     have bk:∀(x:Addr) (u:HO),H1 x=some u->(∀xs,u≠.lst xs)->(∀x dx fs,u≠.ins x dx fs)->upd H1 y (.ins (T.ca c') dx (q4n a v fs)) x=some u:=λx u w _ n=>by
      rw [q0i (λz=>by subst z;rw [e2] at w;cases w;exact n _ _ _ rfl)];exact w
     exact fr1.ne i k s1 s2 b hik q1 q2 ((fr1.sl i s1 q1).back bk o1) ((fr1.sl k s2 q2).back bk o2)
    ·by_cases hi:i=0
     ·exact hi
     ·rw [List.getElem?_set_ne (Ne.symm hi)] at q;exact fr1.me0 i c2 es q
    ·have hb:b≠y:=λz=>by rw [z] at q;rw [s1 _ _ q] at e2;cases e2;cases st
     rw [q0i hb];exact s1 _ _ q
   ·rw [if_neg hc] at h;exact h.elim
  | _=>simp only [e0] at h;exact h.elim
end
section
variable {T:Tb} {ib:Bool} {X:Cx} {e o a b:Expr} {es:List Expr} {pos pos' p apos:Pos} {fe fo fa fb:Ev} {fs:Ro->Out (List Sl)} {k n c:Nat} {f:Addr} {fd:FuncData} {ps:List Str} {F:Fn} {ds:List Value} {dvs:List V} {dss:List Sl} {x:Str}
theorem w0E {pins:List (Addr×Obj)} {σ:L2.St} {H:Hp} {s:Shared} {E:Value->Shared->Prop} {Q:VK} {us:List Value} {vs:List V} {ss:List Sl} (M:Mk X.K (T.ca c) f) (FO:q1j X.prog X.w X.K X.mg X.base (CXE T X.prog X.w) k f fd ps (spI T X.K c ps.length F)) (hr:Room (k+1) X.A) (hb:Binds X.K fd ps ds) (hd:Vals dvs ds)
 (I:Inv (X.wish E) pins σ H s) (r:Vals vs us) (ha:ArgsOk T X.K H (vs++dvs) ss) (hl:(us++ds).length+1=ps.length)
 (h:Acc T X E σ H (F ss) (λr=>∀v H',Same H H'->q5J T X.K H H' v r->Q v H')) (hsh:∀r,F ss=.ok r->∃d,r=.sh d) :
 wpAny (model X.prog X.w) X.A (call (.ref (T.ca c)) us) (EP (X.wish E) pins σ Q) E s:=by
 have IX:Inv X pins σ H s:=I.unwish
 have I2:=Inv.made (C:=T.ca c) IX
 have hx:=IX.hok.fresh (a:=s.heap.objs.size+1) (Nat.le_succ _)
 have hdx:=IX.hok.fresh (a:=s.heap.objs.size) (Nat.le_refl _)
 have r2:Vals (V.ref (s.heap.objs.size+1)::(vs++dvs)) (Value.ref (s.heap.objs.size+1)::(us++ds)):=.cons rfl (r.append hd)
 let EX:XK:=λcls _ H'=>∃c',cls=.ref (T.ca c')/\F ss=.exc c'/\Same H H'
 have hsp:spI T X.K c ps.length F (V.ref (s.heap.objs.size+1)::(vs++dvs)) (upd (upd H s.heap.objs.size (.own (s.heap.objs.size+1))) (s.heap.objs.size+1) (.ins (T.ca c) s.heap.objs.size [])) (λv H2=>v=.non/\Q (.ref (s.heap.objs.size+1)) H2) EX:=by
  refine ⟨_,s.heap.objs.size,vs++dvs,ss,H,rfl,rfl,hx,hdx,Nat.ne_of_lt (Nat.lt_succ_self _),ha,?_,?_⟩
  ·have:=r2.length;rw [this];simpa using hl
  ·cases ef:F ss with
   | ok rr=>
    obtain ⟨d,rfl⟩:=hsh rr ef
    rw [ef] at h;exact λH' sm rd=>⟨rfl,h _ H' sm rd⟩
   | exc c'=>exact λH' sm=>⟨c',rfl,ef,sm⟩
   | bad=>rw [ef] at h;exact h.elim
 have hl2:(Value.ref (s.heap.objs.size+1)::us++ds).length=ps.length:=by simpa using hl
 refine wpAny_call (j2k (f:=f) IX.kIn M.makes M.init (beq_iff_eq.mp M.fn) (codeAny_mono (FO.run _ X.stack _ _ ⟨Value.ref (s.heap.objs.size+1)::us,[]⟩ (Value.ref (s.heap.objs.size+1)::(us++ds)) _ _ EX (hr.make (T.ca c) us [])
  (I2.env0.make (T.ca c) us []) (hb _ (Value.ref (s.heap.objs.size+1)::us) I2.kIn hl2) r2 hsp) λres s' hq=>?_))
 cases res with
 | error ev=>
  obtain ⟨c1,H',I',fl,c',ec,eF,sm⟩:=Inv.flown I2 hq
  rw [eF] at h
  refine h pins s' ev H' I' sm ?_
  obtain ⟨ea,rfl,h1,h2,nc,oe,vs',a0,he,hc,rest⟩:=fl
  exact ⟨ea,rfl,h1,h2,nc,oe,vs',a0,he,hc.trans ec,rest⟩
 | ok fl=>
  cases fl with
  | ret u=>
   obtain ⟨v,H',I3,rv,ev,q3⟩:=I2.after hq
   subst ev
   exact ⟨rv,⟨V.ref (s.heap.objs.size+1),H',I3.wish E,rfl,q3⟩⟩
  | next=>exact False.elim hq
  | brk=>exact False.elim hq
  | cont=>exact False.elim hq
theorem q2r (M:Mk X.K (T.ca c) f) (FO:q1j X.prog X.w X.K X.mg X.base (CXE T X.prog X.w) k f fd ps (spI T X.K c ps.length F)) (hsh:∀ss r,F ss=.ok r->∃d,r=.sh d) (hr:Room (k+1) X.A) (hg:Gl X x) (hm:X.mg x=some (.ref (T.ca c))) (hb:Binds X.K fd ps ds) (hd:Vals dvs ds)
 (hds:∀H,ArgsOk T X.K H dvs dss) (hn:n+1=ps.length) (ha:DG T X (e::es) fs) (hdb:(x==("__debug__" : Str))=false:=by decide) (he:starEach (e::es) X.env=(false,eval e X.env)::starEach es X.env:=by exact q0D rfl) (hpl:(backTo pos (starEach es X.env)).any (·.1)=false:=by exact q0J rfl) :
 DR T X (.Call (.Name x p) (e::es) [] pos) (q0r (n:=n) F dss fs):=.mk λG E hp=>by
 rintro pins s σ H Q I ⟨ρ,fr,h⟩
 refine wpAny_Call_Name_kw (q4c (X:=X.wish E) I hg hm ?_ hdb)
 refine PySem.W.callWith_K (h₀:=X.base) I.ok.mod.kin M.kp (thn (ha.run G E hp pos pins s σ H (λvs H1=>∃ss,ArgsOk T X.K H1 vs ss/\ss.length+dss.length=n/\Same H H1/\Acc T X E σ H1 (F (ss++dss)) (λr=>∀v H',Same H1 H'->q5J T X.K H1 H' v r->Q v H')) I ⟨ρ,fr,?_⟩) λus s1 ⟨vs,H1,I1,r,ss,ha1,hl1,s1',q⟩=>⟨I1.kIn,?_⟩) he hpl
 ·have h:Acc T X E σ H ((fs ρ).bind λss=>if ss.length+dss.length=n then F (ss++dss) else .bad) _:=h
  refine Acc.mono (Acc.bind h) λss _ hss vs H1 s1 r1=>?_
  by_cases hl:ss.length+dss.length=n
  ·rw [if_pos hl] at hss
   exact ⟨ss,r1,hl,s1,Acc.mono (Acc.heap s1 hss) λr _ hr' v H' s2 r2=>hr' v H' (s1.trans s2) (q3R s1 r2)⟩
  ·rw [if_neg hl] at hss;exact hss.elim
 ·have la:=ArgsOk.length ss vs ha1
  have lr:=r.length
  have ld:=ArgsOk.length dss dvs (hds H1)
  have lv:=hd.length
  exact w0E (X:=X) M FO hr hb hd I1 r (ArgsOk.append _ _ _ _ ha1 (hds H1)) (by simp only [List.length_append,List.nil_append];omega) q (hsh _)
theorem q1S {n c ar:Nat} {f:Ro->Fl} (ss:List Sl) (r:Rv) (h:q24 n c ar f ss=.ok r):∃d,r=.sh d:=by
 unfold q24 at h
 split at h
 ·split at h
  ·split at h
   ·cases h;exact ⟨_,rfl⟩
   ·cases h
  ·cases h
 ·cases h
 ·cases h
@[simp] noncomputable def w2S (cps:List (Nat×Nat)):D->Out D
 | .ins c ds=>(match cps.lookup c with
  | some j=>(match ds[j]? with | some d=>.ok d | none=>.bad)
  | none=>.bad)
 | _=>.bad
@[simp] noncomputable def q1M (cps:List (Nat×Nat)) (fo:Ev) (ρ:Ro):Out D:=(fo ρ).bind (w2S cps)
theorem q5o {a:Str} {j:Nat} {v:V}:∀{fs:List (Str×V)},(fs.map (·.1)).Nodup->(fs.map (·.1))[j]?=some a->(fs.map (·.2))[j]?=some v->fs.lookup a=some v
 | [],_,h,_=>by simp at h
 | (b,u)::r,nd,h1,h2=>by
  cases j with
  | zero=>
   simp at h1 h2
   subst h1 h2
   simp [List.lookup]
  | succ j=>
   rw [List.map_cons,List.getElem?_cons_succ] at h1 h2
   rw [List.map_cons,List.nodup_cons] at nd
   have hne:(a==b)=false:=by
    rw [beq_eq_false_iff_ne]
    rintro rfl
    exact nd.1 (List.mem_of_getElem? h1)
   rw [List.lookup_cons,hne]
   exact q5o nd.2 h1 h2
theorem q3I {cps:List (Nat×Nat)} {c j:Nat} (h:cps.lookup c=some j):(c,j)∈cps:=by
 induction cps with
 | nil=>cases h
 | cons q r ih=>
  obtain ⟨a,b⟩:=q
  rw [List.lookup_cons] at h
  by_cases z:c=a
  ·subst z
   simp at h;subst h;exact List.mem_cons_self
  ·have:(c==a)=false:=beq_eq_false_iff_ne.mpr z
   rw [this] at h
   exact List.mem_cons_of_mem _ (ih h)
theorem q0F {at_:Str} {cps:List (Nat×Nat)} (he:DE T X o fo) (hc:∀q∈cps,Cls X.K (T.ca q.1)/\NoAttr X.K (T.ca q.1) at_/\(T.fl q.1).Nodup/\(T.fl q.1)[q.2]?=some at_) (hb:attributeBase o at_ X.env (eval o X.env)=eval o X.env:=by rfl):DE T X (.Attribute o at_ pos) (q1M cps fo):=.mk λG E hp=>
 PE.imp (j8v (X:=X.wish E) (he.run G E hp) hb) fun σ H Q ⟨ρ,fr,q⟩=>⟨ρ,fr,Acc.mono (Acc.bind q) λd _ hd v H1 s1 r=>by
  cases d with
  | ins c ds=>
   obtain ⟨y,dx,fs,rfl,e2,e3,r4⟩:=r
   have hd:Acc T X E σ H (match cps.lookup c with | some j=>(match ds[j]? with | some d=>.ok d | none=>.bad) | none=>.bad) _:=hd
   cases el:cps.lookup c with
   | none=>simp only [el] at hd;exact hd.elim
   | some j=>
    simp only [el] at hd
    cases ed:ds[j]? with
    | none=>simp only [ed] at hd;exact hd.elim
    | some d=>
     simp only [ed] at hd
     obtain ⟨h1,h2,h3,h4⟩:=hc (c,j) (q3I el)
     obtain ⟨w,ew,rw'⟩:=RepL.get _ _ _ _ r4 ed
     exact ⟨y,T.ca c,dx,fs,w,rfl,e2,h1,h2,q5o (by rw [e3];exact h3) (by rw [e3];exact h4) ew,hd w H1 s1 rw'⟩
  | _=>exact hd.elim⟩
@[simp] noncomputable def q23 (g g':D->D->Out D) (fa fb fc:Ev) (ρ:Ro):Out D:=(fa ρ).bind λx=>(fb ρ).bind λy=>(g x y).bind λz=>z.toB.bind λk=>if k=true then (fc ρ).bind λw=>g' y w else .ok (.bl false)
theorem q8C {G H:Hp} {E:Value->Shared->Prop} {σ:L2.St} {Q:VK} {g g':D->D->Out D} {r r':R2} {fc:Ev}
 (hg:∀(dx dy:D) (x y:V) (σ:L2.St) (H:Hp) (Q:VK),Rep T X.K H dx x->Rep T X.K H dy y->Acc T X E σ H (g dx dy) (kE T X.K H Q)->r x y H Q)
 (hg':∀(dx dy:D) (x y:V) (σ:L2.St) (H:Hp) (Q:VK),Rep T X.K H dx x->Rep T X.K H dy y->Acc T X E σ H (g' dx dy) (kE T X.K H Q)->r' x y H Q) {ρ:Ro} (fr:FR T X.K G H σ ρ) (h:Acc T X E σ H (q23 g g' fa fb fc ρ) (kE T X.K H Q)) :
 j3y r r' (tE T X G E fa) (tE T X G E fb) (tE T X G E fc) σ H Q:=by
 have h:Acc T X E σ H ((fa ρ).bind λx=>(fb ρ).bind λy=>(g x y).bind λz=>z.toB.bind λk=>if k=true then (fc ρ).bind λw=>g' y w else .ok (.bl false)) (kE T X.K H Q):=h
 refine ⟨ρ,fr,Acc.mono (Acc.bind h) λdx _ hx v H1 s1 r1=>⟨ρ,fr.mono s1,Acc.mono (Acc.bind (Acc.heap s1 hx)) λdy _ hy u H2 s2 r2=>?_⟩⟩
 refine hg dx dy v u σ H2 _ (Rep.mono s2 _ _ r1) r2 (Acc.mono (Acc.bind (Acc.heap s2 hy)) λdz _ hz w H3 s3 r3=>?_)
 obtain ⟨kk,rfl,hk⟩:=q5G hz
 refine ⟨kk,r3,?_⟩
 cases kk with
 | true=>
  refine ⟨ρ,((fr.mono s1).mono s2).mono s3,Acc.mono (Acc.bind (Acc.heap s3 hk)) λdw _ hw t H4 s4 r4=>?_⟩
  exact hg' dy dw u t σ H4 Q (Rep.mono s4 _ _ (Rep.mono s3 _ _ r2)) r4 (Acc.mono (Acc.heap s4 hw) λd _ hd z H5 s5 r5=>hd z H5 ((((s1.trans s2).trans s3).trans s4).trans s5) r5)
 | false=>exact hk _ H3 ((s1.trans s2).trans s3) rfl
theorem q2y {op op':CmpOp} {g g':D->D->Out D} {cc:Expr} {fc:Ev} (ho:OpD T X (compareOp op) g) (ho':OpD T X (compareOp op') g') (ha:DE T X a fa) (hb:DE T X b fb) (hc:DE T X cc fc) (hm:lastMarks [op,op'] [b,cc]=false:=by with_unfolding_all rfl) :
 DT T X (.Compare a [op,op'] [b,cc] pos) (fun ρ=>(q23 g g' fa fb fc ρ).bind D.toB):=.mk λG E hp=>by
 obtain ⟨r,hr,hg⟩:=ho E
 obtain ⟨r',hr',hg'⟩:=ho' E
 refine PT.imp (j2p (X:=X.wish E) hr hr' (ha.run G E hp) (hb.run G E hp) (hc.run G E hp) hm) fun σ H Q ⟨ρ,fr,h⟩=>q8C hg hg' fr (Acc.mono (Acc.bind h) λd _ hd v H1 s1 r1=>?_)
 cases d with
 | bl kk=>exact ⟨kk,r1,hd H1 s1⟩
 | _=>exact hd.elim
end
section
variable {T:Tb} {ib:Bool} {X:Cx} {e o a b:Expr} {es:List Expr} {pos pos' p apos:Pos} {fe fo fa fb:Ev} {x:Str}
@[simp] noncomputable def q5w:List Nat->Ro->List D->Out Ro
 | [],ρ,[]=>.ok ρ
 | i::is,ρ,d::ds=>q5w is (ρ.set i (.sh d)) ds
 | _,_,_=>.bad
noncomputable def j9O (T:Tb) (X:Cx) (ts:List Expr) (is:List Nat):Prop:=∀E:Value->Shared->Prop,∃tg:TGs,PGs (X.wish E) ts tg/\∀(G H:Hp) (σ:L2.St) (ρ ρ':Ro) (ds:List D) (vs:List V) (Q:L2.St->Hp->Prop),FR T X.K G H σ ρ->RepL T X.K H ds vs->q5w is ρ ds=.ok ρ'->(∀σ',FR T X.K G H σ' ρ'->Q σ' H)->tg vs σ H Q
theorem q3p:j9O T X [] []:=λE=>⟨_,j6q,λG H σ ρ ρ' ds vs Q fr r e k=>by
 cases ds with
 | nil=>cases e;cases r;exact ⟨rfl,k σ fr⟩
 | cons d ds=>cases e⟩
theorem q1m (i:Nat) {is:List Nat} {ts:List Expr} (hN:X.N.Nodup) (hr:j9O T X ts is) (hi:X.N[i]?=some x:=by rfl) (hx:Loc X.env.scope x:=by walk_at "v3") (hf:X.fn x=true∨X.env.scope.names.lookup x=some .local:=by walk_at "v2") (hz:T.me=none∨i≠0:=by walk_at "v1")
 (hs:(assignEach (.Name x p::ts) X.env).map (·.2)=assign (.Name x p) X.env::(assignEach ts X.env).map (·.2):=by rfl):j9O T X (.Name x p::ts) (i::is):=λE=>by
 obtain ⟨tg,h1,h2⟩:=hr E
 refine ⟨_,j2r (X:=X.wish E) (q4l (X:=X.wish E) (i:=i) hN hi hx hf) h1 (by first | exact hs | rfl),λG H σ ρ ρ' ds vs Q fr r e k=>?_⟩
 cases ds with
 | nil=>cases e
 | cons d ds=>
  obtain ⟨v,us,rfl,r1,r2⟩:=r
  exact ⟨v,us,rfl,h2 G H _ _ ρ' ds us Q (fr.set_sh r1 hz) r2 e k⟩
@[simp] noncomputable def q5R (is:List Nat) (ρ:Ro) (d:D):Out Ro:=match d with
 | .tup ds=>q5w is ρ ds
 | _=>.bad
theorem q41:∀(is:List Nat) (ρ ρ':Ro) (ds:List D),q5w is ρ ds=.ok ρ'->ds.length=is.length
 | [],_,_,[],_=>rfl
 | [],_,_,_::_,e=>by cases e
 | _::_,_,_,[],e=>by cases e
 | i::is,ρ,ρ',d::ds,e=>by
  have:=q41 is _ ρ' ds e
  simp [this]
theorem q5v {ts:List Expr} {is:List Nat} {kk:Nat} (hc:X.calm=true) (h:j9O T X ts is) (hn:(assignEach ts X.env).length=is.length:=by rfl) (hst:(assignEach ts X.env).findIdx? (·.1)=none:=by rfl):TgD T X (.Tuple ts kk pos) (q5R is):=λE=>by
 obtain ⟨tg,h1,h2⟩:=h E
 refine ⟨_,j87 (X:=X.wish E) (n:=is.length) hc h1 hn hst,λG H σ ρ ρ' d v Q fr r e k=>?_⟩
 cases d with
 | tup ds=>
  obtain ⟨a,vs,rfl,sq,rl⟩:=r
  exact ⟨a,vs,rfl,sq,(RepL.length _ _ rl).trans (q41 is ρ ρ' ds e),h2 G H σ ρ ρ' ds vs Q fr rl e k⟩
 | _=>cases e
@[simp] noncomputable def w2f (is:List Nat) (fe:Ev) (ρ:Ro):Fl:=(fe ρ).fl ρ λd=>match q5R is ρ d with
 | .ok ρ'=>.nx ρ'
 | _=>.bad
theorem j8p {tg:Expr} {is:List Nat} (he:DE T X e fe) (hg:TgD T X tg (q5R is)) (hs:swapsWithSole [tg] e pos.line X.env=pure false:=by rfl) (hw:swappedStores [tg] e X.env=pure none:=by rfl)
 (h1:(assignEach [tg] X.env).map (·.2)=[assign tg X.env]:=by rfl):DS T ib X (.Assign [tg] e pos) (w2f is fe):=.mk λG E hp=>by
 obtain ⟨tgr,hpg,hgr⟩:=hg E
 refine PS.imp (j29 (X:=X.wish E) (he.run G E hp) hpg hs hw h1) λD σ H ⟨ρ,fr,h⟩=>⟨ρ,fr,Acc.mono (AccS.fl fr h) λd _ hd v H1 s1 r1=>?_⟩
 cases eg:q5R is ρ d with
 | ok ρ'=>
  simp only [eg] at hd
  exact hgr G H1 σ ρ ρ' d v _ (fr.mono s1) r1 eg fun σ' fr'=>hd σ' H1 fr' (Pers.of s1)
 | exc c=>simp only [eg] at hd;exact hd.elim
 | bad=>simp only [eg] at hd;exact hd.elim
end
section
variable {T:Tb} {X:Cx} {pos:Pos} {x:Str}
theorem q0U {i:Int} (hg:Gl X x) (h:∃t,X.mg x=some (.int i t)) (hd:(x==("__debug__" : Str))=false:=by decide):DE T X (.Name x pos) (eC (.int i)):=by
 obtain ⟨t,h⟩:=h
 exact q6b (v:=.int i) hg h ⟨t,rfl⟩ (λ_=>rfl) hd
theorem j2n {z:Str} (hg:Gl X x) (h:∃t,X.mg x=some (.str z t)) (hd:(x==("__debug__" : Str))=false:=by decide):DE T X (.Name x pos) (eC (.str z)):=by
 obtain ⟨t,h⟩:=h
 exact q6b (v:=.str z) hg h ⟨t,rfl⟩ (λ_=>rfl) hd
theorem hsh1 {fe:Ev} (ρ:Ro) (ds:List D) (h:q0k fe q0E ρ=.ok ds):ds.length<=1000:=by
 simp only [q0k,q0E] at h
 cases e:fe ρ with
 | ok d=>rw [e] at h;cases h;show 1<=1000;decide
 | exc c=>rw [e] at h;cases h
 | bad=>rw [e] at h;cases h
end
theorem q3U {K:PySem.W.Frag} {x qual:Str} {st:Stmt} {f:Addr} {fd:FuncData} (F:L2.Fun K x qual st f fd):∃(oc:Value) (od:Option Addr) (dV kV doc pm:Value) (an:Option Addr) (cdv ct:Value) (osl:Array (Option Value)),
 fd=PySem.W.fnOf x qual (q1Y st) (q1D st) (q0j st) dV kV doc pm an cdv ct/\K.lookup f=some ⟨oc,od,.func fd,osl⟩/\PySem.W.codeIn K cdv qual=true:=by
 obtain ⟨oc,od,kV,doc,pm,an,cdv,ct,osl,e1,e2,e3⟩:=F.ex
 exact ⟨oc,od,.none,kV,doc,pm,an,cdv,ct,osl,e1,e2,e3⟩
section
variable {T:Tb} {ib:Bool} {X:Cx} {e o a:Expr} {es:List Expr} {pos p apos cpos:Pos} {fe fo:Ev} {fs:Ro->Out (List D)}
noncomputable def MtD (T:Tb) (X:Cx) (t id:String) (g:D->List D->Out D):Prop:=∀E:Value->Shared->Prop,∃r:V->List V->Hp->VK->Prop,MtR (X.wish E) id r /\
 ∀(d:D) (ds:List D) (v:V) (vs:List V) (σ:L2.St) (H:Hp) (Q:VK),Rep T X.K H d v->RepL T X.K H ds vs->Acc T X E σ H (g d ds) (kE T X.K H Q)->r v vs H Q
@[simp] noncomputable def eMt (ty:D->Bool) (g:D->List D->Out D) (fo:Ev) (fs:Ro->Out (List D)) (ρ:Ro):Out D:=(fo ρ).bind λd=>if ty d=true then (fs ρ).bind λds=>g d ds else .bad
@[simp] noncomputable def q6Y:D->Bool
 | .str _=>true
 | _=>false
theorem j6A {name:Str} {id:String} {g:D->List D->Out D} (hm:MtD T X "str" id g) (slot:Slot "str" name id) (hty:typeOf (.builtin id)=pure (.type "method_descriptor")) (ho:DE T X o fo) (ha:DA T X (e::es) fs)
 (hbase:attributeBase o name X.env (eval o X.env)=eval o X.env:=by rfl)
 (hfew:((backTo cpos (starEach (e::es) X.env)).all (λx=>!x.1) && (backToKw cpos (keywordEach [] X.env)).all (λx=>x.1.isSome)
  && decide ((e::es).length+([]:List Keyword).length+(if ([]:List Keyword).isEmpty then 0 else 1) < 30))=true:=by exact q7r rfl rfl)
 (hline:(apos.endLine==cpos.line)=true:=by rfl) (hs:starEach (e::es) X.env=(false,eval e X.env)::starEach es X.env:=by exact q0D rfl) (hplain:(backTo cpos (starEach es X.env)).any (·.1)=false:=by exact q0J rfl) :
 DE T X (.Call (.Attribute o name apos) (e::es) [] cpos) (eMt q6Y g fo fs):=.mk λG E hp=>by
 obtain ⟨r,hr,hg⟩:=hm E
 refine PE.imp (j2G (X:=X.wish E) PySem.F.plainAttrs_str slot hty hr (ho.run G E hp) (ha.run G E hp) hbase hfew hline hs hplain) fun σ H Q ⟨ρ,fr,q⟩=>?_
 have q:Acc T X E σ H ((fo ρ).bind λd=>if q6Y d=true then (fs ρ).bind λds=>g d ds else .bad) (kE T X.K H Q):=q
 refine ⟨ρ,fr,Acc.mono (Acc.bind q) λd _ hd v H1 s1 rd=>?_⟩
 by_cases z:q6Y d=true
 ·rw [if_pos z] at hd
  cases d with
  | str x=>
   refine ⟨by rw [show v=V.str x from rd];exact rfl,ρ,fr.mono s1,Acc.mono (Acc.bind (Acc.heap s1 hd)) λds _ hds vs H2 s2 rl=>?_⟩
   exact hg _ ds v vs σ H2 Q (Rep.mono s2 _ _ rd) rl (Acc.mono (Acc.heap s2 hds) λd' _ k w H3 s3 r3=>k w H3 ((s1.trans s2).trans s3) r3)
  | _=>cases z
 ·rw [if_neg z] at hd;exact hd.elim
end
noncomputable def q7N:Expr->Option D
 | .Constant (.int i) _ _=>some (.int i)
 | .Constant (.str x) _ _=>some (.str x)
 | .Constant (.bool b) _ _=>some (.bl b)
 | .Constant .none _ _=>some .non
 | _=>none
noncomputable def litsOf:List Expr->Option (List D)
 | []=>some []
 | e::es=>match q7N e,litsOf es with
  | some d,some ds=>some (d::ds)
  | _,_=>none
@[simp] noncomputable def j14 (ds:List D) (ρ:Ro):Out (List D):=.ok ds
section
variable {T:Tb} {X:Cx}
theorem j8Y:∀{e:Expr} {d:D},q7N e=some d->DE T X e (eC d):=by
 intro e d h
 unfold q7N at h
 split at h<;>cases h
 ·exact q0c
 ·exact q16
 ·exact q2k
 ·exact j6z
theorem q4k:∀{e:Expr} {d:D},q7N e=some d->q2G e=true:=by
 intro e d h
 unfold q7N at h
 split at h<;>first | rfl | cases h
theorem q4j:∀{es:List Expr} {ds:List D},litsOf es=some ds->DA T X es (j14 ds)
 | [],ds,h=>by
  cases h
  exact q0l
 | e::es,ds,h=>by
  unfold litsOf at h
  cases e1:q7N e with
  | none=>rw [e1] at h;cases h
  | some d=>
   cases e2:litsOf es with
   | none=>rw [e1,e2] at h;cases h
   | some rs=>
    rw [e1,e2] at h
    cases h
    exact q0e (j8Y e1) (q4j e2) (q0D (q4k e1))
end
noncomputable def Walk (T:Tb) (K:PySem.W.Frag) (G:Hp) (J:It) (ds:List D) (H0:Hp):Prop:=∀(i:Nat) (H:Hp),Pers T false H0 H->Same G H ->
 (∀d,ds[i]?=some d->J.go i H/\∀x H1,J.yld i H x H1->Same H H1/\Rep T K H1 d x)/\(ds.length<=i->J.stop i H)
noncomputable def tI (T:Tb) (X:Cx) (G:Hp) (E:Value->Shared->Prop) (f:Ro->Out (List D)):TI:=fun σ H R=>∃ρ,FR T X.K G H σ ρ/\Acc T X E σ H (f ρ) (λds=>∀J H',Same H H'->Walk T X.K G J ds H'->R J H')
structure DI (T:Tb) (X:Cx) (tg e:Expr) (f:Ro->Out (List D)):Prop where
 mk ::
 run:∀(G:Hp) (E:Value->Shared->Prop),PassesOwn (model X.prog X.w) X.A X.env E->PI (X.wish E) tg e (tI T X G E f)
section
variable {T:Tb} {X:Cx} {tg iter e a b:Expr} {body:List Stmt} {pos p:Pos} {fb:Ro->Fl} {fl fm:Ro->Out (List D)} {fe fa fc:Ev}
theorem q0N {g:Ro->D->Out Ro} (hc:X.calm=true) (hi:DI T X tg iter fl) (hg:TgD T X tg g) (hb:DSs T false X body fb)
 (hs:∀x,foldedSetIterable iter X.env x=pure x:=by intro _;rfl):DS T false X (.For tg iter body [] pos) (q2T fl g fb):=.mk λG E hp=>by
 obtain ⟨tgr,hpg,hgr⟩:=hg E
 refine PS.imp (j8C (X:=X.wish E) hp hc (hi.run G E hp) hpg (hb.run G E hp) hs) λDD σ H ⟨ρ,fr,h⟩=>⟨ρ,fr,Acc.mono (AccS.fl fr h) λds _ hd J H1 s1 wk=>?_⟩
 refine ⟨λi m σ' H'=>m=ds.length-i/\i<=ds.length/\∃ρ',FR T X.K G H' σ' ρ'/\Pers T false H1 H'/\AccS T false X G E H' (q2R (q0x g fb) (ds.drop i) ρ') DD,⟨ds.length,rfl,Nat.zero_le _,ρ,fr.mono s1,Pers.refl _,AccS.heap (Pers.of s1) hd⟩,?_⟩
 rintro i m σ' H' ⟨rfl,hi,ρ',fr',p',ha⟩
 obtain ⟨w1,w2⟩:=wk i H' p' fr'.same
 by_cases hlt:i < ds.length
 ·obtain ⟨d,e1⟩:∃d,ds[i]?=some d:=⟨ds[i],by simp [hlt]⟩
  obtain ⟨go,yl⟩:=w1 d e1
  refine .inr ⟨go,fun σ2 H2=>∃ρ2,FR T X.K G H2 σ2 ρ2/\Pers T false H1 H2/\AccS T false X G E H2 (q2R (q0x g fb) (ds.drop (i+1)) ρ2) DD,fun σ2 H2 q=>⟨ds.length-(i+1),by omega,rfl,hlt,q⟩,λx H2 y=>?_⟩
  obtain ⟨s2,rd⟩:=yl x H2 y
  have e2:ds.drop i=d::ds.drop (i+1):=by
   obtain ⟨hi',e3⟩:=List.getElem?_eq_some_iff.mp e1
   rw [List.drop_eq_getElem_cons hi',e3]
  rw [e2] at ha
  exact j1V (ib:=false) hgr (λ_ _ _ q=>q) (fr'.mono s2) rd (AccS.heap (Pers.of s2) ha) fun ρ2 σ2 H3 fr2 p2 h2=>⟨ρ2,fr2,(p'.trans (Pers.of s2)).trans p2,h2⟩
 ·have e:i=ds.length:=by omega
  subst e
  rw [List.drop_length] at ha
  exact .inl ⟨w2 (Nat.le_refl _),ha σ' H' fr' (Pers.refl _)⟩
theorem q92 {G H1:Hp} {E:Value->Shared->Prop} {l:Addr} {vs:List V} {ds:List D} (st:Stb X.K G H1 l vs) (r:RepL T X.K H1 ds vs):Walk T X.K G (Itl X.K l) ds H1:=λi H p sm=>by
 have st':Stb X.K G H l vs:=st.pers p
 have sq:=st'.sq sm
 have r':=RepL.pers p _ _ r
 refine ⟨λd e=>?_,λh=>⟨vs,sq,by rw [RepL.length _ _ r'];exact h⟩⟩
 obtain ⟨v,e1,rd⟩:=RepL.get _ _ _ _ r' e
 refine ⟨⟨vs,v,sq,e1⟩,λx H2 ⟨e2,y⟩=>?_⟩
 subst e2
 have:=y vs sq
 rw [e1] at this;cases this
 exact ⟨Same.refl _,rd⟩
theorem q02 (hl:DP T X iter fl):DI T X tg iter fl:=.mk λG E hp=>
 PI.imp (j59 (hl.run G E hp)) fun σ H R ⟨ρ,fr,h⟩=>⟨ρ,fr,Acc.mono h λds _ hd l vs H1 s1 st r=>
  ⟨l,rfl,⟨vs,st.sq (fr.same.trans s1)⟩,hd _ H1 s1 (q92 (E:=E) st r)⟩⟩
@[simp] noncomputable def D.toT:D->Out (List D)
 | .tup ds=>.ok ds
 | _=>.bad
@[simp] noncomputable def q4y (f:Ev) (ρ:Ro):Out (List D):=(f ρ).bind D.toT
theorem q4e {K:PySem.W.Frag} {H H':Hp} {l:Addr} {vs:List V} (p:Pers T false H H') (h:SqT K H l vs):SqT K H' l vs:=by
 rcases h with (r2 | ⟨o,r2⟩) | r2
 ·exact .inl (.inl (p _ _ r2 rfl))
 ·exact .inl (.inr ⟨o,p _ _ r2 rfl⟩)
 ·exact .inr r2
theorem q7c (hl:DE T X iter fe):DI T X tg iter (q4y fe):=.mk λG E hp=>
 PI.imp (j7t (hl.run G E hp)) fun σ H R ⟨ρ,fr,h⟩=>⟨ρ,fr,Acc.mono (Acc.bind h) λd _ hd v H1 s1 r=>by
  cases d with
  | tup ds=>
   obtain ⟨l,vs,rfl,sq,rl⟩:=r
   refine ⟨l,rfl,⟨vs,sq⟩,hd _ H1 s1 λi H2 p sm=>?_⟩
   have sq':=q4e p sq
   have r':=RepL.pers p _ _ rl
   refine ⟨λd e=>?_,λh=>⟨vs,sq',by rw [RepL.length _ _ r'];exact h⟩⟩
   obtain ⟨v,e1,rd⟩:=RepL.get _ _ _ _ r' e
   refine ⟨⟨vs,v,sq',e1⟩,λx H3 ⟨e2,y⟩=>?_⟩
   subst e2
   have:=y vs sq'
   rw [e1] at this;cases this
   exact ⟨Same.refl _,rd⟩
  | _=>exact hd.elim⟩
noncomputable def rgS (lo step:Int) (n:Nat):List D:=(List.range n).map λ(k:Nat)=>D.int (lo+(k:Int)*step)
noncomputable def Its (lo step:Int) (n:Nat):It:=⟨λi _=>i < n,λi H x H'=>H'=H/\x=.int (lo+i*step),λi _=>n<=i⟩
theorem q5M {P:Program} {w:World} {K:PySem.W.Frag} {tg:Expr} (it:Addr) (lo step:Int) (n:Nat):Turn P w K tg (Its lo step n) [it] it (λi h=>IsRangeIter h it (lo+(i:Nat)*step) ((n:Int)-(i:Nat)) step) where
 mem:=by simp
 obj:=λi h st b hb=>by
  have e:b=it:=by simpa using hb
  subst e
  exact ⟨_,st,λv z=>by
   have z':Data.fields _=Data.cell v:=z
   cases z'⟩
 keep:=λi h h' st k=>k it (by simp) _ st
 item:=by
  intro X hP hw hK hc i pins s σ H E I hf st hg
  subst hP hw hK
  obtain ⟨f0,f1,f2,f3,f4,f5⟩:=hf it (by simp)
  have W:=Walks.range (prog:=X.prog) (w:=X.w) (I.ok.hd hc) it lo step n
  refine W.item i s _ _ hg st λv h' tk hv st' kk=>?_
  obtain ⟨t,rfl⟩:=hv
  have I1:Inv X pins σ H { s with heap:=h',toks:=tk }:=I.turned (λb o hb e=>kk b o (by simpa using hb) e) f0 f1 f3 f4 f5
  exact ⟨_,rfl,q9x (s:={ s with heap:=h',toks:=tk }) (n:="range_iterator") st' rfl rfl (by decide) ⟨.int (lo+i*step),H,I1,⟨t,rfl⟩,⟨rfl,rfl⟩,st',λb hb=>(hf b hb).1⟩⟩
 done:=by
  intro X hP hw hK hc i pins s σ H E I hf st hg
  subst hP hw hK
  obtain ⟨f0,f1,f2,f3,f4,f5⟩:=hf it (by simp)
  exact wpAny_pyNext_range_end (I.ok.hd hc) st (by have:n<=i:=hg;omega) λh' eb=>⟨rfl,I.turned (t':=s.toks) (λb o hb e=>eb b o hb e) f0 f1 f3 f4 f5⟩
 self:=λ_ _ _ _ _ st h=>wpAny_pyIter_rangeiter st h
theorem q3T {lo hi step:Int} (h1:-(2 ^ 40)<=lo) (h2:lo < 2 ^ 40) (h3:-(2 ^ 40)<=hi) (h4:hi < 2 ^ 40) (hs:step≠0):0<=Builtin.Range.rangeSize lo hi step/\Builtin.Range.rangeSize lo hi step < 2 ^ 42:=by
 have key:∀(u c:Int),0<=u->0 < c->0<=u / c/\u / c<=u:=λu c hu hc=>⟨Int.ediv_nonneg hu (by omega),Int.ediv_le_self _ hu⟩
 unfold Builtin.Range.rangeSize
 split
 ·split
  ·obtain ⟨k1,k2⟩:=key (hi-lo-1) step (by omega) (by omega)
   omega
  ·omega
 ·split
  ·obtain ⟨k1,k2⟩:=key (lo-hi-1) (-step) (by omega) (by omega)
   omega
  ·omega
theorem j1y {lo hi step:Int} (h1:-(2 ^ 40)<=lo) (h2:lo < 2 ^ 40) (h3:-(2 ^ 40)<=hi) (h4:hi < 2 ^ 40) (h5:-(2 ^ 40)<=step) (h6:step < 2 ^ 40) (hs:step≠0):Builtin.Range.small lo hi step=true:=by
 obtain ⟨k1,k2⟩:=q3T h1 h2 h3 h4 hs
 unfold Builtin.Range.small
 simp only [Builtin.Range.rangeFitsLong,Bool.and_eq_true,Bool.or_eq_true,decide_eq_true_eq,beq_iff_eq]
 refine ⟨⟨⟨⟨by omega,by omega⟩,by omega⟩,by omega⟩,.inr ?_⟩
 split<;>simp only [Builtin.Range.rangeFitsLong,Bool.and_eq_true,decide_eq_true_eq]<;>omega
theorem q9O {pins:List (Addr×Obj)} {σ:L2.St} {H:Hp} {s:Shared} {R:It->Hp->Prop} {E:Value->Shared->Prop} {lo hi step:Int} {t u v:Tok} {tk:Nat} (I:Inv X pins σ H s) (h1:-(2 ^ 40)<=lo) (h2:lo < 2 ^ 40) (h3:-(2 ^ 40)<=hi) (h4:hi < 2 ^ 40) (h5:-(2 ^ 40)<=step) (h6:step < 2 ^ 40) (hs:step≠0)
 (q:R (Its lo step (Builtin.Range.rangeSize lo hi step).toNat) H):wpAny (model X.prog X.w) X.A (pyIter (.ref s.heap.objs.size)) (PIE X pins σ tg R) E { s with heap:=s.heap.push { cls:=.type "range",data:=.fields #[.int lo t,.int hi u,.int step v] },toks:=tk }:=by
 refine wpAny_pyIter_range (IsRange.new ..) (j1y h1 h2 h3 h4 h5 h6 hs) ?_
 obtain ⟨k1,k2⟩:=q3T h1 h2 h3 h4 hs
 have I1:Inv X pins σ H { s with heap:=s.heap.push { cls:=.type "range",data:=.fields #[.int lo t,.int hi u,.int step v] },toks:=tk }:=I.kept λb o e=>Heap.get?_push_of_some _ e
 refine ⟨(s.heap.push { cls:=.type "range",data:=.fields #[.int lo t,.int hi u,.int step v] }).objs.size,[(s.heap.push { cls:=.type "range",data:=.fields #[.int lo t,.int hi u,.int step v] }).objs.size],_,_,H,rfl,
  I1.kept (t':=tk) λb o e=>Heap.get?_push_of_some _ e,q5M _ lo step (Builtin.Range.rangeSize lo hi step).toNat,?_,λb hb=>?_,q⟩
 ·have e1:lo+((0:Nat):Int)*step=lo:=by simp
  have e2:(((Builtin.Range.rangeSize lo hi step).toNat:Nat):Int)-((0:Nat):Int)=Builtin.Range.rangeSize lo hi step:=by omega
  show IsRangeIter _ _ (lo+((0:Nat):Int)*step) ((((Builtin.Range.rangeSize lo hi step).toNat:Nat):Int)-((0:Nat):Int)) step
  rw [e1,e2]
  exact Heap.get?_push_size _ rfl
 ·have e:b=(s.heap.push { cls:=.type "range",data:=.fields #[.int lo t,.int hi u,.int step v] }).objs.size:=by simpa using hb
  subst e
  exact I1.fpOk (Nat.le_refl _) (I1.hok.fresh (Nat.le_refl _))
theorem q7z {G H1:Hp} {lo step:Int} {n:Nat}:Walk T X.K G (Its lo step n) (rgS lo step n) H1:=λi H p sm=>by
 refine ⟨λd e=>?_,λh=>by show n<=i;simpa [rgS] using h⟩
 have hi:i < n:=by
  have:=(List.getElem?_eq_some_iff.mp e).1
  simpa [rgS] using this
 have ed:d=.int (lo+(i:Int)*step):=by
  rw [rgS,List.getElem?_map,List.getElem?_range hi] at e
  exact (Option.some.inj e).symm
 subst ed
 refine ⟨hi,λx H2 ⟨e2,y⟩=>?_⟩
 subst e2 y
 exact ⟨Same.refl _,rfl⟩
theorem q57 {G H1:Hp} {lo:Int} {n:Nat}:Walk T X.K G (Itr lo n) (rgD lo n) H1:=λi H p sm=>by
 refine ⟨λd e=>?_,λh=>by show n<=i;simpa [rgD] using h⟩
 have hi:i < n:=by
  have:=(List.getElem?_eq_some_iff.mp e).1
  simpa [rgD] using this
 have ed:d=.int (lo+(i:Int)):=by
  rw [rgD,List.getElem?_map,List.getElem?_range hi] at e
  exact (Option.some.inj e).symm
 subst ed
 refine ⟨hi,λx H2 ⟨e2,y⟩=>?_⟩
 subst e2 y
 exact ⟨Same.refl _,rfl⟩
@[simp] noncomputable def q3a (fn:Ro->Out (Int×Nat)) (ρ:Ro):Out (List D):=(fn ρ).bind λp=>.ok (rgD p.1 p.2)
theorem q1r {fn:Ro->Out (Int×Nat)} (hn:DN T X tg iter fn):DI T X tg iter (q3a fn):=.mk λG E hp=>
 PI.imp (hn.run G E hp) fun σ H R ⟨ρ,fr,h⟩=>⟨ρ,fr,Acc.mono (Acc.bind h) λp _ hd H1 s1=>hd _ H1 s1 q57⟩
theorem w3r {p:Pos} (hg:Gl X "range") (hm:X.mg "range" = none) (ha:DE T X a fa) (hb:DE T X b fe) (hs:starEach [a,b] X.env=[(false,eval a X.env),(false,eval b X.env)]:=by rfl) (hs2:starEach [b] X.env=[(false,eval b X.env)]:=by rfl):DN T X tg (.Call (.Name "range" p) [a,b] [] pos) (n2 fa fe):=.mk λG E hp=>by
 refine PI.imp (j0a (X:=X.wish E) hg hm (q0I (X:=X.wish E) (ha.run G E hp) (q0I (X:=X.wish E) (hb.run G E hp) q1t hs2) (hs.trans (by rw [hs2]))) hs hs2) fun σ H R ⟨ρ,fr,h⟩=>⟨ρ,fr,Acc.mono (Acc.bind h) λd _ hd v H1 s1 r=>⟨ρ,fr.mono s1,Acc.mono (Acc.bind (Acc.heap s1 hd)) λd' _ hd' v' H2 s2 r'=>?_⟩⟩
 cases d with
 | int i=>
  cases d' with
  | int j=>
   have hd2:Acc T X E σ H1 (if (-(2 ^ 62)<=i/\i < 2 ^ 62)/\-(2 ^ 62)<=j/\j < 2 ^ 62 then Out.ok (i,(j-i).toNat) else .bad) (λp=>∀H',Same H H'->R (Itr p.1 p.2) H'):=hd'
   by_cases z:(-(2 ^ 62)<=i/\i < 2 ^ 62)/\-(2 ^ 62)<=j/\j < 2 ^ 62
   ·rw [if_pos z] at hd2
    exact ⟨i,j,by rw [show v=V.int i from r,show v'=V.int j from r'],⟨z.1.1,z.1.2,z.2.1,z.2.2⟩,hd2 H2 (s1.trans s2)⟩
   ·rw [if_neg z] at hd2;exact hd2.elim
  | _=>exact hd'.elim
 | _=>first | exact hd'.elim | (cases d'<;>exact hd'.elim)
noncomputable def q40 (i j k:Int):Bool:=decide (-(2 ^ 40)<=i) && decide (i < 2 ^ 40) && decide (-(2 ^ 40)<=j) && decide (j < 2 ^ 40) && decide (-(2 ^ 20)<=k) && decide (k < 2 ^ 20) && decide (k≠0)
@[simp] noncomputable def j1h (fa fb fc:Ev) (ρ:Ro):Out (List D):=(fa ρ).bind λd=>(fb ρ).bind λd'=>(fc ρ).bind λd''=>match d,d',d'' with
 | .int i,.int j,.int k=>if q40 i j k=true then .ok (rgS i k (Builtin.Range.rangeSize i j k).toNat) else .bad
 | _,_,_=>.bad
theorem j5T {c:Expr} (hg:Gl X "range") (hm:X.mg "range" = none) (ha:DE T X a fa) (hb:DE T X b fe) (hc:DE T X c fc) (hs:starEach [a,b,c] X.env=(false,eval a X.env)::starEach [b,c] X.env:=by exact q0D rfl) (hs2:starEach [b,c] X.env=(false,eval b X.env)::starEach [c] X.env:=by exact q0D rfl) (hs3:starEach [c] X.env=(false,eval c X.env)::starEach [] X.env:=by exact q0D rfl)
 (hpl:(backTo pos (starEach [b,c] X.env)).any (·.1)=false:=by exact q0J rfl):DI T X tg (.Call (.Name "range" p) [a,b,c] [] pos) (j1h fa fe fc):=.mk λG E hp=>by
 rintro pins s σ H R I ⟨ρ,fr,h⟩
 refine Call_ (q2E (X:=X.wish E) I hg hm boot_range (PyProof.Rows.callWith_type1 (thn ((q0I (X:=X.wish E) (ha.run G E hp) (q0I (X:=X.wish E) (hb.run G E hp) (q0I (X:=X.wish E) (hc.run G E hp) q1t hs3) hs2) hs) pos pins s σ H (λvs H1=>∃i j k,vs=[.int i,.int j,.int k]/\q40 i j k=true/\R (Its i k (Builtin.Range.rangeSize i j k).toNat) H1) I ⟨ρ,fr,?_⟩) λus s1 ⟨vs,H1,I1,r1,i,j,k,e,ok,q⟩=>?_) hs hpl))
 ·refine Acc.mono (Acc.bind h) λd _ hd v H1 s1 r=>⟨ρ,fr.mono s1,Acc.mono (Acc.bind (Acc.heap s1 hd)) λd' _ hd' v' H2 s2 r'=>⟨ρ,(fr.mono s1).mono s2,Acc.mono (Acc.bind (Acc.heap s2 hd')) λd'' _ hd'' v'' H3 s3 r''=>?_⟩⟩
  cases d with
  | int i=>
   cases d' with
   | int j=>
    cases d'' with
    | int k=>
     have hd2:Acc T X E σ H2 (if q40 i j k=true then Out.ok (rgS i k (Builtin.Range.rangeSize i j k).toNat) else .bad) (λds=>∀J H',Same H H'->Walk T X.K G J ds H'->R J H'):=hd''
     by_cases z:q40 i j k=true
     ·rw [if_pos z] at hd2
      exact ⟨i,j,k,by rw [show v=V.int i from r,show v'=V.int j from r',show v''=V.int k from r''],z,hd2 _ H3 ((s1.trans s2).trans s3) q7z⟩
     ·rw [if_neg z] at hd2;exact hd2.elim
    | _=>exact hd''.elim
   | _=>first | exact hd''.elim | (cases d''<;>exact hd''.elim)
  | _=>first | exact hd''.elim | (cases d'<;>first | exact hd''.elim | (cases d''<;>exact hd''.elim))
 ·subst e
  cases r1 with
  | cons r rr=>
   cases rr with
   | cons r' rr=>
    cases rr with
    | cons r'' rr=>
     cases rr
     obtain ⟨t,rfl⟩:=r
     obtain ⟨t',rfl⟩:=r'
     obtain ⟨t'',rfl⟩:=r''
     simp only [q40,Bool.and_eq_true,decide_eq_true_eq] at ok
     obtain ⟨⟨⟨⟨⟨⟨o1,o2⟩,o3⟩,o4⟩,o5⟩,o6⟩,o7⟩:=ok
     exact call_range_3 o7 (q9O (X:=X.wish E) I1 o1 o2 o3 o4 (by omega) (by omega) o7 q) (.inl (PyProof.noPylong_small (by omega)))
end
section
variable {T:Tb} {K:PySem.W.Frag} {G H:Hp} {σ:L2.St} {ρ:Ro}
theorem q2a {b:Bool} {a:Addr} {vs ws:List V} (h:H a=some (.lst vs)):Pers T b H (upd H a (.lst ws)):=λc o e st=>by
 rw [q0i (λz=>by rw [z,h] at e;cases e;cases st)];exact e
theorem FR.own_upd {i:Nat} {ds es:List D} {a:Addr} {vs ws:List V} (fr:FR T K G H σ ρ) (e:ρ[i]?=some (.ow ds)) (e1:σ[i]?=some (some (.ref a))) (e2:H a=some (.lst vs)) (e3:G a=none) (r:RepL T K H es ws) :
 FR T K G (upd H a (.lst ws)) σ (ρ.set i (.ow es)):=by
 have p:Pers T false H (upd H a (.lst ws)):=q2a e2
 have hl:i < ρ.length:=(List.getElem?_eq_some_iff.mp e).1
 have lt:∀{m:Nat} {z:Sl},(ρ.set i (.ow es))[m]?=some z->(m=i/\z=.ow es)∨(m≠i/\ρ[m]?=some z):=λ{m z} q=>by
  by_cases hm:m=i
  ·subst hm
   rw [List.getElem?_set_self hl] at q
   exact .inl ⟨rfl,(Option.some.inj q).symm⟩
  ·rw [List.getElem?_set_ne (Ne.symm hm)] at q;exact .inr ⟨hm,q⟩
 refine ⟨λb u q=>?_,by simp [fr.len],λj s q=>?_,λj k s1 s2 b hjk q1 q2 o1 o2=>?_,fr.me,q3v (λ_ _ z=>by cases z) fr.me0⟩
 ·rw [q0i (λz=>by rw [z,e3] at q;cases q)];exact fr.same b u q
 ·rcases lt q with ⟨rfl,rfl⟩ | ⟨hj,q⟩
  ·exact ⟨a,ws,e1,q0u,e3,RepL.pers p _ _ r⟩
  ·have h:=fr.sl j s q
   exact SlOk.off e2 (λ_ _=>RepL.pers p _ _) (λo1=>fr.ne j i _ _ a hj q e o1 e1) h
 ·have bk:∀(c:Addr) (u:HO),H c=some u->(∀xs,u≠.lst xs)->(∀x dx fs,u≠.ins x dx fs)->upd H a (.lst ws) c=some u:=λc u w n _=>by
   rw [q0i (λy=>by subst y;rw [e2] at w;cases w;exact n _ rfl)];exact w
  have own:∀(m:Nat) (z:Sl),(ρ.set i (.ow es))[m]?=some z->q3J (upd H a (.lst ws)) σ[m]? b z->∃z',ρ[m]?=some z'/\q3J H σ[m]? b z':=λm z q o=>by
   rcases lt q with ⟨rfl,rfl⟩ | ⟨_,q⟩
   ·exact ⟨_,e,o⟩
   ·exact ⟨_,q,(fr.sl m z q).back bk o⟩
  obtain ⟨_,p1,w1⟩:=own j _ q1 o1
  obtain ⟨_,p2,w2⟩:=own k _ q2 o2
  exact fr.ne j k _ _ b hjk p1 p2 w1 w2
end
section
variable {T:Tb} {ib:Bool} {X:Cx} {e e' o a b:Expr} {pos p p2 p3:Pos} {fe fa fb:Ev} {fl fm:Ro->Out (List D)} {x:Str}
@[simp] noncomputable def q5y (i:Nat) (fe:Ev) (ρ:Ro):Fl:=match ρ[i]? with
 | some (.ow ds)=>(fe ρ).fl ρ λd=>if ds.length < 1000000 then .nx (ρ.set i (.ow (ds++[d]))) else .bad
 | _=>.bad
theorem q17 (i:Nat) (he:DE T X e fe) (hN:X.N[i]?=some x:=by rfl) (hv:Vis X.env.scope x:=by walk_at "v0") (hd:(x==("__debug__" : Str))=false:=by decide)
 (hcd:(x==("__classdict__" : Str))=false:=by decide) (hs:starEach [e] X.env=(false,eval e X.env)::starEach [] X.env:=by exact q0D rfl) (hpl:(backTo p3 (starEach ([]:List Expr) X.env)).any (·.1)=false:=by exact q0J rfl) (hst:([e]:List Expr).all q2G=true:=by rfl)
 (hline:(p2.endLine==p3.line)=true:=by rfl) :
 DS T ib X (.Expr (.Call (.Attribute (.Name x p) "append" p2) [e] [] p3) pos) (q5y i fe):=.mk λG E hp=>
 PS.imp (q5V (X:=X.wish E) (j2G (X:=X.wish E) PySem.F.plainAttrs_list PySem.F.slot_list_append PySem.F.type_list_append q3g (q2D (X:=X.wish E) hN hv hd hcd) (q0I (X:=X.wish E) (he.run G E hp) q1t hs) rfl (q7r hst rfl) hline hs hpl) (q2c rfl)) λD σ H ⟨ρ,fr,h⟩=>by
  unfold q5y at h
  split at h
  ·rename_i ds e0
   obtain ⟨l,vs,e1,e2,e3,r⟩:=fr.sl i _ e0
   refine ⟨_,e1,.inl ⟨rfl,vs,SqL.of e2⟩,ρ,fr,Acc.mono (AccS.fl fr h) λd _ hd v H1 s1 r1=>?_⟩
   by_cases z:ds.length < 1000000
   ·rw [if_pos z] at hd
    have r':=RepL.mono s1 _ _ r
    refine ⟨l,vs,v,rfl,rfl,s1 _ _ e2,?_,hd σ _ ((fr.mono s1).own_upd e0 e1 (s1 _ _ e2) e3 (RepL.append _ _ _ _ r' ⟨v,[],rfl,r1,rfl⟩)) ((Pers.of s1).trans (q2a (s1 _ _ e2)))⟩
    rw [RepL.length _ _ r]
    have:=line6 (n:=1000000) (by omega)
    omega
   ·rw [if_neg z] at hd;exact hd.elim
  ·exact h.elim
theorem j5d {t e:Expr} {n:Nat} {env:Env} (h:j0d e=true):swapsWithSole [t] e n env=pure false:=by
 rw [swapsWithSole];exact q2c h
@[simp] noncomputable def j3I (ds:List D) (k:Int) (d:D):Option (List D):=(ixN ds.length k).map λj=>ds.set j d
@[simp] noncomputable def j1q (i:Nat) (fb fe:Ev) (ρ:Ro):Fl:=(fe ρ).fl ρ λd=>match ρ[i]? with
 | some (.ow ds)=>(fb ρ).fl ρ λk=>(match k with
  | .int k=>(match j3I ds k d with | some ds'=>.nx (ρ.set i (.ow ds')) | none=>.bad)
  | _=>.bad)
 | _=>.bad
theorem q8q (i:Nat) (he:DE T X e fe) (hb:DE T X b fb) (hN:X.N[i]?=some x:=by rfl) (hv:Vis X.env.scope x:=by walk_at "v0") (hd:(x==("__debug__" : Str))=false:=by decide)
 (hcd:(x==("__classdict__" : Str))=false:=by decide) (hs:swapsWithSole [.Subscript (.Name x p) b p2] e pos.line X.env=pure false:=by first | exact j5d rfl | rfl) (hw:swappedStores [.Subscript (.Name x p) b p2] e X.env=pure none:=by rfl)
 (ha:∀v,assign (.Subscript (.Name x p) b p2) X.env v=(do
  let ov <-holding [v] (eval (.Name x p) X.env)
  let iv <-holding [v,ov] (eval b X.env)
  standAt p2
  holding [v,ov,iv] (setItem ov iv v)
  release [v,ov,iv] []):=by intro _;rfl) :
 DS T ib X (.Assign [.Subscript (.Name x p) b p2] e pos) (j1q i fb fe):=.mk λG E hp=>
 PS.imp (j29 (X:=X.wish E) (he.run G E hp) (j6R (X:=X.wish E) (q2D (X:=X.wish E) hN hv hd hcd) (hb.run G E hp) j2s ha) hs hw rfl) λD σ H ⟨ρ,fr,h⟩=>by
  refine ⟨ρ,fr,Acc.mono (AccS.fl fr h) λd _ hd v H1 s1 r1=>?_⟩
  have fr1:=fr.mono s1
  split at hd
  ·rename_i ds e0
   obtain ⟨l,vs,e1,e2,e3,r⟩:=fr1.sl i _ e0
   refine ⟨_,e1,ρ,fr1,Acc.mono (AccS.fl fr1 (AccS.heap (Pers.of s1) hd)) λk _ hk u H2 s2 r2=>?_⟩
   cases k with
   | int k=>
    have hk':AccS T ib X G E H1 (match j3I ds k d with | some ds'=>.nx (ρ.set i (.ow ds')) | none=>.bad) D:=hk
    unfold j3I at hk'
    have hl:=RepL.length _ _ r
    cases ej:ixN ds.length k with
    | none=>rw [ej] at hk';exact hk'.elim
    | some j=>
     rw [ej] at hk'
     have r3:=RepL.set _ _ j _ _ (RepL.mono s2 _ _ r) (Rep.mono s2 _ _ r1)
     exact ⟨l,vs,k,j,rfl,r2,s2 _ _ e2,by rw [hl];exact ej,hk' σ _ ((fr1.mono s2).own_upd e0 e1 (s2 _ _ e2) e3 r3) ((Pers.of s2).trans (q2a (s2 _ _ e2)))⟩
   | _=>exact hk.elim
  ·exact hd.elim
noncomputable def tOI (T:Tb) (X:Cx) (G:Hp) (E:Value->Shared->Prop) (f:Ro->Out (Option Int)):TO:=fun σ H Q=>∃ρ,FR T X.K G H σ ρ/\Acc T X E σ H (f ρ) (λo=>∀H',Same H H'->Q o H')
structure DO (T:Tb) (X:Cx) (e:Option Expr) (f:Ro->Out (Option Int)):Prop where
 mk ::
 run:∀(G:Hp) (E:Value->Shared->Prop),PassesOwn (model X.prog X.w) X.A X.env E->PO (X.wish E) e (tOI T X G E f)
theorem PO.imp {X:Cx} {e:Option Expr} {t t':TO} (h:PO X e t) (k:∀σ H Q,t' σ H Q->t σ H Q):PO X e t':=λpins s σ H Q I q=>h pins s σ H Q I (k σ H Q q)
@[simp] noncomputable def oNo (ρ:Ro):Out (Option Int):=.ok none
@[simp] noncomputable def oSo (fe:Ev) (ρ:Ro):Out (Option Int):=(fe ρ).bind λd=>match d with
 | .int i=>.ok (some i)
 | _=>.bad
theorem q8Y:DO T X none oNo:=.mk λG E hp=>PO.imp j5n fun σ H Q ⟨ρ,fr,h⟩=>h H (Same.refl H)
theorem j0J (he:DE T X e fe):DO T X (some e) (oSo fe):=.mk λG E hp=>PO.imp (j5D (he.run G E hp)) fun σ H Q ⟨ρ,fr,h⟩=>⟨ρ,fr,Acc.mono (Acc.bind h) λd _ hd v H1 s1 r=>by
 cases d with
 | int i=>exact ⟨i,r,hd H1 s1⟩
 | _=>exact hd.elim⟩
theorem j5l:OpR X (binaryOp .Add) (λx y H Q=>∃l m xs zs,x=.ref l/\y=.ref m/\SqL X.K H l xs/\SqL X.K H m zs/\xs.length+zs.length<=sizeLine/\∀p,H p=none->Q (.ref p) (upd H p (.lst (xs++zs)))):=by
 intro pins s σ H x y v u Q I rx ry h
 obtain ⟨l,m,xs,zs,rfl,rfl,hH,hB,hz,q⟩:=h
 cases rx
 cases ry
 obtain ⟨its,r,pl,z1⟩:=I.list hH
 obtain ⟨its2,r2,pl2,z2⟩:=I.list hB
 have l1:=r.length
 have l2:=r2.length
 obtain ⟨⟨cls,dd,data,sl⟩,ho,hc,n,hd⟩:=pl.isList
 obtain ⟨⟨cls2,dd2,data2,sl2⟩,ho2,hc2,n2,hd2⟩:=pl2.isList
 simp only at hc hd hc2 hd2
 subst hc hd hc2 hd2
 have ea:its.toArray++its2.toArray=(its++its2).toArray:=by simp
 refine concat_meets ⟨_,ho,rfl⟩ ⟨_,ho2,rfl⟩ noFill_list_add seq_list_add PySem.F.slot_list_add PySem.F.entry_list_add (PySem.F.args_list_add_2 _ _) (list_addW l m its.toArray its2.toArray n n2 dd dd2 sl sl2 (by rw [List.size_toArray,List.size_toArray];omega)) ⟨ho,ho2,?_⟩
 rw [ea]
 exact ⟨.ref _,_,I.lnew (t':=s.toks) (r.append r2) (by rw [List.length_append];omega),rfl,q _ I.fresh⟩
@[simp] noncomputable def j9i (fl fm:Ro->Out (List D)) (ρ:Ro):Out (List D):=(fl ρ).bind λds=>(fm ρ).bind λes=>if ds.length+es.length<=1000000 then .ok (ds++es) else .bad
theorem j0l (ha:DL T X a fl) (hb:DL T X b fm):DF T X (.BinOp a .Add b pos) (j9i fl fm):=.mk λG E hp=>
 PE.imp (j7q (X:=X.wish E) j5l (ha.run G E hp) (hb.run G E hp)) fun σ H Q ⟨ρ,fr,h⟩=>⟨ρ,fr,Acc.mono (Acc.bind h) λds _ hd l vs H1 s1 sq r=>⟨ρ,fr.mono s1,Acc.mono (Acc.bind (Acc.heap s1 hd)) λes _ hes m ws H2 s2 sq2 r2=>by
  by_cases z:ds.length+es.length<=1000000
  ·rw [if_pos z] at hes
   refine ⟨l,m,vs,ws,rfl,rfl,s2.seq sq,sq2,?_,λq hq=>hes q _ _ ((s1.trans s2).trans (q0z hq)) ((s1.trans s2).free hq) q0u (RepL.mono (q0z hq) _ _ (RepL.append _ _ _ _ (RepL.mono s2 _ _ r) r2))⟩
   rw [RepL.length _ _ r,RepL.length _ _ r2];exact line6 z
  ·rw [if_neg z] at hes;exact hes.elim⟩⟩
@[simp] noncomputable def q7h (fl:Ro->Out (List D)) (ρ:Ro):Out (List D):=fl ρ
theorem q4o (hg:Gl X "list") (hm:X.mg "list" = none) (hl:DL T X e fl) (hs:starEach [e] X.env=(false,eval e X.env)::starEach [] X.env:=by exact q0D rfl) (hpl:(backTo pos (starEach ([]:List Expr) X.env)).any (·.1)=false:=by exact q0J rfl):DF T X (.Call (.Name "list" p) [e] [] pos) (q7h fl):=.mk λG E hp=>
 PE.imp (q2u (X:=X.wish E) q22 hg hm rfl (q0I (X:=X.wish E) (hl.run G E hp) q1t hs) (by decide) (by decide) hs hpl) fun σ H Q ⟨ρ,fr,h⟩=>⟨ρ,fr,Acc.mono h λds _ hd l vs H1 s1 sq r=>
  ⟨l,vs,rfl,.inl sq,λq hq=>hd q _ _ (s1.trans (q0z hq)) (s1.free hq) q0u (RepL.mono (q0z hq) _ _ r)⟩⟩
theorem j18 (hg:Gl X "list") (hm:X.mg "list" = none) (hl:DE T X e fe) (hs:starEach [e] X.env=(false,eval e X.env)::starEach [] X.env:=by exact q0D rfl) (hpl:(backTo pos (starEach ([]:List Expr) X.env)).any (·.1)=false:=by exact q0J rfl):DF T X (.Call (.Name "list" p) [e] [] pos) (q4y fe):=.mk λG E hp=>
 PE.imp (q2u (X:=X.wish E) q22 hg hm rfl (q0I (X:=X.wish E) (hl.run G E hp) q1t hs) (by decide) (by decide) hs hpl) fun σ H Q ⟨ρ,fr,h⟩=>⟨ρ,fr,Acc.mono (Acc.bind h) λd _ hd v H1 s1 r=>by
  cases d with
  | tup ds=>
   obtain ⟨l,vs,rfl,sq,rl⟩:=r
   exact ⟨l,vs,rfl,.inr sq,λq hq=>hd q _ _ (s1.trans (q0z hq)) (s1.free hq) q0u (RepL.mono (q0z hq) _ _ rl)⟩
  | _=>exact hd.elim⟩
@[simp] noncomputable def q47 (fl:Ro->Out (List D)) (ρ:Ro):Out D:=(fl ρ).bind λds=>.ok (.tup ds)
theorem q39 (hg:Gl X "tuple") (hm:X.mg "tuple" = none) (hl:DL T X e fl) (hs:starEach [e] X.env=(false,eval e X.env)::starEach [] X.env:=by exact q0D rfl) (hpl:(backTo pos (starEach ([]:List Expr) X.env)).any (·.1)=false:=by exact q0J rfl):DE T X (.Call (.Name "tuple" p) [e] [] pos) (q47 fl):=.mk λG E hp=>
 PE.imp (q2u (X:=X.wish E) q4i hg hm rfl (q0I (X:=X.wish E) (hl.run G E hp) q1t hs) (by decide) (by decide) hs hpl) fun σ H Q ⟨ρ,fr,h⟩=>⟨ρ,fr,Acc.mono (Acc.bind h) λds _ hd l vs H1 s1 sq r=>
  ⟨l,vs,rfl,.inl ⟨sq,λq hq=>hd _ _ (s1.trans (q0z hq)) ⟨q,vs,rfl,SqT.of q0u,RepL.mono (q0z hq) _ _ r⟩⟩⟩⟩
end
section
variable {T:Tb} {X:Cx} {tg e a b:Expr} {pos p:Pos} {fl fm:Ro->Out (List D)}
end
noncomputable def Itz (K:PySem.W.Frag) (a b:Addr):It:=⟨λi H=>∃xs ys x y,SqL K H a xs/\SqL K H b ys/\xs[i]?=some x/\ys[i]?=some y,
 λi H v H'=>∃x y p,(∀xs,SqL K H a xs->xs[i]?=some x)/\(∀ys,SqL K H b ys->ys[i]?=some y)/\v=.ref p/\H p=none/\H'=upd H p (.tup [x,y]),
 λi H=>∃xs ys,SqL K H a xs/\SqL K H b ys/\(xs[i]?=none∨ys[i]?=none)⟩
theorem j2g {P:Program} {w:World} {K:PySem.W.Frag} {elts:List Expr} {x1:Nat} {tp:Pos} (a b z TI TO i1 i2:Addr) (D:ZipApart z TI TO i1 i2 a b) :
 Turn P w K (.Tuple elts x1 tp) (Itz K a b) [z,TI,TO,i1,i2] z (λi h=>IsZip h z TI TO .none/\IsPair h TI (.ref i1) (.ref i2)/\(∃u v,IsPair h TO u v)/\h.IsListIter i1 a i/\h.IsListIter i2 b i) where
 mem:=by simp
 obj:=λi h st c hc=>by
  obtain ⟨s1,s2,⟨u,v,s3⟩,s4,s5⟩:=st
  simp only [List.mem_cons,List.not_mem_nil,or_false] at hc
  rcases hc with rfl | rfl | rfl | rfl | rfl
  ·exact ⟨_,s1,λv z=>by have z':Data.fields _=Data.cell v:=z;cases z'⟩
  ·exact ⟨_,s2,λv z=>by have z':Data.seq _ _=Data.cell v:=z;cases z'⟩
  ·exact ⟨_,s3,λv z=>by have z':Data.seq _ _=Data.cell v:=z;cases z'⟩
  ·obtain ⟨o,e,c,d⟩:=s4
   exact ⟨o,e,λv z=>by rw [d] at z;cases z⟩
  ·obtain ⟨o,e,c,d⟩:=s5
   exact ⟨o,e,λv z=>by rw [d] at z;cases z⟩
 keep:=λi h h' st k=>by
  obtain ⟨s1,s2,⟨u,v,s3⟩,s4,s5⟩:=st
  exact ⟨k z (by simp) _ s1,k TI (by simp) _ s2,⟨u,v,k TO (by simp) _ s3⟩,s4.at λo e=>k i1 (by simp) o e,s5.at λo e=>k i2 (by simp) o e⟩
 item:=by
  intro X hP hw hK hc i pins s σ H E I hf st hg
  subst hP hw hK
  obtain ⟨xs,ys,x,y,hqa,hqb,hx,hy⟩:=hg
  obtain ⟨t1,t2,⟨u0,v0,t3⟩,t4,t5⟩:=st
  obtain ⟨its,rv,pa,hza⟩:=I.list hqa
  obtain ⟨its2,rv2,pb,hzb⟩:=I.list hqb
  obtain ⟨u,hu,ru⟩:=rv.get hx
  obtain ⟨v,hv,rv'⟩:=rv2.get hy
  refine wpAny_pyNext_zip_item D t1 t2 t3 t4 t5 pa.isList pb.isList (x:=u) (y:=v) (by simpa using hu) (by simpa using hv) λh' a1 a2 a3 a4 a5 a6 a7=>⟨_,rfl,?_⟩
  refine wpAny_letOwnedTupleGo_zip (s:={ s with heap:=h' }) a1 λh'' b1 sb=>?_
  have inz:=hf z (by simp)
  have szz:s.heap.objs.size≠z:=λe=>absurd (Heap.lt_size t1) (by rw [<-e];exact Nat.lt_irrefl _)
  have kk:∀c o,c∉[z,TI,TO,i1,i2]->s.heap.get? c=some o->h''.get? c=some o:=λc o hcm e=>by
   simp only [List.mem_cons,List.not_mem_nil,or_false,not_or] at hcm
   exact (sb.2 c hcm.1).trans (a7 c o hcm.1 hcm.2.2.1 hcm.2.2.2.1 hcm.2.2.2.2 e)
  have hfresh:H s.heap.objs.size=none:=I.hok.fresh (Nat.le_refl _)
  have nfp:∀c u,H c=some u->c∉[z,TI,TO,i1,i2]:=λc u e hm=>by rw [(hf c hm).1] at e;cases e
  have nsz:∀c u,H c=some u->c≠s.heap.objs.size:=λc u e z=>by rw [z,hfresh] at e;cases e
  have tk:TI∈[z,TI,TO,i1,i2]:=by simp
  have p5:IsPair h'' s.heap.objs.size u v:=(sb.2 _ szz).trans a5
  have I1:Inv X pins σ (upd H s.heap.objs.size (.tup [x,y])) { s with heap:=h'' }:=by
   refine I.step (g':=s.gens) (d':=s.drawn) (t':=s.toks) (ch:=[z,TI,TO,i1,i2]) (λc hcm=>?_) (λc o _ _ hcm e _=>kk c o hcm e) (λc o _ _ hcm e _=>⟨o.slots,kk c o hcm e⟩) (λc o _ e n=>?_)
    (λc o hcm e=>⟨o,kk c o hcm e⟩) (λc xs e=>?_) (λc o w e=>?_) (λc ps e=>⟨#[],?_⟩) (λm hm=>?_) (λc w e=>?_) I.bare
   ·obtain ⟨f0,f1,f2,f3,f4,f5⟩:=hf c hcm
    exact ⟨f3,f1,f4,f5⟩
   ·rw [q0i (Nat.ne_of_lt (Heap.lt_size e))];exact n
   ·rw [q0i (nsz c _ e)];exact e
   ·rw [q0i (nsz c _ e)];exact e
   ·rw [q0i (nsz c _ e),e];simp
   ·obtain ⟨o,es,ep,ho,r⟩:=hm
    refine ⟨o,es,ep,kk _ o (λhm=>?_) ho,r⟩
    exact (hf _ hm).2.1 rfl
   ·by_cases hcz:c=s.heap.objs.size
    ·subst hcz
     rw [q0u] at e;cases e
     exact ⟨by show 2<=sizeLine;decide,[u,v],.cons ru (.cons rv' .nil),⟨_,p5,rfl,_,rfl⟩⟩
    ·rw [q0i hcz] at e
     refine (I.hok c w e).stay (λc' w' hc' q=>kk c' w' ?_ q) (λc' q=>?_) λc' xs q=>?_
     ·rcases hc' with hc' | hc'
      ·rw [hc'];exact nfp _ _ e
      ·exact nfp _ _ hc'
     ·rw [q0i (nsz c' _ q)];exact q
     ·rw [q0i (nsz c' _ q)];exact q
  refine ⟨.ref s.heap.objs.size,_,I1,rfl,⟨x,y,_,λws hw=>by rw [I.list_inj hw hqa];exact hx,λws hw=>by rw [I.list_inj hw hqb];exact hy,rfl,hfresh,rfl⟩,⟨b1,?_,⟨u,v,(sb.2 _ D.TOz).trans a2⟩,a3.at λo e=>(sb.2 _ D.i1z).trans e,a4.at λo e=>(sb.2 _ D.i2z).trans e⟩,λc hcm=>?_⟩
  ·exact (sb.2 _ D.TIz).trans (a7 TI _ D.TIz D.TITO D.TIi1 D.TIi2 t2)
  ·rw [q0i]
   ·exact (hf c hcm).1
   ·rintro rfl
    simp only [List.mem_cons,List.not_mem_nil,or_false] at hcm
    rcases hcm with e | e | e | e | e
    ·exact szz e
    ·exact absurd (Heap.lt_size t2) (by rw [<-e];exact Nat.lt_irrefl _)
    ·exact absurd (Heap.lt_size t3) (by rw [<-e];exact Nat.lt_irrefl _)
    ·obtain ⟨o,eo,_⟩:=t4
     exact absurd (Heap.lt_size eo) (by rw [<-e];exact Nat.lt_irrefl _)
    ·obtain ⟨o,eo,_⟩:=t5
     exact absurd (Heap.lt_size eo) (by rw [<-e];exact Nat.lt_irrefl _)
 done:=by
  intro X hP hw hK hc i pins s σ H E I hf st hg
  subst hP hw hK
  obtain ⟨xs,ys,hqa,hqb,hend⟩:=hg
  obtain ⟨t1,t2,⟨u0,v0,t3⟩,t4,t5⟩:=st
  obtain ⟨its,rv,pa,hza⟩:=I.list hqa
  obtain ⟨its2,rv2,pb,hzb⟩:=I.list hqb
  have l1:=rv.length
  have l2:=rv2.length
  refine wpAny_pyNext_zip_end (I.ok.hd hc) D t1 t2 t3 t4 t5 pa.isList pb.isList ?_ λh' a7=>⟨rfl,?_⟩
  ·rcases hend with hend | hend
   ·left
    rw [List.getElem?_eq_none_iff] at hend
    simp;omega
   ·right
    rw [List.getElem?_eq_none_iff] at hend
    simp;omega
  ·have kk:∀c o,c∉[z,TI,TO,i1,i2]->s.heap.get? c=some o->h'.get? c=some o:=λc o hcm e=>by
    simp only [List.mem_cons,List.not_mem_nil,or_false,not_or] at hcm
    exact a7 c o hcm.1 hcm.2.2.1 hcm.2.2.2.1 hcm.2.2.2.2 e
   have nfp:∀c u,H c=some u->c∉[z,TI,TO,i1,i2]:=λc u e hm=>by rw [(hf c hm).1] at e;cases e
   refine I.step (g':=s.gens) (d':=s.drawn) (t':=s.toks) (ch:=[z,TI,TO,i1,i2]) (λc hcm=>?_) (λc o _ _ hcm e _=>kk c o hcm e) (λc o _ _ hcm e _=>⟨o.slots,kk c o hcm e⟩) (λc o _ e n=>n)
    (λc o hcm e=>⟨o,kk c o hcm e⟩) (λc xs e=>e) (λc o w e=>e) (λc ps e=>⟨#[],by rw [e];simp⟩) (λm hm=>?_) (λc w e=>?_) I.bare
   ·obtain ⟨f0,f1,f2,f3,f4,f5⟩:=hf c hcm
    exact ⟨f3,f1,f4,f5⟩
   ·obtain ⟨o,es,ep,ho,r⟩:=hm
    exact ⟨o,es,ep,kk _ o (λhm=>(hf _ hm).2.1 rfl) ho,r⟩
   ·refine (I.hok c w e).stay (λc' w' hc' q=>kk c' w' ?_ q) (λc' q=>q) λc' xs q=>q
    rcases hc' with hc' | hc'
    ·rw [hc'];exact nfp _ _ e
    ·exact nfp _ _ hc'
 self:=λ_ _ _ _ _ st h=>wpAny_pyIter_zip st.1 h
section
variable {T:Tb} {X:Cx} {a b:Expr} {pos p tp:Pos} {fl fm:Ro->Out (List D)} {elts:List Expr} {x1:Nat}
@[simp] noncomputable def j9e (fl fm:Ro->Out (List D)) (ρ:Ro):Out (List D):=(fl ρ).bind λds=>(fm ρ).bind λes=>.ok (List.zipWith (λx y=>D.tup [x,y]) ds es)
theorem j2J {G H1:Hp} {l m:Addr} {vs ws:List V} {ds es:List D} (st:Stb X.K G H1 l vs) (r:RepL T X.K H1 ds vs) (st2:Stb X.K G H1 m ws) (r2:RepL T X.K H1 es ws):Walk T X.K G (Itz X.K l m) (List.zipWith (λx y=>D.tup [x,y]) ds es) H1:=λi H p sm=>by
 have sq:=(st.pers p).sq sm
 have sq2:=(st2.pers p).sq sm
 have r':=RepL.pers p _ _ r
 have r2':=RepL.pers p _ _ r2
 have hl:=RepL.length _ _ r'
 have hl2:=RepL.length _ _ r2'
 refine ⟨λd e=>?_,λh=>⟨vs,ws,sq,sq2,?_⟩⟩
 ·rw [List.getElem?_zipWith] at e
  cases ed:ds[i]? with
  | none=>rw [ed] at e;simp at e
  | some d1=>
   cases ee:es[i]? with
   | none=>rw [ed,ee] at e;simp at e
   | some d2=>
    rw [ed,ee] at e
    have e':D.tup [d1,d2]=d:=by simpa using e
    subst e'
    obtain ⟨v,e1,rd⟩:=RepL.get _ _ _ _ r' ed
    obtain ⟨w,e2,rd2⟩:=RepL.get _ _ _ _ r2' ee
    refine ⟨⟨vs,ws,v,w,sq,sq2,e1,e2⟩,λx H2 ⟨x',y',q,h1,h2,hx,hq,hH⟩=>?_⟩
    have z1:=h1 vs sq
    have z2:=h2 ws sq2
    rw [e1] at z1;cases z1
    rw [e2] at z2;cases z2
    subst hx hH
    exact ⟨q0z hq,q,[v,w],rfl,SqT.of q0u,v,[w],rfl,Rep.mono (q0z hq) _ _ rd,w,[],rfl,Rep.mono (q0z hq) _ _ rd2,rfl⟩
 ·rw [List.length_zipWith] at h
  rw [List.getElem?_eq_none_iff,List.getElem?_eq_none_iff]
  omega
theorem j76 (hg:Gl X "zip") (hm:X.mg "zip" = none) (ha:DP T X a fl) (hb:DP T X b fm) (hs:starEach [a,b] X.env=(false,eval a X.env)::starEach [b] X.env:=by exact q0D rfl) (hs2:starEach [b] X.env=(false,eval b X.env)::starEach [] X.env:=by exact q0D rfl) (hpl:(backTo pos (starEach [b] X.env)).any (·.1)=false:=by exact q0J rfl) :
 DI T X (.Tuple elts x1 tp) (.Call (.Name "zip" p) [a,b] [] pos) (j9e fl fm):=.mk λG E hp=>by
 rintro pins s σ H R I ⟨ρ,fr,h⟩
 refine Call_ (q2E (X:=X.wish E) I hg hm boot_zip (PyProof.Rows.callWith_type1 (thn ((q0I (X:=X.wish E) (ha.run G E hp) (q0I (X:=X.wish E) (hb.run G E hp) q1t hs2) hs) pos pins s σ H (λus H1=>∃l m vs ws,us=[.ref l,.ref m]/\SqL X.K H1 l vs/\SqL X.K H1 m ws/\R (Itz X.K l m) H1) I ⟨ρ,fr,Acc.mono (Acc.bind h) λds _ hd l vs H1 s1 st r=>⟨ρ,fr.mono s1,Acc.mono (Acc.bind (Acc.heap s1 hd)) λes _ hes m ws H2 s2 st2 r2=>?_⟩⟩) λus s1 ⟨xs,H1,I1,r1,l,m,vs,ws,e1,sq,sq2,q⟩=>?_) hs hpl))
 ·have st':Stb X.K G H2 l vs:=st.pers (ib:=false) (Pers.of (T:=T) s2)
  exact ⟨l,m,vs,ws,rfl,st'.sq ((fr.same.trans s1).trans s2),st2.sq ((fr.same.trans s1).trans s2),hes _ H2 (s1.trans s2) (j2J st' (RepL.mono s2 _ _ r) st2 r2)⟩
 ·subst e1
  obtain ⟨u,v,rfl,ru,rv0⟩:=Vals.two r1
  cases ru
  cases rv0
  obtain ⟨its,rv,pl,hz⟩:=I1.list sq
  obtain ⟨its2,rv2,pl2,hz2⟩:=I1.list sq2
  have a1:l < s1.heap.objs.size:=by obtain ⟨_,e,_⟩:=pl.isList;exact Heap.lt_size e
  have a2:m < s1.heap.objs.size:=by obtain ⟨_,e,_⟩:=pl2.isList;exact Heap.lt_size e
  refine call_zip_2 pl.isList pl2.isList λh' z1 z2 z3 z4 z5 z6 kp=>?_
  have I2:Inv (X.wish E) pins σ H1 { s1 with heap:=h' }:=I1.kept (t':=s1.toks) kp
  refine wpAny_pyIter_zip z1 ⟨_,_,_,_,H1,rfl,I2,j2g l m _ _ _ _ _ (zipApart_new a1 a2),⟨z1,z2,⟨_,_,z3⟩,z4,z5⟩,λc hcm=>?_,q⟩
  have ge:s1.heap.objs.size<=c:=by
   simp only [List.mem_cons,List.not_mem_nil,or_false] at hcm
   rcases hcm with rfl | rfl | rfl | rfl | rfl<;>omega
  exact I1.fpOk ge (I1.hok.fresh ge)
end
section
variable {prog:Program} {w:World} {A:Around} {E:Value->Shared->Prop} {s:Shared}
end
section
variable {T:Tb} {X:Cx} {e:Expr} {pos p p2 pos2:Pos} {fl:Ro->Out (List D)}
end
section
variable {T:Tb} {X:Cx} {pos p p2 p3:Pos} {x:Str}
end
end L3
namespace L3
open PySem L2
theorem j42 {a b:Str} (h:a.cps.toList=b.cps.toList):a=b:=by
 cases a;cases b;simp at h;simp [h]
theorem j4W (a b:Str):(a++b).cps.toList=a.cps.toList++b.cps.toList:=by
 show (a.cps++b.cps).toList=_;simp
theorem q53 (a:Str):a.cps.toList.length=a.length:=by simp [Str.length]
theorem log2_lt {n k:Nat} (h:n < 2 ^ k) (hk:0 < k):n.log2 < k:=by
 by_cases h0:n=0
 ·subst h0;simpa [Nat.log2_zero] using hk
 ·exact (Nat.log2_lt h0).mpr h
section
variable {b:Ro->D->Fl} {d:D} {ds:List D} {ρ ρ':Ro}
theorem q1w:q2R b [] ρ=.nx ρ:=by rw [q2R]
theorem q19 (h:b ρ d=.nx ρ'):q2R b (d::ds) ρ=q2R b ds ρ':=by rw [q2R,h]
theorem j5L {r:Rv} (h:b ρ d=.rt r):q2R b (d::ds) ρ=.rt r:=by rw [q2R,h]
end
theorem q0O {fl:Ro->Out (List D)} {g:Ro->D->Out Ro} {fb:Ro->Fl} {ρ:Ro} {ds:List D} (h:fl ρ=.ok ds):q2T fl g fb ρ=q2R (q0x g fb) ds ρ:=by rw [q2T,h,Out.ok_fl]
theorem q1E {fe:Ev} {ρ:Ro} {n:Nat} (h:fe ρ=.ok (.int n)) (hn:n < 1000000):q3a (n1 fe) ρ=.ok (rgD 0 n):=by
 have e:n1 fe ρ=.ok (0,n):=by
  rw [n1,h,Out.ok_bind]
  show (if _ then _ else _)=_
  rw [if_pos ⟨by omega,by omega⟩,Int.toNat_natCast]
 rw [q3a,e,Out.ok_bind]
theorem j2K (lo:Int) (n:Nat):rgD lo (n+1)=.int lo::rgD (lo+1) n:=by
 rw [rgD,List.range_succ_eq_map,List.map_cons,List.map_map,rgD]
 congr 1
 ·simp
 ·apply List.map_congr_left
  intro k _
  simp only [Function.comp_apply]
  congr 1
  omega
theorem j2a (lo:Int):rgD lo 0=[]:=by simp [rgD]
end L3
namespace L3
open PySem PySem.Spec PyProof.Rows L2
noncomputable def q6y (f:D->Out D):List D->Option (List D)
 | []=>some []
 | d::ds=>match f d with
  | .ok e=>(match q6y f ds with | some es=>some (e::es) | none=>none)
  | _=>none
theorem q7F (env:Env):∀(names:List (Str×NameKind)) (cs:List (Str×Addr)),(∀y∈names,y.2=.free->∃c,env.cells.lookup y.1=some c)->(∀y c,cs.lookup y=some c->env.cells.lookup y=some c) ->
 ∃cl:List (Str×Addr),(forIn names cs λ(x:Str×NameKind) (r:List (Str×Addr))=>(do if x.2==NameKind.free then do let c <-cellOf env x.1;pure (ForInStep.yield ((x.1,c)::r)) else pure (ForInStep.yield r):Sem (ForInStep (List (Str×Addr)))))=pure cl /\
  (∀y c,cl.lookup y=some c->env.cells.lookup y=some c)/\(∀y∈names,y.2=.free->∃c,cl.lookup y.1=some c)/\∀y c,cs.lookup y=some c->cl.lookup y=some c:=by
 intro names
 induction names with
 | nil=>intro cs _ h;exact ⟨cs,rfl,h,λy hy=>by simp at hy,λ_ _ e=>e⟩
 | cons z names ih=>
  obtain ⟨n,k⟩:=z
  intro cs hf h
  by_cases hk:k=.free
  ·subst hk
   obtain ⟨c,hc⟩:=hf (n,.free) (by simp) rfl
   have hc:env.cells.lookup n=some c:=hc
   have h':∀y c',((n,c)::cs).lookup y=some c'->env.cells.lookup y=some c':=λy c' e=>by
    rw [List.lookup_cons] at e
    cases ey:y==n with
    | true=>rw [ey] at e;cases e;rw [eq_of_beq ey];exact hc
    | false=>rw [ey] at e;exact h y c' e
   obtain ⟨cl,e1,e2,e3,e4⟩:=ih ((n,c)::cs) (λy hy=>hf y (by simp [hy])) h'
   have nn:cl.lookup n=some c:=e4 n c (by simp [List.lookup_cons])
   refine ⟨cl,?_,e2,λy hy hy2=>?_,λy c' e=>?_⟩
   ·rw [List.forIn_cons]
    have:cellOf env n=pure c:=by unfold cellOf;rw [hc]
    simp only [beq_self_eq_true,if_true,this,pure_bind]
    exact e1
   ·rcases List.mem_cons.mp hy with z | z
    ·rw [z];exact ⟨c,nn⟩
    ·exact e3 y z hy2
   ·by_cases ey:y=n
    ·subst ey
     have:=h y c' e
     rw [hc] at this;cases this
     exact nn
    ·exact e4 y c' (by rw [List.lookup_cons,show (y==n)=false by simpa using ey];exact e)
  ·obtain ⟨cl,e1,e2,e3,e4⟩:=ih cs (λy hy=>hf y (by simp [hy])) h
   have hb:(k==NameKind.free)=false:=by simpa using hk
   refine ⟨cl,?_,e2,λy hy hy2=>?_,e4⟩
   ·rw [List.forIn_cons]
    simp only [hb,Bool.false_eq_true,if_false,pure_bind]
    exact e1
   ·rcases List.mem_cons.mp hy with z | z
    ·rw [z] at hy2;exact absurd hy2 hk
    ·exact e3 y z hy2
theorem q7H (env:Env) (scope:Scope) (hf:∀y∈scope.names,y.2=.free->∃c,env.cells.lookup y.1=some c) :
 ∃cl:List (Str×Addr),closureFor scope env=pure cl/\(∀y c,cl.lookup y=some c->env.cells.lookup y=some c)/\∀y∈scope.names,y.2=.free->∃c,cl.lookup y.1=some c:=by
 obtain ⟨cl,e1,e2,e3,_⟩:=q7F env scope.names [] hf (λy c e=>by simp at e)
 refine ⟨cl,?_,e2,e3⟩
 rw [closureFor]
 show (forIn scope.names [] _ >>= λcs=>pure cs)=pure cl
 rw [bind_pure]
 exact e1
noncomputable abbrev CxC (X:Cx) (N':List Str) (scope:Scope) (cl:List (Str×Addr)) (C:Addr) (s₀:Shared) (H₀:Hp) (ex:List Addr):Cx:=
 { X with N:=N',env:=compEnvC scope cl C X.env,outer:=X.stack,s₀:=s₀,H₀:=H₀,ex:=ex,fn:=λ_=>false,pn:=[] }
structure Cap (X:Cx) (scope:Scope) (x:Str) (ys:List Str) (caps:List Nat):Prop where
 kind:scope.kind=.function
 own:scope.names.lookup x=some .local
 nocell:∀y∈scope.names,y.2≠.cell
 names:∀y∈scope.names,y.2=.local->scope.names.lookup y.1=some .local
 free:∀y∈scope.names,y.2=.free->X.env.kindOf y.1=some .cell∨X.env.kindOf y.1=some .free
 nodup:(x::ys).Nodup
 len:caps.length=ys.length
 cap:∀(j:Nat) (y:Str) (i:Nat),ys[j]?=some y->caps[j]?=some i->X.N[i]?=some y/\(X.env.kindOf y=some .cell∨X.env.kindOf y=some .free)/\scope.names.lookup y=some .free
theorem q1x {env:Env}:∀{names:List (Str×NameKind)} {x:Str} {k:NameKind},(names.map λ(n,k)=>if (k==NameKind.free && env.scope.kind==.function && env.kindOf n==some .cell) then (n,NameKind.cell) else (n,k)).lookup x=some k ->
 ∃k',names.lookup x=some k'/\(x,k')∈names/\(k=k'∨(k'=.free/\k=.cell))
 | [],_,_,h=>by simp at h
 | (n,k0)::r,x,k,h=>by
  have ih:=@q1x env r x k
  have h:List.lookup x ((if (k0==NameKind.free && env.scope.kind==.function && env.kindOf n==some .cell)=true then (n,NameKind.cell) else (n,k0))::_)=some k:=h
  cases hx:x==n with
  | true=>
   have e:=eq_of_beq hx
   subst e
   refine ⟨k0,by simp [List.lookup_cons],by simp,?_⟩
   by_cases hc:(k0==NameKind.free && env.scope.kind==.function && env.kindOf x==some .cell)=true
   ·rw [if_pos hc] at h
    simp only [List.lookup_cons,beq_self_eq_true] at h
    cases h
    right
    refine ⟨?_,rfl⟩
    simp only [Bool.and_eq_true] at hc
    exact eq_of_beq hc.1.1
   ·rw [if_neg hc] at h
    simp only [List.lookup_cons,beq_self_eq_true] at h
    cases h
    exact .inl rfl
  | false=>
   have h':List.lookup x (r.map λ(n,k)=>if (k==NameKind.free && env.scope.kind==.function && env.kindOf n==some .cell) then (n,NameKind.cell) else (n,k))=some k:=by
    by_cases hc:(k0==NameKind.free && env.scope.kind==.function && env.kindOf n==some .cell)=true
    ·rw [if_pos hc] at h;simpa [List.lookup_cons,hx] using h
    ·rw [if_neg hc] at h;simpa [List.lookup_cons,hx] using h
   obtain ⟨k',e1,e2,e3⟩:=ih h'
   exact ⟨k',by rw [List.lookup_cons,hx];exact e1,List.mem_cons_of_mem _ e2,e3⟩
section
variable {X:Cx} {pins:List (Addr×Obj)} {σ:L2.St} {H:Hp} {s:Shared} {scope:Scope} {x:Str} {ys:List Str} {caps:List Nat} {cl:List (Str×Addr)} {ex:List Addr}
theorem Cap.has (cp:Cap X scope x ys caps) (hcl:∀y∈scope.names,y.2=.free->∃c,cl.lookup y.1=some c):∀y,((relabel scope X.env).names.lookup y=some .cell∨(relabel scope X.env).names.lookup y=some .free)->∃c,cl.lookup y=some c:=by
 intro y h
 rcases h with h | h
 ·obtain ⟨k',_,e2,e3⟩:=q1x (env:=X.env) h
  rcases e3 with e3 | e3
  ·exact absurd e3.symm (cp.nocell _ e2)
  ·exact hcl _ e2 e3.1
 ·obtain ⟨k',_,e2,e3⟩:=q1x (env:=X.env) h
  rcases e3 with e3 | e3
  ·exact hcl _ e2 e3.symm
  ·cases e3.2
theorem j52 (I:Inv X pins σ H s) (cp:Cap X scope x ys caps) (h1:∀y c,cl.lookup y=some c->X.env.cells.lookup y=some c) (h2:∀y∈scope.names,y.2=.free->∃c,cl.lookup y.1=some c)
 (hx:∀b∈ex,q5d X pins H b/\b < s.heap.objs.size):(CxC X (x::ys) scope cl s.heap.objs.size s H ex).Ok where
 mod:=I.ok.mod
 kind:=cp.kind
 glob:=I.ok.glob
 blt:=I.ok.blt
 above:=Nat.le_refl _
 inj:=λa b c e1 e2=>I.ok.inj a b c (h1 _ _ e1) (h1 _ _ e2)
 has:=λy h=>cp.has h2 y h
 cab:=λy c e=>by cases e
 hd:=I.ok.hd
 frames:=I.ok.frames
 stk:=.inl rfl
 exf:=λb hb=>⟨Nat.ne_of_lt (hx b hb).2,λy c e=>(hx b hb).1.2.2.2.2.1 y c (h1 _ _ e)⟩
 bs:=I.bs
 bsz:=Nat.le_trans I.ok.bsz I.sz
 noex:=λb o e hb=>by
  rcases (hx b hb).1.2.2.2.1 with z | z
  ·exact I.ok.noex b o e z
  ·exact absurd (Nat.lt_of_lt_of_le (Heap.lt_size e) I.ok.bsz) (Nat.not_lt.mpr z)
 exfs:=λb hb hf=>by
  rcases List.mem_cons.mp (I.stkSub b hf) with z | z
  ·exact (hx b hb).1.2.1 z
  ·exact (hx b hb).1.2.2.1 z
 funs:=I.stack
 frf:=I.stkFree
theorem j2C {h':Heap} {tk:Nat} {m:Str->Option Value} (I:Inv X pins σ H s) (cp:Cap X scope x ys caps) (h1:∀y c,cl.lookup y=some c->X.env.cells.lookup y=some c) (h2:∀y∈scope.names,y.2=.free->∃c,cl.lookup y.1=some c)
 (hx:∀b∈ex,q5d X pins H b/\b < s.heap.objs.size) (hn:h'.Ns s.heap.objs.size m) (hk:∀b o,s.heap.get? b=some o->h'.get? b=some o) :
 Inv (CxC X (x::ys) scope cl s.heap.objs.size s H ex) [] (none::caps.map λi=>σ.getD i none) H { s with heap:=h',toks:=tk } where
 ok:=j52 I cp h1 h2 hx
 os:=rfl
 bare:=I.bare
 base:=Un.kept hk
 loc:=by
  refine ⟨m,hn,λj y v e1 e2 e3=>?_⟩
  cases j with
  | zero=>cases e2
  | succ j=>
   have e1:ys[j]?=some y:=e1
   have e2:(caps.map λi=>σ.getD i none)[j]?=some (some v):=e2
   rw [List.getElem?_map] at e2
   cases ei:caps[j]? with
   | none=>rw [ei] at e2;cases e2
   | some i=>
    rw [ei] at e2
    have e2:σ.getD i none=some v:=Option.some.inj e2
    obtain ⟨q1,q2,q3⟩:=cp.cap j y i e1 ei
    have e4:σ[i]?=some (some v):=by
     rw [List.getD_eq_getElem?_getD] at e2
     cases q:σ[i]? with
     | none=>rw [q] at e2;cases e2
     | some w=>rw [q] at e2;exact congrArg some e2
    obtain ⟨m0,hn0,hl⟩:=I.loc
    obtain ⟨u,r,lk⟩:=hl i y v q1 e4 (q2.elim (λz=>.inr (.inl z)) λz=>.inr (.inr z))
    refine ⟨u,r,.inr ?_⟩
    have lc:∃c,X.env.cells.lookup y=some c/\s.heap.IsCell c (some u):=by
     rcases lk with ⟨z,_⟩ | ⟨_,z⟩
     ·rcases q2 with q2 | q2<;>(rw [q2] at z;cases z)
     ·exact z
    obtain ⟨c,c1,c2⟩:=lc
    have mm:(y,NameKind.free)∈scope.names:=by
     have:∀(l:List (Str×NameKind)) (k:NameKind),l.lookup y=some k->(y,k)∈l:=by
      intro l
      induction l with
      | nil=>intro k e;simp at e
      | cons z l ih=>
       intro k e
       rw [List.lookup_cons] at e
       cases hz:y==z.1 with
       | true=>rw [hz] at e;cases e;rw [eq_of_beq hz];simp
       | false=>rw [hz] at e;exact List.mem_cons_of_mem _ (ih k e)
     exact this _ _ q3
    obtain ⟨c',c3⟩:=h2 _ mm rfl
    have:=h1 _ _ c3
    have this:X.env.cells.lookup y=some c':=this
    rw [c1] at this;cases this
    refine ⟨?_,c,c3,?_⟩
    ·rcases e3 with e3 | e3
     ·obtain ⟨k',z1,_,z3⟩:=q1x (env:=X.env) (show ((scope.names.map _).lookup y)=some NameKind.local from e3)
      rw [q3] at z1;cases z1
      rcases z3 with z3 | z3
      ·cases z3
      ·cases z3.2
     ·exact e3
    ·obtain ⟨o,ho,hd⟩:=c2
     exact ⟨o,hk _ _ ho,hd⟩
 cell:=λy c e=>by
  obtain ⟨v,o,ho,hd⟩:=I.cell y c (h1 _ _ e)
  exact ⟨v,o,hk _ _ ho,hd⟩
 free:=I.hok.fresh (Nat.le_refl _)
 freeC:=λy c e=>I.freeC y c (h1 _ _ e)
 pin:=λp hp=>by simp at hp
 hok:=I.hok.kept hk
 len:=by simp [cp.len]
theorem q7x {s3 s':Shared} {H':Hp} {σ':L2.St} {C:Addr} (I:Inv X pins σ H s3) (I':Inv (CxC X (x::ys) scope cl C s3 H ex) [] σ' H' s') (hx:∀b∈ex,q5d X pins H b):Inv X pins σ H' s':=
 I.call' (ch:=ex) I'.os I'.base I'.hok I'.bare λb hb=>⟨(hx b hb).2.2.2.1,(hx b hb).2.1,(hx b hb).2.2.2.2.1,(hx b hb).2.2.2.2.2⟩
end
noncomputable def q3E:Sl->Sl
 | .sh d=>.sh d
 | _=>.no
noncomputable def q03 (caps:List Nat) (ρ:Ro) (d:D):Ro:=.sh d::caps.map λi=>q3E (ρ.getD i .no)
theorem q0t {T:Tb} (h:T.me=none):T={ T with me:=none }:=by
 cases T;cases h;rfl
theorem j5v {T T0:Tb} {K:PySem.W.Frag} {G H H':Hp} {σ:L2.St} {ρ:Ro} {caps:List Nat} {d:D} {v:V} {w:Option V} (hT:T0={ T with me:=none }) (fr:FR T K G H σ ρ) (p:Pers T false H H') (r:Rep T K H' d v) :
 FR T0 K (λ_=>none) H' ((w::caps.map λi=>σ.getD i none).set 0 (some v)) (q03 caps ρ d):=by
 refine ⟨λ_ _ e=>(by cases e),by simp [q03],λi s e=>?_,λi j s t b _ e1 _ o1 _=>?_,λx e=>?_,λi c ds e=>?_⟩
 ·cases i with
  | zero=>
   have e:Sl.sh d=s:=Option.some.inj e
   subst e
   exact ⟨v,rfl,hT ▸ (q21 _ _).mpr r⟩
  | succ i=>
   have e:(caps.map λi=>q3E (ρ.getD i .no))[i]?=some s:=e
   show SlOk T0 K _ H' (caps.map λi=>σ.getD i none)[i]? s
   rw [List.getElem?_map] at e ⊢
   cases q:caps[i]? with
   | none=>rw [q] at e;cases e
   | some k=>
    rw [q] at e
    have e:q3E (ρ.getD k .no)=s:=Option.some.inj e
    subst e
    rw [List.getD_eq_getElem?_getD]
    cases qr:ρ[k]? with
    | none=>exact trivial
    | some z=>
     cases z with
     | sh d'=>
      obtain ⟨u,e1,r1⟩:=fr.sh_at qr
      refine ⟨u,?_,hT ▸ (q21 _ _).mpr (Rep.pers p _ _ r1)⟩
      show some (σ.getD k none)=_
      rw [List.getD_eq_getElem?_getD,e1]
      rfl
     | no=>exact trivial
     | ow _=>exact trivial
     | bo _=>exact trivial
     | me _ _=>exact trivial
     | ox _ _ _ _=>exact trivial
     | mo _=>exact trivial
     | od _=>exact trivial
     | lm _=>exact trivial
     | bi _ _=>exact trivial
 ·exfalso
  cases i with
  | zero=>
   have e1:Sl.sh d=s:=Option.some.inj e1
   subst e1;exact o1
  | succ i=>
   have e:(caps.map λi=>q3E (ρ.getD i .no))[i]?=some s:=e1
   rw [List.getElem?_map] at e
   cases q:caps[i]? with
   | none=>rw [q] at e;cases e
   | some k=>
    rw [q] at e
    have e:q3E (ρ.getD k .no)=s:=Option.some.inj e
    cases z:ρ.getD k .no<;>(rw [z] at e;subst e;exact o1)
 ·subst hT;cases e
 ·exfalso
  cases i with
  | zero=>cases e
  | succ i=>
   have e:(caps.map λi=>q3E (ρ.getD i .no))[i]?=some (.me c ds):=e
   rw [List.getElem?_map] at e
   cases q:caps[i]? with
   | none=>rw [q] at e;cases e
   | some k=>
    rw [q] at e
    have e:q3E (ρ.getD k .no)=.me c ds:=Option.some.inj e
    cases z:ρ.getD k .no<;>(rw [z] at e;cases e)
section
variable {T:Tb} {X:Cx} {elt iter:Expr} {x:Str} {px pos:Pos} {scope:Scope} {ys:List Str} {caps:List Nat} {fe:Ev} {cl:List (Str×Addr)} {pins:List (Addr×Obj)} {σ:L2.St} {G H2:Hp} {s2:Shared} {J:It} {fp:List Addr} {it:Addr} {tn:Nat->Heap->Prop} {ρ:Ro} {ds es:List D}
end
noncomputable def CompOk (X:Cx) (e:Expr) (scope:Scope) (pos:Pos) (first:Sem Value) (t:TE):Prop:=
 ∀(pins:List (Addr×Obj)) (s:Shared) (σ:L2.St) (H:Hp) (Q:VK) (use:Option (Value->Sem Unit)) (QQ:Value->Shared->Prop),Inv X pins σ H s->t σ H Q ->
  (∀(a C:Addr) (s':Shared) (m:Str->Option Value) (Hn:Hp),Inv X pins σ Hn s'->q5d X pins Hn C->s'.heap.Ns C m->Q (.ref a) Hn->compPost (model X.prog X.w) X.A X.xe use QQ (.ref a) C (.ok .next) s') ->
  wpAny (model X.prog X.w) X.A (comprehension e scope X.env pos (newList []) false first use) QQ X.xe s
section
variable {X:Cx} {elt iter:Expr} {x y:Str} {px py pos spos p':Pos} {scope:Scope} {t:TE}
theorem CompOk.freeze {e:Expr} {first:Sem Value} (h:CompOk X e scope pos first t):CompOk X e scope pos first (fun σ H Q=>t σ H λv H1=>∃a vs,v=.ref a/\H1 a=some (.lst vs)/\∀o,Q v (upd H1 a (.frz o (.lst vs)))):=
 λpins s σ H Q use QQ I q k=>h pins s σ H _ use QQ I q λa C s' m Hn I' f hn ⟨a',vs,e,ha,kq⟩=>by
  cases e
  obtain ⟨o,I2⟩:=Inv.freeze I' ha
  exact k a C s' m _ I2 ⟨by rw [q0i (λz=>by rw [<-z,f.1] at ha;cases ha)];exact f.1,f.2⟩ hn (kq o)
theorem CompOk.pe {gs:List Comprehension} (h:CompOk X (.ListComp elt gs scope pos) scope (firstIterPos gs pos) (firstIter gs X.env) t) (ha:firstAsync gs=false:=by rfl):PE X (.ListComp elt gs scope pos) t:=λpins s σ H Q I q=>by
 rw [eval_ListComp,ha]
 refine h pins s σ H Q none _ I q λa C s' m Hn I' f hn hq=>⟨m,hn,λh' hs'=>?_⟩
 exact ⟨.ref a,Hn,I'.turned (t':=s'.toks) (λb o hb e=>hs'.extBut b o hb e) f.1 f.2.1 f.2.2.2.1 f.2.2.2.2.1 f.2.2.2.2.2,rfl,hq⟩
theorem CompOk.ps {gs:List Comprehension} {i:Nat} (h:CompOk X (.ListComp elt gs scope pos) scope (firstIterPos gs pos) (firstIter gs X.env) t) (hN:X.N.Nodup) (hi:X.N[i]?=some y) (hy:Loc X.env.scope y) (hf:X.fn y=true∨X.env.scope.names.lookup y=some .local)
 (hsw:swapsWith (.ListComp elt gs scope pos) (some (.Name y py)) spos.line X.env=pure true) (ha:firstAsync gs=false:=by rfl) :
 PS X (.Assign [.Name y py] (.ListComp elt gs scope pos) spos) (w1H t (j5z i)):=λpins s σ H D I q=>by
 rw [exec_Assign_Name_used _ _ _ _ hsw]
 refine wpAny_bind (wpAny_standAt (wpAny_bind ?_))
 show wpAny _ X.A (do let _ <-comprehension (.ListComp elt gs scope pos) scope X.env (firstIterPos gs pos) (newList []) (firstAsync gs) (firstIter gs X.env) (some (assign (.Name y py) X.env))) _ _ s
 rw [ha]
 refine wpAny_bind (wpAny_mono (h pins s σ H _ (some (assign (.Name y py) X.env)) (λ_ s'=>SP X pins D .next s') I q λa C s' m Hn I' f hn hq=>?_) (λ_ s' hq=>wpAny_pure (wpAny_pure hq)) λ_ _ z=>z)
 show wpAny (model X.prog X.w) X.A (assign (.Name y py) X.env (.ref a)) _ X.xe s'
 obtain ⟨o,es,ep,ho,hd⟩:=hn
 have hdc:∀v,o.data≠.cell v:=λv z=>by
  have:=hd.1
  rw [z] at this;cases this
 have I2:Inv X (pins++[(C,o)]) σ Hn s':=I'.pins_of λp hp=>(List.mem_append.mp hp).elim (λz=>I'.pin p (List.mem_append_right _ z)) λz=>by
  obtain rfl:p=(C,o):=by simpa using z
  exact ⟨ho,f.1,f.2.1,f.2.2.1,hdc⟩
 refine wpAny_mono (q4l (X:=X) (i:=i) hN hi hy hf _ s' σ Hn (.ref a) (.ref a) D.nx I2 rfl hq) (λ_ s'' h''=>?_) λ_ _ z=>z
 obtain ⟨σ',H',I3,q3⟩:=h''
 have hC:=I3.pin (C,o) (by simp)
 refine ⟨m,⟨o,es,ep,hC.1,hd⟩,λh' hs'=>?_⟩
 have I4:Inv X pins σ' H' s'':=I3.unpinned
 have I5:Inv X pins σ' H' { s'' with heap:=h' }:=I4.turned (t':=s''.toks) (λb o hb e=>hs'.extBut b o hb e) hC.2.1 f.2.1 f.2.2.2.1 f.2.2.2.2.1 f.2.2.2.2.2
 exact ⟨σ',H',I5,q3⟩
end
section
variable {T:Tb} {X:Cx} {elt iter:Expr} {x:Str} {px pos spos py:Pos} {scope:Scope} {ys:List Str} {caps:List Nat} {fe:Ev} {fl:Ro->Out (List D)}
@[simp] noncomputable def q00 (fl:Ro->Out (List D)) (caps:List Nat) (fe:Ev) (ρ:Ro):Out (List D):=(fl ρ).bind λds=>if ds.length<=1000000 then (match q6y (λd=>fe (q03 caps ρ d)) ds with | some es=>.ok es | none=>.bad) else .bad
variable {ib:Bool} {y:Str}
end
section
variable {X:Cx}
theorem j7J:SlR X (λx lo hi H Q=>∃z,x=.str z/\z.length<=sizeLine/\Q (.str (Txt.slice z lo hi)) H):=by
 intro pins s σ H x v vl vu lo hi sl Q I rx hs pl pu h
 obtain ⟨z,rfl,hz,q⟩:=h
 obtain ⟨t,rfl⟩:=rx
 obtain ⟨o,ho,hc,hd⟩:=hs
 refine ⟨"str",_,F.slot_str_getitem.lookup,typeIs_str _ _ _,?_⟩
 have fin:∀t' k,EP X pins σ Q (.str (Txt.slice z lo hi) t') { s with toks:=k }:=λt' k=>⟨.str _,H,I.tok k,⟨t',rfl⟩,q⟩
 cases pl with
 | none=>
  cases pu with
  | none=>exact wpAny_getItem_str_slice (l:=none) (u:=none) (st:=none) ⟨o,ho,hc,hd⟩ rfl (post_val_or_str ⟨Nat.le_trans (Txt.slice_le z _ _) hz,fin⟩)
  | int j u=>exact wpAny_getItem_str_slice (l:=none) (u:=some (j,u)) (st:=none) ⟨o,ho,hc,hd⟩ rfl (post_val_or_str ⟨Nat.le_trans (Txt.slice_le z _ _) hz,fin⟩)
 | int i u=>
  cases pu with
  | none=>exact wpAny_getItem_str_slice (l:=some (i,u)) (u:=none) (st:=none) ⟨o,ho,hc,hd⟩ rfl (post_val_or_str ⟨Nat.le_trans (Txt.slice_le z _ _) hz,fin⟩)
  | int j u'=>exact wpAny_getItem_str_slice (l:=some (i,u)) (u:=some (j,u')) (st:=none) ⟨o,ho,hc,hd⟩ rfl (post_val_or_str ⟨Nat.le_trans (Txt.slice_le z _ _) hz,fin⟩)
end
section
variable {T:Tb} {X:Cx} {a b e:Expr} {pos p p2:Pos} {fa fb fe:Ev} {lo hi:Option Expr} {fo fu:Ro->Out (Option Int)}
@[simp] noncomputable def q7R (fe:Ev) (fo fu:Ro->Out (Option Int)) (ρ:Ro):Out D:=(fe ρ).bind λd=>(fo ρ).bind λlo=>(fu ρ).bind λhi=>match d with
 | .str z=>if z.length<=1000000 then .ok (.str (Txt.slice z lo hi)) else .bad
 | _=>.bad
theorem q3D (he:DE T X e fe) (hl:DO T X lo fo) (hu:DO T X hi fu):DE T X (.Subscript e (.Slice lo hi none p2) pos) (q7R fe fo fu):=.mk λG E hp=>by
 refine PE.imp (j2q (X:=X.wish E) j7J (he.run G E hp) (hl.run G E hp) (hu.run G E hp)) fun σ H Q ⟨ρ,fr,h⟩=>⟨ρ,fr,Acc.mono (Acc.bind h) λd _ hd v H1 s1 r1=>?_⟩
 refine ⟨ρ,fr.mono s1,Acc.mono (Acc.bind (Acc.heap s1 hd)) λl _ hl' H2 s2=>?_⟩
 refine ⟨ρ,(fr.mono s1).mono s2,Acc.mono (Acc.bind (Acc.heap s2 hl')) λu _ hu' H3 s3=>?_⟩
 cases d with
 | str z=>
  have hu'':Acc T X E σ H2 (if z.length<=1000000 then .ok (.str (Txt.slice z l u)) else .bad) (kE T X.K H Q):=hu'
  by_cases c:z.length<=1000000
  ·rw [if_pos c] at hu''
   exact ⟨z,r1,line6 c,hu'' _ H3 ((s1.trans s2).trans s3) rfl⟩
  ·rw [if_neg c] at hu'';exact hu''.elim
 | _=>exact hu'.elim
noncomputable def Itx (z:Str):It:=⟨λi _=>i < z.length,λi H x H'=>H'=H/\∃c,z.cps[i]?=some c/\x=.str ⟨#[c]⟩,λi _=>z.length<=i⟩
theorem q6D {P:Program} {w:World} {K:PySem.W.Frag} {tg:Expr} {ty:String} (it:Addr) (z:Str) (t:Tok) (hn:["enumerate","zip","dict_itemiterator","dict_reverseitemiterator","odict_iterator","itertools.zip_longest","itertools.pairwise"].contains ty=false)
 (W:∀A:Around,A.handled=none->Walks P w A it [it] [it] z.cps.size (SignAt z) (λi h=>h.IsStrIter it ty z t i))
 (hself:∀(A:Around) (i:Nat) (s:Shared) (Q:Value->Shared->Prop) (E:Value->Shared->Prop),s.heap.IsStrIter it ty z t i->Q (.ref it) s->wpAny (model P w) A (pyIter (.ref it)) Q E s):Turn P w K tg (Itx z) [it] it (λi h=>i<=z.cps.size/\h.IsStrIter it ty z t i) where
 mem:=by simp
 obj:=λi h st b hb=>by
  have e:b=it:=by simpa using hb
  subst e
  obtain ⟨_,o,ho,_,hd⟩:=st
  exact ⟨o,ho,λv q=>by rw [hd] at q;cases q⟩
 keep:=λi h h' st k=>by
  obtain ⟨l,o,ho,r⟩:=st
  exact ⟨l,o,k it (by simp) o ho,r⟩
 item:=by
  intro X hP hw hK hc i pins s σ H E I hf st hg
  subst hP hw hK
  obtain ⟨f0,f1,f2,f3,f4,f5⟩:=hf it (by simp)
  refine (W X.A (I.ok.hd hc)).item i s _ _ hg st.2 λv h' tk hv st' kk=>?_
  obtain ⟨c,u,hcx,rfl⟩:=hv
  have I1:Inv X pins σ H { s with heap:=h',toks:=tk }:=I.turned (λb o hb e=>kk b o (by simpa using hb) e) f0 f1 f3 f4 f5
  obtain ⟨o,ho,hcl,hd⟩:=id st'
  exact ⟨_,rfl,q9x (s:={ s with heap:=h',toks:=tk }) (n:=ty) ho hcl hd hn ⟨.str ⟨#[c]⟩,H,I1,⟨u,rfl⟩,⟨rfl,c,hcx,rfl⟩,⟨hg,st'⟩,λb hb=>(hf b hb).1⟩⟩
 done:=by
  intro X hP hw hK hc i pins s σ H E I hf st hg
  subst hP hw hK
  obtain ⟨f0,f1,f2,f3,f4,f5⟩:=hf it (by simp)
  have hi:i=z.cps.size:=Nat.le_antisymm st.1 hg
  subst hi
  exact (W X.A (I.ok.hd hc)).done s _ _ st.2 λh' tk kk=>⟨rfl,I.turned (t':=tk) (λb o hb e=>kk b o (by simpa using hb) e) f0 f1 f3 f4 f5⟩
 self:=λA i s Q E st h=>hself A i s Q E st.2 h
end
section
variable {X:Cx} {tg:Expr}
theorem j7m {l:Expr} {tl:TE} (hl:PE X l tl):PI X tg l (fun σ H R=>tl σ H λx H1=>∃z,x=.str z/\R (Itx z) H1):=by
 intro pins s σ H R I h
 refine thn (hl pins s σ H _ I h) λv s1 ⟨x,H1,I1,r1,q1⟩=>?_
 obtain ⟨z,rfl,q⟩:=q1
 obtain ⟨t,rfl⟩:=r1
 have fin:∀(ob:Obj),∀b∈[s1.heap.objs.size],q5d X pins H1 b:=λob b hb=>by
  have e:b=s1.heap.objs.size:=by simpa using hb
  subst e
  exact I1.fpOk (Nat.le_refl _) (I1.hok.fresh (Nat.le_refl _))
 cases ha:z.cps.all (· < 128) with
 | true=>
  refine wpAny_pyIter_ascii ha ?_
  exact ⟨s1.heap.objs.size,[s1.heap.objs.size],_,_,H1,rfl,I1.kept (t':=s1.toks) λb o e=>Heap.get?_push_of_some _ e,q6D _ z t (by decide) (λA' hA=>Walks.strAscii hA _ z t) (λ_ _ _ _ _ st hQ=>wpAny_pyIter_striter_ascii st hQ),⟨Nat.zero_le _,_,Heap.get?_push_size _ rfl,rfl,rfl⟩,fin default,q⟩
 | false=>
  refine wpAny_pyIter_wide ha ?_
  exact ⟨s1.heap.objs.size,[s1.heap.objs.size],_,_,H1,rfl,I1.kept (t':=s1.toks) λb o e=>Heap.get?_push_of_some _ e,q6D _ z t (by decide) (λA' hA=>Walks.strWide hA _ z t) (λ_ _ _ _ _ st hQ=>wpAny_pyIter_striter_wide st hQ),⟨Nat.zero_le _,_,Heap.get?_push_size _ rfl,rfl,rfl⟩,fin default,q⟩
end
section
variable {T:Tb} {X:Cx} {tg e:Expr} {fe:Ev}
noncomputable def signs (z:Str):List D:=z.cps.toList.map λc=>D.str ⟨#[c]⟩
@[simp] noncomputable def D.toS:D->Out (List D)
 | .str z=>.ok (signs z)
 | _=>.bad
@[simp] noncomputable def j6x (f:Ev) (ρ:Ro):Out (List D):=(f ρ).bind D.toS
theorem j78 (he:DE T X e fe):DI T X tg e (j6x fe):=.mk λG E hp=>
 PI.imp (j7m (X:=X.wish E) (he.run G E hp)) fun σ H R ⟨ρ,fr,h⟩=>⟨ρ,fr,Acc.mono (Acc.bind h) λd _ hd v H1 s1 r1=>by
  cases d with
  | str z=>
   refine ⟨z,r1,hd _ H1 s1 λi H' p sm=>⟨λd' e'=>?_,λhl=>?_⟩⟩
   ·have hd':z.cps.toList[i]?.map (λc=>D.str ⟨#[c]⟩)=some d':=by rw [<-e',signs,List.getElem?_map]
    cases q:z.cps.toList[i]? with
    | none=>rw [q] at hd';cases hd'
    | some c=>
     rw [q] at hd'
     obtain rfl:D.str ⟨#[c]⟩=d':=Option.some.inj hd'
     have q2:z.cps[i]?=some c:=by rw [<-Array.getElem?_toList];exact q
     refine ⟨?_,λx H2 ⟨e2,c',e3,e4⟩=>?_⟩
     ·obtain ⟨hl,_⟩:=Array.getElem?_eq_some_iff.mp q2
      exact hl
     ·subst e2
      rw [q2] at e3;cases e3
      exact ⟨Same.refl _,e4⟩
   ·have:(signs z).length=z.length:=by simp [signs,Str.length]
    rw [this] at hl
    exact hl
  | _=>exact hd.elim⟩
end
section
variable {X:Cx}
theorem Inv.walked {pins:List (Addr×Obj)} {σ:L2.St} {H:Hp} {s:Shared} {ob:Obj} {h':Heap} {tk:Nat} (I:Inv X pins σ H s) (k:∀b o,b∉[s.heap.objs.size]->(s.heap.push ob).get? b=some o->h'.get? b=some o):Inv X pins σ H { s with heap:=h',toks:=tk }:=
 I.kept λb u e=>k b u (by simpa using Nat.ne_of_lt (Heap.lt_size e)) (Heap.get?_push_of_some _ e)
theorem q5z:∀{bs:List Bool} {us:List Value},Vals (bs.map V.bl) us->us=bs.map Value.bool
 | [],_,.nil=>rfl
 | b::bs,_,.cons r t=>by rw [q5z t,show _=Value.bool b from r];rfl
theorem j0q (bs:List Bool):(List.range bs.length).all (λi=>bs.getD i false)=bs.all id:=by
 rw [Bool.eq_iff_iff]
 simp only [List.all_eq_true,List.mem_range,id]
 constructor
 ·intro h b hb
  obtain ⟨i,hi,rfl⟩:=List.mem_iff_getElem.mp hb
  have:=h i hi
  rwa [List.getD_eq_getElem?_getD,List.getElem?_eq_getElem hi] at this
 ·intro h i hi
  rw [List.getD_eq_getElem?_getD,List.getElem?_eq_getElem hi]
  exact h _ (List.getElem_mem hi)
theorem j05 (bs:List Bool):(List.range bs.length).any (λi=>bs.getD i false)=bs.any id:=by
 rw [Bool.eq_iff_iff]
 simp only [List.any_eq_true,List.mem_range,id]
 constructor
 ·rintro ⟨i,hi,h⟩
  rw [List.getD_eq_getElem?_getD,List.getElem?_eq_getElem hi] at h
  exact ⟨_,List.getElem_mem hi,h⟩
 ·rintro ⟨b,hb,h⟩
  obtain ⟨i,hi,rfl⟩:=List.mem_iff_getElem.mp hb
  exact ⟨i,hi,by rw [List.getD_eq_getElem?_getD,List.getElem?_eq_getElem hi];exact h⟩
theorem q6q {P:Program} {w:World} {A:Around} (bs:List Bool):TruthOf P w A (λi v=>(bs.map Value.bool).toArray[i]?=some v) (λi=>bs.getD i false):=λi v s Q E hP hQ=>by
 have hP:((bs.map Value.bool)[i]?)=some v:=by rw [<-hP];simp
 rw [List.getElem?_map] at hP
 cases q:bs[i]? with
 | none=>rw [q] at hP;cases hP
 | some b=>
  rw [q] at hP
  obtain rfl:Value.bool b=v:=Option.some.inj hP
  have hQ:Q (bs.getD i false) s:=hQ
  rw [List.getD_eq_getElem?_getD,q] at hQ
  exact wpAny_truthy_bool hQ
theorem j1Y (hc:X.calm=true):q2n X (.builtin "all") (λxs H Q=>∃(a:Addr) (bs:List Bool),xs=[.ref a]/\SqL X.K H a (bs.map V.bl)/\Q (.bl (bs.all id)) H):=by
 intro pins s σ H xs us Q I rv h
 obtain ⟨a,bs,rfl,hq,q⟩:=h
 obtain ⟨u,rfl,ru⟩:=rv.one
 cases ru
 obtain ⟨its,r,pl,hz⟩:=I.list hq
 obtain rfl:=q5z r
 have ha:a≠s.heap.objs.size:=by
  obtain ⟨o,ho,_⟩:=pl.isList
  exact Nat.ne_of_lt (Heap.lt_size ho)
 have W:=Walks.list (prog:=X.prog) (w:=X.w) (A:=X.A.in1) (show X.A.in1.handled=none from I.ok.hd hc) s.heap.objs.size a ha (bs.map Value.bool).toArray
 refine call_all_walk (wpAny_pyIter_list pl.isList ⟨_,_,_,_,_,_,λi=>bs.getD i false,rfl,W,⟨⟨_,Heap.get?_push_size _ rfl,rfl,rfl⟩,?_⟩,q6q bs,λh' tk hk=>?_⟩)
 ·obtain ⟨o,ho,r'⟩:=pl.isList
  exact ⟨o,Heap.get?_push_of_some _ ho,r'⟩
 ·have I2:=Inv.walked (s:=s) (tk:=tk) I hk
  refine ⟨.bl (bs.all id),H,I2,?_,q⟩
  rw [List.size_toArray,List.length_map,j0q]
  rfl
theorem j1p (hc:X.calm=true):q2n X (.builtin "any") (λxs H Q=>∃(a:Addr) (bs:List Bool),xs=[.ref a]/\SqL X.K H a (bs.map V.bl)/\Q (.bl (bs.any id)) H):=by
 intro pins s σ H xs us Q I rv h
 obtain ⟨a,bs,rfl,hq,q⟩:=h
 obtain ⟨u,rfl,ru⟩:=rv.one
 cases ru
 obtain ⟨its,r,pl,hz⟩:=I.list hq
 obtain rfl:=q5z r
 have ha:a≠s.heap.objs.size:=by
  obtain ⟨o,ho,_⟩:=pl.isList
  exact Nat.ne_of_lt (Heap.lt_size ho)
 have W:=Walks.list (prog:=X.prog) (w:=X.w) (A:=X.A.in1) (show X.A.in1.handled=none from I.ok.hd hc) s.heap.objs.size a ha (bs.map Value.bool).toArray
 refine call_any_walk (wpAny_pyIter_list pl.isList ⟨_,_,_,_,_,_,λi=>bs.getD i false,rfl,W,⟨⟨_,Heap.get?_push_size _ rfl,rfl,rfl⟩,?_⟩,q6q bs,λh' tk hk=>?_⟩)
 ·obtain ⟨o,ho,r'⟩:=pl.isList
  exact ⟨o,Heap.get?_push_of_some _ ho,r'⟩
 ·have I2:=Inv.walked (s:=s) (tk:=tk) I hk
  refine ⟨.bl (bs.any id),H,I2,?_,q⟩
  rw [List.size_toArray,List.length_map,j05]
  rfl
noncomputable def isum:List Int->Int
 | []=>0
 | i::is=>i+isum is
theorem q3c (is:List Int):∀j,j<=is.length->preSum (λi=>is.getD i 0) j=isum (is.take j):=by
 intro j
 induction j with
 | zero=>intro _;simp [preSum,isum]
 | succ j ih=>
  intro h
  rw [preSum,ih (by omega)]
  have e:is.take (j+1)=is.take j++[is.getD j 0]:=by
   rw [List.take_succ_eq_append_getElem (by omega),List.getD_eq_getElem?_getD,List.getElem?_eq_getElem (by omega)]
   rfl
  rw [e]
  have:∀(xs:List Int) (y:Int),isum (xs++[y])=isum xs+y:=by
   intro xs y
   induction xs with
   | nil=>simp [isum]
   | cons x xs ih=>simp [isum,ih];omega
  rw [this]
theorem q6E:∀{is:List Int} {us:List Value},Vals (is.map V.int) us->us.length=is.length/\∀(i:Nat) (v:Value),us[i]?=some v->∃t,v=.int (is.getD i 0) t
 | [],_,.nil=>⟨rfl,λi v e=>by simp at e⟩
 | j::is,_,.cons r t=>by
  obtain ⟨l,g⟩:=q6E t
  refine ⟨by simp [l],λi v e=>?_⟩
  cases i with
  | zero=>
   obtain ⟨tk,rfl⟩:=r
   cases e
   exact ⟨tk,rfl⟩
  | succ i=>exact g i v e
theorem j1Q (hc:X.calm=true):q2n X (.builtin "sum") (λxs H Q=>∃(a:Addr) (is:List Int),xs=[.ref a]/\SqL X.K H a (is.map V.int)/\(∀j,j < is.length->InLong (is.getD j 0)/\InLong (isum (is.take (j+1))))/\Q (.int (isum is)) H):=by
 intro pins s σ H xs us Q I rv h
 obtain ⟨a,is,rfl,hq,hf,q⟩:=h
 obtain ⟨u,rfl,ru⟩:=rv.one
 cases ru
 obtain ⟨its,r,pl,hz⟩:=I.list hq
 obtain ⟨hl,hg⟩:=q6E r
 have ha:a≠s.heap.objs.size:=by
  obtain ⟨o,ho,_⟩:=pl.isList
  exact Nat.ne_of_lt (Heap.lt_size ho)
 have hlt:a < s.heap.objs.size:=by
  obtain ⟨o,ho,_⟩:=pl.isList
  exact Heap.lt_size ho
 have W:=Walks.list (prog:=X.prog) (w:=X.w) (A:=X.A.in1) (show X.A.in1.handled=none from I.ok.hd hc) s.heap.objs.size a ha its.toArray
 refine call_sum_walk (wpAny_pyIter_list pl.isList ⟨_,_,_,_,_,_,λi=>is.getD i 0,rfl,W,⟨⟨_,Heap.get?_push_size _ rfl,rfl,rfl⟩,?_⟩,?_,?_,?_,λh' tk t' hk=>?_⟩)
 ·obtain ⟨o,ho,r'⟩:=pl.isList
  exact ⟨o,Heap.get?_push_of_some _ ho,r'⟩
 ·intro b hb
  show b < (s.heap.push _).objs.size
  rw [Heap.size_push]
  simp only [List.mem_cons,List.not_mem_nil,or_false] at hb
  rcases hb with rfl | rfl
  ·exact Nat.lt_succ_self _
  ·exact Nat.lt_succ_of_lt hlt
 ·intro i v e
  exact hg i v (by rw [<-e];simp)
 ·intro j hj
  rw [List.size_toArray,hl] at hj
  rw [q3c is (j+1) hj]
  exact hf j hj
 ·have I2:=Inv.walked (s:=s) (tk:=tk) I hk
  refine ⟨.int (isum is),H,I2,⟨t',?_⟩,q⟩
  rw [List.size_toArray,hl,q3c is is.length (Nat.le_refl _),List.take_length]
end
section
variable {T:Tb} {X:Cx}
noncomputable def j1a:List D->Option (List Bool)
 | []=>some []
 | .bl b::ds=>(match j1a ds with | some bs=>some (b::bs) | none=>none)
 | _=>none
theorem q4d {K:PySem.W.Frag} {H:Hp}:∀{ds:List D} {bs:List Bool} {vs:List V},j1a ds=some bs->RepL T K H ds vs->vs=bs.map V.bl
 | [],bs,vs,h,r=>by cases h;exact r
 | d::ds,bs,vs,h,r=>by
  cases d with
  | bl b=>
   have h:(match j1a ds with | some bs=>some (b::bs) | none=>none)=some bs:=h
   cases q:j1a ds with
   | none=>rw [q] at h;cases h
   | some bs'=>
    rw [q] at h;cases h
    obtain ⟨v,r',rfl,r1,r2⟩:=r
    rw [q4d q r2,show v=V.bl b from r1];rfl
  | _=>cases h
noncomputable def q25:List D->Option (List Int)
 | []=>some []
 | .int b::ds=>(match q25 ds with | some bs=>some (b::bs) | none=>none)
 | _=>none
theorem q2Q {K:PySem.W.Frag} {H:Hp}:∀{ds:List D} {bs:List Int} {vs:List V},q25 ds=some bs->RepL T K H ds vs->vs=bs.map V.int
 | [],bs,vs,h,r=>by cases h;exact r
 | d::ds,bs,vs,h,r=>by
  cases d with
  | int b=>
   have h:(match q25 ds with | some bs=>some (b::bs) | none=>none)=some bs:=h
   cases q:q25 ds with
   | none=>rw [q] at h;cases h
   | some bs'=>
    rw [q] at h;cases h
    obtain ⟨v,r',rfl,r1,r2⟩:=r
    rw [q2Q q r2,show v=V.int b from r1];rfl
  | _=>cases h
noncomputable def j6y:List D->Out D
 | [.lst ds]=>(match j1a ds with | some bs=>.ok (.bl (bs.all id)) | none=>.bad)
 | _=>.bad
noncomputable def j7v:List D->Out D
 | [.lst ds]=>(match j1a ds with | some bs=>.ok (.bl (bs.any id)) | none=>.bad)
 | _=>.bad
theorem j86 (hc:X.calm=true):CaD T X (.builtin "all") j6y:=λE=>⟨_,j1Y hc,λds vs σ H Q r h=>by
 unfold j6y at h
 split at h
 ·rename_i ds'
  obtain ⟨v,rfl,a,ws,rfl,fz,rl⟩:=r.one
  cases q:j1a ds' with
  | none=>rw [q] at h;exact h.elim
  | some bs=>
   rw [q] at h
   obtain rfl:=q4d q rl
   exact ⟨a,bs,rfl,fz.sq,h _ H (Same.refl H) rfl⟩
 ·exact h.elim⟩
theorem j6B (hc:X.calm=true):CaD T X (.builtin "any") j7v:=λE=>⟨_,j1p hc,λds vs σ H Q r h=>by
 unfold j7v at h
 split at h
 ·rename_i ds'
  obtain ⟨v,rfl,a,ws,rfl,fz,rl⟩:=r.one
  cases q:j1a ds' with
  | none=>rw [q] at h;exact h.elim
  | some bs=>
   rw [q] at h
   obtain rfl:=q4d q rl
   exact ⟨a,bs,rfl,fz.sq,h _ H (Same.refl H) rfl⟩
 ·exact h.elim⟩
noncomputable def q6a (is:List Int):Bool:=decide (is.length<=1000) && is.all λi=>decide (-1000000000<=i) && decide (i<=1000000000)
theorem j0Q:∀(is:List Int),(∀i∈is,-1000000000<=i/\i<=1000000000)->-(1000000000*(is.length:Int))<=isum is/\isum is<=1000000000*(is.length:Int)
 | [],_=>by simp [isum]
 | i::is,h=>by
  have h1:=j0Q is λj hj=>h j (by simp [hj])
  have h2:=h i (by simp)
  simp only [isum,List.length_cons,Int.natCast_add,Int.natCast_one]
  omega
theorem q7w {is:List Int} (h:q6a is=true):∀j,j < is.length->InLong (is.getD j 0)/\InLong (isum (is.take (j+1))):=by
 unfold q6a at h
 simp only [Bool.and_eq_true,decide_eq_true_eq,List.all_eq_true] at h
 intro j hj
 constructor
 ·rw [List.getD_eq_getElem?_getD,List.getElem?_eq_getElem hj]
  have:=h.2 _ (List.getElem_mem hj)
  unfold InLong
  show _<=is[j]/\is[j] < _
  omega
 ·have:=j0Q (is.take (j+1)) λi hi=>h.2 i (List.mem_of_mem_take hi)
  have l:(is.take (j+1)).length<=1000:=by rw [List.length_take];omega
  unfold InLong
  omega
noncomputable def q8h:List D->Out D
 | [.lst ds]=>(match q25 ds with | some is=>if q6a is=true then .ok (.int (isum is)) else .bad | none=>.bad)
 | _=>.bad
theorem q9n (hc:X.calm=true):CaD T X (.builtin "sum") q8h:=λE=>⟨_,j1Q hc,λds vs σ H Q r h=>by
 unfold q8h at h
 split at h
 ·rename_i ds'
  obtain ⟨v,rfl,a,ws,rfl,fz,rl⟩:=r.one
  cases q:q25 ds' with
  | none=>rw [q] at h;exact h.elim
  | some is=>
   rw [q] at h
   have h:Acc T X E σ H (if q6a is=true then .ok (.int (isum is)) else .bad) (kE T X.K H Q):=h
   by_cases c:q6a is=true
   ·rw [if_pos c] at h
    obtain rfl:=q2Q q rl
    exact ⟨a,is,rfl,fz.sq,q7w c,h _ H (Same.refl H) rfl⟩
   ·rw [if_neg c] at h;exact h.elim
 ·exact h.elim⟩
noncomputable def q2L:D->Option V
 | .non=>some .non
 | .bl b=>some (.bl b)
 | .int i=>some (.int i)
 | .str x=>some (.str x)
 | _=>none
theorem q2S {K:PySem.W.Frag} {H:Hp} {d:D} {v w:V} (h:q2L d=some w) (r:Rep T K H d v):v=w/\q2J w=true:=by
 cases d<;>first | (cases h;done) | (cases h;exact ⟨r,rfl⟩)
noncomputable def q1e:List D->Option (List V)
 | []=>some []
 | d::ds=>(match q2L d,q1e ds with | some v,some vs=>some (v::vs) | _,_=>none)
theorem q2v {K:PySem.W.Frag} {H:Hp}:∀{ds:List D} {vs ws:List V},q1e ds=some ws->RepL T K H ds vs->vs=ws/\ws.all q2J=true
 | [],vs,ws,h,r=>by cases h;exact ⟨r,rfl⟩
 | d::ds,vs,ws,h,r=>by
  rw [q1e] at h
  cases q1:q2L d with
  | none=>rw [q1] at h;cases h
  | some v=>
   cases q2:q1e ds with
   | none=>rw [q1,q2] at h;cases h
   | some vs'=>
    rw [q1,q2] at h;cases h
    obtain ⟨v',r',rfl,r1,r2⟩:=r
    obtain ⟨e1,e2⟩:=q2v q2 r2
    obtain ⟨e3,e4⟩:=q2S q1 r1
    rw [e1,e3]
    exact ⟨rfl,by rw [List.all_cons,e4,e2];rfl⟩
noncomputable def inD (neg:Bool):D->D->Out D
 | .str i,.str j=>.ok (.bl (if neg then !(!(Builtin.Str.occurrences j i 0 j.length 1).isEmpty) else (!(Builtin.Str.occurrences j i 0 j.length 1).isEmpty)))
 | d,.lst ds=>(match q2L d,q1e ds with | some x,some xs=>.ok (.bl (if neg then !inV x xs else inV x xs)) | _,_=>.bad)
 | d,.tup ds=>(match q2L d,q1e ds with | some x,some xs=>.ok (.bl (if neg then !inV x xs else inV x xs)) | _,_=>.bad)
 | _,_=>.bad
theorem j30 (neg:Bool) (op:CmpOp) (h1:∀E,OpR (X.wish E) (compareOp op) (λx y H Q=>∃i j,x=.str i/\y=.str j/\Q (.bl (if neg then !(!(Builtin.Str.occurrences j i 0 j.length 1).isEmpty) else (!(Builtin.Str.occurrences j i 0 j.length 1).isEmpty))) H))
 (h2:∀E,OpR (X.wish E) (compareOp op) (rIn X.K neg)):OpD T X (compareOp op) (inD neg):=λE=>⟨_,OpR.or (h1 E) (h2 E),λdx dy x y σ H Q rx ry q=>by
 cases dy with
 | str j=>
  cases dx with
  | str i=>exact .inl ⟨i,j,rx,ry,q _ H (Same.refl H) rfl⟩
  | _=>exact q.elim
 | lst ds=>
  right
  have q:Acc T X E σ H (match q2L dx,q1e ds with | some x,some xs=>.ok (.bl (if neg then !inV x xs else inV x xs)) | _,_=>.bad) (kE T X.K H Q):=by cases dx<;>exact q
  cases q1:q2L dx with
  | none=>rw [q1] at q;exact q.elim
  | some v=>
   cases q2:q1e ds with
   | none=>rw [q1,q2] at q;exact q.elim
   | some vs=>
    rw [q1,q2] at q
    obtain ⟨a,ws,rfl,fz,rl⟩:=ry
    obtain ⟨rfl,f2⟩:=q2v q2 rl
    obtain ⟨rfl,f1⟩:=q2S q1 rx
    exact ⟨a,_,rfl,.inl fz.sq,f1,f2,q _ H (Same.refl H) rfl⟩
 | tup ds=>
  right
  have q:Acc T X E σ H (match q2L dx,q1e ds with | some x,some xs=>.ok (.bl (if neg then !inV x xs else inV x xs)) | _,_=>.bad) (kE T X.K H Q):=by cases dx<;>exact q
  cases q1:q2L dx with
  | none=>rw [q1] at q;exact q.elim
  | some v=>
   cases q2:q1e ds with
   | none=>rw [q1,q2] at q;exact q.elim
   | some vs=>
    rw [q1,q2] at q
    obtain ⟨a,ws,rfl,fz,rl⟩:=ry
    obtain ⟨rfl,f2⟩:=q2v q2 rl
    obtain ⟨rfl,f1⟩:=q2S q1 rx
    exact ⟨a,_,rfl,.inr fz,f1,f2,q _ H (Same.refl H) rfl⟩
 | _=>cases dx<;>exact q.elim⟩
theorem w0M:OpD T X (compareOp .In) (inD false):=j30 false .In (λE=>q8M) λE=>q9u
theorem q6Z:OpD T X (compareOp .NotIn) (inD true):=j30 true .NotIn (λE=>q5p) λE=>q4M
end
section
variable {X:Cx}
theorem j0T:∀{xs:List V} {us:List Value},Vals xs us->∀(j:Nat) (h:j < us.length),RelV (xs.getD j .non) us[j]
 | _,_,.nil,j,h=>by simp at h
 | _,_,.cons r t,0,_=>r
 | _,_,.cons r t,j+1,h=>by
  have:=j0T t j (by simpa using h)
  simpa using this
theorem q8Z:∀{xs:List V},xs.all q2J=true->∀j,q2J (xs.getD j .non)=true
 | [],_,j=>by simp [q2J]
 | x::xs,h,0=>by rw [List.all_cons,Bool.and_eq_true] at h;exact h.1
 | x::xs,h,j+1=>by
  rw [List.all_cons,Bool.and_eq_true] at h
  simpa using q8Z h.2 j
end
section
variable {T:Tb} {X:Cx} {x:Str} {pos:Pos}
noncomputable def j5k (K:PySem.W.Frag) (mg:Str->Option Value) (x:Str) (ds:List D):Prop:=∃(a:Addr) (vs:List V),mg x=some (.ref a)/\(∀H,SqT K H a vs)/\q1e ds=some vs
theorem q5c {K:PySem.W.Frag} {H:Hp}:∀{ds:List D} {vs:List V},q1e ds=some vs->RepL T K H ds vs
 | [],vs,h=>by cases h;exact rfl
 | d::ds,vs,h=>by
  rw [q1e] at h
  cases q1:q2L d with
  | none=>rw [q1] at h;cases h
  | some v=>
   cases q2:q1e ds with
   | none=>rw [q1,q2] at h;cases h
   | some ws=>
    rw [q1,q2] at h
    cases h
    refine ⟨v,ws,rfl,?_,q5c q2⟩
    cases d<;>first | (cases q1;done) | (cases q1;exact rfl)
theorem j2u {ds:List D} (hg:Gl X x) (h:j5k X.K X.mg x ds) (hd:(x==("__debug__" : Str))=false:=by decide):DE T X (.Name x pos) (eC (.tup ds)):=by
 obtain ⟨a,vs,hm,sq,hf⟩:=h
 exact q6b (v:=.ref a) hg hm rfl (λH=>⟨a,vs,rfl,sq H,q5c hf⟩) hd
theorem j2A {K:PySem.W.Frag} {mg:Str->Option Value} {a:Addr} {od:Option Addr} {its:Array Value} {n:Nat} {sl:Array (Option Value)} {ds:List D} {vs:List V} (hm:mg x=some (.ref a)) (hk:K.lookup a=some ⟨.type "tuple",od,.seq its n,sl⟩)
 (hz:its.size<=1000000) (hv:Vals vs its.toList) (hf:q1e ds=some vs):j5k K mg x ds:=
 ⟨a,vs,hm,λH=>.inr ⟨_,its,n,hk,rfl,rfl,line6 hz,hv⟩,hf⟩
structure w07 (K:PySem.W.Frag) (x qual:Str) (st:Stmt) (f:Addr) (fd:FuncData):Prop where
 ex:∃(oc:Value) (od:Option Addr) (dV kV doc pm:Value) (an:Option Addr) (cdv ct:Value) (osl:Array (Option Value)),
  fd=PySem.W.fnOf x qual (q1Y st) (q1D st) (q0j st) dV kV doc pm an cdv ct/\K.lookup f=some ⟨oc,od,.func fd,osl⟩/\PySem.W.codeIn K cdv qual=true
 kp:PySem.W.keepIn K (.ref f)=true
theorem q8Q {K:PySem.W.Frag} {x qual:Str} {st:Stmt} {f:Addr} {oc:Value} {od an:Option Addr} {osl:Array (Option Value)} {dV kV doc pm cdv ct:Value} (l:K.lookup f=some ⟨oc,od,.func (PySem.W.fnOf x qual (q1Y st) (q1D st) (q0j st) dV kV doc pm an cdv ct),osl⟩)
 (c:PySem.W.codeIn K cdv qual=true) (k:PySem.W.keepIn K (.ref f)=true):w07 K x qual st f (PySem.W.fnOf x qual (q1Y st) (q1D st) (q0j st) dV kV doc pm an cdv ct):=⟨⟨oc,od,dV,kV,doc,pm,an,cdv,ct,osl,rfl,l,c⟩,k⟩
theorem q34 {K:PySem.W.Frag} {fd:FuncData} {ps:List Str} {ds:List Value} {dt:Addr} {oc:Value} {od:Option Addr} {items:Array Value} {n:Nat} {sl:Array (Option Value)} (hd:fd.defaults=.ref dt) (lk:K.lookup dt=some ⟨oc,od,.seq items n,sl⟩)
 (m:Nat) (hm:m+ds.length=ps.length) (h:∀us:List Value,us.length=m->∃k,bindArgs fd ⟨us,[]⟩=seqItems? fd.defaults >>= k/\k (some items)=pure (ps.zip (us++ds))):Binds K fd ps ds:=λs us kin hl=>by
 obtain ⟨k,h1,h2⟩:=h us (by rw [List.length_append] at hl;omega)
 exact BindsTo.of_defaults hd (kin dt _ lk) rfl h1 h2
end
end L3
namespace L3
open PySem L2
theorem j06 {X:Cx} {scope:Scope} {x:Str} (ys:List Str) (caps:List Nat) (hk:scope.kind=.function:=by rfl) (own:scope.names.lookup x=some .local:=by rfl)
 (h:(scope.names.all λy=>!(y.2==.cell) && (!(y.2==.local) || scope.names.lookup y.1==some .local))=true:=by decide +kernel) (hf:(scope.names.all λy=>!(y.2==.free) || X.env.kindOf y.1==some .cell)=true:=by rfl)
 (hn:(x::ys).Nodup:=by decide) (hl:caps.length=ys.length:=by rfl)
 (hc:∀(j:Nat) (y:Str) (i:Nat),ys[j]?=some y->caps[j]?=some i->X.N[i]?=some y/\X.env.kindOf y=some .cell/\scope.names.lookup y=some .free):Cap X scope x ys caps where
 kind:=hk
 own:=own
 nocell:=λy hy e=>by
  have:=List.all_eq_true.mp h y hy
  rw [e] at this;simp at this
 names:=λy hy e=>by
  have:=List.all_eq_true.mp h y hy
  rw [e] at this;simpa using this
 free:=λy hy e=>by
  have:=List.all_eq_true.mp hf y hy
  rw [e] at this;exact .inl (by simpa using this)
 nodup:=hn
 len:=hl
 cap:=λj y i e1 e2=>let ⟨a,b,c⟩:=hc j y i e1 e2;⟨a,.inl b,c⟩
theorem cap0 {X:Cx} {scope:Scope} {x:Str} (hk:scope.kind=.function:=by rfl) (own:scope.names.lookup x=some .local:=by rfl)
 (h:(scope.names.all λy=>!(y.2==.cell) && !(y.2==.free) && (!(y.2==.local) || scope.names.lookup y.1==some .local))=true:=by decide +kernel):Cap X scope x [] [] where
 kind:=hk
 own:=own
 nocell:=λy hy e=>by
  have:=List.all_eq_true.mp h y hy
  rw [e] at this;simp at this
 names:=λy hy e=>by
  have:=List.all_eq_true.mp h y hy
  rw [e] at this;simpa using this
 free:=λy hy e=>by
  have:=List.all_eq_true.mp h y hy
  rw [e] at this;simp at this
 nodup:=by simp
 len:=rfl
 cap:=λj y i e1 _=>by simp at e1
theorem q2p {X:Cx} {scope:Scope}:∀(j:Nat) (y:Str) (i:Nat),([]:List Str)[j]?=some y->([]:List Nat)[j]?=some i->X.N[i]?=some y/\X.env.kindOf y=some .cell/\scope.names.lookup y=some .free:=λj y i e _=>by simp at e
theorem q1f {X:Cx} {scope:Scope} {y0:Str} {ys:List Str} {i0:Nat} {caps:List Nat} (h1:X.N[i0]?=some y0) (h2:X.env.kindOf y0=some .cell) (h3:scope.names.lookup y0=some .free)
 (h:∀(j:Nat) (y:Str) (i:Nat),ys[j]?=some y->caps[j]?=some i->X.N[i]?=some y/\X.env.kindOf y=some .cell/\scope.names.lookup y=some .free) :
 ∀(j:Nat) (y:Str) (i:Nat),(y0::ys)[j]?=some y->(i0::caps)[j]?=some i->X.N[i]?=some y/\X.env.kindOf y=some .cell/\scope.names.lookup y=some .free:=λj y i e1 e2=>by
 cases j with
 | zero=>cases e1;cases e2;exact ⟨h1,h2,h3⟩
 | succ j=>exact h j y i e1 e2
theorem vcS {z:Str} {k:Tok} {xs:List V} {us:List Value} (h:Vals xs us):Vals (.str z::xs) (.str z k::us):=.cons ⟨k,rfl⟩ h
end L3
namespace L3
open PySem PySem.Spec PyProof.Rows L2
theorem q2l {m:Str}:∀{fs:List (Str×V)},m∉fs.map (·.1)->fs.lookup m=none
 | [],_=>rfl
 | (n,v)::fs,h=>by
  simp only [List.map_cons,List.mem_cons,not_or] at h
  rw [List.lookup_cons,show (m==n)=false by simpa using h.1]
  exact q2l h.2
section
variable {T:Tb} {X:Cx} {e o:Expr} {es:List Expr} {m:Str} {pos apos:Pos} {fo:Ev} {fs:Ro->Out (List Sl)} {F:Fn} {k n c:Nat} {f:Addr} {fd:FuncData} {ps:List Str}
@[simp] noncomputable def q6W (c:Nat) (F:Fn) (fo:Ev) (ρ:Ro):Out Rv:=(fo ρ).bind λd=>match d with
 | .ins c' xs=>if c'=c then F [.sh (.ins c' xs)] else .bad
 | _=>.bad
theorem q4p {pl:Sem Bool} (he:DE T X o fo) (cls:Cls X.K (T.ca c)) (hm:Meth X.K (T.ca c) m f) (hmf:m∉T.fl c) (FO:q1j X.prog X.w X.K X.mg X.base (CXE T X.prog X.w) k f fd ps (spD T X.K ps.length F)) (hr:Room k X.A) (hb:Binds X.K fd ps []) (hn:ps.length=1)
 (ht:eval (.Call (.Attribute o m apos) [] [] pos) X.env=(do
  let ov <-eval o X.env
  standAt apos.atName
  let (f,first) <-holding [ov] (getMethod ov m pl)
  callWith pos f first (backTo pos (starEach [] X.env)) (backToKw pos (keywordEach [] X.env))):=by rfl) :
 DR T X (.Call (.Attribute o m apos) [] [] pos) (q6W c F fo):=.mk λG E hp=>by
 rintro pins s σ H Q I ⟨ρ,fr,h⟩
 refine PySem.W.methodCall_KW (pl:=pl) (thn (he.run G E hp pins s σ H (λx H1=>∃ds,Same H H1/\Rep T X.K H1 (.ins c ds) x/\Acc T X E σ H1 (F [.sh (.ins c ds)]) (λr=>∀v H',Same H1 H'->q5J T X.K H1 H' v r->Q v H')) I ⟨ρ,fr,?_⟩) λu s1 ⟨x,H1,I1,rx,ds,sm,rp,q⟩=>?_) ht
 ·refine Acc.mono (Acc.bind h) λd _ hd v H1 s1 r1=>?_
  cases d with
  | ins c' xs=>
   have hd:Acc T X E σ H (if c'=c then F [.sh (.ins c' xs)] else .bad) _:=hd
   by_cases hc:c'=c
   ·subst hc
    rw [if_pos rfl] at hd
    exact ⟨xs,s1,r1,Acc.mono (Acc.heap s1 hd) λr _ hr' v H' s2 r2=>hr' v H' (s1.trans s2) (q3R s1 r2)⟩
   ·rw [if_neg hc] at hd;exact hd.elim
  | _=>exact hd.elim
 ·obtain ⟨a,dx,fl,rfl,ha,hf,rl⟩:=id rp
  obtain rfl:u=Value.ref a:=rx
  refine q3S (X:=X.wish E) I1 ha cls hm (q2l (by rw [hf];exact hmf)) ?_
  exact PySem.W.callWith_K0 (first:=[.ref a]) I1.kIn hm.kp (j6j (X:=X) (us:=[.ref a]) (vs:=[.ref a]) (dvs:=[]) (ds:=[]) (ss:=[.sh (.ins c ds)]) FO hr hb .nil I1 (.cons rfl .nil) (show ArgsOk T X.K H1 [.ref a] [.sh (.ins c ds)] from ⟨_,[],rfl,rp,rfl⟩) (by simp [hn]) q)
@[simp] noncomputable def j5A (c:Nat) (F:Fn) (fo:Ev) (fs:Ro->Out (List Sl)) (ρ:Ro):Out Rv:=(fo ρ).bind λd=>match d with
 | .ins c' xs=>if c'=c then (fs ρ).bind λss=>if ss.length+1=n then F (.sh (.ins c' xs)::ss) else .bad else .bad
 | _=>.bad
theorem j0x {pl:Sem Bool} (he:DE T X o fo) (cls:Cls X.K (T.ca c)) (hm:Meth X.K (T.ca c) m f) (hmf:m∉T.fl c) (FO:q1j X.prog X.w X.K X.mg X.base (CXE T X.prog X.w) k f fd ps (spD T X.K ps.length F)) (hr:Room k X.A) (hb:Binds X.K fd ps []) (hn:n=ps.length) (ha:DG T X (e::es) fs)
 (hst:starEach (e::es) X.env=(false,eval e X.env)::starEach es X.env:=by exact q0D rfl) (hpl:(backTo pos (starEach es X.env)).any (·.1)=false:=by exact q0J rfl)
 (ht:eval (.Call (.Attribute o m apos) (e::es) [] pos) X.env=(do
  let ov <-eval o X.env
  standAt apos.atName
  let (f,first) <-holding [ov] (getMethod ov m pl)
  callWith pos f first (backTo pos (starEach (e::es) X.env)) (backToKw pos (keywordEach [] X.env))):=by rfl) :
 DR T X (.Call (.Attribute o m apos) (e::es) [] pos) (j5A (n:=n) c F fo fs):=.mk λG E hp=>by
 rintro pins s σ H Q I ⟨ρ,fr,h⟩
 refine PySem.W.methodCall_KW (pl:=pl) (thn (he.run G E hp pins s σ H (λx H1=>∃ds,Same H H1/\Rep T X.K H1 (.ins c ds) x/\Acc T X E σ H1 ((fs ρ).bind λss=>if ss.length+1=n then F (.sh (.ins c ds)::ss) else .bad) (λr=>∀v H',Same H1 H'->q5J T X.K H1 H' v r->Q v H')) I ⟨ρ,fr,?_⟩) λu s1 ⟨x,H1,I1,rx,ds,sm,rp,q⟩=>?_) ht
 ·refine Acc.mono (Acc.bind h) λd _ hd v H1 s1 r1=>?_
  cases d with
  | ins c' xs=>
   have hd:Acc T X E σ H (if c'=c then (fs ρ).bind λss=>if ss.length+1=n then F (.sh (.ins c' xs)::ss) else .bad else .bad) _:=hd
   by_cases hc:c'=c
   ·subst hc
    rw [if_pos rfl] at hd
    exact ⟨xs,s1,r1,Acc.mono (Acc.heap s1 hd) λr _ hr' v H' s2 r2=>hr' v H' (s1.trans s2) (q3R s1 r2)⟩
   ·rw [if_neg hc] at hd;exact hd.elim
  | _=>exact hd.elim
 ·obtain ⟨a,dx,fl,rfl,ha',hf,rl⟩:=id rp
  obtain rfl:u=Value.ref a:=rx
  refine q3S (X:=X.wish E) I1 ha' cls hm (q2l (by rw [hf];exact hmf)) ?_
  refine PySem.W.callWith_K (first:=[.ref a]) (h₀:=X.base) I.ok.mod.kin hm.kp (thn (ha.run G E hp pos pins s1 σ H1 (λvs H2=>∃ss,ArgsOk T X.K H2 vs ss/\ss.length+1=n/\Same H1 H2/\Acc T X E σ H2 (F (.sh (.ins c ds)::ss)) (λr=>∀v H',Same H2 H'->q5J T X.K H2 H' v r->Q v H')) I1 ⟨ρ,fr.mono sm,?_⟩) λus s2 ⟨vs,H2,I2,r,ss,ha2,hl2,s2',q2⟩=>⟨I2.kIn,?_⟩) hst hpl
  ·refine Acc.mono (Acc.bind q) λss _ hss vs H2 s2 r2=>?_
   by_cases hl:ss.length+1=n
   ·rw [if_pos hl] at hss
    exact ⟨ss,r2,hl,s2,Acc.mono (Acc.heap s2 hss) λr _ hr' v H' s3 r3=>hr' v H' (s2.trans s3) (q3R s2 r3)⟩
   ·rw [if_neg hl] at hss;exact hss.elim
  ·have la:=ArgsOk.length ss vs ha2
   have lr:=r.length
   exact j6j (X:=X) (us:=.ref a::us) (vs:=.ref a::vs) (dvs:=[]) (ds:=[]) FO hr hb .nil I2 (.cons rfl r) (by rw [List.append_nil];exact ⟨_,vs,rfl,Rep.mono s2' _ _ rp,ha2⟩) (by simp only [List.length_append,List.length_cons,List.length_nil];omega) q2
end
open Sem (wp)
theorem q7O:typeLookup (.type "str") "__int__" = pure none:=by rw [typeLookup_type,builtinLookup_eq_fast];kernel_rfl
theorem q5x:typeLookup (.type "str") "__index__" = pure none:=by rw [typeLookup_type,builtinLookup_eq_fast];kernel_rfl
theorem q5e:typeLookup (.type "str") "__trunc__" = pure none:=by rw [typeLookup_type,builtinLookup_eq_fast];kernel_rfl
noncomputable def dgV (c:Nat):Option Nat:=
 if 48<=c && c<=57 then some (c-48)
 else if 97<=c && c<=122 then some (c-87)
 else if 65<=c && c<=90 then some (c-55)
 else none
noncomputable def blk (c:Nat):Bool:=c==32 || (9<=c && c<=13)
noncomputable def dgS (base:Nat) (cs:List Nat):Option (Array Nat):=do
 let (ds,afterDigit) <-cs.foldlM (init:=((#[]:Array Nat),false)) λ(ds,afterDigit) c=>
  if c==95 then (if afterDigit then some (ds,false) else none)
  else match dgV c with
   | some d=>if d < base then some (ds.push d,true) else none
   | none=>none
 if afterDigit then some ds else none
noncomputable def pfx:List Nat->Option Nat
 | 48::c::_=>
  if c==120 || c==88 then some 16 else if c==111 || c==79 then some 8 else if c==98 || c==66 then some 2 else none
 | _=>none
noncomputable def sgn (t:List Nat):Bool×List Nat:=match t with
 | 45::r=>(true,r)
 | 43::r=>(false,r)
 | _=>(false,t)
noncomputable def pr2 (t:List Nat):List Nat:=match t.drop 2 with
 | 95::r=>r
 | r=>r
noncomputable def rdN {N:Type} (inv:N) (tl:Nat->N) (lib:N) (val:Int->N) (limit base:Nat) (text:List Nat):N:=
 let t:=text.dropWhile blk
 let (negative,t):=sgn t
 let afterPrefix:=pr2 t
 let (b,zeroOnly,t):=match pfx t with
  | some p=>if base==0 || base==p then (p,false,afterPrefix) else (base,false,t)
  | none=>if base==0 then (10,t.head?==some 48,t) else (base,false,t)
 match dgS b (t.reverse.dropWhile blk).reverse with
 | none=>inv
 | some ds=>
  if ![2,4,8,16,32].contains b && limit != 0 && ds.size > limit then tl ds.size else
  if b==10 && ds.size > 6000 then lib else
  let n:=ds.foldl (λacc d=>acc*b+d) 0
  if zeroOnly && n != 0 then inv else val (if negative then -(n:Int) else n)
noncomputable def rd0 {N:Type} (inv:N) (tl:Nat->N) (lib:N) (val:Int->N) (limit base:Nat) (text:List Nat):N:=
 let t:=text.dropWhile blk
 let (negative,t):=match t with
  | 45::r=>(true,r)
  | 43::r=>(false,r)
  | _=>(false,t)
 let afterPrefix:=match t.drop 2 with
  | 95::r=>r
  | r=>r
 let (b,zeroOnly,t):=match pfx t with
  | some p=>if base==0 || base==p then (p,false,afterPrefix) else (base,false,t)
  | none=>if base==0 then (10,t.head?==some 48,t) else (base,false,t)
 match dgS b (t.reverse.dropWhile blk).reverse with
 | none=>inv
 | some ds=>
  if ![2,4,8,16,32].contains b && limit != 0 && ds.size > limit then tl ds.size else
  if b==10 && ds.size > 6000 then lib else
  let n:=ds.foldl (λacc d=>acc*b+d) 0
  if zeroOnly && n != 0 then inv else val (if negative then -(n:Int) else n)
theorem q6N {N:Type} (inv:N) (tl:Nat->N) (lib:N) (val:Int->N) (limit base:Nat) (text:List Nat):rd0 inv tl lib val limit base text=rdN inv tl lib val limit base text:=by
 unfold rd0 rdN sgn pr2
 rfl
noncomputable def figs (cs:List Nat):Bool:=cs.all λc=>decide (48<=c) && decide (c<=57)
noncomputable def j35 (cs:List Nat):Nat:=cs.foldl (λacc c=>acc*10+(c-48)) 0
theorem q35 {cs:List Nat} (h:figs cs=true) {c:Nat} (hc:c∈cs):48<=c/\c<=57:=by
 have:=List.all_eq_true.mp h c hc
 simpa using this
theorem j4B:∀(cs:List Nat),figs cs=true->∀(ds:Array Nat) (a:Bool),(cs.foldlM (init:=(ds,a)) λ(x:Array Nat×Bool) c=>
 (if c==95 then (if x.2 then some (x.1,false) else none) else match dgV c with | some d=>if d < 10 then some (x.1.push d,true) else none | none=>none:Option (Array Nat×Bool)))=some ((ds.toList++cs.map (· - 48)).toArray,a || !cs.isEmpty)
 | [],_,ds,a=>by simp
 | c::cs,h,ds,a=>by
  have hc:=q35 h (c:=c) (by simp)
  have hr:figs cs=true:=by
   unfold figs at h ⊢
   rw [List.all_cons,Bool.and_eq_true] at h
   exact h.2
  have e1:(c==95)=false:=by simp;omega
  have e2:dgV c=some (c-48):=by unfold dgV;rw [if_pos (by simp;omega)]
  have e3:c-48 < 10:=by omega
  rw [List.foldlM_cons]
  simp only [e1,e2,e3,Bool.false_eq_true,if_false,if_true]
  show ((some (ds.push (c-48),true):Option _) >>= _)=_
  rw [Option.bind_eq_bind,Option.bind_some,j4B cs hr]
  simp
theorem j1U {cs:List Nat} (h:figs cs=true) (hn:cs≠[]):dgS 10 cs=some (cs.map (· - 48)).toArray:=by
 unfold dgS
 have:=j4B cs h #[] false
 have e:(!cs.isEmpty)=true:=by cases cs<;>simp at hn ⊢
 show (cs.foldlM (init:=((#[]:Array Nat),false)) _ >>= _)=_
 rw [show (cs.foldlM (init:=((#[]:Array Nat),false)) λ(x:Array Nat×Bool) c=>(match x with | (ds,afterDigit)=>if c==95 then (if afterDigit then some (ds,false) else none) else match dgV c with | some d=>if d < 10 then some (ds.push d,true) else none | none=>none:Option (Array Nat×Bool)))=_ from this]
 simp [e]
theorem q6r {cs:List Nat} (h:figs cs=true):cs.dropWhile blk=cs:=by
 cases cs with
 | nil=>rfl
 | cons c cs=>
  have hc:=q35 h (c:=c) (by simp)
  have:blk c=false:=by unfold blk;simp;omega
  rw [List.dropWhile_cons,this]
  rfl
theorem j1i {cs:List Nat} (h:figs cs=true):figs cs.reverse=true:=by
 unfold figs at *
 rw [List.all_reverse];exact h
theorem j2I {N:Type} (inv:N) (tl:Nat->N) (lib:N) (val:Int->N) {cs:List Nat} (h:figs cs=true) (hn:cs≠[]) (hl:cs.length<=600):rdN inv tl lib val 0 10 cs=val (j35 cs):=by
 have e0:=q6r h
 have e1:(cs.reverse.dropWhile blk).reverse=cs:=by rw [q6r (j1i h),List.reverse_reverse]
 have e2:=j1U h hn
 have e3:pfx cs=none:=by
  unfold pfx
  split
  ·rename_i c r
   have hc:=q35 h (c:=c) (by simp)
   rw [if_neg (by simp;omega),if_neg (by simp;omega),if_neg (by simp;omega)]
  ·rfl
 have sg:sgn cs=(false,cs):=by
  cases cs with
  | nil=>rfl
  | cons c r=>
   have hc:=q35 h (c:=c) (by simp)
   unfold sgn
   split
   ·rename_i e;cases e;omega
   ·rename_i e;cases e;omega
   ·rfl
 unfold rdN
 simp only [e0,sg,e3]
 rw [show ((10:Nat)==0)=false from rfl]
 simp only [Bool.false_eq_true,if_false,e1,e2]
 have s1:(cs.map (· - 48)).toArray.size=cs.length:=by simp
 rw [s1]
 rw [if_neg (by simp),if_neg (by simp;omega),if_neg (by simp)]
 congr 2
 rw [j35]
 simp [List.foldl_map]
theorem q9U:∀{cs:List Nat},figs cs=true->cs.takeWhile (λc=>c != 0)=cs
 | [],_=>rfl
 | c::cs,h=>by
  have hc:=q35 h (c:=c) (by simp)
  have hr:figs cs=true:=by
   unfold figs at h ⊢
   rw [List.all_cons,Bool.and_eq_true] at h
   exact h.2
  have e:(c != 0)=true:=by simp;omega
  rw [List.takeWhile_cons,e]
  simp [q9U hr]
set_option maxHeartbeats 2000000 in
theorem q38 (x:Str) (u:Tok) (h:figs x.cps.toList=true) (hn:x.cps.toList≠[]) (hl:x.length<=600):Meets (Builtin.«int.__new__» ⟨[.type "int",.str x u],[]⟩) (Made.int (j35 x.cps.toList)).spec:=
 Meets.of_wp λprog w A R s hs=>by
  obtain ⟨hp,g,d,tk,os⟩:=s
  have f1:=F.conv_sub_int
  have f2:=F.madeHere_int
  have hT:(⟨hp,g,d,tk,os⟩:Shared).TypeIs (.str x u) "str":=rfl
  have g1:=q7O
  have g2:=q5x
  have g3:=q5e
  have a1:(x.cps.all λc=>decide (c < 128))=true:=by
   rw [<-Array.all_toList,List.all_eq_true]
   intro c hc
   have:=q35 h hc
   simp;omega
  have a2:List.takeWhile (λc=>c != 0) x.cps.toList=x.cps.toList:=q9U h
  have a4:x.cps.toList.length=x.length:=by simp [Str.length]
  have a3:x.cps.toList.length<=640:=by omega
  have rd:∀{N:Type} (inv:N) (tl:Nat->N) (lib:N) (val:Int->N),rdN inv tl lib val 0 10 x.cps.toList=val (j35 x.cps.toList):=λinv tl lib val=>j2I inv tl lib val h hn (by omega)
  repeat (any_goals (first | assumption | wp_step))
  all_goals (rw [a1];simp only [if_true,a2,if_pos a3,pure_bind])
  split
  ·rename_i m heq
   have h2:=(show rd0 _ _ _ _ 0 10 x.cps.toList=_ from heq)
   rw [q6N,rd] at h2
   cases h2
  ·rename_i heq
   have h2:=(show rd0 _ _ _ _ 0 10 x.cps.toList=_ from heq)
   rw [q6N,rd] at h2
   cases h2
  ·rename_i i heq
   have h2:=(show rd0 _ _ _ _ 0 10 x.cps.toList=_ from heq)
   rw [q6N,rd] at h2
   cases h2
   rw [if_pos (by simp)]
   repeat (any_goals (first | assumption | wp_step))
   all_goals first | exact ⟨_,rfl,hs⟩ | skip
  ·rename_i heq
   have h2:=(show rd0 _ _ _ _ 0 10 x.cps.toList=_ from heq)
   rw [q6N,rd] at h2
   cases h2
section
variable {X:Cx}
theorem q9m:q2n X (.type "int") (λxs H Q=>∃x,xs=[.str x]/\figs x.cps.toList=true/\x.cps.toList≠[]/\x.length<=600/\Q (.int (j35 x.cps.toList)) H):=by
 intro pins s σ H xs us Q I rv h
 obtain ⟨x,rfl,h1,h2,h3,q⟩:=h
 obtain ⟨u,rfl,ru⟩:=rv.one
 obtain ⟨t,rfl⟩:=ru
 refine call_int_1 (q38 x t h1 h2 h3) (show (Made.int (j35 x.cps.toList)).post _ s from ⟨rfl,?_⟩)
 exact ⟨.int _,H,I.tok _,⟨_,rfl⟩,q⟩
end
end L3
namespace L3
open PySem PySem.Spec PyProof.Rows L2
section
variable {T:Tb} {X:Cx} {e o:Expr} {es:List Expr} {pos cpos apos p:Pos} {fe fo:Ev} {fs:Ro->Out (List D)}
@[simp] noncomputable def j57:List D->Out D
 | [.int i]=>.ok (.int i)
 | [.bl b]=>.ok (.int (if b then 1 else 0))
 | [.str x]=>if figs x.cps.toList=true/\x.cps.toList≠[]/\x.length<=600 then .ok (.int (j35 x.cps.toList)) else .bad
 | _=>.bad
theorem j58:CaD T X (.type "int") j57:=λE=>⟨λvs H Q=>((∃i,vs=[.int i]/\Q (.int i) H)∨∃k,vs=[.bl k]/\Q (.int (if k then 1 else 0)) H)∨∃x,vs=[.str x]/\figs x.cps.toList=true/\x.cps.toList≠[]/\x.length<=600/\Q (.int (j35 x.cps.toList)) H,
 λpins s σ H xs us Q I rv h=>h.elim (λh=>q8i (X:=X.wish E) pins s σ H xs us Q I rv h) (λh=>q9m (X:=X.wish E) pins s σ H xs us Q I rv h),λds vs σ H Q r h=>by
 unfold j57 at h
 split at h
 ·rename_i i
  obtain ⟨v,rfl,rv⟩:=r.one
  exact .inl (.inl ⟨i,by rw [show v=V.int i from rv],h _ H (Same.refl H) rfl⟩)
 ·rename_i b
  obtain ⟨v,rfl,rv⟩:=r.one
  exact .inl (.inr ⟨b,by rw [show v=V.bl b from rv],h _ H (Same.refl H) rfl⟩)
 ·rename_i x
  obtain ⟨v,rfl,rv⟩:=r.one
  by_cases c:figs x.cps.toList=true/\x.cps.toList≠[]/\x.length<=600
  ·rw [if_pos c] at h
   exact .inr ⟨x,by rw [show v=V.str x from rv],c.1,c.2.1,c.2.2,h _ H (Same.refl H) rfl⟩
  ·rw [if_neg c] at h;exact h.elim
 ·exact h.elim⟩
noncomputable def q2F:List D->Option (List Str)
 | []=>some []
 | .str x::ds=>(match q2F ds with | some xs=>some (x::xs) | none=>none)
 | _=>none
theorem q2P {K:PySem.W.Frag} {H:Hp}:∀{ds:List D} {xs:List Str} {vs:List V},q2F ds=some xs->RepL T K H ds vs->vs=xs.map V.str
 | [],xs,vs,h,r=>by cases h;exact r
 | d::ds,xs,vs,h,r=>by
  cases d with
  | str b=>
   have h:(match q2F ds with | some bs=>some (b::bs) | none=>none)=some xs:=h
   cases q:q2F ds with
   | none=>rw [q] at h;cases h
   | some bs'=>
    rw [q] at h;cases h
    obtain ⟨v,r',rfl,r1,r2⟩:=r
    rw [q2P q r2,show v=V.str b from r1];rfl
  | _=>cases h
theorem q6s:∀{xs:List Str} {us:List Value},Vals (xs.map V.str) us->∃l:List (Str×Tok),us=strValues l/\l.map (·.1)=xs
 | [],_,.nil=>⟨[],rfl,rfl⟩
 | x::xs,_,.cons r t=>by
  obtain ⟨l,rfl,e⟩:=q6s t
  obtain ⟨k,rfl⟩:=r
  exact ⟨(x,k)::l,rfl,by rw [List.map_cons,e]⟩
noncomputable def q9A:D->List D->Out D
 | .str x,[.lst ds]=>(match q2F ds with | some ts=>if JoinOk x ts=true then .ok (.str (Txt.join x ts)) else .bad | none=>.bad)
 | _,_=>.bad
theorem j6c:MtD T X "str" "str.join" q9A:=λE=>by
 refine ⟨λv vs H Q=>∃x a ts,v=.str x/\vs=[.ref a]/\SqL X.K H a (ts.map V.str)/\JoinOk x ts=true/\Q (.str (Txt.join x ts)) H,?_,?_⟩
 ·intro pins s σ H x xs v us Q I rx rv h
  obtain ⟨z,a,ts,rfl,rfl,hq,ok,q⟩:=h
  obtain ⟨t,rfl⟩:=rx
  obtain ⟨u,rfl,ru⟩:=rv.one
  cases ru
  obtain ⟨its,r,pl,hz⟩:=I.list hq
  obtain ⟨l,rfl,e⟩:=q6s r
  exact SC.join pl.isList e ok λt' k=>⟨.str _,H,I.tok k,⟨t',rfl⟩,q⟩
 ·intro d ds v vs σ H Q rd rl q
  unfold q9A at q
  split at q
  ·rename_i x ds'
   obtain ⟨w,rfl,a,ws,rfl,fz,rl'⟩:=rl.one
   cases e:q2F ds' with
   | none=>rw [e] at q;exact q.elim
   | some ts=>
    rw [e] at q
    have q:Acc T X E σ H (if JoinOk x ts=true then .ok (.str (Txt.join x ts)) else .bad) (kE T X.K H Q):=q
    obtain rfl:=q2P e rl'
    by_cases c:JoinOk x ts=true
    ·rw [if_pos c] at q
     exact ⟨x,a,ts,rd,rfl,fz.sq,c,q _ H (Same.refl H) rfl⟩
    ·rw [if_neg c] at q;exact q.elim
  ·exact q.elim
end
theorem q11:∀{is:List Int} {us:List Value},Vals (is.map V.int) us->∃l:List (Int×Tok),us=l.map (λp=>Value.int p.1 p.2)/\l.map (·.1)=is
 | [],_,.nil=>⟨[],rfl,rfl⟩
 | x::xs,_,.cons r t=>by
  obtain ⟨l,rfl,e⟩:=q11 t
  obtain ⟨k,rfl⟩:=r
  exact ⟨(x,k)::l,rfl,by rw [List.map_cons,e]⟩
noncomputable def q0Q (gt:Bool) (is:List Int):Int:=is.getD (argBest (λi j=>if gt then decide (is.getD i 0 > is.getD j 0) else decide (is.getD i 0 < is.getD j 0)) (is.length-1)) 0
section
variable {X:Cx}
theorem q2V (l:List (Int×Tok)) (i:Nat):numAt l.toArray i=(l.map (·.1)).getD i 0:=by
 unfold numAt
 rw [List.getD_eq_getElem?_getD,List.getElem?_map]
 simp
theorem q98 (hc:X.calm=true):q2n X (.builtin "max") (λxs H Q=>∃(a:Addr) (is:List Int),xs=[.ref a]/\SqL X.K H a (is.map V.int)/\is≠[]/\Q (.int (q0Q true is)) H):=by
 intro pins s σ H xs us Q I rv h
 obtain ⟨a,is,rfl,hq,hne,q⟩:=h
 obtain ⟨u,rfl,ru⟩:=rv.one
 cases ru
 obtain ⟨its,r,pl,hz⟩:=I.list hq
 obtain ⟨l,rfl,e⟩:=q11 r
 have hi:(l.map λp=>Value.int p.1 p.2).toArray=intItems l.toArray:=by simp [intItems]
 have hl:s.heap.IsList a (intItems l.toArray):=hi ▸ pl.isList
 refine max_intList (I.ok.hd hc) hl (by subst e;cases l with | nil=>exact absurd rfl hne | cons _ _=>simp) λv h' tk hv hk=>?_
 obtain ⟨t,rfl⟩:=intItems_at hv
 refine ⟨.int (q0Q true is),H,I.kept (t':=tk) hk,⟨t,?_⟩,q⟩
 subst e
 congr 1
 unfold q0Q
 rw [q2V]
 simp only [if_true,List.length_map]
 congr 2
 ·funext i j;rw [q2V,q2V]
theorem q9P (hc:X.calm=true):q2n X (.builtin "min") (λxs H Q=>∃(a:Addr) (is:List Int),xs=[.ref a]/\SqL X.K H a (is.map V.int)/\is≠[]/\Q (.int (q0Q false is)) H):=by
 intro pins s σ H xs us Q I rv h
 obtain ⟨a,is,rfl,hq,hne,q⟩:=h
 obtain ⟨u,rfl,ru⟩:=rv.one
 cases ru
 obtain ⟨its,r,pl,hz⟩:=I.list hq
 obtain ⟨l,rfl,e⟩:=q11 r
 have hi:(l.map λp=>Value.int p.1 p.2).toArray=intItems l.toArray:=by simp [intItems]
 have hl:s.heap.IsList a (intItems l.toArray):=hi ▸ pl.isList
 refine min_intList (I.ok.hd hc) hl (by subst e;cases l with | nil=>exact absurd rfl hne | cons _ _=>simp) λv h' tk hv hk=>?_
 obtain ⟨t,rfl⟩:=intItems_at hv
 refine ⟨.int (q0Q false is),H,I.kept (t':=tk) hk,⟨t,?_⟩,q⟩
 subst e
 congr 1
 unfold q0Q
 rw [q2V]
 simp only [Bool.false_eq_true,if_false,List.length_map]
 congr 2
 ·funext i j;rw [q2V,q2V]
end
section
variable {T:Tb} {X:Cx}
noncomputable def q7K:List D->Out D
 | [.lst ds]=>(match q25 ds with | some is=>if is≠[] then .ok (.int (q0Q false is)) else .bad | none=>.bad)
 | _=>.bad
noncomputable def q4q:List D->Out D
 | [.lst ds]=>(match q25 ds with | some is=>if is≠[] then .ok (.int (q0Q true is)) else .bad | none=>.bad)
 | _=>.bad
theorem q4G (hc:X.calm=true):CaD T X (.builtin "max") q4q:=λE=>⟨_,q98 hc,λds vs σ H Q r h=>by
 unfold q4q at h
 split at h
 ·rename_i ds'
  obtain ⟨v,rfl,a,ws,rfl,fz,rl⟩:=r.one
  cases q:q25 ds' with
  | none=>rw [q] at h;exact h.elim
  | some is=>
   rw [q] at h
   have h:Acc T X E σ H (if is≠[] then .ok (.int (q0Q true is)) else .bad) (kE T X.K H Q):=h
   by_cases c:is≠[]
   ·rw [if_pos c] at h
    obtain rfl:=q2Q q rl
    exact ⟨a,is,rfl,fz.sq,c,h _ H (Same.refl H) rfl⟩
   ·rw [if_neg c] at h;exact h.elim
 ·exact h.elim⟩
theorem j5O (hc:X.calm=true):CaD T X (.builtin "min") q7K:=λE=>⟨_,q9P hc,λds vs σ H Q r h=>by
 unfold q7K at h
 split at h
 ·rename_i ds'
  obtain ⟨v,rfl,a,ws,rfl,fz,rl⟩:=r.one
  cases q:q25 ds' with
  | none=>rw [q] at h;exact h.elim
  | some is=>
   rw [q] at h
   have h:Acc T X E σ H (if is≠[] then .ok (.int (q0Q false is)) else .bad) (kE T X.K H Q):=h
   by_cases c:is≠[]
   ·rw [if_pos c] at h
    obtain rfl:=q2Q q rl
    exact ⟨a,is,rfl,fz.sq,c,h _ H (Same.refl H) rfl⟩
   ·rw [if_neg c] at h;exact h.elim
 ·exact h.elim⟩
end
noncomputable def j55 (t:D->Out Bool) (f:D->Out D):List D->Option (List D)
 | []=>some []
 | d::ds=>match t d with
  | .ok true=>(match f d with | .ok e=>(match j55 t f ds with | some es=>some (e::es) | none=>none) | _=>none)
  | .ok false=>j55 t f ds
  | _=>none
section
variable {T:Tb} {X:Cx} {elt iter:Expr} {x:Str} {px pos:Pos} {scope:Scope} {ys:List Str} {caps:List Nat} {fe:Ev} {ft:Ro->Out Bool} {tst:Expr} {cl:List (Str×Addr)} {pins:List (Addr×Obj)} {σ:L2.St} {G H2:Hp} {s2:Shared} {J:It} {fp:List Addr} {it:Addr} {tn:Nat->Heap->Prop} {ρ:Ro} {ds es:List D}
end
section
variable {T:Tb} {X:Cx} {elt iter tst:Expr} {x:Str} {px pos spos py:Pos} {scope:Scope} {ys:List Str} {caps:List Nat} {fe:Ev} {ft:Ro->Out Bool} {fl:Ro->Out (List D)}
@[simp] noncomputable def q1i (fl:Ro->Out (List D)) (caps:List Nat) (ft:Ro->Out Bool) (fe:Ev) (ρ:Ro):Out (List D):=(fl ρ).bind λds=>if ds.length<=1000000 then (match j55 (λd=>ft (q03 caps ρ d)) (λd=>fe (q03 caps ρ d)) ds with | some es=>.ok es | none=>.bad) else .bad
variable {ib:Bool} {y:Str}
end
section
variable {X:Cx}
noncomputable def rLE (K:PySem.W.Frag) (neg:Bool):R2:=λx y H Q=>∃(a b:Addr) (xs:List V),x=.ref a/\y=.ref b/\SqL K H a xs/\SqL K H b []/\Q (.bl (if neg then !xs.isEmpty else xs.isEmpty)) H
theorem j5i (hu:X.A.units < cLine):OpR X (compareOp .NotEq) (rLE X.K true):=by
 intro pins s σ H x y v u Q I rx ry h
 obtain ⟨a,b,xs,rfl,rfl,h1,h2,q⟩:=h
 cases rx
 cases ry
 obtain ⟨its,r,pl,hz⟩:=I.list h1
 obtain ⟨its2,r2,pl2,hz2⟩:=I.list h2
 cases r2
 cases xs with
 | nil=>
  cases r
  exact SeqAt.RcNeAt.lists (e:=λ_=>true) pl.isList pl2.isList rfl hu (λj h1=>by simp at h1) X.prog X.w X.xe _ ⟨.bl false,H,I,rfl,q⟩
 | cons x xs=>
  cases r
  exact SeqAt.RcNeAt.lists_lengths pl.isList pl2.isList (by simp) hu X.prog X.w X.xe _ ⟨.bl true,H,I,rfl,q⟩
end
section
variable {T:Tb} {X:Cx} {e o:Expr} {es:List Expr} {cpos apos:Pos} {fe fo:Ev} {fs:Ro->Out (List D)}
noncomputable def j3P (neg:Bool):D->D->Out D
 | .lst ds,.lst []=>.ok (.bl (if neg then !ds.isEmpty else ds.isEmpty))
 | _,_=>.bad
theorem j8Q (neg:Bool) (op:CmpOp) (h:∀E,OpR (X.wish E) (compareOp op) (rLE X.K neg)):OpD T X (compareOp op) (j3P neg):=λE=>⟨_,h E,λdx dy x y σ H Q rx ry q=>by
 cases dx with
 | lst ds=>
  cases dy with
  | lst ds2=>
   cases ds2 with
   | nil=>
    obtain ⟨a,us,rfl,s1,r1⟩:=rx
    obtain ⟨b,us2,rfl,s2,r2⟩:=ry
    cases r2
    have hl:=RepL.length _ _ r1
    have he:us.isEmpty=ds.isEmpty:=by cases us<;>cases ds<;>first | rfl | (simp at hl)
    exact ⟨a,b,us,rfl,rfl,s1.sq,s2.sq,by rw [he];exact q _ H (Same.refl H) rfl⟩
   | cons _ _=>exact q.elim
  | _=>exact q.elim
 | _=>first | exact q.elim | (cases dy<;>exact q.elim)⟩
theorem q8v {k:Nat} (hr:Room k X.A):OpD T X (compareOp .NotEq) (j3P true):=j8Q true .NotEq λE=>j5i (X:=X.wish E) hr.units0
theorem q8A:MtR X "list.index" (λv vs H Q=>∃(a:Addr) (x:V) (xs:List V) (j:Nat),v=.ref a/\vs=[x]/\SqL X.K H a xs/\q2J x=true/\xs.all q2J=true/\j < xs.length/\eqV (xs.getD j .non) x=true/\(∀m,m < j->eqV (xs.getD m .non) x=false)/\Q (.int j) H):=by
 intro pins s σ H x xs v us Q I rx rv h
 obtain ⟨a,y,ys,j,rfl,rfl,hq,fy,fs,hj,hit,hno,q⟩:=h
 cases rx
 obtain ⟨u,rfl,ru⟩:=rv.one
 obtain ⟨its,r,pl,hz⟩:=I.list hq
 have hl:=r.length
 obtain ⟨⟨cls,dd,data,sl⟩,ho,hc,n,hd⟩:=pl.isList
 simp only at hc hd
 subst hc hd
 have ev:∀m (hm:m < its.length),eqU y its[m]=eqV (ys.getD m .non) y:=λm hm=>j0f (j0T r m hm) (q8Z fs m)
 refine call_meets F.slot_list_index ⟨_,ho,rfl⟩ F.entry_list_index (F.args_list_index_2 _ _)
  (SeqAt.list_indexAt a its.toArray n dd sl u (eqU y) j (by rw [List.size_toArray];omega) ?_ ?_ ?_) ⟨ho,λw hw=>q2w ru fy r fs w (by simpa using hw),?_⟩
 ·have:ys.length<=16777216:=by rw [<-sizeLine_eq];exact hz
  omega
 ·have:=ev j (by omega)
  simp only [List.getElem_toArray]
  rw [this];exact hit
 ·intro m hm hlt
  have:=ev m (by rw [List.size_toArray] at hm;exact hm)
  simp only [List.getElem_toArray]
  rw [this];exact hno m hlt
 ·exact ⟨.int j,H,I.tok _,⟨_,rfl⟩,q⟩
noncomputable def q8a (x:V):List V->Option Nat
 | []=>none
 | y::ys=>if eqV y x=true then some 0 else (q8a x ys).map (· + 1)
theorem q8s {x:V}:∀{ys:List V} {j:Nat},q8a x ys=some j->j < ys.length/\eqV (ys.getD j .non) x=true/\∀m,m < j->eqV (ys.getD m .non) x=false
 | [],j,h=>by cases h
 | y::ys,j,h=>by
  rw [q8a] at h
  by_cases c:eqV y x=true
  ·rw [if_pos c] at h
   cases h
   exact ⟨by simp,c,λm hm=>by omega⟩
  ·rw [if_neg c] at h
   cases e:q8a x ys with
   | none=>rw [e] at h;cases h
   | some k=>
    rw [e] at h
    cases h
    obtain ⟨h1,h2,h3⟩:=q8s e
    refine ⟨by show k+1 < _;simp;omega,by simpa using h2,λm hm=>?_⟩
    have hm:m < k+1:=hm
    cases m with
    | zero=>simpa using c
    | succ m=>simpa using h3 m (by omega)
noncomputable def q3l:D->List D->Out D
 | .lst ds,[d]=>(match q2L d,q1e ds with | some x,some xs=>(match q8a x xs with | some j=>.ok (.int j) | none=>.bad) | _,_=>.bad)
 | _,_=>.bad
@[simp] noncomputable def q6f:D->Bool
 | .lst _=>true
 | _=>false
theorem q8K (ho:DE T X o fo) (ha:DE T X e fe) (hbase:attributeBase o "index" X.env (eval o X.env)=eval o X.env:=by rfl)
 (hfew:((backTo cpos (starEach [e] X.env)).all (λx=>!x.1) && (backToKw cpos (keywordEach [] X.env)).all (λx=>x.1.isSome)
  && decide (([e]:List Expr).length+([]:List Keyword).length+(if ([]:List Keyword).isEmpty then 0 else 1) < 30))=true:=by exact q7r rfl rfl)
 (hline:(apos.endLine==cpos.line)=true:=by rfl) (hs:starEach [e] X.env=(false,eval e X.env)::starEach [] X.env:=by exact q0D rfl) (hplain:(backTo cpos (starEach ([]:List Expr) X.env)).any (·.1)=false:=by exact q0J rfl) :
 DE T X (.Call (.Attribute o "index" apos) [e] [] cpos) (eMt q6f q3l fo (q0k fe q0E)):=.mk λG E hp=>by
 refine PE.imp (j2G (X:=X.wish E) PySem.F.plainAttrs_list PySem.F.slot_list_index PySem.F.type_list_index q8A (ho.run G E hp) (q0I (X:=X.wish E) (ha.run G E hp) q1t hs) hbase hfew hline hs hplain) fun σ H Q ⟨ρ,fr,q⟩=>?_
 have q:Acc T X E σ H ((fo ρ).bind λd=>if q6f d=true then (q0k fe q0E ρ).bind λds=>q3l d ds else .bad) (kE T X.K H Q):=q
 refine ⟨ρ,fr,Acc.mono (Acc.bind q) λd _ hd v H1 s1 rd=>?_⟩
 cases d with
 | lst ds=>
  rw [if_pos (show q6f (.lst ds)=true from rfl)] at hd
  obtain ⟨a,ws,rfl,fz,rl⟩:=rd
  refine ⟨.inl ⟨rfl,ws,fz.sq⟩,ρ,fr.mono s1,?_⟩
  have hd2:Acc T X E σ H ((fe ρ).bind λd=>q3l (.lst ds) [d]) (kE T X.K H Q):=by
   cases ef:fe ρ with
   | ok d'=>simp only [q0k,q0E,ef,Out.ok_bind] at hd ⊢; exact hd
   | exc c=>simp only [q0k,q0E,ef,Out.exc_bind] at hd ⊢; exact hd
   | bad=>simp only [q0k,q0E,ef,Out.bad_bind] at hd ⊢; exact hd
  refine Acc.mono (Acc.bind (Acc.heap s1 hd2)) λd' _ hd' v' H2 s2 rd'=>?_
  have hd':Acc T X E σ H1 (match q2L d',q1e ds with | some x,some xs=>(match q8a x xs with | some j=>.ok (.int j) | none=>.bad) | _,_=>.bad) (kE T X.K H Q):=hd'
  cases q1:q2L d' with
  | none=>rw [q1] at hd';exact hd'.elim
  | some x=>
   cases q2:q1e ds with
   | none=>rw [q1,q2] at hd';exact hd'.elim
   | some xs=>
    rw [q1,q2] at hd'
    cases q3:q8a x xs with
    | none=>simp only [q3] at hd';exact hd'.elim
    | some j=>
     simp only [q3] at hd'
     obtain ⟨rfl,f2⟩:=q2v q2 rl
     obtain ⟨rfl,f1⟩:=q2S q1 rd'
     obtain ⟨k1,k2,k3⟩:=q8s q3
     exact ⟨a,_,_,j,rfl,rfl,((Pers.of s2:Pers T false _ _).fz fz).sq,f1,f2,k1,k2,k3,hd' _ H2 (s1.trans s2) rfl⟩
 | _=>exact hd.elim
end
section
variable {T:Tb} {X:Cx} {o:Expr} {cpos apos:Pos} {fo:Ev}
end
theorem Inv.unfrz {X:Cx} {pins:List (Addr×Obj)} {σ:L2.St} {H:Hp} {s:Shared} {b:Addr} {ws:List V} (I:Inv X pins σ H s) (h:H b=some (.lst ws)):∀o u,X.H₀ b≠some (.frz o u):=λo u z=>by
 have:=I.base.frzs b o u z
 rw [h] at this;cases this
theorem Inv.thaw {X:Cx} {pins:List (Addr×Obj)} {σ:L2.St} {H:Hp} {s:Shared} {b:Addr} {ws:List V} {o:Obj} (I:Inv X pins σ H s) (h:H b=some (.frz o (.lst ws))) (hx:∀o u,X.H₀ b≠some (.frz o u)):Inv X pins σ (upd H b (.lst ws)) s:=by
 have no:∀c,H c=none->upd H b (.lst ws) c=none:=λc q=>by
  rw [q0i (λz=>by rw [z,h] at q;cases q)];exact q
 have own:∀c y,H c=some (.own y)->upd H b (.lst ws) c=some (.own y):=λc y q=>by
  rw [q0i (λz=>by rw [z,h] at q;cases q)];exact q
 have tup:∀c xs,H c=some (.tup xs)->upd H b (.lst ws) c=some (.tup xs):=λc y q=>by
  rw [q0i (λz=>by rw [z,h] at q;cases q)];exact q
 refine ⟨I.ok,I.os,I.bare,⟨I.base.keep,I.base.slot,λc ob e n q=>no c (I.base.free c ob e n q),I.base.there,λc xs e=>tup c xs (I.base.tups c xs e),λc ob u e=>?_,λc ps e=>?_⟩,I.loc,I.cell,no _ I.free,λx c e=>no c (I.freeC x c e),λp hp=>?_,λc u e=>?_,I.len⟩
 ·have q:=I.base.frzs c ob u e
  rw [q0i (λz=>by subst z;exact hx ob u e)];exact q
 ·obtain ⟨more,q⟩:=I.base.tbls c ps e
  exact ⟨more,by rw [q0i (λz=>by rw [z,h] at q;cases q)];exact q⟩
 ·obtain ⟨p1,p2,p3⟩:=I.pin p hp
  exact ⟨p1,no _ p2,p3⟩
 ·by_cases hc:c=b
  ·subst hc
   rw [q0u] at e;cases e
   exact ((I.hok _ _ h).2).stay (λ_ _ _ q=>q) (λc=>own c _) tup
  ·rw [q0i hc] at e
   exact (I.hok c u e).stay (λ_ _ _ q=>q) (λc=>own c _) tup
theorem q5a {H H':Hp} {b:Addr} {ws:List V} {o:Obj} (h:H b=some (.lst ws)) (s1:Same (upd H b (.frz o (.lst ws))) H'):Same H (upd H' b (.lst ws)):=λc u e=>by
 by_cases hc:c=b
 ·subst hc;rw [q0u,<-h];exact e
 ·rw [q0i hc];exact s1 c u (by rw [q0i hc];exact e)
theorem XW.thaw {T:Tb} {X:Cx} {E:Value->Shared->Prop} {σ:L2.St} {H:Hp} {c:Nat} {b:Addr} {ws:List V} {o:Obj} (h:XW T X E σ H c) (hb:H b=some (.lst ws)) (hx:∀o u,X.H₀ b≠some (.frz o u)):XW T X E σ (upd H b (.frz o (.lst ws))) c:=λpins s u H' I sm fl=>by
 have hb':H' b=some (.frz o (.lst ws)):=sm b _ q0u
 have no:∀c,H' c=none->upd H' b (.lst ws) c=none:=λc q=>by
  rw [q0i (λz=>by rw [z,hb'] at q;cases q)];exact q
 refine h pins s u _ (Inv.thaw I hb' hx) (q5a hb sm) ?_
 obtain ⟨ea,rfl,h1,h2,nc,oe,vs,a0,he,hc,hd,h0,ht⟩:=fl
 refine ⟨ea,rfl,no _ h1,h2,nc,oe,vs,a0,he,hc,hd,h0,?_⟩
 rcases ht with ht | ⟨tb,ot,ts,t1,t2,t3,t4,t5,t6,t7⟩
 ·exact .inl ht
 ·exact .inr ⟨tb,ot,ts,t1,t2,t3,t4,t5,no _ t6,t7⟩
mutual
noncomputable def nl:D->Bool
 | .lst _=>false
 | .tup ds=>nlL ds
 | .ins _ ds=>nlL ds
 | _=>true
noncomputable def nlL:List D->Bool
 | []=>true
 | d::ds=>nl d && nlL ds
end
mutual
theorem Rep.thaw {T:Tb} {K:PySem.W.Frag} {H:Hp} {b:Addr} {ws:List V} {o:Obj} {u:HO} (h:H b=some (.frz o (.lst ws))):∀(d:D) (v:V),nl d=true->Rep T K H d v->Rep T K (upd H b u) d v
 | .non,_,_,q=>q
 | .bl _,_,_,q=>q
 | .int _,_,_,q=>q
 | .str _,_,_,q=>q
 | .tup ds,_,n,q=>by
  obtain ⟨a,vs,r1,r2,r3⟩:=q
  refine ⟨a,vs,r1,?_,RepL.thaw h ds vs n r3⟩
  rcases r2 with (r2 | ⟨o',r2⟩) | r2
  ·exact .inl (.inl (by rw [q0i (λz=>by rw [z,h] at r2;cases r2)];exact r2))
  ·exact .inl (.inr ⟨o',by rw [q0i (λz=>by rw [z,h] at r2;cases r2)];exact r2⟩)
  ·exact .inr r2
 | .lst ds,_,n,_=>by cases n
 | .ins c ds,_,n,q=>by
  obtain ⟨a,dx,fs,r1,r2,r3,r4⟩:=q
  exact ⟨a,dx,fs,r1,by rw [q0i (λz=>by rw [z,h] at r2;cases r2)];exact r2,r3,RepL.thaw h ds _ n r4⟩
 | .exc c,_,_,q=>by
  obtain ⟨a,o',r1,r2,r3⟩:=q
  exact ⟨a,o',r1,by rw [q0i (λz=>by rw [z,h] at r2;cases r2)];exact r2,r3⟩
theorem RepL.thaw {T:Tb} {K:PySem.W.Frag} {H:Hp} {b:Addr} {ws:List V} {o:Obj} {u:HO} (h:H b=some (.frz o (.lst ws))):∀(ds:List D) (vs:List V),nlL ds=true->RepL T K H ds vs->RepL T K (upd H b u) ds vs
 | [],_,_,q=>q
 | d::ds,_,n,q=>by
  obtain ⟨v,r,r1,r2,r3⟩:=q
  have n:(nl d && nlL ds)=true:=n
  rw [Bool.and_eq_true] at n
  exact ⟨v,r,r1,Rep.thaw h d v n.1 r2,RepL.thaw h ds r n.2 r3⟩
end
@[simp] noncomputable def vwR (i:Nat) (ρ:Ro):Ro:=match ρ[i]? with
 | some (.ox t pre ds post)=>ρ.set i (.sh (mkO t (pre++.lst ds::post)))
 | _=>ρ
section
variable {T:Tb} {ib:Bool} {X:Cx} {e:Expr} {f:Ro->Out Bool} {fe:Ev} {ff:Ro->Out (List D)}
theorem look {α:Type} {G H:Hp} {E:Value->Shared->Prop} {σ:L2.St} {ρ:Ro} {pins:List (Addr×Obj)} {s:Shared} (i:Nat) {g:Ro->Out α} {k:α->Prop} (I:Inv (X.wish E) pins σ H s) (fr:FR T X.K G H σ ρ) (q:Acc T X E σ H (g (vwR i ρ)) k) :
 (FR T X.K G H σ ρ/\Acc T X E σ H (g ρ) k/\vwR i ρ=ρ)∨∃(b:Addr) (ws:List V) (o:Obj),H b=some (.lst ws)/\(∀o u,X.H₀ b≠some (.frz o u))/\Inv (X.wish E) pins σ (upd H b (.frz o (.lst ws))) s/\FR T X.K G (upd H b (.frz o (.lst ws))) σ (vwR i ρ)/\Acc T X E σ (upd H b (.frz o (.lst ws))) (g (vwR i ρ)) k:=by
 cases e0:ρ[i]? with
 | none=>left;have z:vwR i ρ=ρ:=by simp [e0]
         rw [z] at q;exact ⟨fr,q,z⟩
 | some w=>
  cases w with
  | ox t pre ds post=>
   right
   obtain ⟨a,vp,b,vq,ws,e1,e2,r1,r2,e3,e4,r3⟩:=fr.sl i _ e0
   obtain ⟨o,I2⟩:=Inv.freeze I e3
   have hx:=Inv.unfrz I.unwish e3
   have z:vwR i ρ=ρ.set i (.sh (mkO t (pre++.lst ds::post))):=by simp [e0]
   refine ⟨b,ws,o,e3,hx,I2,?_,?_⟩
   ·rw [z];exact j4I fr e0 e1 e2 r1 r2 e3 e4 r3
   ·cases eg:g (vwR i ρ) with
    | ok a=>rw [eg] at q;exact q
    | exc c=>rw [eg] at q;exact XW.thaw q e3 hx
    | bad=>rw [eg] at q;exact q
  | _=>left;have z:vwR i ρ=ρ:=by simp [e0]
       rw [z] at q;exact ⟨fr,q,z⟩
theorem j6e (i:Nat) (h:DT T X e f):DT T X e (fun ρ=>f (vwR i ρ)):=.mk λG E hp=>by
 rintro pins s σ H Q I ⟨ρ,fr,q⟩
 rcases look (g:=f) i I fr q with ⟨fr,q,z⟩ | ⟨b,ws,o,hb,hx,I2,fr2,q2⟩
 ·exact h.run G E hp pins s σ H Q I ⟨ρ,fr,q⟩
 ·refine thn (h.run G E hp pins s σ _ (λk H1=>Same (upd H b (.frz o (.lst ws))) H1/\Q k (upd H1 b (.lst ws))) I2 ⟨_,fr2,Acc.mono q2 λk _ hk H1 s1=>⟨s1,hk _ (q5a hb s1)⟩⟩) λk s1 ⟨H1,I1,sm,qk⟩=>?_
  exact ⟨_,(Inv.thaw I1.unwish (sm b _ q0u) hx).wish E,qk⟩
end
inductive Bk where
 | sh (ds:List D) | ow (pre ds post:List D)
noncomputable def kB (T:Tb) (K:PySem.W.Frag) (G H:Hp) (Q:List V->Hp->Prop):Bk->Prop
 | .sh ds=>∀vs H',Same H H'->RepL T K H' ds vs->Q vs H'
 | .ow pre ds post=>∀vp b vq ws H',Same H H'->RepL T K H' pre vp->RepL T K H' post vq->H' b=some (.lst ws)->G b=none->RepL T K H' ds ws->Q (vp++.ref b::vq) H'
noncomputable def tB (T:Tb) (X:Cx) (G:Hp) (E:Value->Shared->Prop) (f:Ro->Out Bk):TA:=fun σ H Q=>∃ρ,FR T X.K G H σ ρ/\Acc T X E σ H (f ρ) (kB T X.K G H Q)
structure DB (T:Tb) (X:Cx) (es:List Expr) (f:Ro->Out Bk):Prop where
 mk ::
 run:∀(G:Hp) (E:Value->Shared->Prop),PassesOwn (model X.prog X.w) X.A X.env E->PA (X.wish E) es (tB T X G E f)
section
variable {T:Tb} {ib:Bool} {X:Cx} {e:Expr} {es:List Expr} {pos p:Pos} {fe:Ev} {fs:Ro->Out (List D)} {fb:Ro->Out Bk} {fr':Ro->Out Rv} {x:Str}
@[simp] noncomputable def w1l (i:Nat) (fs:Ro->Out (List D)) (ρ:Ro):Out Bk:=match ρ[i]? with
 | some (.ow ds)=>(fs ρ).bind λpost=>.ok (.ow [] ds post)
 | some (.sh d)=>(fs ρ).bind λpost=>.ok (.sh (d::post))
 | _=>.bad
theorem j64 (i:Nat) (hr:DA T X es fs) (hs:starEach (.Name x pos::es) X.env=(false,eval (.Name x pos) X.env)::starEach es X.env:=by exact q0D rfl) (hN:X.N[i]?=some x:=by rfl) (hv:Vis X.env.scope x:=by walk_at "v0") (hd:(x==("__debug__" : Str))=false:=by decide)
 (hcd:(x==("__classdict__" : Str))=false:=by decide):DB T X (.Name x pos::es) (w1l i fs):=.mk λG E hp=>by
 refine PA.imp (q0I (X:=X.wish E) (q2D (X:=X.wish E) hN hv hd hcd) (hr.run G E hp) hs) fun σ H Q ⟨ρ,fr,h⟩=>?_
 unfold w1l at h
 split at h
 ·rename_i ds e
  obtain ⟨a,vs,e1,e2,e3,r⟩:=fr.sl i _ e
  refine ⟨_,e1,ρ,fr,Acc.mono (Acc.bind h) λpost _ hss us H2 s2 r2=>?_⟩
  exact hss [] a us vs H2 s2 rfl r2 (s2 _ _ e2) e3 (RepL.mono s2 _ _ r)
 ·rename_i d e
  obtain ⟨v,e1,r⟩:=fr.sl i _ e
  refine ⟨_,e1,ρ,fr,Acc.mono (Acc.bind h) λpost _ hss us H2 s2 r2=>?_⟩
  exact hss (v::us) H2 s2 ⟨v,us,rfl,Rep.mono s2 _ _ r,r2⟩
 ·exact h.elim
@[simp] noncomputable def j46 (fe:Ev) (fb:Ro->Out Bk) (ρ:Ro):Out Bk:=(fe ρ).bind λd=>(fb ρ).bind λb=>match b with
 | .sh ds=>.ok (.sh (d::ds))
 | .ow pre ds post=>.ok (.ow (d::pre) ds post)
theorem q9Q (ha:DE T X e fe) (hr:DB T X es fb) (hs:starEach (e::es) X.env=(false,eval e X.env)::starEach es X.env:=by exact q0D rfl):DB T X (e::es) (j46 fe fb):=.mk λG E hp=>by
 refine PA.imp (q0I (X:=X.wish E) (ha.run G E hp) (hr.run G E hp) hs) fun σ H Q ⟨ρ,fr,h⟩=>⟨ρ,fr,Acc.mono (Acc.bind h) λd _ hd v H1 s1 r1=>⟨ρ,fr.mono s1,Acc.mono (Acc.bind (Acc.heap s1 hd)) λb _ hb=>?_⟩⟩
 cases b with
 | sh ds=>exact λus H2 s2 r2=>hb (v::us) H2 (s1.trans s2) ⟨v,us,rfl,Rep.mono s2 _ _ r1,r2⟩
 | ow pre ds post=>exact λvp b vq ws H2 s2 q1 q2 q3 q4 q5=>hb (v::vp) b vq ws H2 (s1.trans s2) ⟨v,vp,rfl,Rep.mono s2 _ _ r1,q1⟩ q2 q3 q4 q5
@[simp] noncomputable def j8w (t:Bool) (fb:Ro->Out Bk) (ρ:Ro):Fl:=(fb ρ).fl ρ λb=>match b with
 | .sh ds=>if ds.length<=1000000 then .rt (if t=true then .sh (.tup ds) else .fr ds) else .bad
 | .ow pre ds post=>if pre.length+post.length+1<=1000000 then .rt (.tf t pre ds post) else .bad
theorem j5q {H:Hp} {p b:Addr} {o:HO} {ws:List V} (hp:H p=none) (h:H b=some (.lst ws)):upd H p o b=some (.lst ws):=q0z hp _ _ h
theorem j13 {x1} (h:DB T X es fb):DS T ib X (.Return (some (.Tuple es x1 p)) pos) (j8w true fb):=.mk λG E hp=>
 PS.imp (q7b (j4s (X:=X.wish E) (h.run G E hp))) λD σ H ⟨ρ,fr,q⟩=>⟨ρ,fr,Acc.mono (AccS.fl fr q) λb _ hb=>by
  cases b with
  | sh ds=>
   intro vs H1 s1 r
   have hl:=RepL.length _ _ r
   have hb:AccS T ib X G E H (if ds.length<=1000000 then .rt (.sh (.tup ds)) else .bad) D:=hb
   by_cases z:ds.length<=1000000
   ·rw [if_pos z] at hb
    exact ⟨by rw [hl];exact line6 z,λa hp'=>hb _ _ (fr.same.trans (s1.trans (q0z hp'))) ⟨a,vs,rfl,SqT.of q0u,RepL.mono (q0z hp') _ _ r⟩⟩
   ·rw [if_neg z] at hb;exact hb.elim
  | ow pre ds post=>
   intro vp b vq ws H1 s1 r1 r2 e3 e4 r3
   have l1:=RepL.length _ _ r1
   have l2:=RepL.length _ _ r2
   have hb:AccS T ib X G E H (if pre.length+post.length+1<=1000000 then .rt (.tf true pre ds post) else .bad) D:=hb
   by_cases z:pre.length+post.length+1<=1000000
   ·rw [if_pos z] at hb
    refine ⟨?_,λa hp'=>hb _ _ (fr.same.trans (s1.trans (q0z hp'))) ⟨a,vp,b,vq,ws,rfl,q0u,RepL.mono (q0z hp') _ _ r1,RepL.mono (q0z hp') _ _ r2,j5q hp' e3,e4,RepL.mono (q0z hp') _ _ r3⟩⟩
    have:=line6 z
    simp;omega
   ·rw [if_neg z] at hb;exact hb.elim⟩
end
section
variable {T:Tb} {ib:Bool} {X:Cx} {e:Expr} {pos p:Pos} {fr':Ro->Out Rv} {x:Str}
end
section
variable {T:Tb} {K:PySem.W.Frag} {G H:Hp} {σ:L2.St} {ρ:Ro}
theorem FR.own_gen {i:Nat} {s0 s1:Sl} {a:Addr} {vs ws:List V} (fr:FR T K G H σ ρ) (e:ρ[i]?=some s0) (oa:q3J H σ[i]? a s0) (e2:H a=some (.lst vs)) (e3:G a=none) (h1:SlOk T K G (upd H a (.lst ws)) σ[i]? s1) (hb:∀b,q3J (upd H a (.lst ws)) σ[i]? b s1->q3J H σ[i]? b s0) (hm:∀c ds,s1≠.me c ds) :
 FR T K G (upd H a (.lst ws)) σ (ρ.set i s1):=by
 have p:Pers T false H (upd H a (.lst ws)):=q2a e2
 have hl:i < ρ.length:=(List.getElem?_eq_some_iff.mp e).1
 have lt:∀{m:Nat} {z:Sl},(ρ.set i s1)[m]?=some z->(m=i/\z=s1)∨(m≠i/\ρ[m]?=some z):=λ{m z} q=>by
  by_cases hm:m=i
  ·subst hm
   rw [List.getElem?_set_self hl] at q
   exact .inl ⟨rfl,(Option.some.inj q).symm⟩
  ·rw [List.getElem?_set_ne (Ne.symm hm)] at q;exact .inr ⟨hm,q⟩
 refine ⟨λb u q=>?_,by simp [fr.len],λj s q=>?_,λj k z1 z2 b hjk q1 q2 o1 o2=>?_,fr.me,q3v hm fr.me0⟩
 ·rw [q0i (λz=>by rw [z,e3] at q;cases q)];exact fr.same b u q
 ·rcases lt q with ⟨rfl,rfl⟩ | ⟨hj,q⟩
  ·exact h1
  ·have h:=fr.sl j s q
   exact SlOk.off e2 (λ_ _=>RepL.pers p _ _) (λo1=>fr.ne j i _ _ a hj q e o1 oa) h
 ·have bk:∀(c:Addr) (u:HO),H c=some u->(∀xs,u≠.lst xs)->(∀x dx fs,u≠.ins x dx fs)->upd H a (.lst ws) c=some u:=λc u w n _=>by
   rw [q0i (λy=>by subst y;rw [e2] at w;cases w;exact n _ rfl)];exact w
  have own:∀(m:Nat) (z:Sl),(ρ.set i s1)[m]?=some z->q3J (upd H a (.lst ws)) σ[m]? b z->∃z',ρ[m]?=some z'/\q3J H σ[m]? b z':=λm z q o=>by
   rcases lt q with ⟨rfl,rfl⟩ | ⟨_,q⟩
   ·exact ⟨_,e,hb b o⟩
   ·exact ⟨_,q,(fr.sl m z q).back bk o⟩
  obtain ⟨_,p1,w1⟩:=own j _ q1 o1
  obtain ⟨_,p2,w2⟩:=own k _ q2 o2
  exact fr.ne j k _ _ b hjk p1 p2 w1 w2
theorem FR.ox_upd {i:Nat} {t:Bool} {a b:Addr} {vp vq vs ws:List V} {pre ds es post:List D} (fr:FR T K G H σ ρ) (e:ρ[i]?=some (.ox t pre ds post)) (e1:σ[i]?=some (some (.ref a))) (e2:OutAt H t a (vp++.ref b::vq)) (r1:RepL T K H pre vp) (r2:RepL T K H post vq) (e3:H b=some (.lst vs)) (e4:G b=none) (r:RepL T K H es ws) :
 FR T K G (upd H b (.lst ws)) σ (ρ.set i (.ox t pre es post)):=by
 have p:Pers T false H (upd H b (.lst ws)):=q2a e3
 have ha:OutAt (upd H b (.lst ws)) t a (vp++.ref b::vq):=e2.keep λu q _ _=>by
  rw [q0i (λz=>by subst z;exact e2.nlst e3)];exact q
 refine fr.own_gen e (j7j e1 e2 r1) e3 e4 ⟨a,vp,b,vq,ws,e1,ha,RepL.pers p _ _ r1,RepL.pers p _ _ r2,q0u,e4,RepL.pers p _ _ r⟩ (λc o=>?_) (λ_ _ z=>by cases z)
 obtain ⟨a',us,z1,z2,z3⟩:=o
 rw [e1] at z1;cases z1
 have:=ha.uniq z2
 subst this
 exact ⟨a,_,e1,e2,z3⟩
theorem OutAt.ix {t:Bool} {a b:Addr} {vp vq:List V} {pre:List D} {c:Int} {Q:VK} (e2:OutAt H t a (vp++.ref b::vq)) (r1:RepL T K H pre vp) (hc:c=(pre.length:Int)) (q:Q (.ref b) H):(λx y H Q=>w2a K x y H Q∨w2u K x y H Q) (.ref a) (.int c) H Q:=by
 have at_:atI (vp++.ref b::vq) c=some (.ref b):=by
  subst hc
  rw [<-RepL.length _ _ r1]
  have hi:ixN (vp++V.ref b::vq).length (vp.length:Int)=some vp.length:=by
   unfold ixN
   rw [if_pos (by omega),if_pos (by simp;omega)];simp
  unfold atI
  rw [hi]
  show (vp++V.ref b::vq)[vp.length]?=_
  rw [List.getElem?_append_right (Nat.le_refl _),Nat.sub_self];rfl
 cases t with
 | true=>exact .inr ⟨a,_,c,_,rfl,rfl,SqT.of e2,at_,q⟩
 | false=>
  obtain ⟨o,e2⟩:=e2
  exact .inl ⟨a,_,c,_,rfl,rfl,.inl (.inr ⟨o,e2⟩),at_,q⟩
end
section
variable {T:Tb} {ib:Bool} {X:Cx} {e b:Expr} {pos p p2 p3 pc ps:Pos} {fe fb:Ev} {x:Str} {c:Int} {j:Nat}
@[simp] noncomputable def q8G (i:Nat) (c:Int) (fe:Ev) (ρ:Ro):Fl:=match ρ[i]? with
 | some (.ox t pre ds post)=>if c=(pre.length:Int) then (fe ρ).fl ρ λd=>if ds.length < 1000000 then .nx (ρ.set i (.ox t pre (ds++[d]) post)) else .bad else .bad
 | _=>.bad
theorem j1g (i:Nat) (he:DE T X e fe) (hN:X.N[i]?=some x:=by rfl) (hv:Vis X.env.scope x:=by walk_at "v0") (hd:(x==("__debug__" : Str))=false:=by decide)
 (hcd:(x==("__classdict__" : Str))=false:=by decide) (hs:starEach [e] X.env=(false,eval e X.env)::starEach [] X.env:=by exact q0D rfl) (hpl:(backTo p3 (starEach ([]:List Expr) X.env)).any (·.1)=false:=by exact q0J rfl) (hst:([e]:List Expr).all q2G=true:=by rfl)
 (hline:(p2.endLine==p3.line)=true:=by rfl) :
 DS T ib X (.Expr (.Call (.Attribute (.Subscript (.Name x p) (.Constant (.int c) j pc) ps) "append" p2) [e] [] p3) pos) (q8G i c fe):=.mk λG E hp=>
 PS.imp (q5V (X:=X.wish E) (j2G (X:=X.wish E) PySem.F.plainAttrs_list PySem.F.slot_list_append PySem.F.type_list_append q3g (j6m (X:=X.wish E) (IxR.or q56 j4n) (q2D (X:=X.wish E) hN hv hd hcd) j3F (λ_ _=>rfl)) (q0I (X:=X.wish E) (he.run G E hp) q1t hs) rfl (q7r hst rfl) hline hs hpl) (q2c rfl)) λD σ H ⟨ρ,fr,h⟩=>by
  unfold q8G at h
  split at h
  ·rename_i t pre ds post e0
   obtain ⟨a,vp,l,vq,vs,e1,e2,r1,r2,e3,e4,r⟩:=fr.sl i _ e0
   by_cases hc:c=(pre.length:Int)
   ·rw [if_pos hc] at h
    refine ⟨_,e1,OutAt.ix e2 r1 hc ?_⟩
    refine ⟨.inl ⟨rfl,vs,SqL.of e3⟩,ρ,fr,Acc.mono (AccS.fl fr h) λd _ hd v H1 s1 q1=>?_⟩
    by_cases z:ds.length < 1000000
    ·rw [if_pos z] at hd
     have r':=RepL.mono s1 _ _ r
     refine ⟨l,vs,v,rfl,rfl,s1 _ _ e3,?_,hd σ _ ((fr.mono s1).ox_upd e0 e1 (e2.keep λo q _ _=>s1 _ _ q) (RepL.mono s1 _ _ r1) (RepL.mono s1 _ _ r2) (s1 _ _ e3) e4 (RepL.append _ _ _ _ r' ⟨v,[],rfl,q1,rfl⟩)) ((Pers.of s1).trans (q2a (s1 _ _ e3)))⟩
     rw [RepL.length _ _ r]
     have:=line6 (n:=1000000) (by omega)
     omega
    ·rw [if_neg z] at hd;exact hd.elim
   ·rw [if_neg hc] at h;exact h.elim
  ·exact h.elim
end
section
variable {P:Program} {w:World} {A:Around}
noncomputable abbrev two (x:Value) (c:Nat):Obj:=⟨.type "list",none,.seq #[x,x] c,#[]⟩
end
open AutoSeq1 (wpAny_loadPart')
open SeqAt
end L3
namespace L3
open PySem PySem.Spec PyProof.Rows L2
section
variable {X:Cx}
end
section
variable {T:Tb} {X:Cx}
end
section
variable {T:Tb} {ib:Bool} {X:Cx} {e b:Expr} {pos pos' p p2:Pos} {fe fb:Ev} {x:Str}
@[simp] noncomputable def w1R (i:Nat) (fe:Ev) (ρ:Ro):Fl:=match ρ[i]? with
 | some (.sh (.int a))=>(fe ρ).fl ρ λd=>(match d with
  | .int c=>.nx (ρ.set i (.sh (.int (a+c))))
  | _=>.bad)
 | _=>.bad
theorem j6U (i:Nat) (hN:X.N.Nodup) (he:DE T X e fe) (hi:X.N[i]?=some x:=by rfl) (hx:Loc X.env.scope x:=by walk_at "v3") (hf:X.fn x=true∨X.env.scope.names.lookup x=some .local:=by walk_at "v2")
 (hz:T.me=none∨i≠0:=by walk_at "v1") :
 DS T ib X (.AugAssign (.Name x pos') .Add e pos) (w1R i fe):=.mk λG E hp=>
 PS.imp (j8h (X:=X.wish E) hN hi hx (he.run G E hp) j8X hf) λD σ H ⟨ρ,fr,h⟩=>by
  unfold w1R at h
  split at h
  ·rename_i a e0
   obtain ⟨v,e1,r⟩:=fr.sl i _ e0
   refine ⟨v,e1,ρ,fr,Acc.mono (AccS.fl fr h) λd _ hd u H1 s1 r1=>?_⟩
   cases d with
   | int c=>exact ⟨a,c,r,r1,hd _ _ ((fr.mono s1).set_sh (d:=.int (a+c)) rfl hz) (Pers.of s1)⟩
   | _=>exact hd.elim
  ·exact h.elim
end
section
variable {X:Cx}
end
section
variable {T:Tb} {X:Cx}
end
section
variable {K:Type} [DecidableEq K]
noncomputable def inK (σ:List K) (k:K):Bool:=σ.any λx=>decide (x=k)
noncomputable def q1W (σ:List K) (k:K):List K:=if inK σ k=true then σ else σ++[k]
noncomputable def dk (ks:List K):List K:=ks.foldl q1W []
theorem j5G (ks:List K) (k:K):dk (ks++[k])=q1W (dk ks) k:=by
 unfold dk;rw [List.foldl_append];rfl
theorem q2I {σ:List K} {k:K}:inK σ k=true↔k∈σ:=by
 unfold inK;simp
theorem q9W {σ:List K} {v k:K}:k∈q1W σ v↔k∈σ∨k=v:=by
 unfold q1W
 split
 ·rename_i h
  rw [q2I] at h
  constructor
  ·exact .inl
  ·rintro (z | rfl)
   ·exact z
   ·exact h
 ·simp
theorem j11 (σ:List K) (v k:K):inK (q1W σ v) k=(inK σ k || decide (k=v)):=by
 rw [Bool.eq_iff_iff,q2I,q9W,Bool.or_eq_true,q2I,decide_eq_true_eq]
theorem q6j (σ:List K) (v:K):(q1W σ v).length=if inK σ v=true then σ.length else σ.length+1:=by
 unfold q1W
 split<;>simp
theorem q4r:∀(ks σ:List K),(ks.foldl q1W σ).length<=σ.length+ks.length
 | [],σ=>Nat.le_refl _
 | k::ks,σ=>by
  have h1:=q4r ks (q1W σ k)
  have h2:=q6j σ k
  rw [List.foldl_cons,List.length_cons]
  split at h2<;>omega
theorem j72 (ks:List K):(dk ks).length<=ks.length:=by
 have:=q4r ks []
 simpa [dk] using this
theorem q50 {σ:List K} {v:K} (h:σ.Nodup):(q1W σ v).Nodup:=by
 unfold q1W
 split
 ·exact h
 ·rename_i z
  rw [q2I] at z
  rw [List.nodup_append]
  exact ⟨h,by simp,λa ha b hb e=>z (by rw [List.mem_singleton.mp hb] at e;exact e ▸ ha)⟩
theorem q5j:∀(ks σ:List K),(σ++ks).Nodup->ks.foldl q1W σ=σ++ks
 | [],σ,_=>by simp
 | k::ks,σ,h=>by
  have hk:k∉σ:=λz=>by
   rw [List.nodup_append] at h
   exact h.2.2 k z k (by simp) rfl
  have e:q1W σ k=σ++[k]:=by
   unfold q1W
   rw [if_neg (λz=>hk (q2I.mp z))]
  rw [List.foldl_cons,e,q5j ks (σ++[k]) (by simpa using h)]
  simp
theorem q69:∀(ks σ:List K),¬(σ++ks).Nodup->σ.Nodup->(ks.foldl q1W σ).length < σ.length+ks.length
 | [],σ,h,hs=>absurd (by simpa using hs) h
 | k::ks,σ,h,hs=>by
  by_cases hk:k∈σ
  ·have e:q1W σ k=σ:=by
    unfold q1W
    rw [if_pos (q2I.mpr hk)]
   rw [List.foldl_cons,e,List.length_cons]
   have:=q4r ks σ
   omega
  ·have e:q1W σ k=σ++[k]:=by
    unfold q1W
    rw [if_neg (λz=>hk (q2I.mp z))]
   have:=q69 ks (σ++[k]) (by simpa using h) (by rw [<-e];exact q50 hs)
   rw [List.foldl_cons,e,List.length_cons]
   simp at this
   omega
theorem q7Q (ks:List K):(dk ks).length=ks.length↔ks.Nodup:=by
 constructor
 ·intro h
  refine Classical.byContradiction λz=>?_
  have:=q69 ks [] (by simpa using z) (by simp)
  simp only [List.length_nil,Nat.zero_add] at this
  have e:ks.foldl q1W []=dk ks:=rfl
  rw [e] at this
  omega
 ·intro h
  have:=q5j ks [] (by simpa using h)
  have e:ks.foldl q1W []=dk ks:=rfl
  rw [e] at this
  rw [this];simp
end
section
variable {K:Type} [DecidableEq K] {P:Program} {w:World} {knd:PySem.KeyKind P w K}
theorem q6I {h:Heap} {a:Addr} {S S':K->Bool} {n n':Nat} (x:h.SetOf knd a S n) (e1:∀k,S k=S' k) (e2:n=n'):h.SetOf knd a S' n':=by
 cases funext e1;cases e2;exact x
noncomputable def j4y (knd:PySem.KeyKind P w K) (items:Array Value) (ks:List K):Prop:=items.size=ks.length/\∀(i:Nat) (v:Value),items[i]?=some v->∃k,ks[i]?=some k/\knd.is k v=true/\v.scannable=true
theorem q9f {ks:List K} {i:Nat} {k:K} (h:ks[i]?=some k):ks.take (i+1)=ks.take i++[k]:=by
 obtain ⟨hi,e⟩:=List.getElem?_eq_some_iff.mp h
 rw [List.take_succ_eq_append_getElem hi,e]
section
variable {A:Around} {R:Result->Shared->Prop} {J:Addr} {fp wr:List Addr} {G:Array GenState->Array GenState->Prop} {St:Nat->Shared->Prop}
theorem q3o {S:Addr} {G:Array GenState->Array GenState->Prop} {wr:List Addr} {s s':Shared} {f:K->Bool} {n:Nat} (h:s.heap.SetOf knd S f n) (m:Moved wr G s s') (hS:S∉wr):s'.heap.SetOf knd S f n:=by
 obtain ⟨o,es,ep,t,ho,more⟩:=h
 exact ⟨o,es,ep,t,m.heap S _ hS ho,more⟩
theorem j2B {items:Array Value} {ks:List K} (W:WalksS P w A.in1 J fp wr G items.size (λi v=>items[i]?=some v) St) (S:Addr) (hSf:S∉fp) (hk:j4y knd items ks) (hb:ks.length+1 < scanBound) :
 ∀(m i:Nat) (s:Shared),i+m=items.size->St i s->s.heap.SetOf knd S (inK (dk (ks.take i))) (dk (ks.take i)).length ->
  (∀s',Moved (S::wr) G s s'->s'.heap.SetOf knd S (inK (dk ks)) (dk ks).length->R (.ok (.ret .none)) s')->codeAny (model P w) A (.builtin "set.update.loop" ⟨[.ref S,.ref J],[]⟩) R s:=by
 have nw:S∉wr:=λz=>hSf (W.sub _ z)
 have more:∀b∈wr,b∈S::wr:=λb z=>List.mem_cons_of_mem _ z
 intro m
 induction m with
 | zero=>
  intro i s hi hst hset fin
  obtain rfl:i=items.size:=by omega
  refine codeAny_builtin PyProof.Rows.F.entry_set_update_loop ?_
  rw [Around.under_plainId PyProof.Rows.F.plain_set_update_loop _]
  show wpAny _ A.in1 (pyNext (.ref J) >>= _) _ _ s
  refine wpAny_bind (W.done s _ _ hst λs' mv=>?_)
  show wpAny _ A.in1 (ret Value.none) _ _ s'
  refine wpAny_pure (fin s' (mv.mono more) ?_)
  have:=q3o hset mv nw
  rwa [List.take_of_length_le (by rw [hk.1];exact Nat.le_refl _)] at this
 | succ m ih=>
  intro i s hi hst hset fin
  refine codeAny_builtin PyProof.Rows.F.entry_set_update_loop ?_
  rw [Around.under_plainId PyProof.Rows.F.plain_set_update_loop _]
  show wpAny _ A.in1 (pyNext (.ref J) >>= _) _ _ s
  refine wpAny_bind (W.item i s _ _ (by omega) hst λv s' hv hst' mv=>?_)
  obtain ⟨k,ek,isk,sck⟩:=hk.2 i v hv
  have hset':=q3o hset mv nw
  show wpAny _ A.in1 (holding [v] (setAdd S v) >>= _) _ _ s'
  refine wpAny_bind (wpAny_holding ?_)
  unfold setAdd
  refine wpAny_holding (wpAny_bind (knd.pyHash (k:=k) isk ?_))
  have room:(dk (ks.take i)).length+1 < scanBound:=by
   have:=j72 (ks.take i)
   rw [List.length_take] at this;omega
  refine wpAny_setAddHashed_of (knd:=knd) (s:={ s' with toks:=s'.toks+1 }) isk sck hset' room λh' sb hset2=>?_
  have hset3:h'.SetOf knd S (inK (dk (ks.take (i+1)))) (dk (ks.take (i+1))).length:=by
   rw [q9f ek,j5G]
   exact q6I hset2 (λq=>(j11 _ _ _).symm) (q6j _ _).symm
  refine wpAny_pure ⟨plainId_quiet PyProof.Rows.F.plain_set_update_loop _,ih (i+1) _ (by omega) (W.frame _ s' _ _ hst' (Nat.le_succ _) λb hb' o e=>?_) hset3 λs2 mv2 hs2=>fin s2 ?_ hs2⟩
  ·rw [sb.2 b (λz:b=S=>hSf (z ▸ hb'))];exact e
  ·refine Moved.trans W.gtrans ((mv.mono more).then_heap (Nat.le_succ _) λb o hb' e=>?_) mv2
   rw [sb.2 b (λz:b=S=>hb' (z ▸ List.mem_cons_self))];exact e
end
section
variable {A:Around} {E:Value->Shared->Prop} {s:Shared}
set_option maxHeartbeats 3200000 in
theorem j1D {l:Addr} {items:Array Value} {ks:List K} {Q:Value->Shared->Prop} (hh:A.handled=none) (hl:s.heap.IsList l items) (hk:j4y knd items ks) (hb:ks.length+1 < scanBound)
 (fin:∀(h':Heap) (tk:Nat),h'.SetOf knd s.heap.objs.size (inK (dk ks)) (dk ks).length->(∀b o,s.heap.get? b=some o->h'.get? b=some o)->Q (.ref s.heap.objs.size) { s with heap:=h',toks:=tk }) :
 wpAny (model P w) A (call (.type "set") [.ref l]) Q E s:=by
 obtain ⟨c,tl,mro⟩:=PySem.F.called_set.mro
 have made:=PySem.F.called_set.made
 have subs:=PySem.F.called_set.sub
 refine wpAny_call (codeAny_of_tree ?_)
 show wpAny _ _ (callAny (.type "set") _) _ _ _
 refine wpAny_pure ⟨Code.quiet_builtin _ (by decide +kernel),codeAny_builtin PySem.F.entry_type_call ?_⟩
 rw [Around.under_plain (weight_type_call_type "set" [.ref l] []) rfl]
 have notT:=PySem.F.called_set.notType
 have canC:=PySem.F.called_set.canCreate
 have tcall:=PySem.F.typeCall_set_1 (.ref l)
 repeat (any_goals (first | assumption | wp_step))
 refine codeAny_mono (code_set_new_1 (.ref l) (E:=E) (Q₁:=λobj s₁=>∃led:Bool,obj=.ref s.heap.objs.size/\s₁={ s with heap:=s.heap.push { cls:=.type "set",dict:=none,data:=.set #[] 0 (.fresh 0 0 led) } }) λled=>⟨led,rfl,rfl⟩) λr s₁ hr=>?_
 rcases r with e | fl
 ·exact hr
 rcases fl with _ | _ | _ | obj
 any_goals exact hr.elim
 obtain ⟨led,rfl,rfl⟩:=hr
 generalize hO:({ cls:=.type "set",dict:=none,data:=.set #[] 0 (.fresh 0 0 led) }:Obj)=O
 have gO:(s.heap.push O).get? s.heap.objs.size=some O:=Heap.get?_push_size _ (by rw [<-hO];rfl)
 have tO:Shared.TypeIs { s with heap:=s.heap.push O } (.ref s.heap.objs.size) "set":=⟨_,gO,by rw [<-hO]⟩
 have look:=PySem.F.called_set.init.lookup
 have bnd:=PySem.F.called_set.init.bind (.ref s.heap.objs.size)
 repeat (any_goals (first | assumption | wp_step))
 refine codeAny_mono (codeAny_call_builtin (R:=wants (λr s₂=>r=.none/\∃h' tk,s₂={ s with heap:=h',toks:=tk }/\h'.SetOf knd s.heap.objs.size (inK (dk ks)) (dk ks).length/\∀b o,s.heap.get? b=some o->h'.get? b=some o) E) PySem.F.called_set.init.plain PySem.F.entry_set_init (check_set_init_1 tO ?_)) λr₂ s₂ hr₂=>?_
 ·obtain ⟨⟨oc,od,odt,osl⟩,ho,hc,n,hd⟩:=hl
  simp only at hc hd
  subst hc hd
  have lt:l < s.heap.objs.size:=Heap.lt_size ho
  have ho':(s.heap.push O).get? l=some { cls:=.type "list",dict:=od,data:=.seq items n,slots:=osl }:=Heap.get?_push_of_some _ ho
  have n1:=PySem.F.sub_list_set
  have n2:=PySem.F.sub_list_frozenset
  have n3:(Value.type "list"==Value.type "dict")=false:=by decide
  have isl:(s.heap.push O).IsList l items:=⟨_,ho',rfl,n,rfl⟩
  have sz:(s.heap.push O).objs.size=s.heap.objs.size+1:=Heap.size_push ..
  subst hO
  unfold Builtin.«set.__init__» noKeywords Builtin.Frozenset.updateFrom
  generalize hPI:pyIter=PI
  wp_walk
  subst hPI
  refine wpAny_pyIter_list isl ?_
  refine wpAny_bind (wpAny_runValue ?_)
  have h3:A.in1.in1.in1.handled=none:=by simp [hh]
  have ne1:l≠(s.heap.push { cls:=.type "set",dict:=none,data:=.set #[] 0 (.fresh 0 0 led) }).objs.size:=by rw [sz];exact Nat.ne_of_lt (Nat.lt_succ_of_lt lt)
  have nf:s.heap.objs.size∉[(s.heap.push { cls:=.type "set",dict:=none,data:=.set #[] 0 (.fresh 0 0 led) }).objs.size,l]:=by
   rw [sz];simp only [List.mem_cons,List.not_mem_nil,or_false,not_or]
   exact ⟨Nat.ne_of_lt (Nat.lt_succ_self _),Nat.ne_of_gt lt⟩
  refine j2B ((Walks.list h3 _ l ne1 items).toS) s.heap.objs.size nf hk hb items.size 0 _ (by simp) ⟨⟨_,Heap.get?_push_size _ rfl,rfl,rfl⟩,isl.push _⟩ ?_ λs' mv hs'=>?_
  ·exact q6I ((PyProof.Rows.setObjOf_fresh (knd:=knd) led).setOf (Heap.get?_push_of_some _ gO) (by unfold scanBound;omega)) (λ_=>rfl) rfl
  ·obtain ⟨h',g',d',tk',os'⟩:=s'
   obtain rfl:g'=s.gens:=mv.gens
   obtain rfl:d'=s.drawn:=mv.drawn
   obtain rfl:os'=s.os:=mv.os
   refine wpAny_pure (?_:wpAny _ _ (ret Value.none) _ _ _)
   refine wpAny_pure ⟨rfl,h',tk',rfl,hs',λb o e=>?_⟩
   have hb0:=Heap.lt_size e
   exact mv.heap b o (by rw [sz];simp only [List.mem_cons,List.not_mem_nil,or_false,not_or];exact ⟨Nat.ne_of_lt hb0,Nat.ne_of_lt (Nat.lt_succ_of_lt hb0)⟩) (Heap.get?_push_of_some _ (Heap.get?_push_of_some _ e))
 ·rcases r₂ with e | fl₂
  ·exact hr₂
  rcases fl₂ with _ | _ | _ | r
  any_goals exact hr₂.elim
  obtain ⟨rfl,h',tk,rfl,hs',kk⟩:=hr₂
  repeat (any_goals (first | assumption | wp_step))
  exact fin _ _ hs' kk
end
end
section
variable {X:Cx} {pins:List (Addr×Obj)} {σ:L2.St} {H:Hp} {s:Shared}
theorem Inv.enter {ea:Addr} {φ:Heap->Prop} {ob:Obj} (I:Inv X pins σ H s) (hn:H ea=none) (fe:Free X pins ea) (ho:s.heap.get? ea=some ob) (hφ:φ s.heap) (st:∀h1 h2:Heap,φ h1->(∀o,h1.get? ea=some o->h2.get? ea=some o)->φ h2) :
 Inv X pins σ (upd H ea (.ext φ)) s:=by
 obtain ⟨f1,f2,f3,f4⟩:=fe
 have ne:∀b o,H b=some o->b≠ea:=λb o e z=>by rw [z,hn] at e;cases e
 refine ⟨I.ok,I.os,I.bare,⟨I.base.keep,I.base.slot,λb o e n hx=>?_,I.base.there,λb xs e=>?_,λb o v e=>?_,λb ps e=>?_⟩,I.loc,I.cell,?_,λy cc e=>?_,λp hp=>?_,λb o e=>?_,I.len⟩
 ·rw [q0i (λz=>?_)]
  ·exact I.base.free b o e n hx
  ·rcases f1 with f1 | f1
   ·exact hx (z ▸ f1)
   ·rw [z] at e;rw [f1] at e;cases e
 ·have q:=I.base.tups b xs e;rw [q0i (ne b _ q)];exact q
 ·have q:=I.base.frzs b o v e;rw [q0i (ne b _ q)];exact q
 ·obtain ⟨more,q⟩:=I.base.tbls b ps e
  exact ⟨more,by rw [q0i (ne b _ q)];exact q⟩
 ·rw [q0i (Ne.symm f2)];exact I.free
 ·rw [q0i (f3 y cc e)];exact I.freeC y cc e
 ·obtain ⟨a1,a2,a3⟩:=I.pin p hp
  exact ⟨a1,by rw [q0i (f4 p hp)];exact a2,a3⟩
 ·have ow:∀b y,H b=some (.own y)->upd H ea (.ext φ) b=some (.own y):=λb y q=>by rw [q0i (ne b _ q)];exact q
  have tu:∀b y,H b=some (.tup y)->upd H ea (.ext φ) b=some (.tup y):=λb y q=>by rw [q0i (ne b _ q)];exact q
  by_cases hb:b=ea
  ·subst hb
   rw [q0u] at e;cases e
   exact ⟨hφ,⟨ob,ho⟩,st⟩
  ·rw [q0i hb] at e
   exact (I.hok b o e).stay (λ_ _ _ q=>q) (λcc=>ow cc _) tu
theorem j1O (I:Inv X pins σ H s) {b:Addr} (hb:s.heap.objs.size<=b):Free X pins b:=q9F I (Heap.get?_none_of_le hb)
end
section
variable {K:Type} [DecidableEq K] {X:Cx} {knd:PySem.KeyKind X.prog X.w K}
noncomputable def q8P (knd:PySem.KeyKind X.prog X.w K) (p:Addr) (ks:List K) (h:Heap):Prop:=h.SetOf knd p (inK (dk ks)) (dk ks).length
theorem j2f {p:Addr} {ks:List K} {h1 h2:Heap} (x:q8P knd p ks h1) (k:∀o,h1.get? p=some o->h2.get? p=some o):q8P knd p ks h2:=by
 obtain ⟨o,es,ep,t,ho,more⟩:=x
 exact ⟨o,es,ep,t,k _ ho,more⟩
theorem Free.later {pins:List (Addr×Obj)} {σ:L2.St} {H:Hp} {s:Shared} (I:Inv X pins σ H s):Free X pins s.heap.objs.size:=j1O I (Nat.le_refl _)
theorem q9I {kv:K->V} (hc:X.calm=true) (hkv:∀(k:K) (v:Value),RelV (kv k) v->knd.is k v=true/\v.scannable=true):q2n X (.type "set") (λxs H Q=>∃(a:Addr) (ks:List K),xs=[.ref a]/\SqL X.K H a (ks.map kv)/\ks.length<=4000/\∀p,H p=none->Q (.ref p) (upd H p (.ext (q8P knd p ks)))):=by
 intro pins s σ H xs us Q I rv h
 obtain ⟨a,ks,rfl,hq,hl,q⟩:=h
 obtain ⟨u,rfl,ru⟩:=rv.one
 cases ru
 obtain ⟨its,r,pl,hz⟩:=I.list hq
 have len:=r.length
 rw [List.length_map] at len
 have fr:=I.fresh
 refine j1D (knd:=knd) (items:=its.toArray) (ks:=ks) (I.ok.hd hc) pl.isList ⟨by simp [len],λi v e=>?_⟩ (by unfold scanBound;omega) λh' tk hs kk=>?_
 ·have e':its[i]?=some v:=by simpa using e
  obtain ⟨hi,e2⟩:=List.getElem?_eq_some_iff.mp e'
  have hi':i < ks.length:=by omega
  obtain ⟨u,hu,ru⟩:=r.get (show (ks.map kv)[i]?=some (kv ks[i]) by simp [hi'])
  rw [e'] at hu;cases hu
  exact ⟨ks[i],by simp [hi'],hkv _ _ ru⟩
 ·have I2:Inv X pins σ H { s with heap:=h',toks:=tk }:=I.kept kk
  have f2:Free X pins s.heap.objs.size:=Free.later I
  obtain ⟨o,es,ep,t,ho,more⟩:=hs
  have hs':q8P knd s.heap.objs.size ks h':=⟨o,es,ep,t,ho,more⟩
  exact ⟨.ref s.heap.objs.size,_,Inv.enter I2 fr f2 ho hs' (λh1 h2 x k=>j2f x k),rfl,q _ fr⟩
theorem q5C:q2n X (.builtin "len") (λxs H Q=>∃(a:Addr) (ks:List K) (φ:Heap->Prop),xs=[.ref a]/\H a=some (.ext φ)/\(∀h,φ h->q8P knd a ks h)/\ks.length<=4000/\Q (.int (dk ks).length) H):=by
 intro pins s σ H xs us Q I rv h
 obtain ⟨a,ks,φ,rfl,ha,hφ,hl,q⟩:=h
 obtain ⟨u,rfl,ru⟩:=rv.one
 cases ru
 obtain ⟨p,_⟩:=(show ObjOk X.prog X.w H s.heap a (.ext φ) from I.hok a _ ha)
 obtain ⟨o,es,ep,t,ho,hex,hd,hel,hmem,hb,hf,hn⟩:=hφ _ p
 have:=j72 ks
 refine call_len_set ho hex hd hf (by rw [hn];omega) ?_
 rw [hn]
 exact ⟨.int _,H,I.tok _,⟨_,rfl⟩,q⟩
end
section
variable {T:Tb} {X:Cx} {e:Expr} {pos p pos2 p2:Pos} {fl:Ro->Out (List D)}
@[simp] noncomputable def q8E (fl:Ro->Out (List D)) (ρ:Ro):Out D:=(fl ρ).bind λds=>match q2F ds with
 | some ts=>if ts.length<=4000 then .ok (.int (dk ts).length) else .bad
 | none=>.bad
theorem j0p (hc:X.calm=true) (hg:Gl X "len") (hm:X.mg "len" = none) (hg2:Gl X "set") (hm2:X.mg "set" = none) (hl:DL T X e fl)
 (hs:starEach [e] X.env=(false,eval e X.env)::starEach [] X.env:=by exact q0D rfl) (hpl:(backTo pos2 (starEach ([]:List Expr) X.env)).any (·.1)=false:=by exact q0J rfl)
 (hsO:starEach [.Call (.Name "set" p2) [e] [] pos2] X.env=(false,eval (.Call (.Name "set" p2) [e] [] pos2) X.env)::starEach [] X.env:=by exact q0D rfl) (hplO:(backTo pos (starEach ([]:List Expr) X.env)).any (·.1)=false:=by exact q0J rfl) :
 DE T X (.Call (.Name "len" p) [.Call (.Name "set" p2) [e] [] pos2] [] pos) (q8E fl):=.mk λG E hp=>
 PE.imp (q4w (X:=X.wish E) (q5C (X:=X.wish E) (knd:=strKind (X.wish E).prog (X.wish E).w)) hg hm rfl (q0I (X:=X.wish E) (q2u (X:=X.wish E) (q9I (X:=X.wish E) (knd:=strKind (X.wish E).prog (X.wish E).w) (kv:=V.str) hc (λk v r=>by
  obtain ⟨t,rfl⟩:=r
  exact ⟨strKind_is _ _ _ _,rfl⟩)) hg2 hm2 rfl (q0I (X:=X.wish E) (hl.run G E hp) q1t hs) (by decide) (by decide) hs hpl) q1t hsO) (by decide) (by decide) hsO hplO) fun σ H Q ⟨ρ,fr,h⟩=>⟨ρ,fr,Acc.mono (Acc.bind h) λds _ hd l vs H1 s1 sq r=>by
  cases q:q2F ds with
  | none=>rw [q] at hd;exact hd.elim
  | some ts=>
   rw [q] at hd
   have hd:Acc T X E σ H (if ts.length<=4000 then Out.ok (.int (dk ts).length) else .bad) (kE T X.K H Q):=hd
   by_cases z:ts.length<=4000
   ·rw [if_pos z] at hd
    obtain rfl:=q2P q r
    exact ⟨l,ts,rfl,sq,z,λp hp=>⟨p,ts,_,rfl,q0u,λh x=>x,z,hd _ _ (s1.trans (q0z hp)) rfl⟩⟩
   ·rw [if_neg z] at hd;exact hd.elim⟩
end
noncomputable def q2A (tu:Bool) (l:Addr):Obj:={ cls:=.type (if tu then "tuple_iterator" else "list_iterator"),data:=.fields #[.ref l,.int 0 0] }
noncomputable def q2h (it:Addr) (i:Int) (old:Value):Obj:={ cls:=.type "enumerate",data:=.fields #[.none,.bool false,.ref it,rawInt i,.none,old] }
noncomputable def IsSq (tu:Bool) (h:Heap) (l:Addr) (its:Array Value):Prop:=if tu=true then h.IsTuple l its else h.IsList l its
theorem q4m {P:Program} {w:World} {A:Around} {E:Value->Shared->Prop} {s:Shared} {tu:Bool} {l:Addr} {its:Array Value} {Q:Value->Shared->Prop} (h:IsSq tu s.heap l its) (q:Q (.ref s.heap.objs.size) { s with heap:=s.heap.push (q2A tu l) }):wpAny (model P w) A (pyIter (.ref l)) Q E s:=by
 cases tu with
 | true=>exact wpAny_pyIter_tuple h q
 | false=>exact wpAny_pyIter_list h q
set_option maxHeartbeats 2000000 in
theorem j2t (tu:Bool) (l:Addr) (its:Array Value) (t:Tok) :
 Meets (Builtin.«enumerate.__new__» ⟨[.type "enumerate",.ref l],[(("start" : Str),.int 1 t)]⟩) (λ_ R s=>IsSq tu s.heap l its /\
  R (.ok (.ret (.ref (s.heap.objs.size+1)))) { s with heap:=(s.heap.push (q2A tu l)).push (q2h s.heap.objs.size 1 .none) }):=
 .of_wp λprog w A R s h=>by
  obtain ⟨hp,g,d,tk,os⟩:=s
  obtain ⟨hl,h⟩:=h
  have sub:=sub_enumerate
  have sz:(hp.push (q2A tu l)).objs.size=hp.objs.size+1:=Heap.size_push ..
  wp_walk
  refine wpAny_stack_any λst=>wpAny_pure ?_
  split
  ·rename_i c _ _ _ _ _
   cases (c==Value.type "enumerate")<;>(wp_walk using q4m hl;exact ⟨_,rfl,by simp only [sz];exact h⟩)
  ·wp_walk using q4m hl
   exact ⟨_,rfl,by simp only [sz];exact h⟩
noncomputable def IsIt (tu:Bool) (h:Heap) (it l:Addr) (i:Nat):Prop:=if tu=true then h.IsTupleIter it l i else h.IsListIter it l i
section
variable {P:Program} {w:World} {A:Around} {E:Value->Shared->Prop} {s:Shared} {tu:Bool} {it l e:Addr} {i:Nat} {its:Array Value}
theorem IsIt.kept {h h':Heap} (x:IsIt tu h it l i) (k:∀o,h.get? it=some o->h'.get? it=some o):IsIt tu h' it l i:=by
 cases tu with
 | true=>
  obtain ⟨o,ho,r⟩:=(x:h.IsTupleIter it l i)
  exact (⟨o,k o ho,r⟩:h'.IsTupleIter it l i)
 | false=>
  obtain ⟨o,ho,r⟩:=(x:h.IsListIter it l i)
  exact (⟨o,k o ho,r⟩:h'.IsListIter it l i)
theorem IsIt.obj {h:Heap} (x:IsIt tu h it l i):∃o,h.get? it=some o/\∃vs,o.data=.fields vs:=by
 cases tu with
 | true=>
  obtain ⟨o,ho,_,d⟩:=(x:h.IsTupleIter it l i)
  exact ⟨o,ho,_,d⟩
 | false=>
  obtain ⟨o,ho,_,d⟩:=(x:h.IsListIter it l i)
  exact ⟨o,ho,_,d⟩
theorem IsSq.kept {h h':Heap} (x:IsSq tu h l its) (k:∀o,h.get? l=some o->h'.get? l=some o):IsSq tu h' l its:=by
 cases tu with
 | true=>
  obtain ⟨o,ho,r⟩:=(x:h.IsTuple l its)
  exact (⟨o,k o ho,r⟩:h'.IsTuple l its)
 | false=>
  obtain ⟨o,ho,r⟩:=(x:h.IsList l its)
  exact (⟨o,k o ho,r⟩:h'.IsList l its)
theorem q7u {x:Value} {Q:Value->Shared->Prop} (a:s.heap.IsTupleIter it l i) (b:s.heap.IsTuple l its) (c:its[i]?=some x) (q:∀h',h'.IsTupleIter it l (i+1)->Heap.SameBut it s.heap h'->Q x { s with heap:=h' }) :
 wpAny (model P w) A (Builtin.SmallTypes.nextOf (.ref it)) Q E s:=by
 obtain ⟨o,ho,hcl,hd⟩:=id a
 obtain ⟨ot,hot,_,n,hdt⟩:=b
 unfold Builtin.SmallTypes.nextOf
 refine wpAny_bind (wpAny_callSpecial?_slot (name:=Str.ofString "__next__") a.typeIs PySem.F.slot_tuple_iterator_next (wpAny_call_entry PySem.F.slot_tuple_iterator_next a.typeIs PySem.F.entry_tuple_iterator_next (show wpAny _ _ (field (.ref it) 0 >>= _) _ _ s from wpAny_bind (wpAny_field ho hd (x:=.ref l) rfl ?_)) (PySem.F.args_tuple_iterator_next_1 _)))
 show wpAny _ _ (if (Value.ref l==.none)=true then _ else field (.ref it) 1 >>= _) _ _ s
 rw [if_neg (λz=>by cases z)]
 refine wpAny_bind (wpAny_field ho hd (x:=.int i 0) rfl (show wpAny _ _ (seqItems? (.ref l) >>= _) _ _ s from wpAny_bind (wpAny_seqItems hot hdt ?_)))
 simp only [Int.toNat_natCast,c]
 refine wpAny_bind (wpAny_setField ho hd (by simp) (wpAny_pure ⟨x,rfl,wpAny_pure (q _ ⟨_,Heap.get?_update_self _ ho (Obj.isFreed_of_fields (Obj.data_mapFields hd _)),(Obj.cls_mapFields ..).trans hcl,?_⟩ (Heap.SameBut.update ..))⟩))
 rw [Obj.data_mapFields hd]
 simp [rawInt]
end
section
variable {P:Program} {w:World} {A:Around} {E:Value->Shared->Prop} {s:Shared} {tu:Bool} {it l e:Addr} {i:Nat} {its:Array Value}
theorem j0e {Q:Value->Shared->Prop} (hh:A.handled=none) (a:s.heap.IsTupleIter it l i) (b:s.heap.IsTuple l its) (c:its[i]?=none)
 (q:∀h' e,Heap.ExtBut it s.heap h'->(∃o,h'.get? e=some o/\o.cls=.type "StopIteration")->E (.ref e) { s with heap:=h' }):wpAny (model P w) A (Builtin.SmallTypes.nextOf (.ref it)) Q E s:=by
 obtain ⟨o,ho,hcl,hd⟩:=id a
 obtain ⟨ot,hot,_,n,hdt⟩:=b
 unfold Builtin.SmallTypes.nextOf
 refine wpAny_bind (wpAny_callSpecial?_slot (name:=Str.ofString "__next__") a.typeIs PySem.F.slot_tuple_iterator_next (wpAny_call_entry PySem.F.slot_tuple_iterator_next a.typeIs PySem.F.entry_tuple_iterator_next (show wpAny _ _ (field (.ref it) 0 >>= _) _ _ s from wpAny_bind (wpAny_field ho hd (x:=.ref l) rfl ?_)) (PySem.F.args_tuple_iterator_next_1 _)))
 show wpAny _ _ (if (Value.ref l==.none)=true then _ else field (.ref it) 1 >>= _) _ _ s
 rw [if_neg (λz=>by cases z)]
 refine wpAny_bind (wpAny_field ho hd (x:=.int i 0) rfl (show wpAny _ _ (seqItems? (.ref l) >>= _) _ _ s from wpAny_bind (wpAny_seqItems hot hdt ?_)))
 simp only [Int.toNat_natCast,c]
 refine wpAny_bind (wpAny_rule (wpAny_bind (wpAny_setField ho hd (by simp) (show wpAny _ _ (newExc (.type "StopIteration") [] >>= _) _ _ _ from wpAny_bind ?_))))
 simp only [newExc,newTuple]
 refine wpAny_bind (wpAny_newObj_type (wpAny_bind (m:=firstArgMember _ _) (wpAny_of_eq (a:=Value.none) (by first | rfl | (simp only [firstArgMember];rfl)) (wpAny_newObj_type ?_ (by size_fits)))) (by size_fits))
 simp only [raiseNew]
 refine wpAny_bind (wpAny_handled ?_)
 first | rw [show A.in1.handled=none from hh] | rw [hh]
 exact wpAny_bind (wpAny_pure (wpAny_throw (q _ _ (((Heap.SameBut.update ..).extBut.push _).push _) ⟨_,Heap.get?_push_size _ rfl,rfl⟩)))
theorem q4H {x:Value} {Q:Value->Shared->Prop} (a:IsIt tu s.heap it l i) (b:IsSq tu s.heap l its) (c:its[i]?=some x) (q:∀h',IsIt tu h' it l (i+1)->Heap.SameBut it s.heap h'->Q x { s with heap:=h' }) :
 wpAny (model P w) A (Builtin.SmallTypes.nextOf (.ref it)) Q E s:=by
 cases tu with
 | true=>exact q7u a b c q
 | false=>exact wpAny_nextOf_list_item a b c q
theorem j0Z {Q:Value->Shared->Prop} (hh:A.handled=none) (a:IsIt tu s.heap it l i) (b:IsSq tu s.heap l its) (c:its[i]?=none)
 (q:∀h' e,Heap.ExtBut it s.heap h'->(∃o,h'.get? e=some o/\o.cls=.type "StopIteration")->E (.ref e) { s with heap:=h' }):wpAny (model P w) A (Builtin.SmallTypes.nextOf (.ref it)) Q E s:=by
 cases tu with
 | true=>exact j0e hh a b c q
 | false=>exact wpAny_nextOf_list_end hh a b c q
noncomputable def j1A (it:Addr) (n:Int) (x:Value) (a:Addr):Obj:={ cls:=.type "enumerate",data:=.fields #[rawInt a,.bool false,.ref it,rawInt n,.none,x] }
theorem j51 {n:Int} {x old:Value} {Q:Option Value->Shared->Prop} (he:s.heap.get? e=some (q2h it n old)) (a:IsIt tu s.heap it l i) (b:IsSq tu s.heap l its) (c:its[i]?=some x) (ne:e≠it)
 (q:∀h',h'.get? e=some (j1A it (n+1) x s.heap.objs.size)->IsIt tu h' it l (i+1)->h'.get? s.heap.objs.size=some { cls:=.type "tuple",data:=.seq #[.int n s.toks,x] } ->
  (∀b o,b≠e->b≠it->s.heap.get? b=some o->h'.get? b=some o)->Q (some (.ref s.heap.objs.size)) { s with heap:=h',toks:=s.toks+1 }):wpAny (model P w) A (pyNext (.ref e)) Q E s:=by
 have ty:s.TypeIs (.ref e) "enumerate":=⟨_,he,rfl⟩
 unfold pyNext
 refine wpAny_bind (wpAny_attempt (wpAny_callSpecial?_slot (name:=Str.ofString "__next__") ty PySem.F.slot_enumerate_next (wpAny_call_entry PySem.F.slot_enumerate_next ty PySem.F.entry_enumerate_next ?_ (PySem.F.args_enumerate_next_1 _))))
 obtain ⟨hp,g,d,tk,os⟩:=s
 refine wpAny_bind (m:=field (.ref e) 2) (wpAny_field he rfl (x:=.ref it) rfl (wpAny_bind (q4H a b c λh1 a1 sb1=>?_)))
 have sb1:Heap.SameBut it hp h1:=sb1
 have e1:h1.get? e=some (q2h it n old):=(sb1.2 e ne).trans he
 refine wpAny_bind (m:=field (.ref e) 3) (wpAny_field (s:=⟨h1,g,d,tk,os⟩) e1 rfl (x:=rawInt n) rfl (wpAny_bind (m:=field (.ref e) 4) (wpAny_field (s:=⟨h1,g,d,tk,os⟩) e1 rfl (x:=.none) rfl ?_)))
 refine wpAny_bind (m:=mkInt n) (wpAny_mkInt (wpAny_bind (m:=setField (.ref e) 3 (rawInt (n+1))) (wpAny_setField_rec e1 (by simp) λh2 e2 sb2=>?_)))
 have sb2:Heap.SameBut e h1 h2:=sb2
 have e2:h2.get? e=some (q2h it (n+1) old):=e2
 refine wpAny_bind (m:=setField (.ref e) 4 .none) (wpAny_setField_rec (s:=⟨h2,g,d,tk+1,os⟩) e2 (by simp) λh3 e3 sb3=>?_)
 have sb3:Heap.SameBut e h2 h3:=sb3
 have e3:h3.get? e=some (q2h it (n+1) old):=e3
 refine wpAny_bind (m:=newTuple [.int n tk,x]) (wpAny_newTuple ?_)
 have sz:h3.objs.size=hp.objs.size:=by rw [sb3.1,sb2.1,sb1.1]
 have lt:e < hp.objs.size:=Heap.lt_size he
 obtain ⟨h4,hh4⟩:∃h4,h4=h3.push { cls:=.type "tuple",data:=.seq #[.int n tk,x] }:=⟨_,rfl⟩
 have e4:h4.get? e=some (q2h it (n+1) old):=by rw [hh4];exact Heap.get?_push_of_some _ e3
 have t4:h4.get? hp.objs.size=some { cls:=.type "tuple",data:=.seq #[.int n tk,x] }:=by rw [hh4,<-sz];exact Heap.get?_push_size _ rfl
 have a4:IsIt tu h4 it l (i+1):=a1.kept λo ho=>by
  rw [hh4];exact Heap.get?_push_of_some _ ((sb3.2 it (Ne.symm ne)).trans ((sb2.2 it (Ne.symm ne)).trans ho))
 have k4:∀b o,b≠e->b≠it->hp.get? b=some o->h4.get? b=some o:=λb o b1 b2 hb=>by
  rw [hh4];exact Heap.get?_push_of_some _ ((sb3.2 b b1).trans ((sb2.2 b b1).trans ((sb1.2 b b2).trans hb)))
 show wpAny _ _ (Builtin.SmallTypes.ownedTupleIsFree (.ref e) >>= _) _ _ ⟨h3.push { cls:=.type "tuple",data:=.seq #[.int n tk,x] },g,d,tk+1,os⟩
 rw [<-hh4,sz]
 clear hh4 sb1 sb2 sb3 e1 e2 e3 a1 sz
 refine wpAny_bind ?_
 unfold Builtin.SmallTypes.ownedTupleIsFree
 refine wpAny_bind (wpAny_field (s:=⟨h4,g,d,tk+1,os⟩) e4 rfl (x:=.none) rfl (wpAny_pure ?_))
 simp only [if_true]
 refine wpAny_bind (wpAny_rule (wpAny_bind (wpAny_field (s:=⟨h4,g,d,tk+1,os⟩) e4 rfl (x:=old) rfl (wpAny_bind (wpAny_setField_rec (s:=⟨h4,g,d,tk+1,os⟩) e4 (by simp) λh5 e5 sb5=>?_)))))
 have sb5:Heap.SameBut e h4 h5:=sb5
 have e5:h5.get? e=some (q2h it (n+1) x):=e5
 refine wpAny_bind (m:=Builtin.SmallTypes.ownedTupleHandOut (.ref e) (.ref hp.objs.size)) ?_
 unfold Builtin.SmallTypes.ownedTupleHandOut
 refine wpAny_bind (wpAny_setField_rec (s:=⟨h5,g,d,tk+1,os⟩) e5 (by simp) λh6 e6 sb6=>?_)
 have sb6:Heap.SameBut e h5 h6:=sb6
 have e6:h6.get? e=some (j1A it (n+1) x hp.objs.size):=e6
 refine wpAny_setField_rec (s:=⟨h6,g,d,tk+1,os⟩) e6 (by simp) λh7 e7 sb7=>?_
 have sb7:Heap.SameBut e h6 h7:=sb7
 have e7:h7.get? e=some (j1A it (n+1) x hp.objs.size):=e7
 have kk:∀b o,b≠e->h4.get? b=some o->h7.get? b=some o:=λb o b1 hb=>(sb7.2 b b1).trans ((sb6.2 b b1).trans ((sb5.2 b b1).trans hb))
 exact wpAny_bind (wpAny_letGo (wpAny_pure ⟨_,rfl,wpAny_pure (q h7 e7 (a4.kept λo ho=>kk it o (Ne.symm ne) ho) (kk _ _ (Nat.ne_of_gt lt) t4) λb o b1 b2 hb=>kk b o b1 (k4 b o b1 b2 hb))⟩))
theorem j89 {n:Int} {old:Value} {Q:Option Value->Shared->Prop} (hh:A.handled=none) (he:s.heap.get? e=some (q2h it n old)) (a:IsIt tu s.heap it l i) (b:IsSq tu s.heap l its) (c:its[i]?=none)
 (q:∀h',Heap.ExtBut it s.heap h'->Q none { s with heap:=h' }):wpAny (model P w) A (pyNext (.ref e)) Q E s:=by
 have ty:s.TypeIs (.ref e) "enumerate":=⟨_,he,rfl⟩
 unfold pyNext
 refine wpAny_bind (wpAny_attempt (wpAny_callSpecial?_slot (name:=Str.ofString "__next__") ty PySem.F.slot_enumerate_next (wpAny_call_entry PySem.F.slot_enumerate_next ty PySem.F.entry_enumerate_next ?_ (PySem.F.args_enumerate_next_1 _))))
 refine wpAny_bind (m:=field (.ref e) 2) (wpAny_field he rfl (x:=.ref it) rfl (wpAny_bind (j0Z hh a b c λh' x ex ⟨o,ho,hc⟩=>?_)))
 exact wpAny_bind (wpAny_isInstance (T:="StopIteration") (b:=true) ⟨o,ho,hc⟩ isSubtype_stop (wpAny_pure (q _ ex)))
theorem w1C {elts:List Expr} {x1:Nat} {pos:Pos} {a:Addr} {n:Int} {x:Value} {Q:Unit->Shared->Prop} (he:s.heap.get? e=some (j1A it n x a)) (q:∀h',h'.get? e=some (q2h it n x)->Heap.SameBut e s.heap h'->Q () { s with heap:=h' }) :
 wpAny (model P w) A (letOwnedTupleGo (.Tuple elts x1 pos) (.ref e) (.ref a)) Q E s:=wpAny_letOwnedTupleGo_enum he q
theorem j08 {n:Int} {old:Value} {Q:Value->Shared->Prop} (he:s.heap.get? e=some (q2h it n old)) (h:Q (.ref e) s):wpAny (model P w) A (pyIter (.ref e)) Q E s:=wpAny_pyIter_enum he h
end
noncomputable def SqE (K:PySem.W.Frag) (tu:Bool) (H:Hp) (a:Addr) (xs:List V):Prop:=if tu=true then SqT K H a xs else SqL K H a xs
theorem q1G {X:Cx} {pins:List (Addr×Obj)} {σ:L2.St} {H:Hp} {s:Shared} {tu:Bool} {a:Addr} {xs:List V} (I:Inv X pins σ H s) (h:SqE X.K tu H a xs):∃its:List Value,Vals xs its/\IsSq tu s.heap a its.toArray/\xs.length<=sizeLine:=by
 cases tu with
 | true=>
  obtain ⟨its,r,p,z⟩:=I.tuple (show SqT X.K H a xs from h)
  exact ⟨its,r,p,z⟩
 | false=>
  obtain ⟨its,r,p,z⟩:=I.list (show SqL X.K H a xs from h)
  exact ⟨its,r,p.isList,z⟩
theorem q5T {X:Cx} {pins:List (Addr×Obj)} {σ:L2.St} {H:Hp} {s:Shared} {tu:Bool} {a:Addr} {xs ys:List V} (I:Inv X pins σ H s) (h:SqE X.K tu H a xs) (h':SqE X.K tu H a ys):xs=ys:=by
 cases tu with
 | true=>exact I.tuple_inj (show SqT X.K H a xs from h) h'
 | false=>exact I.list_inj (show SqL X.K H a xs from h) h'
noncomputable def Ite (K:PySem.W.Frag) (tu:Bool) (a:Addr):It:=⟨λi H=>∃xs x,SqE K tu H a xs/\xs[i]?=some x,
 λi H v H'=>∃x p,(∀xs,SqE K tu H a xs->xs[i]?=some x)/\v=.ref p/\H p=none/\H'=upd H p (.tup [.int ((i:Int)+1),x]),
 λi H=>∃xs,SqE K tu H a xs/\xs[i]?=none⟩
theorem q9v {P:Program} {w:World} {K:PySem.W.Frag} {elts:List Expr} {x1:Nat} {tp:Pos} (tu:Bool) (a e it:Addr) (ne:e≠it) :
 Turn P w K (.Tuple elts x1 tp) (Ite K tu a) [e,it] e (λi h=>(∃old,h.get? e=some (q2h it ((i:Int)+1) old))/\IsIt tu h it a i) where
 mem:=by simp
 obj:=λi h st c hc=>by
  obtain ⟨⟨old,s1⟩,s2⟩:=st
  simp only [List.mem_cons,List.not_mem_nil,or_false] at hc
  rcases hc with rfl | rfl
  ·exact ⟨_,s1,λv z=>by have z':Data.fields _=Data.cell v:=z;cases z'⟩
  ·obtain ⟨o,eo,vs,d⟩:=s2.obj
   exact ⟨o,eo,λv z=>by rw [d] at z;cases z⟩
 keep:=λi h h' st k=>by
  obtain ⟨⟨old,s1⟩,s2⟩:=st
  exact ⟨⟨old,k e (by simp) _ s1⟩,s2.kept λo eo=>k it (by simp) o eo⟩
 item:=by
  intro X hP hw hK hc i pins s σ H E I hf st hg
  subst hP hw hK
  obtain ⟨xs,x,hq,hx⟩:=hg
  obtain ⟨⟨old,t1⟩,t2⟩:=st
  obtain ⟨its,rv,pl,hz⟩:=q1G I hq
  obtain ⟨u,hu,ru⟩:=rv.get hx
  refine j51 t1 t2 pl (x:=u) (by simpa using hu) ne λh' a1 a2 a3 a4=>⟨_,rfl,?_⟩
  refine w1C (s:={ s with heap:=h',toks:=s.toks+1 }) a1 λh'' b1 sb=>?_
  have sb:Heap.SameBut e h' h'':=sb
  have hfresh:H s.heap.objs.size=none:=I.hok.fresh (Nat.le_refl _)
  have sze:s.heap.objs.size≠e:=λz=>absurd (Heap.lt_size t1) (by rw [<-z];exact Nat.lt_irrefl _)
  have kk:∀c o,c∉[e,it]->s.heap.get? c=some o->h''.get? c=some o:=λc o hcm q=>by
   simp only [List.mem_cons,List.not_mem_nil,or_false,not_or] at hcm
   exact (sb.2 c hcm.1).trans (a4 c o hcm.1 hcm.2 q)
  have nfp:∀c v,H c=some v->c∉[e,it]:=λc v q hm=>by rw [(hf c hm).1] at q;cases q
  have nsz:∀c v,H c=some v->c≠s.heap.objs.size:=λc v q z=>by rw [z,hfresh] at q;cases q
  have tup:h''.get? s.heap.objs.size=some { cls:=.type "tuple",data:=.seq #[.int ((i:Int)+1) s.toks,u] }:=(sb.2 _ sze).trans a3
  have I1:Inv X pins σ (upd H s.heap.objs.size (.tup [.int ((i:Int)+1),x])) { s with heap:=h'',toks:=s.toks+1 }:=by
   refine I.step (g':=s.gens) (d':=s.drawn) (t':=s.toks+1) (ch:=[e,it]) (λc hcm=>?_) (λc o _ _ hcm q _=>kk c o hcm q) (λc o _ _ hcm q _=>⟨o.slots,kk c o hcm q⟩) (λc o _ q n=>?_)
    (λc o hcm q=>⟨o,kk c o hcm q⟩) (λc xs q=>?_) (λc o v q=>?_) (λc ps q=>⟨#[],?_⟩) (λm hm=>?_) (λc v q=>?_) I.bare
   ·obtain ⟨f0,f1,f2,f3,f4,f5⟩:=hf c hcm
    exact ⟨f3,f1,f4,f5⟩
   ·rw [q0i (Nat.ne_of_lt (Heap.lt_size q))];exact n
   ·rw [q0i (nsz c _ q)];exact q
   ·rw [q0i (nsz c _ q)];exact q
   ·rw [q0i (nsz c _ q),q];simp
   ·obtain ⟨o,es,ep,ho,r⟩:=hm
    exact ⟨o,es,ep,kk _ o (λhm=>(hf _ hm).2.1 rfl) ho,r⟩
   ·by_cases hcz:c=s.heap.objs.size
    ·subst hcz
     rw [q0u] at q;cases q
     exact ⟨by show 2<=sizeLine;decide,[.int ((i:Int)+1) s.toks,u],.cons ⟨_,rfl⟩ (.cons ru .nil),⟨_,tup,rfl,_,rfl⟩⟩
    ·rw [q0i hcz] at q
     refine (I.hok c v q).stay (λc' w' hc' z=>kk c' w' ?_ z) (λc' z=>?_) λc' xs z=>?_
     ·rcases hc' with hc' | hc'
      ·rw [hc'];exact nfp _ _ q
      ·exact nfp _ _ hc'
     ·rw [q0i (nsz c' _ z)];exact z
     ·rw [q0i (nsz c' _ z)];exact z
  refine ⟨.ref s.heap.objs.size,_,I1,rfl,⟨x,_,λws hw=>by rw [q5T I hw hq];exact hx,rfl,hfresh,rfl⟩,⟨⟨u,?_⟩,?_⟩,λc hcm=>?_⟩
  ·rw [show (((i+1:Nat):Int)+1)=(i:Int)+1+1 by omega]
   exact b1
  ·exact a2.kept λo eo=>(sb.2 _ (Ne.symm ne)).trans eo
  ·rw [q0i]
   ·exact (hf c hcm).1
   ·rintro rfl
    simp only [List.mem_cons,List.not_mem_nil,or_false] at hcm
    rcases hcm with z | z
    ·exact sze z
    ·obtain ⟨o,eo,_⟩:=t2.obj
     exact absurd (Heap.lt_size eo) (by rw [<-z];exact Nat.lt_irrefl _)
 done:=by
  intro X hP hw hK hc i pins s σ H E I hf st hg
  subst hP hw hK
  obtain ⟨xs,hq,hend⟩:=hg
  obtain ⟨⟨old,t1⟩,t2⟩:=st
  obtain ⟨its,rv,pl,hz⟩:=q1G I hq
  have l1:=rv.length
  refine j89 (I.ok.hd hc) t1 t2 pl ?_ λh' ex=>⟨rfl,?_⟩
  ·rw [List.getElem?_eq_none_iff] at hend
   simp;omega
  ·have kk:∀c o,c∉[e,it]->s.heap.get? c=some o->h'.get? c=some o:=λc o hcm q=>by
    simp only [List.mem_cons,List.not_mem_nil,or_false,not_or] at hcm
    exact ex c o hcm.2 q
   have nfp:∀c v,H c=some v->c∉[e,it]:=λc v q hm=>by rw [(hf c hm).1] at q;cases q
   refine I.step (g':=s.gens) (d':=s.drawn) (t':=s.toks) (ch:=[e,it]) (λc hcm=>?_) (λc o _ _ hcm q _=>kk c o hcm q) (λc o _ _ hcm q _=>⟨o.slots,kk c o hcm q⟩) (λc o _ q n=>n)
    (λc o hcm q=>⟨o,kk c o hcm q⟩) (λc xs q=>q) (λc o v q=>q) (λc ps q=>⟨#[],by rw [q];simp⟩) (λm hm=>?_) (λc v q=>?_) I.bare
   ·obtain ⟨f0,f1,f2,f3,f4,f5⟩:=hf c hcm
    exact ⟨f3,f1,f4,f5⟩
   ·obtain ⟨o,es,ep,ho,r⟩:=hm
    exact ⟨o,es,ep,kk _ o (λhm=>(hf _ hm).2.1 rfl) ho,r⟩
   ·refine (I.hok c v q).stay (λc' w' hc' z=>kk c' w' ?_ z) (λc' z=>z) λc' xs z=>z
    rcases hc' with hc' | hc'
    ·rw [hc'];exact nfp _ _ q
    ·exact nfp _ _ hc'
 self:=λ_ _ _ _ _ st h=>by
  obtain ⟨⟨old,t1⟩,_⟩:=st
  exact j08 t1 h
section
variable {P:Program} {w:World} {A:Around} {E:Value->Shared->Prop} {s:Shared}
theorem q73 (v:Value) (t:Tok):checkTypeCall "enumerate" ⟨[v],[(("start" : Str),.int 1 t)]⟩=pure ():=by kernel_rfl
theorem q7P (v:Value) (t:Tok):checkBuiltinCall "enumerate.__new__" ⟨[.type "enumerate",v],[(("start" : Str),.int 1 t)]⟩=pure ():=by kernel_rfl
theorem j6d {self v:Value} {kw:List (Str×Value)} (hl:typeLookup (.type "enumerate") "__init__" = pure (some (.builtin "object.__init__"))) (hm:Bind.madeBy (.type "enumerate")=pure (some "enumerate.__new__")) :
 Meets (Builtin.«object.__init__» ⟨[self,v],kw⟩) (λ_ R s=>s.TypeIs self "enumerate"/\R (.ok (.ret .none)) s):=
 .of_wp λprog w A R s hs=>by
  obtain ⟨hT,hq⟩:=hs
  have hne:(some "enumerate.__new__" != some "object.__new__")=true:=by decide
  repeat (any_goals (first | assumption | wp_step))
  exact ⟨_,rfl,hq⟩
end
section
variable {P:Program} {w:World} {A:Around} {E:Value->Shared->Prop} {s:Shared}
theorem j04 (obj v:Value) (t:Tok):argsOk "object.__init__" ⟨[obj,v],[(("start" : Str),.int 1 t)]⟩:=by kernel_rfl
set_option maxHeartbeats 2000000 in
theorem q7D {tu:Bool} {l:Addr} {its:Array Value} {t:Tok} {Q:Value->Shared->Prop} (hl:IsSq tu s.heap l its)
 (q:∀h',h'.get? (s.heap.objs.size+1)=some (q2h s.heap.objs.size 1 .none)->IsIt tu h' s.heap.objs.size l 0->(∀b o,s.heap.get? b=some o->h'.get? b=some o)->Q (.ref (s.heap.objs.size+1)) { s with heap:=h' }) :
 wpAny (model P w) A (call (.type "enumerate") [.ref l] [(("start" : Str),.int 1 t)]) Q E s:=by
 obtain ⟨c,tl,mro⟩:=PySem.F.called_enumerate.mro
 have made:=PySem.F.called_enumerate.made
 have subs:=PySem.F.called_enumerate.sub
 refine wpAny_call (codeAny_of_tree ?_)
 show wpAny _ _ (callAny (.type "enumerate") _) _ _ _
 refine wpAny_pure ⟨Code.quiet_builtin _ (by decide +kernel),codeAny_builtin PySem.F.entry_type_call ?_⟩
 rw [Around.under_plain (weight_type_call_type "enumerate" [.ref l] _) (units_type_call_type "enumerate" [.ref l] _)]
 have notT:=PySem.F.called_enumerate.notType
 have canC:=PySem.F.called_enumerate.canCreate
 have tcall:=q73 (.ref l) t
 repeat (any_goals (first | assumption | wp_step))
 refine codeAny_mono (codeAny_call_builtin PySem.F.called_enumerate.plain PySem.F.entry_enumerate_new (wpAny_of_eq (q7P (.ref l) t) (j2t tu l its t P w A.in1 (wants (λobj s₁=>obj=.ref (s.heap.objs.size+1)/\s₁={ s with heap:=(s.heap.push (q2A tu l)).push (q2h s.heap.objs.size 1 .none) }) E) s ⟨hl,rfl,rfl⟩))) λr s₁ hr=>?_
 rcases r with e | fl
 ·exact hr
 rcases fl with _ | _ | _ | obj
 any_goals exact hr.elim
 obtain ⟨rfl,rfl⟩:=hr
 have sz:(s.heap.push (q2A tu l)).objs.size=s.heap.objs.size+1:=Heap.size_push ..
 have g1:((s.heap.push (q2A tu l)).push (q2h s.heap.objs.size 1 .none)).get? (s.heap.objs.size+1)=some (q2h s.heap.objs.size 1 .none):=by
  rw [<-sz];exact Heap.get?_push_size _ rfl
 have ty:Shared.TypeIs { s with heap:=(s.heap.push (q2A tu l)).push (q2h s.heap.objs.size 1 .none) } (.ref (s.heap.objs.size+1)) "enumerate":=⟨_,g1,rfl⟩
 have look:=PySem.F.called_enumerate.init.lookup
 have bnd:=PySem.F.called_enumerate.init.bind (.ref (s.heap.objs.size+1))
 repeat (any_goals (first | assumption | wp_step))
 refine codeAny_mono (codeAny_call_builtin PySem.F.called_enumerate.init.plain PySem.F.entry_object_init (PySem.F.called_enumerate.init.check _ _ _ _ _ _ _ _ ty (j04 _ _ t) (j6d look made P w A.in1 (wants (λr s₂=>r=.none/\s₂={ s with heap:=(s.heap.push (q2A tu l)).push (q2h s.heap.objs.size 1 .none) }) E) _ ⟨ty,rfl,rfl⟩))) λr₂ s₂ hr₂=>?_
 rcases r₂ with e | fl₂
 ·exact hr₂
 rcases fl₂ with _ | _ | _ | r
 any_goals exact hr₂.elim
 obtain ⟨rfl,rfl⟩:=hr₂
 repeat (any_goals (first | assumption | wp_step))
 refine q _ g1 ?_ λb o e=>Heap.get?_push_of_some _ (Heap.get?_push_of_some _ e)
 have gi:((s.heap.push (q2A tu l)).push (q2h s.heap.objs.size 1 .none)).get? s.heap.objs.size=some (q2A tu l):=Heap.get?_push_of_some _ (Heap.get?_push_size _ rfl)
 cases tu with
 | true=>exact (⟨_,gi,rfl,rfl⟩:Heap.IsTupleIter _ _ _ _)
 | false=>exact (⟨_,gi,rfl,rfl⟩:Heap.IsListIter _ _ _ _)
end
section
variable {M:Model} {A:Around} {E:Value->Shared->Prop} {s:Shared} {env:Env}
theorem q58 {pos:Pos} {T:String} {e:Expr} {rest:List Expr} {kws:List Keyword} {Q:Value->Shared->Prop}
 (h:wpAny M A (spliced (backTo pos (starEach (e::rest) env))) (λvs s₁=>wpAny M A (evalAll ((backToKw pos (keywordEach kws env)).map (·.2))) (λkvs s₂=>wpAny M A (call (.type T) vs (((backToKw pos (keywordEach kws env)).filterMap (·.1)).zip kvs)) Q E s₂) E s₁) E s)
 (he:backTo pos (starEach (e::rest) env)=(false,eval e env)::backTo pos (starEach rest env)) (hp:(backTo pos (starEach (e::rest) env)).any (·.1)=false)
 (ha:(backToKw pos (keywordEach kws env)).all (·.1.isSome)=true) (hk:(backToKw pos (keywordEach kws env)).any (·.1.isNone)=false) :
 wpAny M A (callWith pos (.type T) [] (backTo pos (starEach (e::rest) env)) (backToKw pos (keywordEach kws env))) Q E s:=by
 have h':wpAny M A (evalArgs (.type T) true (backTo pos (starEach (e::rest) env)) (backToKw pos (keywordEach kws env))) (λa s₁=>wpAny M A (call (.type T) ([]++a.pos) a.kw) Q E s₁) E s:=by
  rw [he] at h ⊢
  exact evalArgs_kwB ha h
 unfold callWith
 refine wpAny_bind (wpAny_holding (wpAny_mono h' (λa s₁ h₁=>wpAny_bind (wpAny_standAt ?_)) λ_ _ z=>z))
 rw [hp,hk]
 exact wpAny_bind (wpAny_pure (wpAny_bind (wpAny_mono h₁ (λr s₂ hr=>wpAny_bind (wpAny_holding (wpAny_point (wpAny_pure hr)))) λ_ _ z=>z)))
end
noncomputable def q4V:Int->List D->List D
 | _,[]=>[]
 | n,d::ds=>.tup [.int n,d]::q4V (n+1) ds
theorem q7k:∀(n:Int) (ds:List D),(q4V n ds).length=ds.length
 | _,[]=>rfl
 | n,d::ds=>by simp [q4V,q7k (n+1) ds]
theorem q8B:∀(n:Int) (ds:List D) (i:Nat),(q4V n ds)[i]?=ds[i]?.map λd=>D.tup [.int (n+(i:Int)),d]
 | _,[],i=>by simp [q4V]
 | n,d::ds,0=>by simp [q4V]
 | n,d::ds,i+1=>by
  simp only [q4V,List.getElem?_cons_succ,q8B (n+1) ds i]
  rw [show n+1+(i:Int)=n+((i+1:Nat):Int) by omega]
section
variable {T:Tb} {X:Cx} {a:Expr} {pos p tp cp kp:Pos} {fl:Ro->Out (List D)} {fe:Ev} {elts:List Expr} {x1:Nat} {ck:Nat}
noncomputable def StE (K:PySem.W.Frag) (tu:Bool) (G H:Hp) (l:Addr) (vs:List V):Prop:=if tu=true then SqT K H l vs else Stb K G H l vs
theorem StE.pers {K:PySem.W.Frag} {tu:Bool} {G H H':Hp} {l:Addr} {vs:List V} (p:Pers T false H H') (h:StE K tu G H l vs):StE K tu G H' l vs:=by
 cases tu with
 | true=>exact q4e p (show SqT K H l vs from h)
 | false=>exact (show Stb K G H l vs from h).pers p
theorem StE.sq {K:PySem.W.Frag} {tu:Bool} {G H:Hp} {l:Addr} {vs:List V} (h:StE K tu G H l vs) (sm:Same G H):SqE K tu H l vs:=by
 cases tu with
 | true=>exact (show SqT K H l vs from h)
 | false=>exact (show Stb K G H l vs from h).sq sm
theorem q9G {tu:Bool} {G H1:Hp} {l:Addr} {vs:List V} {ds:List D} (st:StE X.K tu G H1 l vs) (r:RepL T X.K H1 ds vs):Walk T X.K G (Ite X.K tu l) (q4V 1 ds) H1:=λi H p sm=>by
 have sq:=(st.pers p).sq sm
 have r':=RepL.pers p _ _ r
 have hl:=RepL.length _ _ r'
 refine ⟨λd e=>?_,λh=>⟨vs,sq,?_⟩⟩
 ·rw [q8B] at e
  cases ed:ds[i]? with
  | none=>rw [ed] at e;cases e
  | some d1=>
   rw [ed] at e
   have e':D.tup [.int (1+(i:Int)),d1]=d:=Option.some.inj e
   subst e'
   obtain ⟨v,e1,rd⟩:=RepL.get _ _ _ _ r' ed
   refine ⟨⟨vs,v,sq,e1⟩,λx H2 ⟨x',q,h1,hx,hq,hH⟩=>?_⟩
   have z1:=h1 vs sq
   rw [e1] at z1;cases z1
   subst hx hH
   refine ⟨q0z hq,q,[.int ((i:Int)+1),v],rfl,SqT.of q0u,.int ((i:Int)+1),[v],rfl,?_,v,[],rfl,Rep.mono (q0z hq) _ _ rd,rfl⟩
   show V.int ((i:Int)+1)=.int (1+(i:Int))
   rw [Int.add_comm]
 ·rw [q7k] at h
  rw [List.getElem?_eq_none_iff]
  omega
theorem j6r {tu:Bool} {E:Value->Shared->Prop} {pins:List (Addr×Obj)} {σ:L2.St} {H1:Hp} {s1:Shared} {l:Addr} {vs:List V} {R:It->Hp->Prop} {t:Tok} (I1:Inv (X.wish E) pins σ H1 s1) (sq:SqE X.K tu H1 l vs) (q:R (Ite X.K tu l) H1) :
 wpAny (model X.prog X.w) X.A (call (.type "enumerate") [.ref l] [(("start" : Str),.int 1 t)]) (λv s2=>wpAny (model X.prog X.w) X.A (pyIter v) (PIE (X.wish E) pins σ (.Tuple elts x1 tp) R) E s2) E s1:=by
 obtain ⟨its,rv,pl,hz⟩:=q1G I1 sq
 refine q7D pl λh' z1 z2 kp=>?_
 have I2:Inv (X.wish E) pins σ H1 { s1 with heap:=h' }:=I1.kept (t':=s1.toks) kp
 have ne:s1.heap.objs.size+1≠s1.heap.objs.size:=Nat.succ_ne_self _
 refine j08 z1 ⟨_,_,_,_,H1,rfl,I2,q9v tu l _ _ ne,⟨⟨.none,?_⟩,z2⟩,λc hcm=>?_,q⟩
 ·exact z1
 ·have ge:s1.heap.objs.size<=c:=by
   simp only [List.mem_cons,List.not_mem_nil,or_false] at hcm
   rcases hcm with rfl | rfl
   ·exact Nat.le_succ _
   ·exact Nat.le_refl _
  exact I1.fpOk ge (I1.hok.fresh ge)
@[simp] noncomputable def w0D (fl:Ro->Out (List D)) (ρ:Ro):Out (List D):=(fl ρ).bind λds=>.ok (q4V 1 ds)
theorem q7d (hg:Gl X "enumerate") (hm:X.mg "enumerate" = none) (hl:DP T X a fl) (hs:starEach [a] X.env=(false,eval a X.env)::starEach [] X.env:=by exact q0D rfl) (hpl:(backTo pos (starEach ([a]:List Expr) X.env)).any (·.1)=false:=by exact q0J rfl) :
 DI T X (.Tuple elts x1 tp) (.Call (.Name "enumerate" p) [a] [⟨some "start",.Constant (.int 1) ck cp,kp⟩] pos) (w0D fl):=.mk λG E hp=>by
 rintro pins s σ H R I ⟨ρ,fr,h⟩
 refine wpAny_Call_Name_kw (q2E (X:=X.wish E) I hg hm rfl (q58 (thn ((q0I (X:=X.wish E) (hl.run G E hp) q1t hs) pos pins s σ H (λus H1=>∃l vs,us=[.ref l]/\SqE X.K false H1 l vs/\R (Ite X.K false l) H1) I ⟨ρ,fr,Acc.mono (Acc.bind h) λds _ hd l vs H1 s1 st r=>⟨l,vs,rfl,st.sq (fr.same.trans s1),hd _ H1 s1 (q9G (tu:=false) st r)⟩⟩) λus s1 ⟨xs,H1,I1,r1,l,vs,e1,sq,q⟩=>?_) (by rw [hs];rfl) hpl rfl rfl))
 subst e1
 obtain ⟨u,rfl,ru⟩:=Vals.one r1
 cases ru
 refine kws_cons (wpAny_Constant_int (kws_nil ?_))
 exact j6r (I1.tok _) sq q
end
section
variable {T:Tb} {ib:Bool} {X:Cx} {e b:Expr} {pos p p2:Pos} {fe fb:Ev} {x:Str}
end
end L3
namespace L3
open PySem L2
theorem j0P {is:List Int} (h:is≠[]):q0Q false is∈is/\∀x∈is,q0Q false is<=x:=by
 have l:0 < is.length:=List.length_pos_iff.mpr h
 have e:q0Q false is=is.getD (argBest (λi j=>decide (is.getD i 0 < is.getD j 0)) (is.length-1)) 0:=by
  unfold q0Q;simp
 obtain ⟨a1,a2⟩:=argBest_lt (λi=>is.getD i 0) (is.length-1)
 rw [e]
 generalize argBest (λi j=>decide (is.getD i 0 < is.getD j 0)) (is.length-1)=k at *
 have hk:k < is.length:=by omega
 refine ⟨?_,λx hx=>?_⟩
 ·rw [List.getD_eq_getElem?_getD,List.getElem?_eq_getElem hk];exact List.getElem_mem hk
 ·obtain ⟨j,hj,rfl⟩:=List.getElem_of_mem hx
  have:=a2 j (by omega)
  rw [List.getD_eq_getElem?_getD (l:=is) (i:=j),List.getElem?_eq_getElem hj] at this
  exact this
theorem q2O {is:List Int} (h:is≠[]):q0Q true is∈is/\∀x∈is,x<=q0Q true is:=by
 have l:0 < is.length:=List.length_pos_iff.mpr h
 have e:q0Q true is=is.getD (argBest (λi j=>decide (is.getD i 0 > is.getD j 0)) (is.length-1)) 0:=by
  unfold q0Q;simp
 obtain ⟨a1,a2⟩:=argBest_gt (λi=>is.getD i 0) (is.length-1)
 rw [e]
 generalize argBest (λi j=>decide (is.getD i 0 > is.getD j 0)) (is.length-1)=k at *
 have hk:k < is.length:=by omega
 refine ⟨?_,λx hx=>?_⟩
 ·rw [List.getD_eq_getElem?_getD,List.getElem?_eq_getElem hk];exact List.getElem_mem hk
 ·obtain ⟨j,hj,rfl⟩:=List.getElem_of_mem hx
  have:=a2 j (by omega)
  rw [List.getD_eq_getElem?_getD (l:=is) (i:=j),List.getElem?_eq_getElem hj] at this
  exact this
theorem q4B (is:List Int):q25 (is.map D.int)=some is:=by
 induction is with
 | nil=>rfl
 | cons i is ih=>rw [List.map_cons,q25,ih]
theorem j1E {is:List Int} (h:is≠[]):q7K [.lst (is.map D.int)]=.ok (.int (q0Q false is)):=by
 rw [q7K,q4B]
 show (if is≠[] then _ else _)=_
 rw [if_pos h]
theorem q4u {is:List Int} (h:is≠[]):q4q [.lst (is.map D.int)]=.ok (.int (q0Q true is)):=by
 rw [q4q,q4B]
 show (if is≠[] then _ else _)=_
 rw [if_pos h]
theorem j2l {is:List Int} (hl:is.length<=1000) (h:∀i∈is,-1000000000<=i/\i<=1000000000):q6a is=true:=by
 unfold q6a
 simp only [Bool.and_eq_true,decide_eq_true_eq,List.all_eq_true]
 exact ⟨hl,λi hi=>h i hi⟩
theorem q5B {is:List Int} (hl:is.length<=1000) (h:∀i∈is,-1000000000<=i/\i<=1000000000):q8h [.lst (is.map D.int)]=.ok (.int (isum is)):=by
 rw [q8h,q4B]
 show (if _ then _ else _)=_
 rw [if_pos (j2l hl h)]
theorem j1l (a b:List Int):isum (a++b)=isum a+isum b:=by
 induction a with
 | nil=>simp [isum]
 | cons x a ih=>simp only [List.cons_append,isum,ih];omega
theorem j5w {is:List Int} (h:∀i∈is,0<=i):0<=isum is:=by
 induction is with
 | nil=>simp [isum]
 | cons x a ih=>
  have h1:=ih λi hi=>h i (by simp [hi])
  have h2:=h x (by simp)
  simp only [isum];omega
theorem q28 {α:Type} {f:D->Out D} {g:α->D} {k:α->D}:∀(l:List α),(∀a∈l,f (g a)=.ok (k a))->q6y f (l.map g)=some (l.map k)
 | [],_=>rfl
 | a::l,h=>by
  rw [List.map_cons,q6y,h a (by simp),q28 l λb hb=>h b (by simp [hb])];rfl
theorem q1o {α:Type} {fl:Ro->Out (List D)} {caps:List Nat} {fe:Ev} {ρ:Ro} {g:α->D} {k:α->D} {l:List α} (h:fl ρ=.ok (l.map g)) (hl:l.length<=1000000) (he:∀a∈l,fe (q03 caps ρ (g a))=.ok (k a)) :
 q00 fl caps fe ρ=.ok (l.map k):=by
 rw [q00,h,Out.ok_bind,if_pos (by simpa using hl),q28 l he]
theorem q1u {i:Nat} {f:Ev} {ρ:Ro} {v:D} (h:f ρ=.ok v):q08 i f ρ=.nx (ρ.set i (.sh v)):=by
 rw [q08,h,Out.ok_fl]
theorem q1T {i:Nat} {f:Ro->Out Rv} {ρ:Ro} {v:List D} (h:f ρ=.ok (.fr v)):q1V i f ρ=.nx (ρ.set i (.ow v)):=by
 rw [q1V,h,Out.ok_fl]
theorem q0M {α:Type} (a:α) (l:List α):atI (a::l) 0=some a:=q0C (j:=0) rfl
theorem q0Z {α:Type} (a b:α) (l:List α):atI (a::b::l) 1=some b:=q0C (j:=1) rfl
theorem q1s {α:Type} (a b c:α) (l:List α):atI (a::b::c::l) 2=some c:=q0C (j:=2) rfl
theorem q2e {α:Type} (a b c d:α) (l:List α):atI (a::b::c::d::l) 3=some d:=q0C (j:=3) rfl
theorem q3M {α:Type} (a b c d e:α) (l:List α):atI (a::b::c::d::e::l) 4=some e:=q0C (j:=4) rfl
theorem q20 {α:Type} (a b c d e f:α) (l:List α):atI (a::b::c::d::e::f::l) 5=some f:=q0C (j:=5) rfl
structure Tz (n:Nat) (z:Str):Prop where
 len:z.length<=n
 cps:∀c∈z.cps.toList,c < 128
theorem Tz.mono {n m:Nat} {z:Str} (h:Tz n z) (e:n<=m):Tz m z:=⟨Nat.le_trans h.len e,h.cps⟩
theorem Tz.repr {n:Nat} {z:Str} (h:Tz n z) (hn:n<=1000):(reprText z).length<=200000:=by
 have:=PySem.StrLaws.reprText_len z λc hc=>Nat.lt_of_lt_of_le (h.cps c hc) (by decide)
 have:=h.len
 omega
theorem j8i {α:Type} {xs:List α} {i:Int} (h0:0<=i) (h1:i < xs.length):∃v,atI xs i=some v/\v∈xs:=by
 obtain ⟨k,rfl⟩:=Int.eq_ofNat_of_zero_le h0
 have hk:k < xs.length:=by omega
 exact ⟨xs[k],q0C (by simp [hk]),List.getElem_mem hk⟩
theorem w0o:(Str.ofString "")=⟨#[]⟩:=by decide +kernel
theorem q5q:∀cs:List Nat,q2F (cs.map λc=>D.str ⟨#[c]⟩)=some (cs.map λc=>(⟨#[c]⟩:Str))
 | []=>rfl
 | c::cs=>by rw [List.map_cons,q2F,q5q cs];rfl
theorem q7o (sep:Str) (hs:sep.length=0):∀(cs:List Nat) (n:Nat),(cs.map λc=>(⟨#[c]⟩:Str)).foldl (λa t=>a+t.length+sep.length) n=n+cs.length
 | [],n=>rfl
 | c::cs,n=>by
  rw [List.map_cons,List.foldl_cons,q7o sep hs cs]
  have:(Str.mk #[c]).length=1:=rfl
  rw [this,hs]
  simp;omega
theorem j1S (cs:List Nat) (hl:cs.length<=100):q9A (.str (Str.ofString "")) [.lst (cs.map λc=>D.str ⟨#[c]⟩)]=.ok (.str ⟨cs.toArray⟩):=by
 have s0:(Str.ofString "").length=0:=by decide +kernel
 have ok:JoinOk (Str.ofString "") (cs.map λc=>(⟨#[c]⟩:Str))=true:=by
  unfold JoinOk
  rw [List.foldl_toArray',q7o _ s0]<;>try rfl
  unfold Builtin.Str.tooLong
  rw [sizeLine_eq]
  simp;omega
 have jn:Txt.join (Str.ofString "") (cs.map λc=>(⟨#[c]⟩:Str))=⟨cs.toArray⟩:=by
  show Builtin.Str.glued (Str.ofString "") _=_
  rw [PySem.StrLaws.glued_eq_join,w0o]
  exact PyProof.Rows.join_ones cs
 rw [q9A,q5q]
 show (if _ then _ else _)=_
 rw [if_pos ok,jn]
theorem q32 {z:Str} {n:Nat} (h:Tz n z) (hn:n<=1000) {α:Type} {f:D->Out D} {g:α->D} {ix:α->Int}:∀(l:List α),(∀a∈l,0<=ix a/\ix a < z.length/\f (g a)=ixD (.str z) (.int (ix a)))->∃cs:List Nat,cs.length=l.length/\(∀c∈cs,c∈z.cps.toList)/\q6y f (l.map g)=some (cs.map λc=>D.str ⟨#[c]⟩)
 | [],_=>⟨[],rfl,by simp,rfl⟩
 | a::l,hl=>by
  obtain ⟨cs,h1,h2,h3⟩:=q32 h hn (f:=f) (g:=g) (ix:=ix) l λb hb=>hl b (by simp [hb])
  obtain ⟨p0,p1,p2⟩:=hl a (by simp)
  obtain ⟨c,e,m⟩:=j8i (xs:=z.cps.toList) p0 (by rw [q53];exact p1)
  have hz:z.length<=1000000:=by have:=h.len;omega
  refine ⟨c::cs,by simp [h1],λd hd=>?_,?_⟩
  ·rcases List.mem_cons.mp hd with rfl | hd
   ·exact m
   ·exact h2 d hd
  ·rw [List.map_cons,q6y,p2,h3]
   simp only [ixD,if_pos hz,e,List.map_cons]
theorem q6H {β:Type}:∀(bs:List (Str×β)) (k:Nat) (b:Str×β),(bs.map (·.1)).Nodup->bs[k]?=some b->bs.find? (λx=>decide (x.1=b.1))=some b
 | [],k,b,_,h=>by simp at h
 | x::bs,0,b,_,h=>by
  have e:x=b:=by simpa using h
  subst e
  rw [List.find?_cons_of_pos (by simp)]
 | x::bs,k+1,b,nd,h=>by
  have h:bs[k]?=some b:=by simpa using h
  rw [List.map_cons,List.nodup_cons] at nd
  have ne:x.1≠b.1:=λz=>nd.1 (z ▸ List.mem_map.mpr ⟨b,List.mem_of_getElem? h,rfl⟩)
  rw [List.find?_cons_of_neg (by simpa using ne),q6H bs k b nd.2 h]
theorem q1v {n:Nat} {f:Ro->Fl} {ss:List Sl} {r:Rv} (ρ:Ro) (e:ss++List.replicate (n-ss.length) .no=ρ) (h:f ρ=.rt r):fnF n f ss=.ok r:=by
 rw [fnF,e,h]
theorem w02 {n:Nat} {f:Ro->Fl} {ss:List Sl} {ρ':Ro} (ρ:Ro) (e:ss++List.replicate (n-ss.length) .no=ρ) (h:f ρ=.nx ρ'):fnF n f ss=.ok (.sh .non):=by
 rw [fnF,e,h]
theorem q9T {body:Ro->D->Fl} (S:Nat->Ro->Prop):∀(n i:Nat),(∀j ρ,i<=j->j < i+n->S j ρ->∃ρ',body ρ (.int j)=.nx ρ'/\S (j+1) ρ')->∀ρ,S i ρ->∃ρ',q2R body (rgD (i:Int) n) ρ=.nx ρ'/\S (i+n) ρ'
 | 0,i,_,ρ,h=>⟨ρ,by rw [j2a,q1w],h⟩
 | n+1,i,hb,ρ,h=>by
  obtain ⟨ρ1,e1,h1⟩:=hb i ρ (Nat.le_refl _) (by omega) h
  obtain ⟨ρ2,e2,h2⟩:=q9T S n (i+1) (λj ρ a b=>hb j ρ (by omega) (by omega)) ρ1 h1
  refine ⟨ρ2,?_,by rw [show i+(n+1)=i+1+n by omega];exact h2⟩
  rw [j2K,q19 e1]
  exact e2
theorem q6P {body:Ro->D->Fl} (S:Nat->Ro->Prop) (n:Nat) (hb:∀j ρ,j < n->S j ρ->∃ρ',body ρ (.int j)=.nx ρ'/\S (j+1) ρ') {ρ:Ro} (h:S 0 ρ):∃ρ',q2R body (rgD 0 n) ρ=.nx ρ'/\S n ρ':=by
 obtain ⟨ρ',e,h'⟩:=q9T S n 0 (λj ρ _ b=>hb j ρ (by omega)) ρ h
 exact ⟨ρ',e,by rwa [Nat.zero_add] at h'⟩
theorem q9o {α:Type} {body:Ro->D->Fl} (g:α->D) (S:Nat->Ro->Prop):∀(l:List α) (i:Nat),(∀j a ρ,l[j]?=some a->S (i+j) ρ->∃ρ',body ρ (g a)=.nx ρ'/\S (i+j+1) ρ')->∀ρ,S i ρ->∃ρ',q2R body (l.map g) ρ=.nx ρ'/\S (i+l.length) ρ'
 | [],i,_,ρ,h=>⟨ρ,by rw [List.map_nil,q1w],h⟩
 | a::l,i,hb,ρ,h=>by
  obtain ⟨ρ1,e1,h1⟩:=hb 0 a ρ rfl h
  obtain ⟨ρ2,e2,h2⟩:=q9o g S l (i+1) (λj a ρ e q=>by
   have:=hb (j+1) a ρ (by simpa using e) (by rwa [show i+(j+1)=i+1+j by omega])
   rwa [show i+(j+1)=i+1+j by omega] at this) ρ1 h1
  refine ⟨ρ2,by rw [List.map_cons,q19 e1,e2],?_⟩
  rwa [List.length_cons,show i+(l.length+1)=i+1+l.length by omega]
theorem j9R {α:Type} {body:Ro->D->Fl} (g:α->D) (S:Nat->Ro->Prop) (l:List α) (hb:∀j a ρ,l[j]?=some a->S j ρ->∃ρ',body ρ (g a)=.nx ρ'/\S (j+1) ρ') {ρ:Ro} (h:S 0 ρ):∃ρ',q2R body (l.map g) ρ=.nx ρ'/\S l.length ρ':=by
 obtain ⟨ρ',e,h'⟩:=q9o g S l 0 (λj a ρ e q=>by rw [Nat.zero_add] at q ⊢; exact hb j a ρ e q) ρ h
 exact ⟨ρ',e,by rwa [Nat.zero_add] at h'⟩
theorem j3c {t:Ro->Out Bool} {b:Ro->Fl} (S:Nat->Ro->Prop):∀(n i m:Nat),n < m->(∀j ρ,i<=j->j < i+n->S j ρ->t ρ=.ok true/\∃ρ',b ρ=.nx ρ'/\S (j+1) ρ')->(∀ρ,S (i+n) ρ->t ρ=.ok false)->∀ρ,S i ρ->∃ρ',whD t b m ρ=.nx ρ'/\S (i+n) ρ'
 | _,_,0,h,_,_,_,_=>absurd h (by omega)
 | 0,i,m+1,_,_,he,ρ,h=>⟨ρ,by rw [whD,he ρ h];rfl,h⟩
 | n+1,i,m+1,hm,hb,he,ρ,h=>by
  obtain ⟨et,ρ1,e1,h1⟩:=hb i ρ (Nat.le_refl _) (by omega) h
  obtain ⟨ρ2,e2,h2⟩:=j3c S n (i+1) m (by omega) (λj ρ a b=>hb j ρ (by omega) (by omega)) (fun ρ q=>he ρ (by rwa [show i+(n+1)=i+1+n by omega])) ρ1 h1
  refine ⟨ρ2,?_,by rwa [show i+(n+1)=i+1+n by omega]⟩
  rw [whD,et,Out.ok_fl,if_pos rfl,e1]
  exact e2
theorem whR {t:Ro->Out Bool} {b:Ro->Fl} (S:Nat->Ro->Prop) (n m:Nat) (hm:n < m) (hb:∀j ρ,j < n->S j ρ->t ρ=.ok true/\∃ρ',b ρ=.nx ρ'/\S (j+1) ρ') (he:∀ρ,S n ρ->t ρ=.ok false) {ρ:Ro} (h:S 0 ρ):∃ρ',whD t b m ρ=.nx ρ'/\S n ρ':=by
 obtain ⟨ρ',e,h'⟩:=j3c S n 0 m hm (λj ρ _ b=>hb j ρ (by omega)) (fun ρ q=>he ρ (by rwa [Nat.zero_add] at q)) ρ h
 exact ⟨ρ',e,by rwa [Nat.zero_add] at h'⟩
theorem pick2 (a b i:Int):∃v,atI [D.int a,D.int b] (i % 2)=some (.int v)/\(v=a∨v=b):=by
 have:i % 2=0∨i % 2=1:=by omega
 rcases this with h | h<;>rw [h]
 ·exact ⟨a,q0M _ _,.inl rfl⟩
 ·exact ⟨b,q0Z _ _ _,.inr rfl⟩
theorem pick3 (a b c i:Int):∃v,atI [D.int a,D.int b,D.int c] (i % 3)=some (.int v)/\(v=a∨v=b∨v=c):=by
 have:i % 3=0∨i % 3=1∨i % 3=2:=by omega
 rcases this with h | h | h<;>rw [h]
 ·exact ⟨a,q0M _ _,.inl rfl⟩
 ·exact ⟨b,q0Z _ _ _,.inr (.inl rfl)⟩
 ·exact ⟨c,q1s _ _ _ _,.inr (.inr rfl)⟩
theorem pick4 (a b c d i:Int):∃v,atI [D.int a,D.int b,D.int c,D.int d] (i % 4)=some (.int v)/\(v=a∨v=b∨v=c∨v=d):=by
 have:i % 4=0∨i % 4=1∨i % 4=2∨i % 4=3:=by omega
 rcases this with h | h | h | h<;>rw [h]
 ·exact ⟨a,q0M _ _,.inl rfl⟩
 ·exact ⟨b,q0Z _ _ _,.inr (.inl rfl)⟩
 ·exact ⟨c,q1s _ _ _ _,.inr (.inr (.inl rfl))⟩
 ·exact ⟨d,q2e _ _ _ _ _,.inr (.inr (.inr rfl))⟩
theorem q2q {i j:Int} (h:-1000000<=i/\i<=1000000):q1R i j=true:=by
 unfold q1R
 simp only [Bool.or_eq_true,Bool.and_eq_true,decide_eq_true_eq]
 left;constructor<;>omega
theorem q2H:∀is:List Int,q1e (is.map D.int)=some (is.map V.int)
 | []=>rfl
 | i::is=>by rw [List.map_cons,q1e,q2H is];rfl
theorem q5A (a b:Int):eqV (.int a) (.int b)=decide (a=b):=by
 show (a==b)=_
 rw [Bool.eq_iff_iff,beq_iff_eq,decide_eq_true_eq]
theorem q7n (i:Int):∀is:List Int,inV (.int i) (is.map V.int)=decide (i∈is)
 | []=>by simp [inV]
 | j::is=>by
  have ih:=q7n i is
  unfold inV at ih ⊢
  rw [List.map_cons,List.any_cons,ih,q5A,Bool.eq_iff_iff,Bool.or_eq_true,decide_eq_true_eq,decide_eq_true_eq,decide_eq_true_eq,List.mem_cons]
  exact ⟨λh=>h.elim (λe=>.inl e.symm) .inr,λh=>h.elim (λe=>.inl e.symm) .inr⟩
theorem j1z (neg:Bool) (i:Int) (is:List Int):inD neg (.int i) (.lst (is.map D.int))=.ok (.bl (if neg then !decide (i∈is) else decide (i∈is))):=by
 show (match q2L (.int i),q1e (is.map D.int) with | some x,some xs=>Out.ok (D.bl (if neg then !inV x xs else inV x xs)) | _,_=>.bad)=_
 rw [q2H,<-q7n]
 rfl
theorem q4Y (i:Int):∀(is:List Int),i∈is->∃k,k < is.length/\q8a (.int i) (is.map V.int)=some k
 | [],h=>by simp at h
 | j::is,h=>by
  by_cases e:j=i
  ·exact ⟨0,by simp,by rw [List.map_cons,q8a,q5A,if_pos (by simpa using e)]⟩
  ·obtain ⟨k,hk,ek⟩:=q4Y i is (by
    rcases List.mem_cons.mp h with h | h
    ·exact absurd h.symm e
    ·exact h)
   exact ⟨k+1,by simpa using hk,by rw [List.map_cons,q8a,q5A,if_neg (by simpa using e),ek];rfl⟩
theorem q5Y (i:Int) (is:List Int) (h:i∈is):∃k,k < is.length/\q3l (.lst (is.map D.int)) [.int i]=.ok (.int (k:Nat)):=by
 obtain ⟨k,hk,e⟩:=q4Y i is h
 refine ⟨k,hk,?_⟩
 show (match q2L (.int i),q1e (is.map D.int) with | some x,some xs=>(match q8a x xs with | some j=>Out.ok (D.int j) | none=>.bad) | _,_=>.bad)=_
 rw [q2H]
 show (match q8a (.int i) (is.map V.int) with | some j=>Out.ok (D.int j) | none=>.bad)=_
 rw [e]
theorem q3d {α:Type} {l:List α} {j:Nat} {a:α} (h:l[j]?=some a):l.take (j+1)=l.take j++[a]:=by
 rw [List.take_succ,h]
 rfl
theorem q7l {α:Type} {t:D->Out Bool} {f:D->Out D} {g k:α->D} {p:α->Bool}:∀(l:List α),(∀a∈l,t (g a)=.ok (p a))->(∀a∈l,p a=true->f (g a)=.ok (k a))->j55 t f (l.map g)=some ((l.filter p).map k)
 | [],_,_=>rfl
 | a::l,h1,h2=>by
  rw [List.map_cons,j55,h1 a (by simp)]
  have ih:=q7l l (λb hb=>h1 b (by simp [hb])) (λb hb=>h2 b (by simp [hb]))
  cases q:p a with
  | true=>rw [List.filter_cons_of_pos q,List.map_cons];simp only [h2 a (by simp) q,ih]
  | false=>rw [List.filter_cons_of_neg (by simp [q])];exact ih
theorem q13 {α:Type} {fl:Ro->Out (List D)} {caps:List Nat} {ft:Ro->Out Bool} {fe:Ev} {ρ:Ro} {g k:α->D} {p:α->Bool} {l:List α} (h:fl ρ=.ok (l.map g)) (hl:l.length<=1000000) (ht:∀a∈l,ft (q03 caps ρ (g a))=.ok (p a)) (he:∀a∈l,p a=true->fe (q03 caps ρ (g a))=.ok (k a)) :
 q1i fl caps ft fe ρ=.ok ((l.filter p).map k):=by
 rw [q1i,h,Out.ok_bind,if_pos (by simpa using hl),q7l l ht he]
end L3
namespace L3
open PySem PySem.Spec PyProof.Rows L2
section
variable {P:Program} {w:World} {A:Around} {E:Value->Shared->Prop} {s:Shared} {tu tv:Bool} {z TI TO i1 i2 l1 l2:Addr} {k:Nat} {xs ys:Array Value}
theorem j5t {x y a b:Value} {Q:Option Value->Shared->Prop} (D:ZipApart z TI TO i1 i2 l1 l2) (hz:IsZip s.heap z TI TO .none) (hI:IsPair s.heap TI (.ref i1) (.ref i2)) (hO:IsPair s.heap TO a b)
 (h1:IsIt tu s.heap i1 l1 k) (h2:IsIt tv s.heap i2 l2 k) (q1:IsSq tu s.heap l1 xs) (q2:IsSq tv s.heap l2 ys) (hx:xs[k]?=some x) (hy:ys[k]?=some y)
 (hQ:∀h',IsZip h' z TI TO (rawInt s.heap.objs.size)->IsPair h' TO x y->IsIt tu h' i1 l1 (k+1)->IsIt tv h' i2 l2 (k+1)->IsPair h' s.heap.objs.size x y->(∀c o,c≠z->c≠TO->c≠i1->c≠i2->s.heap.get? c=some o->h'.get? c=some o)->Q (some (.ref s.heap.objs.size)) { s with heap:=h' }) :
 wpAny (model P w) A (pyNext (.ref z)) Q E s:=by
 have ty:s.TypeIs (.ref z) "zip":=⟨_,hz,rfl⟩
 unfold pyNext
 refine wpAny_bind (wpAny_attempt (wpAny_callSpecial?_slot (name:=Str.ofString "__next__") ty PySem.F.slot_zip_next (wpAny_call_entry PySem.F.slot_zip_next ty PySem.F.entry_zip_next ?_ (PySem.F.args_zip_next_1 _))))
 obtain ⟨hp,g,d,tk,os⟩:=s
 refine wpAny_bind (m:=field (.ref z) 2) (wpAny_field hz rfl (x:=.bool false) rfl ?_)
 refine wpAny_bind (m:=field (.ref z) 3) (wpAny_field hz rfl (x:=.ref TI) rfl (wpAny_bind (wpAny_seqItems hI rfl ?_)))
 refine wpAny_bind (m:=Builtin.SmallTypes.ownedTupleIsFree (.ref z)) ?_
 unfold Builtin.SmallTypes.ownedTupleIsFree
 refine wpAny_bind (wpAny_field hz rfl (x:=.none) rfl (wpAny_pure ?_))
 simp only [if_true]
 refine wpAny_bind (wpAny_rule (wpAny_bind (wpAny_field hz rfl (x:=.ref TO) rfl (wpAny_bind (wpAny_setField_rec hz (by simp) λg1 z1 s1=>?_)))))
 have z1:IsZip g1 z TI TO .ellipsis:=z1
 have s1:Heap.SameBut z hp g1:=s1
 refine wpAny_bind ?_
 simp only [List.zipIdx_cons,List.zipIdx_nil,List.forIn_cons,List.forIn_nil]
 refine wpAny_bind (wpAny_bind (wpAny_onRaise (wpAny_bind (m:=Builtin.SmallTypes.nextOf (.ref i1)) (q4H (s:=⟨g1,g,d,tk,os⟩) (h1.kept λo e=>(s1.2 _ D.i1z).trans e) (q1.kept λo e=>(s1.2 _ D.l1z).trans e) hx λg2 a2 s2=>wpAny_pure ?_))))
 have s2:Heap.SameBut i1 g1 g2:=s2
 have o2:IsPair g2 TO a b:=(s2.2 _ D.TOi1).trans ((s1.2 _ D.TOz).trans hO)
 refine wpAny_bind (wpAny_seqItems (s:=⟨g2,g,d,tk,os⟩) o2 rfl (wpAny_bind (wpAny_updateSeq_pair (s:=⟨g2,g,d,tk,os⟩) o2 λg3 o3 s3=>wpAny_bind (wpAny_letGo (wpAny_pure ?_)))))
 have o3:IsPair g3 TO x b:=o3
 have s3:Heap.SameBut TO g2 g3:=s3
 refine wpAny_bind (wpAny_bind (wpAny_onRaise (wpAny_bind (m:=Builtin.SmallTypes.nextOf (.ref i2)) (q4H (s:=⟨g3,g,d,tk,os⟩) (h2.kept λo e=>(s3.2 _ D.TOi2.symm).trans ((s2.2 _ D.i12.symm).trans ((s1.2 _ D.i2z).trans e))) (q2.kept λo e=>(s3.2 _ D.l2TO).trans ((s2.2 _ D.l2i1).trans ((s1.2 _ D.l2z).trans e))) hy λg4 a4 s4=>wpAny_pure ?_))))
 have s4:Heap.SameBut i2 g3 g4:=s4
 have o4:IsPair g4 TO x b:=(s4.2 _ D.TOi2).trans o3
 refine wpAny_bind (wpAny_seqItems (s:=⟨g4,g,d,tk,os⟩) o4 rfl (wpAny_bind (wpAny_updateSeq_pair (s:=⟨g4,g,d,tk,os⟩) o4 λg5 o5 s5=>wpAny_bind (wpAny_letGo (wpAny_pure (wpAny_pure ?_))))))
 have o5:IsPair g5 TO x y:=o5
 have s5:Heap.SameBut TO g4 g5:=s5
 have sz:g5.objs.size=hp.objs.size:=by rw [s5.1,s4.1,s3.1,s2.1,s1.1]
 have z5:IsZip g5 z TI TO .ellipsis:=(s5.2 _ D.TOz.symm).trans ((s4.2 _ D.i2z.symm).trans ((s3.2 _ D.TOz.symm).trans ((s2.2 _ D.i1z.symm).trans z1)))
 have k5:∀c o,c≠z->c≠TO->c≠i1->c≠i2->hp.get? c=some o->g5.get? c=some o:=λc o c1 c2 c3 c4 e=>(s5.2 _ c2).trans ((s4.2 _ c4).trans ((s3.2 _ c2).trans ((s2.2 _ c3).trans ((s1.2 _ c1).trans e))))
 have b1:IsIt tu g5 i1 l1 (k+1):=a2.kept λo e=>(s5.2 _ D.TOi1.symm).trans ((s4.2 _ D.i12).trans ((s3.2 _ D.TOi1.symm).trans e))
 have b2:IsIt tv g5 i2 l2 (k+1):=a4.kept λo e=>(s5.2 _ D.TOi2.symm).trans e
 have zlt:z < g5.objs.size:=Heap.lt_size z5
 refine wpAny_bind (wpAny_seqItems (s:=⟨g5,g,d,tk,os⟩) o5 rfl (wpAny_bind (wpAny_newTuple ?_)))
 refine wpAny_bind (m:=Builtin.SmallTypes.ownedTupleHandOut (.ref z) (.ref g5.objs.size)) ?_
 unfold Builtin.SmallTypes.ownedTupleHandOut
 have z6:IsZip (g5.push { cls:=.type "tuple",data:=.seq #[x,y] }) z TI TO .ellipsis:=Heap.get?_push_of_some _ z5
 refine wpAny_bind (wpAny_setField_rec (s:=⟨g5.push { cls:=.type "tuple",data:=.seq #[x,y] },g,d,tk,os⟩) z6 (by simp) λg7 z7 s7=>?_)
 have z7:IsZip g7 z TI TO (rawInt g5.objs.size):=z7
 have s7:Heap.SameBut z (g5.push { cls:=.type "tuple",data:=.seq #[x,y] }) g7:=s7
 refine wpAny_setField_rec (s:=⟨g7,g,d,tk,os⟩) z7 (by simp) λg8 z8 s8=>?_
 have z8:IsZip g8 z TI TO (rawInt g5.objs.size):=z8
 have s8:Heap.SameBut z g7 g8:=s8
 have up:∀c o,c≠z->g5.get? c=some o->g8.get? c=some o:=λc o c1 e=>(s8.2 _ c1).trans ((s7.2 _ c1).trans (Heap.get?_push_of_some _ e))
 have t8:IsPair g8 g5.objs.size x y:=(s8.2 _ (Nat.ne_of_gt zlt)).trans ((s7.2 _ (Nat.ne_of_gt zlt)).trans (Heap.get?_push_size _ rfl))
 rw [sz] at z8 t8
 refine wpAny_pure ⟨_,rfl,wpAny_pure ?_⟩
 show Q (some (.ref g5.objs.size)) _
 rw [sz]
 exact hQ g8 z8 (up _ _ D.TOz o5) (b1.kept λo e=>up _ o D.i1z e) (b2.kept λo e=>up _ o D.i2z e) t8 λc o c1 c2 c3 c4 e=>up c o c1 (k5 c o c1 c2 c3 c4 e)
theorem j6H {a b:Value} {Q:Option Value->Shared->Prop} (hh:A.handled=none) (D:ZipApart z TI TO i1 i2 l1 l2) (hz:IsZip s.heap z TI TO .none) (hI:IsPair s.heap TI (.ref i1) (.ref i2)) (hO:IsPair s.heap TO a b)
 (h1:IsIt tu s.heap i1 l1 k) (h2:IsIt tv s.heap i2 l2 k) (q1:IsSq tu s.heap l1 xs) (q2:IsSq tv s.heap l2 ys) (hend:xs[k]?=none∨ys[k]?=none)
 (hQ:∀h',(∀c o,c≠z->c≠TO->c≠i1->c≠i2->s.heap.get? c=some o->h'.get? c=some o)->Q none { s with heap:=h' }):wpAny (model P w) A (pyNext (.ref z)) Q E s:=by
 have ty:s.TypeIs (.ref z) "zip":=⟨_,hz,rfl⟩
 unfold pyNext
 refine wpAny_bind (wpAny_attempt (wpAny_callSpecial?_slot (name:=Str.ofString "__next__") ty PySem.F.slot_zip_next (wpAny_call_entry PySem.F.slot_zip_next ty PySem.F.entry_zip_next ?_ (PySem.F.args_zip_next_1 _))))
 obtain ⟨hp,g,d,tk,os⟩:=s
 refine wpAny_bind (m:=field (.ref z) 2) (wpAny_field hz rfl (x:=.bool false) rfl ?_)
 refine wpAny_bind (m:=field (.ref z) 3) (wpAny_field hz rfl (x:=.ref TI) rfl (wpAny_bind (wpAny_seqItems hI rfl ?_)))
 refine wpAny_bind (m:=Builtin.SmallTypes.ownedTupleIsFree (.ref z)) ?_
 unfold Builtin.SmallTypes.ownedTupleIsFree
 refine wpAny_bind (wpAny_field hz rfl (x:=.none) rfl (wpAny_pure ?_))
 simp only [if_true]
 refine wpAny_bind (wpAny_rule (wpAny_bind (wpAny_field hz rfl (x:=.ref TO) rfl (wpAny_bind (wpAny_setField_rec hz (by simp) λg1 z1 s1=>?_)))))
 have z1:IsZip g1 z TI TO .ellipsis:=z1
 have s1:Heap.SameBut z hp g1:=s1
 have fin:∀(g6:Heap) (e:Addr),(∀c o,c≠z->c≠TO->c≠i1->c≠i2->hp.get? c=some o->g6.get? c=some o)->(∃o,g6.get? e=some o/\o.cls=.type "StopIteration")->wpAny (model P w) A (do if (<-isInstance (.ref e) (.type "StopIteration")) then pure none else throw (.ref e)) Q E ⟨g6,g,d,tk,os⟩:=λg6 e kk ⟨o,ho,hc⟩=>
  wpAny_bind (wpAny_isInstance (T:="StopIteration") (b:=true) ⟨o,ho,hc⟩ isSubtype_stop (wpAny_pure (hQ _ kk)))
 refine wpAny_bind ?_
 simp only [List.zipIdx_cons,List.zipIdx_nil,List.forIn_cons,List.forIn_nil]
 have r1:=h1.kept (h':=g1) λo e=>(s1.2 _ D.i1z).trans e
 have t1:=q1.kept (h':=g1) λo e=>(s1.2 _ D.l1z).trans e
 cases hx:xs[k]? with
 | none=>
  refine wpAny_bind (wpAny_bind (wpAny_onRaise (wpAny_bind (m:=Builtin.SmallTypes.nextOf (.ref i1)) (j0Z (s:=⟨g1,g,d,tk,os⟩) hh r1 t1 hx λg2 e s2 ⟨oe,he,ce⟩=>?_))))
  have s2:Heap.ExtBut i1 g1 g2:=s2
  have z2:IsZip g2 z TI TO .ellipsis:=s2 _ _ D.i1z.symm z1
  have ez:e≠z:=λq=>by subst q;rw [z2] at he;cases he;simp at ce
  exact wpAny_setField_rec (s:=⟨g2,g,d,tk,os⟩) z2 (by simp) λg3 _ s3=>fin g3 e (λc o c1 _ c3 _ q=>s3.extBut _ _ c1 (s2 _ _ c3 ((s1.2 _ c1).trans q))) ⟨oe,s3.extBut _ _ ez he,ce⟩
 | some x=>
  have hy:ys[k]?=none:=by
   rcases hend with h | h
   ·rw [hx] at h;cases h
   ·exact h
  refine wpAny_bind (wpAny_bind (wpAny_onRaise (wpAny_bind (m:=Builtin.SmallTypes.nextOf (.ref i1)) (q4H (s:=⟨g1,g,d,tk,os⟩) r1 t1 hx λg2 a2 s2=>wpAny_pure ?_))))
  have s2:Heap.SameBut i1 g1 g2:=s2
  have o2:IsPair g2 TO a b:=(s2.2 _ D.TOi1).trans ((s1.2 _ D.TOz).trans hO)
  refine wpAny_bind (wpAny_seqItems (s:=⟨g2,g,d,tk,os⟩) o2 rfl (wpAny_bind (wpAny_updateSeq_pair (s:=⟨g2,g,d,tk,os⟩) o2 λg3 o3 s3=>wpAny_bind (wpAny_letGo (wpAny_pure ?_)))))
  have s3:Heap.SameBut TO g2 g3:=s3
  refine wpAny_bind (wpAny_bind (wpAny_onRaise (wpAny_bind (m:=Builtin.SmallTypes.nextOf (.ref i2)) (j0Z (s:=⟨g3,g,d,tk,os⟩) hh (h2.kept λo e=>(s3.2 _ D.TOi2.symm).trans ((s2.2 _ D.i12.symm).trans ((s1.2 _ D.i2z).trans e))) (q2.kept λo e=>(s3.2 _ D.l2TO).trans ((s2.2 _ D.l2i1).trans ((s1.2 _ D.l2z).trans e))) hy λg4 e s4 ⟨oe,he,ce⟩=>?_))))
  have s4:Heap.ExtBut i2 g3 g4:=s4
  have z4:IsZip g4 z TI TO .ellipsis:=s4 _ _ D.i2z.symm ((s3.2 _ D.TOz.symm).trans ((s2.2 _ D.i1z.symm).trans z1))
  have ez:e≠z:=λq=>by subst q;rw [z4] at he;cases he;simp at ce
  exact wpAny_setField_rec (s:=⟨g4,g,d,tk,os⟩) z4 (by simp) λg5 _ s5=>fin g5 e (λc o c1 c2 c3 c4 q=>s5.extBut _ _ c1 (s4 _ _ c4 ((s3.2 _ c2).trans ((s2.2 _ c3).trans ((s1.2 _ c1).trans q))))) ⟨oe,s5.extBut _ _ ez he,ce⟩
end
noncomputable abbrev zzA (h:Heap) (tu:Bool) (l1:Addr):Heap:=h.push (q2A tu l1)
noncomputable abbrev zzB (h:Heap) (tu tv:Bool) (l1 l2:Addr):Heap:=(zzA h tu l1).push (q2A tv l2)
noncomputable abbrev zzC (h:Heap) (tu tv:Bool) (l1 l2:Addr):Heap:=(zzB h tu tv l1 l2).push { cls:=.type "tuple",data:=.seq #[.ref h.objs.size,.ref (zzA h tu l1).objs.size] }
noncomputable abbrev zzD (h:Heap) (tu tv:Bool) (l1 l2:Addr):Heap:=(zzC h tu tv l1 l2).push { cls:=.type "tuple",data:=.seq #[.none,.none] }
noncomputable abbrev zzE (h:Heap) (tu tv:Bool) (l1 l2:Addr):Heap:=(zzD h tu tv l1 l2).push { cls:=.type "zip",data:=.fields #[.none,.bool false,.bool false,.ref (zzB h tu tv l1 l2).objs.size,.ref (zzC h tu tv l1 l2).objs.size] }
set_option maxHeartbeats 2000000 in
theorem j77 (tu tv:Bool) (l1 l2:Addr) (xs ys:Array Value):Meets (Builtin.«zip.__new__» ⟨[.type "zip",.ref l1,.ref l2],[]⟩) (λ_ R s=>IsSq tu s.heap l1 xs/\IsSq tv s.heap l2 ys/\R (.ok (.ret (.ref (zzD s.heap tu tv l1 l2).objs.size))) { s with heap:=zzE s.heap tu tv l1 l2 }):=
 .of_wp λprog w A R s h=>by
  obtain ⟨hp,g,d,tk,os⟩:=s
  obtain ⟨q1,q2,h⟩:=h
  have sub:=sub_zip
  have e1:IsSq tu (Shared.heap ⟨hp,g,d,tk,os⟩) l1 xs:=q1
  have e2:IsSq tv (Shared.heap ⟨hp.push (q2A tu l1),g,d,tk,os⟩) l2 ys:=IsSq.kept q2 λo e=>Heap.get?_push_of_some _ e
  wp_walk using q4m e1,q4m e2
  exact ⟨_,rfl,h⟩
section
variable {P:Program} {w:World} {A:Around} {E:Value->Shared->Prop} {s:Shared} {tu tv:Bool} {l1 l2:Addr} {xs ys:Array Value}
theorem j20 {h:Heap} {a l:Addr} (e:h.get? a=some (q2A tu l)):IsIt tu h a l 0:=by
 cases tu with
 | true=>exact (⟨_,e,rfl,rfl⟩:h.IsTupleIter a l 0)
 | false=>exact (⟨_,e,rfl,rfl⟩:h.IsListIter a l 0)
theorem j5f {Q:Value->Shared->Prop} (q1:IsSq tu s.heap l1 xs) (q2:IsSq tv s.heap l2 ys)
 (h:∀h',IsZip h' (s.heap.objs.size+4) (s.heap.objs.size+2) (s.heap.objs.size+3) .none->IsPair h' (s.heap.objs.size+2) (.ref s.heap.objs.size) (.ref (s.heap.objs.size+1))->IsPair h' (s.heap.objs.size+3) .none .none ->
  IsIt tu h' s.heap.objs.size l1 0->IsIt tv h' (s.heap.objs.size+1) l2 0->(∀c o,s.heap.get? c=some o->h'.get? c=some o)->Q (.ref (s.heap.objs.size+4)) { s with heap:=h' }):wpAny (model P w) A (call (.type "zip") [.ref l1,.ref l2]) Q E s:=by
 refine callType_new PySem.F.called_zip (by decide) (PySem.F.typeCall_zip_2 _ _) (PySem.F.newCall_zip_2 _ _) (λobj=>PySem.F.args_object_init_3 obj _ _) PySem.F.entry_zip_new (j77 tu tv l1 l2 xs ys) ⟨q1,q2,?_⟩
 have a1:(zzA s.heap tu l1).objs.size=s.heap.objs.size+1:=Heap.size_push ..
 have a2:(zzB s.heap tu tv l1 l2).objs.size=s.heap.objs.size+2:=by rw [Heap.size_push,a1]
 have a3:(zzC s.heap tu tv l1 l2).objs.size=s.heap.objs.size+3:=by rw [Heap.size_push,a2]
 have a4:(zzD s.heap tu tv l1 l2).objs.size=s.heap.objs.size+4:=by rw [Heap.size_push,a3]
 have up:∀{h:Heap} {o o':Obj} {c:Addr},h.get? c=some o->(h.push o').get? c=some o:=λe=>Heap.get?_push_of_some _ e
 have g5:(zzE s.heap tu tv l1 l2).get? (zzD s.heap tu tv l1 l2).objs.size=some _:=Heap.get?_push_size _ rfl
 have g4:(zzE s.heap tu tv l1 l2).get? (zzC s.heap tu tv l1 l2).objs.size=some _:=up (Heap.get?_push_size _ rfl)
 have g3:(zzE s.heap tu tv l1 l2).get? (zzB s.heap tu tv l1 l2).objs.size=some _:=up (up (Heap.get?_push_size _ rfl))
 have g2:(zzE s.heap tu tv l1 l2).get? (zzA s.heap tu l1).objs.size=some (q2A tv l2):=up (up (up (Heap.get?_push_size _ rfl)))
 have g1:(zzE s.heap tu tv l1 l2).get? s.heap.objs.size=some (q2A tu l1):=up (up (up (up (Heap.get?_push_size _ rfl))))
 show _/\_
 rw [a2,a3,a4] at g5
 rw [a1,a2] at g3
 rw [a3] at g4
 rw [a1] at g2
 rw [a4]
 exact ⟨⟨_,g5,rfl⟩,h _ g5 g3 g4 (j20 g1) (j20 g2) λc o q=>up (up (up (up (up q))))⟩
end
noncomputable def Izz (K:PySem.W.Frag) (tu tv:Bool) (a b:Addr):It:=⟨λi H=>∃xs ys x y,SqE K tu H a xs/\SqE K tv H b ys/\xs[i]?=some x/\ys[i]?=some y,
 λi H v H'=>∃x y p,(∀xs,SqE K tu H a xs->xs[i]?=some x)/\(∀ys,SqE K tv H b ys->ys[i]?=some y)/\v=.ref p/\H p=none/\H'=upd H p (.tup [x,y]),
 λi H=>∃xs ys,SqE K tu H a xs/\SqE K tv H b ys/\(xs[i]?=none∨ys[i]?=none)⟩
theorem j4U {P:Program} {w:World} {K:PySem.W.Frag} {elts:List Expr} {x1:Nat} {tp:Pos} (tu tv:Bool) (a b z TI TO i1 i2:Addr) (D:ZipApart z TI TO i1 i2 a b) :
 Turn P w K (.Tuple elts x1 tp) (Izz K tu tv a b) [z,TI,TO,i1,i2] z (λi h=>IsZip h z TI TO .none/\IsPair h TI (.ref i1) (.ref i2)/\(∃u v,IsPair h TO u v)/\IsIt tu h i1 a i/\IsIt tv h i2 b i) where
 mem:=by simp
 obj:=λi h st c hc=>by
  obtain ⟨s1,s2,⟨u,v,s3⟩,s4,s5⟩:=st
  simp only [List.mem_cons,List.not_mem_nil,or_false] at hc
  rcases hc with rfl | rfl | rfl | rfl | rfl
  ·exact ⟨_,s1,λv z=>by have z':Data.fields _=Data.cell v:=z;cases z'⟩
  ·exact ⟨_,s2,λv z=>by have z':Data.seq _ _=Data.cell v:=z;cases z'⟩
  ·exact ⟨_,s3,λv z=>by have z':Data.seq _ _=Data.cell v:=z;cases z'⟩
  ·obtain ⟨o,e,_,d⟩:=s4.obj
   exact ⟨o,e,λv z=>by rw [d] at z;cases z⟩
  ·obtain ⟨o,e,_,d⟩:=s5.obj
   exact ⟨o,e,λv z=>by rw [d] at z;cases z⟩
 keep:=λi h h' st k=>by
  obtain ⟨s1,s2,⟨u,v,s3⟩,s4,s5⟩:=st
  exact ⟨k z (by simp) _ s1,k TI (by simp) _ s2,⟨u,v,k TO (by simp) _ s3⟩,s4.kept λo e=>k i1 (by simp) o e,s5.kept λo e=>k i2 (by simp) o e⟩
 item:=by
  intro X hP hw hK hc i pins s σ H E I hf st hg
  subst hP hw hK
  obtain ⟨xs,ys,x,y,hqa,hqb,hx,hy⟩:=hg
  obtain ⟨t1,t2,⟨u0,v0,t3⟩,t4,t5⟩:=st
  obtain ⟨its,rv,pa,hza⟩:=q1G I hqa
  obtain ⟨its2,rv2,pb,hzb⟩:=q1G I hqb
  obtain ⟨u,hu,ru⟩:=rv.get hx
  obtain ⟨v,hv,rv'⟩:=rv2.get hy
  refine j5t D t1 t2 t3 t4 t5 pa pb (x:=u) (y:=v) (by simpa using hu) (by simpa using hv) λh' a1 a2 a3 a4 a5 a7=>⟨_,rfl,?_⟩
  refine wpAny_letOwnedTupleGo_zip (s:={ s with heap:=h' }) a1 λh'' b1 sb=>?_
  have szz:s.heap.objs.size≠z:=λe=>absurd (Heap.lt_size t1) (by rw [<-e];exact Nat.lt_irrefl _)
  have kk:∀c o,c∉[z,TI,TO,i1,i2]->s.heap.get? c=some o->h''.get? c=some o:=λc o hcm e=>by
   simp only [List.mem_cons,List.not_mem_nil,or_false,not_or] at hcm
   exact (sb.2 c hcm.1).trans (a7 c o hcm.1 hcm.2.2.1 hcm.2.2.2.1 hcm.2.2.2.2 e)
  have hfresh:H s.heap.objs.size=none:=I.hok.fresh (Nat.le_refl _)
  have nfp:∀c u,H c=some u->c∉[z,TI,TO,i1,i2]:=λc u e hm=>by rw [(hf c hm).1] at e;cases e
  have nsz:∀c u,H c=some u->c≠s.heap.objs.size:=λc u e z=>by rw [z,hfresh] at e;cases e
  have p5:IsPair h'' s.heap.objs.size u v:=(sb.2 _ szz).trans a5
  have I1:Inv X pins σ (upd H s.heap.objs.size (.tup [x,y])) { s with heap:=h'' }:=by
   refine I.step (g':=s.gens) (d':=s.drawn) (t':=s.toks) (ch:=[z,TI,TO,i1,i2]) (λc hcm=>?_) (λc o _ _ hcm e _=>kk c o hcm e) (λc o _ _ hcm e _=>⟨o.slots,kk c o hcm e⟩) (λc o _ e n=>?_)
    (λc o hcm e=>⟨o,kk c o hcm e⟩) (λc xs e=>?_) (λc o w e=>?_) (λc ps e=>⟨#[],?_⟩) (λm hm=>?_) (λc w e=>?_) I.bare
   ·obtain ⟨f0,f1,f2,f3,f4,f5⟩:=hf c hcm
    exact ⟨f3,f1,f4,f5⟩
   ·rw [q0i (Nat.ne_of_lt (Heap.lt_size e))];exact n
   ·rw [q0i (nsz c _ e)];exact e
   ·rw [q0i (nsz c _ e)];exact e
   ·rw [q0i (nsz c _ e),e];simp
   ·obtain ⟨o,es,ep,ho,r⟩:=hm
    refine ⟨o,es,ep,kk _ o (λhm=>?_) ho,r⟩
    exact (hf _ hm).2.1 rfl
   ·by_cases hcz:c=s.heap.objs.size
    ·subst hcz
     rw [q0u] at e;cases e
     exact ⟨by show 2<=sizeLine;decide,[u,v],.cons ru (.cons rv' .nil),⟨_,p5,rfl,_,rfl⟩⟩
    ·rw [q0i hcz] at e
     refine (I.hok c w e).stay (λc' w' hc' q=>kk c' w' ?_ q) (λc' q=>?_) λc' xs q=>?_
     ·rcases hc' with hc' | hc'
      ·rw [hc'];exact nfp _ _ e
      ·exact nfp _ _ hc'
     ·rw [q0i (nsz c' _ q)];exact q
     ·rw [q0i (nsz c' _ q)];exact q
  refine ⟨.ref s.heap.objs.size,_,I1,rfl,⟨x,y,_,λws hw=>by rw [q5T I hw hqa];exact hx,λws hw=>by rw [q5T I hw hqb];exact hy,rfl,hfresh,rfl⟩,⟨b1,?_,⟨u,v,(sb.2 _ D.TOz).trans a2⟩,a3.kept λo e=>(sb.2 _ D.i1z).trans e,a4.kept λo e=>(sb.2 _ D.i2z).trans e⟩,λc hcm=>?_⟩
  ·exact (sb.2 _ D.TIz).trans (a7 TI _ D.TIz D.TITO D.TIi1 D.TIi2 t2)
  ·rw [q0i]
   ·exact (hf c hcm).1
   ·rintro rfl
    simp only [List.mem_cons,List.not_mem_nil,or_false] at hcm
    rcases hcm with e | e | e | e | e
    ·exact szz e
    ·exact absurd (Heap.lt_size t2) (by rw [<-e];exact Nat.lt_irrefl _)
    ·exact absurd (Heap.lt_size t3) (by rw [<-e];exact Nat.lt_irrefl _)
    ·obtain ⟨o,eo,_⟩:=t4.obj
     exact absurd (Heap.lt_size eo) (by rw [<-e];exact Nat.lt_irrefl _)
    ·obtain ⟨o,eo,_⟩:=t5.obj
     exact absurd (Heap.lt_size eo) (by rw [<-e];exact Nat.lt_irrefl _)
 done:=by
  intro X hP hw hK hc i pins s σ H E I hf st hg
  subst hP hw hK
  obtain ⟨xs,ys,hqa,hqb,hend⟩:=hg
  obtain ⟨t1,t2,⟨u0,v0,t3⟩,t4,t5⟩:=st
  obtain ⟨its,rv,pa,hza⟩:=q1G I hqa
  obtain ⟨its2,rv2,pb,hzb⟩:=q1G I hqb
  have l1:=rv.length
  have l2:=rv2.length
  refine j6H (I.ok.hd hc) D t1 t2 t3 t4 t5 pa pb ?_ λh' a7=>⟨rfl,?_⟩
  ·rcases hend with hend | hend
   ·left
    rw [List.getElem?_eq_none_iff] at hend
    simp;omega
   ·right
    rw [List.getElem?_eq_none_iff] at hend
    simp;omega
  ·have kk:∀c o,c∉[z,TI,TO,i1,i2]->s.heap.get? c=some o->h'.get? c=some o:=λc o hcm e=>by
    simp only [List.mem_cons,List.not_mem_nil,or_false,not_or] at hcm
    exact a7 c o hcm.1 hcm.2.2.1 hcm.2.2.2.1 hcm.2.2.2.2 e
   have nfp:∀c u,H c=some u->c∉[z,TI,TO,i1,i2]:=λc u e hm=>by rw [(hf c hm).1] at e;cases e
   refine I.step (g':=s.gens) (d':=s.drawn) (t':=s.toks) (ch:=[z,TI,TO,i1,i2]) (λc hcm=>?_) (λc o _ _ hcm e _=>kk c o hcm e) (λc o _ _ hcm e _=>⟨o.slots,kk c o hcm e⟩) (λc o _ e n=>n)
    (λc o hcm e=>⟨o,kk c o hcm e⟩) (λc xs e=>e) (λc o w e=>e) (λc ps e=>⟨#[],by rw [e];simp⟩) (λm hm=>?_) (λc w e=>?_) I.bare
   ·obtain ⟨f0,f1,f2,f3,f4,f5⟩:=hf c hcm
    exact ⟨f3,f1,f4,f5⟩
   ·obtain ⟨o,es,ep,ho,r⟩:=hm
    exact ⟨o,es,ep,kk _ o (λhm=>(hf _ hm).2.1 rfl) ho,r⟩
   ·refine (I.hok c w e).stay (λc' w' hc' q=>kk c' w' ?_ q) (λc' q=>q) λc' xs q=>q
    rcases hc' with hc' | hc'
    ·rw [hc'];exact nfp _ _ e
    ·exact nfp _ _ hc'
 self:=λ_ _ _ _ _ st h=>wpAny_pyIter_zip st.1 h
section
variable {T:Tb} {X:Cx} {a b:Expr} {pos p tp:Pos} {fe:Ev} {fm:Ro->Out (List D)} {elts:List Expr} {x1:Nat}
theorem j5K {tu tv:Bool} {G H1:Hp} {l m:Addr} {vs ws:List V} {ds es:List D} (st:StE X.K tu G H1 l vs) (r:RepL T X.K H1 ds vs) (st2:StE X.K tv G H1 m ws) (r2:RepL T X.K H1 es ws):Walk T X.K G (Izz X.K tu tv l m) (List.zipWith (λx y=>D.tup [x,y]) ds es) H1:=λi H p sm=>by
 have sq:=(st.pers p).sq sm
 have sq2:=(st2.pers p).sq sm
 have r':=RepL.pers p _ _ r
 have r2':=RepL.pers p _ _ r2
 have hl:=RepL.length _ _ r'
 have hl2:=RepL.length _ _ r2'
 refine ⟨λd e=>?_,λh=>⟨vs,ws,sq,sq2,?_⟩⟩
 ·rw [List.getElem?_zipWith] at e
  cases ed:ds[i]? with
  | none=>rw [ed] at e;simp at e
  | some d1=>
   cases ee:es[i]? with
   | none=>rw [ed,ee] at e;simp at e
   | some d2=>
    rw [ed,ee] at e
    have e':D.tup [d1,d2]=d:=by simpa using e
    subst e'
    obtain ⟨v,e1,rd⟩:=RepL.get _ _ _ _ r' ed
    obtain ⟨w,e2,rd2⟩:=RepL.get _ _ _ _ r2' ee
    refine ⟨⟨vs,ws,v,w,sq,sq2,e1,e2⟩,λx H2 ⟨x',y',q,h1,h2,hx,hq,hH⟩=>?_⟩
    have z1:=h1 vs sq
    have z2:=h2 ws sq2
    rw [e1] at z1;cases z1
    rw [e2] at z2;cases z2
    subst hx hH
    exact ⟨q0z hq,q,[v,w],rfl,SqT.of q0u,v,[w],rfl,Rep.mono (q0z hq) _ _ rd,w,[],rfl,Rep.mono (q0z hq) _ _ rd2,rfl⟩
 ·rw [List.length_zipWith] at h
  rw [List.getElem?_eq_none_iff,List.getElem?_eq_none_iff]
  omega
theorem j6k (hg:Gl X "zip") (hm:X.mg "zip" = none) (ha:DE T X a fe) (hb:DP T X b fm) (hs:starEach [a,b] X.env=(false,eval a X.env)::starEach [b] X.env:=by exact q0D rfl) (hs2:starEach [b] X.env=(false,eval b X.env)::starEach [] X.env:=by exact q0D rfl) (hpl:(backTo pos (starEach [b] X.env)).any (·.1)=false:=by exact q0J rfl) :
 DI T X (.Tuple elts x1 tp) (.Call (.Name "zip" p) [a,b] [] pos) (j9e (q4y fe) fm):=.mk λG E hp=>by
 rintro pins s σ H R I ⟨ρ,fr,h⟩
 refine Call_ (q2E (X:=X.wish E) I hg hm boot_zip (PyProof.Rows.callWith_type1 (thn ((q0I (X:=X.wish E) (ha.run G E hp) (q0I (X:=X.wish E) (hb.run G E hp) q1t hs2) hs) pos pins s σ H (λus H1=>∃l m vs ws,us=[.ref l,.ref m]/\SqE X.K true H1 l vs/\SqE X.K false H1 m ws/\R (Izz X.K true false l m) H1) I ⟨ρ,fr,Acc.mono (Acc.bind (Acc.bind h)) λd _ hd v H1 s1 rd=>?_⟩) λus s1 ⟨xs,H1,I1,r1,l,m,vs,ws,e1,sq,sq2,q⟩=>?_) hs hpl))
 ·cases d with
  | tup ds=>
   obtain ⟨l,vs,rfl,stl,r⟩:=rd
   have hd:Acc T X E σ H ((fm ρ).bind λes=>.ok (List.zipWith (λx y=>D.tup [x,y]) ds es)) _:=hd
   refine ⟨ρ,fr.mono s1,Acc.mono (Acc.bind (Acc.heap s1 hd)) λes _ hes m ws H2 s2 st2 r2=>?_⟩
   have stt:StE X.K true G H2 l vs:=q4e (Pers.of (T:=T) s2) stl
   exact ⟨l,m,vs,ws,rfl,stt.sq ((fr.same.trans s1).trans s2),st2.sq ((fr.same.trans s1).trans s2),hes _ H2 (s1.trans s2) (j5K stt (RepL.mono s2 _ _ r) (show StE X.K false G H2 m ws from st2) r2)⟩
  | _=>exact hd.elim
 ·subst e1
  obtain ⟨u,v,rfl,ru,rv0⟩:=Vals.two r1
  cases ru
  cases rv0
  obtain ⟨its,rv,pl,hz⟩:=q1G I1 sq
  obtain ⟨its2,rv2,pl2,hz2⟩:=q1G I1 sq2
  have a1:l < s1.heap.objs.size:=by obtain ⟨_,e,_⟩:=(pl:s1.heap.IsTuple l its.toArray);exact Heap.lt_size e
  have a2:m < s1.heap.objs.size:=by obtain ⟨_,e,_⟩:=(pl2:s1.heap.IsList m its2.toArray);exact Heap.lt_size e
  refine j5f pl pl2 λh' z1 z2 z3 z4 z5 kp=>?_
  have I2:Inv (X.wish E) pins σ H1 { s1 with heap:=h' }:=I1.kept (t':=s1.toks) kp
  refine wpAny_pyIter_zip z1 ⟨_,_,_,_,H1,rfl,I2,j4U true false l m _ _ _ _ _ (zipApart_new a1 a2),⟨z1,z2,⟨_,_,z3⟩,z4,z5⟩,λc hcm=>?_,q⟩
  have ge:s1.heap.objs.size<=c:=by
   simp only [List.mem_cons,List.not_mem_nil,or_false] at hcm
   rcases hcm with rfl | rfl | rfl | rfl | rfl<;>omega
  exact I1.fpOk ge (I1.hok.fresh ge)
end
noncomputable def q3t (ts:List Str):Str:=(PyData.list (ts.map PyData.str)).shown
theorem q33 {h:Heap}:∀{ts:List Str} {us:List Value},Vals (ts.map V.str) us->ReadsAll h us (ts.map PyData.str) []
 | [],_,.nil=>.nil
 | t::ts,_,.cons r q=>by
  obtain ⟨k,rfl⟩:=r
  exact .cons (.str t k) (q33 q)
theorem q5m:∀ts:List Str,PyData.showableAll (ts.map PyData.str)=true
 | []=>rfl
 | t::ts=>by simp [PyData.showableAll,PyData.showable,q5m ts]
theorem q4W:∀ts:List Str,PyData.hasDictAll (ts.map PyData.str)=false
 | []=>rfl
 | t::ts=>by simp [PyData.hasDictAll,PyData.hasDict,q4W ts]
theorem q3P:∀ts:List Str,PyData.depthAll (ts.map PyData.str)=0
 | []=>rfl
 | t::ts=>by simp [PyData.depthAll,PyData.depth,q3P ts]
section
variable {T:Tb} {X:Cx} {v:Expr} {es:List Expr} {pos:Pos} {fl:Ro->Out (List D)} {fs:Ro->Option (List Str)} {k:Nat}
@[simp] noncomputable def j95 (fl:Ro->Out (List D)) (fs:Ro->Option (List Str)) (ρ:Ro):Option (List Str):=match fl ρ with
 | .ok ds=>(match q2F ds with
  | some ts=>if (q3t ts).length<=200000 then (match fs ρ with | some xs=>some (q3t ts::xs) | none=>none) else none
  | none=>none)
 | _=>none
theorem j2F {ρ:Ro} {ys:List Str} (e:j95 fl fs ρ=some ys):∃ds ts xs,fl ρ=.ok ds/\q2F ds=some ts/\(q3t ts).length<=200000/\fs ρ=some xs/\ys=q3t ts::xs:=by
 unfold j95 at e
 cases ed:fl ρ with
 | ok ds=>
  rw [ed] at e
  cases et:q2F ds with
  | some ts=>
   simp only [et] at e
   by_cases h:(q3t ts).length<=200000
   ·rw [if_pos h] at e
    cases ef:fs ρ with
    | some xs=>rw [ef] at e;cases e;exact ⟨ds,ts,xs,rfl,et,h,rfl,rfl⟩
    | none=>rw [ef] at e;cases e
   ·rw [if_neg h] at e;cases e
  | none=>simp only [et] at e;cases e
 | exc c=>rw [ed] at e;cases e
 | bad=>rw [ed] at e;cases e
theorem j2e (hr:Room k X.A) (he:DL T X v fl) (hj:DJ T X es fs):DJ T X (.FormattedValue v 114 none pos::es) (j95 fl fs):=.mk λG E hp pins s σ H acc Q I ⟨ρ,ys,fr,e,z,kk⟩=>by
 obtain ⟨ds,ts,xs,ed,et,hl,ef,rfl⟩:=j2F e
 refine wpAny_FormattedValue_repr (thn (he.run G E hp pins s σ H (λw H1=>∃l vs,w=.ref l/\Same H H1/\SqL X.K H1 l vs/\RepL T X.K H1 ds vs) I ⟨ρ,fr,?_⟩) λu s1 ⟨w,H1,I1,rv,l,vs,ew,sm,sq,rl⟩=>?_)
 ·rw [ed];exact λl vs H1 sm sq rl=>⟨l,vs,rfl,sm,sq,rl⟩
 ·subst ew
  cases rv
  obtain rfl:=q2P et rl
  obtain ⟨its,r,pl,hz⟩:=I1.list sq
  obtain ⟨o,ho,hc,n,hd⟩:=pl.isList
  have un:=hr.un
  refine pyReprObj_of_reads (d:=.list (ts.map PyData.str)) (.list ho hc hd (q33 r)) (by simp [PyData.showable,q5m]) (λq=>by simp [PyData.hasDict,q4W] at q) hr.gd (by simp only [PyData.depth,q3P];omega) (λb o q=>q) (λh' u tk kp=>?_) (by rw [sizeLine_eq];show (q3t ts).length<=_;omega)
  refine formatField_str (λt' tk'=>?_) (by rw [sizeLine_eq];show (q3t ts).length<=_;omega)
  have I2:Inv (X.wish E) pins σ H1 { s1 with heap:=h',toks:=tk' }:=I1.kept kp
  exact q4h hp hj I2 (fr.mono sm) sm hl ef z kk
end
section
variable {T:Tb} {ib:Bool} {X:Cx} {e:Expr} {pos pos':Pos} {x:Str}
end
section
variable {T:Tb} {X:Cx} {a b c:Expr} {pos p p2 pos2:Pos} {fa fe fc:Ev}
end
theorem q3w {prog:Program} {w:World} {A:Around} {R:Result->Shared->Prop} {s:Shared} {elt target iter:Expr} {ifs:List Expr} {scope:Scope} {pos:Pos} {it acc:Value} {env:Env} (I:Nat->Shared->Prop)
 (turn:∀n s,I n s->wpAny (model prog w) A (pyNext it) (λr s₁=>match r with
  | none=>R (.ok .next) s₁
  | some v=>wpAny (model prog w) A (letOwnedTupleGo target it v) (λ_ s₁=>wpAny (model prog w) A (assign target env v) (λ_ s₂=>
   wpAny (model prog w) A (forIn ifs true λc r=>if r=true then do let ok <-isTrue c env (eval c env);pure (ForInStep.yield ok) else pure (ForInStep.yield r)) (λok s₃=>
    if ok=true then wpAny (model prog w) A (eval elt env) (λx s₄=>
     wpAny (model prog w) A (call (.builtin "list.append") [acc,x]) (λ_ s₅=>∃m,m < n/\I m s₅) (notedBy (model prog w) A env λe s'=>R (.error e) s') s₄) (notedBy (model prog w) A env λe s'=>R (.error e) s') s₃
    else ∃m,m < n/\I m s₃) (notedBy (model prog w) A env λe s'=>R (.error e) s') s₂) (notedBy (model prog w) A env λe s'=>R (.error e) s') s₁) (notedBy (model prog w) A env λe s'=>R (.error e) s') s₁) (notedBy (model prog w) A env λe s'=>R (.error e) s') s)
 (n:Nat) (h:I n s):codeAny (model prog w) A (.compLoop (.ListComp elt [⟨target,iter,ifs,0⟩] scope pos) 0 it acc env) R s:=by
 refine codeAny_loop rfl I (λn s hI=>?_) n h
 show wpAny _ A ((compTurn (.ListComp elt [⟨target,iter,ifs,0⟩] scope pos) 0 it acc env).onRaise (λx=>do noteFrame x env;theTreesLotGoes x)) _ _ s
 refine wpAny_noted ?_
 rw [compTurn_list]
 refine wpAny_bind (wpAny_standAt (wpAny_bind (wpAny_mono (turn n s hI) (λr s₁ h₁=>?_) λ_ _ h'=>h')))
 cases r with
 | none=>exact wpAny_pure h₁
 | some v=>
  refine wpAny_bind (wpAny_mono h₁ (λ_ s₀ h₀=>?_) λ_ _ h'=>h')
  refine wpAny_bind (wpAny_mono h₀ (λ_ s₂ h₂=>wpAny_bind (wpAny_mono h₂ (λok s₃ h₃=>?_) λ_ _ h'=>h')) λ_ _ h'=>h')
  cases ok with
  | false=>exact wpAny_pure ⟨rfl,h₃⟩
  | true=>
   exact wpAny_bind (wpAny_bind (wpAny_mono h₃ (λx s₄ h₄=>wpAny_bind (wpAny_mono h₄ (λ_ s₅ h₅=>wpAny_pure (wpAny_pure ⟨rfl,h₅⟩)) λ_ _ h'=>h')) λ_ _ h'=>h'))
section
variable {T:Tb} {X:Cx} {elt iter:Expr} {x x2:Str} {px px2 pos pt:Pos} {kk:Nat} {scope:Scope} {ys:List Str} {caps:List Nat} {fe:Ev} {ft:Ro->Out Bool} {tst:Expr} {cl:List (Str×Addr)} {pins:List (Addr×Obj)} {σ:L2.St} {G H2:Hp} {s2:Shared} {J:It} {fp:List Addr} {it:Addr} {tn:Nat->Heap->Prop} {ρ:Ro} {ds es:List D}
end
section
variable {T:Tb} {X:Cx} {elt iter tst:Expr} {x x2:Str} {px px2 pos pt:Pos} {kk:Nat} {scope:Scope} {ys:List Str} {caps:List Nat} {fe:Ev} {ft:Ro->Out Bool} {fl:Ro->Out (List D)}
end
section
open PySem.SeqAt
open PySem.AutoSeq1 (wpAny_loadPart')
end
section
variable {T:Tb} {X:Cx} {o e:Expr} {cpos apos:Pos} {fo fe:Ev}
end
section
variable {T:Tb} {X:Cx}
end
end L3
namespace L3
open PySem PySem.Spec PyProof.Rows L2
section
variable {P:Program} {w:World} {A:Around} {E:Value->Shared->Prop} {s:Shared}
end
section
variable {P:Program} {w:World} {A:Around} {E:Value->Shared->Prop} {s:Shared}
end
section
variable {P:Program} {w:World} {A:Around} {E:Value->Shared->Prop} {s:Shared}
end
section
variable {T:Tb} {X:Cx} {e:Expr} {pos p pos2 p2:Pos} {fl:Ro->Out (List D)}
end
section
variable {P:Program} {w:World} {A:Around} {E:Value->Shared->Prop} {s:Shared}
noncomputable abbrev lit (l:Addr) (k:Int):Obj:={ cls:=.type "list_iterator",data:=.fields #[.ref l,.int k 0] }
end
section
variable {T:Tb} {X:Cx} {a d:Expr} {pos p kp:Pos} {fl:Ro->Out (List D)} {fd:Ev}
end
section
variable {P:Program} {w:World} {A:Around} {E:Value->Shared->Prop} {s:Shared}
end
section
variable {T:Tb} {X:Cx} {a d:Expr} {pos p px kp kp2:Pos} {fl:Ro->Out (List D)} {fv:Ev} {k:Nat} {f:Addr} {fd:FuncData} {ps:List Str} {F:Fn} {x:Str}
end
end L3
namespace L3
open PySem L2
end L3
namespace L3
open PySem PySem.Spec PyProof.Rows L2
section
variable {P:Program} {w:World} {A:Around} {E:Value->Shared->Prop} {s:Shared}
end
section
variable {P:Program} {w:World} {K:PySem.W.Frag} {mg:Str->Option Value} {base:Heap} {T:Tb}
end
section
variable {T:Tb} {X:Cx} {e:Expr} {es:List Expr} {pos p:Pos} {fs:Ro->Out (List Sl)} {k n:Nat} {f:Addr} {fd:FuncData} {ps:List Str} {F:Fn} {x:Str}
end
section
variable {T:Tb} {X:Cx} {elt a tst:Expr} {x:Str} {px pos p rpos:Pos} {scope:Scope} {ys:List Str} {caps:List Nat} {fe fa:Ev} {ft:Ro->Out Bool}
end
theorem _root_.L2.Room.le {j k:Nat} {A:Around} (r:Room k A) (h:j<=k:=by decide):Room j A:=r.mono h
noncomputable def FoC (T:Tb) (K:PySem.W.Frag) (at_:Str) (q:Nat×Nat):Prop:=Cls K (T.ca q.1)/\NoAttr K (T.ca q.1) at_/\(T.fl q.1).Nodup/\(T.fl q.1)[q.2]?=some at_
theorem foN {T:Tb} {K:PySem.W.Frag} {a:Str}:∀q∈([]:List (Nat×Nat)),FoC T K a q:=List.forall_mem_nil _
theorem foC {T:Tb} {K:PySem.W.Frag} {a:Str} {c j:Nat} {l:List Str} {r:List (Nat×Nat)} (cl:Cls K (T.ca c)) (na:NoAttr K (T.ca c) a) (e:T.fl c=l) (h:∀q∈r,FoC T K a q) (hd:l.Nodup:=by decide) (hj:l[j]?=some a:=by rfl):∀q∈(c,j)::r,FoC T K a q:=
 List.forall_mem_cons.mpr ⟨⟨cl,na,by show (T.fl c).Nodup;rw [e];exact hd,by show (T.fl c)[j]?=_;rw [e];exact hj⟩,h⟩
theorem flA {T:Tb} {c j:Nat} {l:List Str} {a:Str} (e:T.fl c=l) (h:l[j]?=some a:=by rfl):(T.fl c)[j]?=some a:=by rw [e];exact h
theorem flN {T:Tb} {c:Nat} {l:List Str} (e:T.fl c=l) (h:l.Nodup:=by decide):(T.fl c).Nodup:=by rw [e];exact h
@[simp] noncomputable abbrev eI (i:Int):Ev:=eC (.int i)
noncomputable def hid (H:Hp) (y:Addr) (m:Option Addr):Hp:=λa=>if a=y∨m=some a then none else H a
section
variable {T:Tb} {K:PySem.W.Frag} {G H H':Hp} {σ:L2.St} {ρ:Ro} {y:Addr} {m:Option Addr} {c:Nat} {ds ks:List D}
end
section
variable {T:Tb} {z u:Option Addr} {K:PySem.W.Frag}
end
section
variable {P:Program} {w:World} {K:PySem.W.Frag} {mg:Str->Option Value} {base:Heap} {T:Tb}
end
section
variable {T:Tb} {X:Cx} {G H:Hp} {σ:L2.St} {E:Value->Shared->Prop} {Q:VK} {D₀:Ends}
end
section
variable {T:Tb} {X:Cx} {e a b:Expr} {es:List Expr} {pos p p2 p3 apos:Pos} {fe fa fb:Ev} {fs:Ro->Out (List Sl)} {k n c ar:Nat} {f:Addr} {fd:FuncData} {ps:List Str} {x z:Str} {body:List Stmt} {fbo:Ro->Fl}
end
section
variable {T:Tb} {ib:Bool} {X:Cx} {e o a b:Expr} {es:List Expr} {pos pos' p p1 p2 p3 p4 apos:Pos} {fe fa fb:Ev} {fs:Ro->Out (List Sl)} {k n c ar:Nat} {f:Addr} {fd:FuncData} {ps:List Str} {x z:Str} {fl:Ro->Out (List D)}
end
section
variable {T:Tb} {X:Cx} {e o a b:Expr} {es:List Expr} {pos pos' p p1 p2 p3 p4 apos:Pos} {fe fa fb:Ev} {fs:Ro->Out (List Sl)} {fl:Ro->Out (List D)} {k n c ar:Nat} {f:Addr} {fd:FuncData} {ps:List Str} {x z:Str}
end
section
variable {T:Tb} {X:Cx} {e o a b:Expr} {es:List Expr} {pos pos' p p1 p2 p3 p4 apos:Pos} {fe fa fb:Ev} {fs:Ro->Out (List Sl)} {k n c ar:Nat} {f:Addr} {fd:FuncData} {ps:List Str} {x z:Str}
end
section
variable {P:Program} {w:World} {h h':Heap}
noncomputable def j8m (P:Program) (w:World):KI->Int
 | .inl i=>(intKind P w).hash i
 | .inr is=>tupleKeyHash (intKind P w) is
variable {A:Around} {E:Value->Shared->Prop} {s:Shared}
noncomputable def keyHash (P:Program) (w:World) (ks:List KI):Int:=reduceHash (Builtin.Tuple.tupleHashOf (ks.map (j8m P w)))
end
namespace Fd
end Fd
section
variable {P:Program} {w:World} {h h':Heap}
variable {A:Around} {R:Result->Shared->Prop} {J:Addr} {fp wr:List Addr} {G:Array GenState->Array GenState->Prop} {St:Nat->Shared->Prop}
end
section
variable {P:Program} {w:World} {A:Around} {E:Value->Shared->Prop} {s:Shared}
end
section
variable {T:Tb} {X:Cx} {pins:List (Addr×Obj)} {σ:L2.St} {H:Hp} {s:Shared}
end
section
variable {T:Tb} {K:PySem.W.Frag} {G H H':Hp} {σ:L2.St} {ρ:Ro}
end
section
variable {T:Tb} {X:Cx}
end
section
variable {T:Tb} {ib:Bool} {X:Cx} {e ew:Expr} {pos p p2 p3 p4 pos':Pos} {fl:Ro->Out (List D)} {fe ff:Ev} {k:Nat}
end
end L3
set_option maxHeartbeats 1600000
namespace L3
open PySem PySem.Spec PyProof.Rows L2
section
variable {P:Program} {w:World} {A:Around} {R:Result->Shared->Prop} {l I S:Addr} {xs:Array (Int×Tok)} {d:Value} {h0:Heap}
end
section
variable {T:Tb} {X:Cx} {a d:Expr} {pos p kp:Pos} {fl:Ro->Out (List D)} {fd:Ev}
end
section
variable {step:D->Option (Option D)}
noncomputable def q1p (step:D->Option (Option D)):List D->Option (List D)
 | []=>some []
 | d::ds=>match step d with
  | some r=>(match q1p step ds with | some es=>some (r.toList++es) | none=>none)
  | none=>none
theorem q5l:∀{a b es:List D},q1p step (a++b)=some es->∃xs,q1p step a=some xs
 | [],_,_,_=>⟨[],rfl⟩
 | d::a,b,es,h=>by
  rw [List.cons_append,q1p] at h
  cases e:step d with
  | none=>rw [e] at h;cases h
  | some r=>
   rw [e] at h
   cases e2:q1p step (a++b) with
   | none=>simp only [e2] at h;cases h
   | some ys=>
    obtain ⟨xs,q⟩:=q5l e2
    exact ⟨r.toList++xs,by rw [q1p,e,q]⟩
theorem q3Y {d:D}:∀{a xs es:List D},q1p step a=some xs->q1p step (a++[d])=some es->∃r,step d=some r/\es=xs++r.toList
 | [],xs,es,h,h2=>by
  cases h
  cases e:step d with
  | none=>rw [List.nil_append,q1p,e] at h2;cases h2
  | some r=>rw [List.nil_append,q1p,e] at h2;cases h2;exact ⟨r,rfl,by simp⟩
 | c::a,xs,es,h,h2=>by
  rw [List.cons_append,q1p] at h2
  rw [q1p] at h
  cases e:step c with
  | none=>rw [e] at h;cases h
  | some q=>
   rw [e] at h h2
   cases e1:q1p step a with
   | none=>simp only [e1] at h;cases h
   | some ys=>
    cases e2:q1p step (a++[d]) with
    | none=>simp only [e2] at h2;cases h2
    | some zs=>
     simp only [e1] at h
     simp only [e2] at h2
     cases h;cases h2
     obtain ⟨r,er,rfl⟩:=q3Y e1 e2
     exact ⟨r,er,by rw [List.append_assoc]⟩
theorem q4T:∀{a xs:List D},q1p step a=some xs->xs.length<=a.length
 | [],xs,h=>by cases h;exact Nat.le_refl _
 | c::a,xs,h=>by
  rw [q1p] at h
  cases e:step c with
  | none=>rw [e] at h;cases h
  | some q=>
   rw [e] at h
   cases e1:q1p step a with
   | none=>simp only [e1] at h;cases h
   | some ys=>
    simp only [e1] at h
    cases h
    have:=q4T e1
    cases q<;>simp<;>omega
end
noncomputable def q8b (X:Cx) (T:Tb) (N:List Str) (scope:Scope) (cl:List (Str×Addr)) (fp:List Addr) (H2:Hp) (cs:L2.St) (pre:Nat) (tg elt:Expr) (ifs:List Expr) (step:D->Option (Option D)):Prop:=
 ∀(C:Addr) (s₀:Shared) (H₀:Hp) (pn:List (Addr×Obj)) (w:L2.St) (H5:Hp) (s5:Shared) (y:V) (u:Value) (d:D) (r:Option D),w.length=pre->Inv ((CxC X N scope cl C s₀ H₀ fp).wish λ_ _=>False) pn (w++cs) H5 s5->RelV y u->Rep T X.K H5 d y->Same H2 H5->step d=some r ->
  wpAny (model X.prog X.w) X.A (assign tg (compEnvC scope cl C X.env) u) (λ_ s6=>wpAny (model X.prog X.w) X.A (forIn ifs true λc r=>if r=true then do let ok <-isTrue c (compEnvC scope cl C X.env) (eval c (compEnvC scope cl C X.env));pure (ForInStep.yield ok) else pure (ForInStep.yield r)) (λok s7=>
   ∃(w':L2.St) (H7:Hp),w'.length=pre/\Inv ((CxC X N scope cl C s₀ H₀ fp).wish λ_ _=>False) pn (w'++cs) H7 s7/\Same H5 H7/\(match r with
    | none=>ok=false
    | some e=>ok=true/\wpAny (model X.prog X.w) X.A (eval elt (compEnvC scope cl C X.env)) (λu7 s8=>∃v7 H8,Inv ((CxC X N scope cl C s₀ H₀ fp).wish λ_ _=>False) pn (w'++cs) H8 s8/\RelV v7 u7/\Same H7 H8/\Rep T X.K H8 e v7) (λ_ _=>False) s7)) (λ_ _=>False) s6) (λ_ _=>False) s5
section
variable {T:Tb} {X:Cx} {elt tg iter:Expr} {ifs:List Expr} {x:Str} {N ys:List Str} {pos:Pos} {pre:Nat} {scope:Scope} {caps:List Nat} {step:D->Option (Option D)} {cl:List (Str×Addr)} {pins:List (Addr×Obj)} {σ:L2.St} {G H2:Hp} {s2:Shared} {J:It} {fp:List Addr} {it:Addr} {tn:Nat->Heap->Prop} {ρ:Ro} {ds es:List D}
theorem q7Z {RR:Value->Addr->Result->Shared->Prop} {E:Value->Shared->Prop} (hc:X.calm=true) (cp:Cap X scope x ys caps) (h1:∀y c,cl.lookup y=some c->X.env.cells.lookup y=some c) (h2:∀y∈scope.names,y.2=.free->∃c,cl.lookup y.1=some c)
 (hI:∀{C:Addr} {s₀:Shared} {H₀ H:Hp} {s:Shared},Inv (CxC X (x::ys) scope cl C s₀ H₀ fp) [] (none::caps.map λi=>σ.getD i none) H s->∃w0:L2.St,w0.length=pre/\Inv (CxC X N scope cl C s₀ H₀ fp) [] (w0++caps.map λi=>σ.getD i none) H s)
 (body:q8b X T N scope cl fp H2 (caps.map λi=>σ.getD i none) pre tg elt ifs step)
 (hun:∀{C:Addr} {s₀ s':Shared} {H₀ H':Hp} {σ':L2.St},Inv X pins σ H₀ s₀->Inv (CxC X N scope cl C s₀ H₀ fp) [] σ' H' s'->(∀b∈fp,q5d X pins H₀ b)->Inv X pins σ H' s')
 (I2:Inv X pins σ H2 s2) (Tn:Turn X.prog X.w X.K tg J fp it tn) (t0:tn 0 s2.heap) (f2:∀b∈fp,q5d X pins H2 b)
 (fr:Same G H2) (wk:Walk T X.K G J ds H2) (hm:q1p step ds=some es) (hl:ds.length<=1000000)
 (hRR:∀(a C:Addr) (s':Shared) (m':Str->Option Value) (Hn:Hp) (vs:List V),Inv X pins σ Hn s'->q5d X pins Hn C->s'.heap.Ns C m'->Same H2 Hn->H2 a=none->Hn a=some (.lst vs)->RepL T X.K Hn es vs->RR (.ref a) C (.ok .next) s') :
 wpAny (model X.prog X.w) X.A (newList []) (λacc s3=>wpAny (model X.prog X.w) X.A (newFunctionEnv scope X.env.globals cl [] X.env.qual none .none (some X.env)) (λcenv s4=>
  codeAny (model X.prog X.w) X.A (.compStart (.ListComp elt [⟨tg,iter,ifs,0⟩] scope pos) 0 (.ref it) acc { cenv with scope:=relabel scope X.env }) (RR acc cenv.locals) s4) E s3) E s2:=by
 refine wpAny_newList (wpAny_newFunctionEnv cp.nocell (by intro y hy;simp at hy) (λh' hns hsb=>?_) cp.kind)
 have I3:Inv X pins σ (upd H2 s2.heap.objs.size (.lst [])) { s2 with heap:=s2.heap.push { cls:=.type "list",data:=.seq ([]:List Value).toArray } }:=I2.lnew (t':=s2.toks) .nil (Nat.zero_le _)
 have bl:∀b∈fp,b < s2.heap.objs.size:=λb hb=>by
  obtain ⟨o,e,_⟩:=Tn.obj 0 _ t0 b hb
  exact Heap.lt_size e
 have ha0:H2 s2.heap.objs.size=none:=I2.hok.fresh (Nat.le_refl _)
 generalize hA:s2.heap.objs.size=a at *
 have f3:∀b∈fp,q5d X pins (upd H2 a (.lst [])) b:=λb hb=>⟨by rw [q0i (Nat.ne_of_lt (bl b hb))];exact (f2 b hb).1,(f2 b hb).2⟩
 have hs3:(s2.heap.push { cls:=.type "list",data:=.seq ([]:List Value).toArray }).objs.size=a+1:=by rw [Heap.size_push,hA]
 generalize hH:s2.heap.push { cls:=.type "list",data:=.seq ([]:List Value).toArray }=hp3 at *
 have up3:∀b o,s2.heap.get? b=some o->hp3.get? b=some o:=λb o e=>hH ▸ Heap.get?_push_of_some _ e
 have k3:∀b o,hp3.get? b=some o->h'.get? b=some o:=λb o e=>
  hsb.extBut b o (Nat.ne_of_lt (Heap.lt_size e)) (Heap.get?_push_of_some _ e)
 have t1:tn 0 h':=Tn.keep 0 _ _ t0 λb hb o e=>k3 b o (up3 b o e)
 generalize hC:hp3.objs.size=C at *
 have I4:∃w0:L2.St,w0.length=pre/\Inv (CxC X N scope cl C { s2 with heap:=hp3 } (upd H2 a (.lst [])) fp) [] (w0++caps.map λi=>σ.getD i none) (upd H2 a (.lst [])) { s2 with heap:=h',toks:=s2.toks+([]:List (Str×Value)).length }:=by
  have:=j2C (ex:=fp) (tk:=s2.toks+([]:List (Str×Value)).length) (h':=h') I3 cp h1 h2 (λb hb=>⟨f3 b hb,by show b < hp3.objs.size;rw [hC,hs3];exact Nat.lt_succ_of_lt (bl b hb)⟩) (by show h'.Ns hp3.objs.size _;rw [hC];exact hns) k3
  have e:({ s2 with heap:=hp3 }:Shared).heap.objs.size=C:=hC
  rw [e] at this
  exact hI this
 obtain ⟨w0,hw0,I4⟩:=I4
 have sm0:Same H2 (upd H2 a (.lst [])):=λb o e=>by
  have:b≠a:=λz=>by rw [z,ha0] at e;cases e
  rw [q0i this];exact e
 have Icf:q5d X pins (upd H2 a (.lst [])) C:=I3.fpOk (by show hp3.objs.size<=C;rw [hC];exact Nat.le_refl _) I4.free
 have fpc:∀{pn:List (Addr×Obj)} {H:Hp},(∀b∈fp,H b=none)->(∀b∈fp,∀p∈pn,p.1≠b)->∀b∈fp,q5d (CxC X N scope cl C { s2 with heap:=hp3 } (upd H2 a (.lst [])) fp) pn H b:=λhn hp b hb=>
  ⟨hn b hb,(I4.ok.exf b hb).1,I4.ok.exfs b hb,.inl hb,(I4.ok.exf b hb).2,hp b hb⟩
 have loop:∀s':Shared,s'={ s2 with heap:=h',toks:=s2.toks+([]:List (Str×Value)).length } ->
  codeAny (model X.prog X.w) X.A (.compLoop (.ListComp elt [⟨tg,iter,ifs,0⟩] scope pos) 0 (.ref it) (.ref a) (compEnvC scope cl C X.env)) (RR (.ref a) C) s':=by
  rintro s' rfl
  refine q3w (λn s'=>∃(i:Nat) (w:L2.St) (H':Hp) (vs:List V),n=ds.length-i/\i<=ds.length/\w.length=pre/\Inv (CxC X N scope cl C { s2 with heap:=hp3 } (upd H2 a (.lst [])) fp) [] (w++caps.map λi=>σ.getD i none) H' s'/\tn i s'.heap/\(∀b∈fp,H' b=none) /\
   Same H2 H'/\H' a=some (.lst vs)/\∃xs,q1p step (ds.take i)=some xs/\RepL T X.K H' xs vs) ?_ ds.length ⟨0,w0,_,[],rfl,Nat.zero_le _,hw0,I4,t1,λb hb=>(f3 b hb).1,sm0,q0u,[],by rw [List.take_zero];rfl,rfl⟩
  rintro n s' ⟨i,w,H',vs,rfl,hi,hw,I',ti,fn,sm,hv,xs,ex,rp⟩
  obtain ⟨w1,w2⟩:=wk i H' (Pers.of sm) (fr.trans sm)
  by_cases hlt:i < ds.length
  ·obtain ⟨d,e1⟩:∃d,ds[i]?=some d:=⟨ds[i],by simp [hlt]⟩
   obtain ⟨go,yl⟩:=w1 d e1
   have tk1:ds.take (i+1)=ds.take i++[d]:=by
    obtain ⟨q1,q2⟩:=List.getElem?_eq_some_iff.mp e1
    rw [List.take_succ_eq_append_getElem q1,q2]
   obtain ⟨xs',ex'⟩:=q5l (a:=ds.take (i+1)) (b:=ds.drop (i+1)) (by rw [List.take_append_drop];exact hm)
   have stp:=q3Y ex (by rw [<-tk1];exact ex')
   refine wpAny_mono (Tn.item ((CxC X N scope cl C { s2 with heap:=hp3 } (upd H2 a (.lst [])) fp).wish λ_ _=>False) rfl rfl rfl hc i [] s' _ H' (λ_ _=>False) (I'.wish _) (fpc fn λ_ _ p hp=>by cases hp) ti go) (λr s1 h=>?_) λ_ _ z=>z.elim
   obtain ⟨u,rfl,h⟩:=h
   refine wpAny_mono h (λ_ s5 h5=>?_) λ_ _ z=>z.elim
   obtain ⟨y,H5,I5,r5,y5,t5,f5⟩:=h5
   obtain ⟨s5',rd⟩:=yl y H5 y5
   have I5':=I5.pinned (fpc f5 λ_ _ p hp=>by cases hp) (Tn.obj _ _ t5)
   obtain ⟨r,er,rfl⟩:=stp
   have lv:vs.length<=i:=by rw [RepL.length _ _ rp];exact Nat.le_trans (q4T ex) (by rw [List.length_take];exact Nat.min_le_left _ _)
   refine wpAny_mono (body C { s2 with heap:=hp3 } (upd H2 a (.lst [])) _ w H5 s5 y u d r hw I5' r5 rd (sm.trans s5') er) (λ_ s6 h6=>wpAny_mono h6 (λok s7 h7=>?_) λ_ _ z=>z.elim) λ_ _ z=>z.elim
   obtain ⟨w',H7,hw',I7,sm7,h7⟩:=h7
   cases r with
   | none=>
    obtain rfl:ok=false:=h7
    show ∃m,m < ds.length-i/\_
    refine ⟨ds.length-(i+1),by omega,i+1,w',H7,vs,rfl,hlt,hw',I7.unwish.unpinned,?_,λb hb=>?_,λb o q=>sm7 _ _ (s5' _ _ (sm _ _ q)),sm7 _ _ (s5' _ _ hv),_,ex',by rw [Option.toList_none,List.append_nil];exact RepL.mono sm7 _ _ (RepL.mono s5' _ _ rp)⟩
    ·exact Tn.keep _ _ _ t5 λb hb o q=>(I7.pin (b,o) (List.mem_append_right _ (List.mem_append_right _ (q1J hb q)))).1
    ·obtain ⟨o,q,d'⟩:=Tn.obj _ _ t5 b hb
     exact (I7.pin (b,o) (List.mem_append_right _ (List.mem_append_right _ (q1J hb q)))).2.1
   | some e=>
    obtain ⟨rfl,h7⟩:ok=true/\_:=h7
    show wpAny (model X.prog X.w) X.A (eval elt (compEnvC scope cl C X.env)) _ _ s7
    refine wpAny_mono h7 (λu7 s8 h8=>?_) λ_ _ z=>z.elim
    obtain ⟨v7,H8,I8,r7,sm8,rp7⟩:=h8
    have hv7:H8 a=some (.lst vs):=sm8 _ _ (sm7 _ _ (s5' _ _ hv))
    refine wpAny_mono (q3g (X:=(CxC X N scope cl C { s2 with heap:=hp3 } (upd H2 a (.lst [])) fp).wish λ_ _=>False) _ s8 _ H8 (.ref a) [v7] (.ref a) [u7] (λ_ H9=>H9=upd H8 a (.lst (vs++[v7]))) I8 rfl (.cons r7 .nil) ⟨a,vs,v7,rfl,rfl,hv7,Nat.lt_of_le_of_lt lv (Nat.lt_of_lt_of_le hlt (Nat.le_trans hl (by unfold sizeLine;decide))),rfl⟩) (λ_ s9 h9=>?_) λ_ _ z=>z.elim
    obtain ⟨_,H9,I9,_,rfl⟩:=h9
    have p8:Pers T false H8 (upd H8 a (.lst (vs++[v7]))):=q2a hv7
    refine ⟨ds.length-(i+1),by omega,i+1,w',_,vs++[v7],rfl,hlt,hw',I9.unwish.unpinned,?_,λb hb=>?_,λb o q=>?_,q0u,xs++[e],ex',?_⟩
    ·exact Tn.keep _ _ _ t5 λb hb o q=>(I9.pin (b,o) (List.mem_append_right _ (List.mem_append_right _ (q1J hb q)))).1
    ·obtain ⟨o,q,d'⟩:=Tn.obj _ _ t5 b hb
     exact (I9.pin (b,o) (List.mem_append_right _ (List.mem_append_right _ (q1J hb q)))).2.1
    ·have:b≠a:=λz=>by rw [z,ha0] at q;cases q
     rw [q0i this]
     exact sm8 _ _ (sm7 _ _ (s5' _ _ (sm _ _ q)))
    ·exact RepL.append _ _ _ _ (RepL.pers p8 _ _ (RepL.mono sm8 _ _ (RepL.mono sm7 _ _ (RepL.mono s5' _ _ rp)))) ⟨v7,[],rfl,Rep.pers p8 _ _ rp7,rfl⟩
  ·have e:i=ds.length:=by omega
   refine wpAny_mono (Tn.done ((CxC X N scope cl C { s2 with heap:=hp3 } (upd H2 a (.lst [])) fp).wish λ_ _=>False) rfl rfl rfl hc i [] s' _ H' (λ_ _=>False) (I'.wish _) (fpc fn λ_ _ p hp=>by cases hp) ti (w2 (by omega))) (λr s1 h=>?_) λ_ _ z=>z.elim
   obtain ⟨rfl,I1⟩:=h
   have I1:=I1.unwish
   obtain ⟨m',hn,_⟩:=I1.loc
   refine hRR a C s1 m' H' vs (hun I3 I1 f3) ⟨I1.free,Icf.2⟩ hn sm ha0 hv ?_
   have:ds.take i=ds:=by rw [List.take_of_length_le (by omega)]
   rw [this,hm] at ex
   cases ex
   exact rp
 exact codeAny_compStart_list (loop _ rfl) (Tn.self _ 0 _ _ _ t1 (loop _ rfl))
end
@[simp] noncomputable def q8n:Out D->Option (Option D)
 | .ok e=>some (some e)
 | _=>none
@[simp] noncomputable def j6n (ft:Ro->Out Bool) (fe:Ev) (ρ:Ro):Option (Option D):=match ft ρ with
 | .ok true=>q8n (fe ρ)
 | .ok false=>some none
 | _=>none
theorem q45 (f:D->Out D):∀ds:List D,q6y f ds=q1p (λd=>q8n (f d)) ds
 | []=>rfl
 | d::ds=>by
  rw [q6y,q1p,q45 f ds]
  cases f d with
  | ok e=>show _=(match q1p (λd=>q8n (f d)) ds with | some es=>some ([e]++es) | none=>none);cases q1p (λd=>q8n (f d)) ds<;>rfl
  | exc c=>rfl
  | bad=>rfl
noncomputable def j4Q (t:D->Out Bool) (f:D->Out D) (d:D):Option (Option D):=match t d with
 | .ok true=>q8n (f d)
 | .ok false=>some none
 | _=>none
theorem q4O (t:D->Out Bool) (f:D->Out D):∀ds:List D,j55 t f ds=q1p (j4Q t f) ds
 | []=>rfl
 | d::ds=>by
  rw [j55,q1p,q4O t f ds]
  generalize q1p (j4Q t f) ds=z
  unfold j4Q
  cases t d with
  | ok b=>
   cases b with
   | false=>cases z<;>rfl
   | true=>
    cases f d with
    | ok e=>cases z<;>rfl
    | exc c=>rfl
    | bad=>rfl
  | exc c=>rfl
  | bad=>rfl
section
variable {T T0:Tb} {X:Cx} {elt iter tst:Expr} {ifs:List Expr} {x x2:Str} {px px2 pos pt:Pos} {kk:Nat} {N ys:List Str} {pre:Nat} {scope:Scope} {caps:List Nat} {stp:Ro->Option (Option D)} {cl:List (Str×Addr)} {σ:L2.St} {G H2:Hp} {fp:List Addr} {ρ:Ro} {cs:L2.St} {fe:Ev} {ft:Ro->Out Bool}
noncomputable def Tail (X:Cx) (T T0:Tb) (N:List Str) (scope:Scope) (cl:List (Str×Addr)) (fp:List Addr) (elt:Expr) (ifs:List Expr) (stp:Ro->Option (Option D)):Prop:=
 ∀(C:Addr) (s₀:Shared) (H₀:Hp) (pn:List (Addr×Obj)) (w:L2.St) (H6:Hp) (s6:Shared) (ρ6:Ro) (r:Option D),Inv ((CxC X N scope cl C s₀ H₀ fp).wish λ_ _=>False) pn w H6 s6->FR T0 X.K (λ_=>none) H6 w ρ6->stp ρ6=some r ->
  wpAny (model X.prog X.w) X.A (forIn ifs true λc r=>if r=true then do let ok <-isTrue c (compEnvC scope cl C X.env) (eval c (compEnvC scope cl C X.env));pure (ForInStep.yield ok) else pure (ForInStep.yield r)) (λok s7=>
   ∃(H7:Hp),Inv ((CxC X N scope cl C s₀ H₀ fp).wish λ_ _=>False) pn w H7 s7/\Same H6 H7/\(match r with
    | none=>ok=false
    | some e=>ok=true/\wpAny (model X.prog X.w) X.A (eval elt (compEnvC scope cl C X.env)) (λu7 s8=>∃v7 H8,Inv ((CxC X N scope cl C s₀ H₀ fp).wish λ_ _=>False) pn w H8 s8/\RelV v7 u7/\Same H7 H8/\Rep T X.K H8 e v7) (λ_ _=>False) s7)) (λ_ _=>False) s6
theorem q8r (hT:T0={ T with me:=none }) (he:∀(cl:List (Str×Addr)) (C:Addr) (s₀:Shared) (H₀:Hp) (ex:List Addr),DE T0 (CxC X N scope cl C s₀ H₀ ex) elt fe) {C:Addr} {s₀:Shared} {H₀ H6:Hp} {pn:List (Addr×Obj)} {w:L2.St} {s6:Shared} {ρ6:Ro} {e:D}
 (I6:Inv ((CxC X N scope cl C s₀ H₀ fp).wish λ_ _=>False) pn w H6 s6) (fr6:FR T0 X.K (λ_=>none) H6 w ρ6) (ef:fe ρ6=.ok e) :
 wpAny (model X.prog X.w) X.A (eval elt (compEnvC scope cl C X.env)) (λu7 s8=>∃v7 H8,Inv ((CxC X N scope cl C s₀ H₀ fp).wish λ_ _=>False) pn w H8 s8/\RelV v7 u7/\Same H6 H8/\Rep T X.K H8 e v7) (λ_ _=>False) s6:=by
 refine wpAny_mono ((he cl C s₀ H₀ fp).run (λ_=>none) (λ_ _=>False) PassesOwn.never pn s6 w H6 (λv H7=>Same H6 H7/\Rep T0 X.K H7 e v) I6 ⟨ρ6,fr6,by rw [ef];exact λv H7 s7 r7=>⟨s7,r7⟩⟩) (λu7 s7 h7=>?_) λ_ _ z=>z.elim
 obtain ⟨v7,H7,I7,r7,sm7,rp7⟩:=h7
 exact ⟨v7,H7,I7,r7,sm7,by subst hT;exact (q21 _ _).mp rp7⟩
theorem tail0 (hT:T0={ T with me:=none }) (he:∀(cl:List (Str×Addr)) (C:Addr) (s₀:Shared) (H₀:Hp) (ex:List Addr),DE T0 (CxC X N scope cl C s₀ H₀ ex) elt fe):Tail X T T0 N scope cl fp elt [] fun ρ6=>q8n (fe ρ6):=λC s₀ H₀ pn w H6 s6 ρ6 r I6 fr6 er=>by
 have er:q8n (fe ρ6)=some r:=er
 cases ef:fe ρ6 with
 | ok e=>
  rw [ef] at er;cases er
  exact wpAny_pure ⟨H6,I6,Same.refl H6,rfl,q8r hT he I6 fr6 ef⟩
 | exc c=>rw [ef] at er;cases er
 | bad=>rw [ef] at er;cases er
theorem tail1 (hT:T0={ T with me:=none }) (he:∀(cl:List (Str×Addr)) (C:Addr) (s₀:Shared) (H₀:Hp) (ex:List Addr),DE T0 (CxC X N scope cl C s₀ H₀ ex) elt fe)
 (ht:∀(cl:List (Str×Addr)) (C:Addr) (s₀:Shared) (H₀:Hp) (ex:List Addr),DT T0 (CxC X N scope cl C s₀ H₀ ex) tst ft):Tail X T T0 N scope cl fp elt [tst] (j6n ft fe):=λC s₀ H₀ pn w H6 s6 ρ6 r I6 fr6 er=>by
 have tst1:∀k,ft ρ6=.ok k->wpAny (model X.prog X.w) X.A (isTrue tst (compEnvC scope cl C X.env) (eval tst (compEnvC scope cl C X.env))) (λb s7=>b=k/\∃H7,Inv ((CxC X N scope cl C s₀ H₀ fp).wish λ_ _=>False) pn w H7 s7/\Same H6 H7) (λ_ _=>False) s6:=λk hk=>by
  refine wpAny_mono ((ht cl C s₀ H₀ fp).run (λ_=>none) (λ_ _=>False) PassesOwn.never pn s6 w H6 (λb H7=>b=k/\Same H6 H7) I6 ⟨ρ6,fr6,by rw [hk];exact λH7 s7=>⟨rfl,s7⟩⟩) (λb s7 h7=>?_) λ_ _ z=>z
  obtain ⟨H7,I7,q1,q2⟩:=h7
  exact ⟨q1,H7,I7,q2⟩
 unfold j6n at er
 cases et:ft ρ6 with
 | ok k=>
  rw [et] at er
  refine wpAny_bind (wpAny_bind (wpAny_mono (tst1 k et) (λb s7 h7=>?_) λ_ _ z=>z))
  obtain ⟨rfl,H7,I7,sm⟩:=h7
  refine wpAny_pure (wpAny_pure ?_)
  cases b with
  | false=>cases er;exact ⟨H7,I7,sm,rfl⟩
  | true=>
   cases ef:fe ρ6 with
   | ok e=>
    simp only [ef,q8n] at er
    cases er
    exact ⟨H7,I7,sm,rfl,q8r hT he I7 (fr6.mono sm) ef⟩
   | exc c=>simp only [ef,q8n] at er;cases er
   | bad=>simp only [ef,q8n] at er;cases er
 | exc c=>rw [et] at er;cases er
 | bad=>rw [et] at er;cases er
theorem head1 (hT:T0={ T with me:=none }) (cp:Cap X scope x ys caps) (fr:FR T X.K G H2 σ ρ) (tl:Tail X T T0 (x::ys) scope cl fp elt ifs stp):q8b X T (x::ys) scope cl fp H2 (caps.map λi=>σ.getD i none) 1 (.Name x px) elt ifs (λd=>stp (q03 caps ρ d)):=λC s₀ H₀ pn w H5 s5 y u d r hw I5 r5 rd sm er=>by
 obtain ⟨w0,rfl⟩:=List.length_eq_one_iff.mp hw
 have own:(CxC X (x::ys) scope cl C s₀ H₀ fp).env.scope.names.lookup x=some .local:=lookup_relabel_local cp.own
 refine wpAny_mono (q4l (X:=(CxC X (x::ys) scope cl C s₀ H₀ fp).wish λ_ _=>False) (i:=0) cp.nodup rfl (.inl own) (.inr own) pn s5 _ H5 y u (fun σ' H''=>σ'=some y::caps.map (λi=>σ.getD i none)/\H''=H5) I5 r5 ⟨rfl,rfl⟩) (λ_ s6 h6=>?_) λ_ _ z=>z.elim
 obtain ⟨σ6,H6,I6,rfl,rfl⟩:=h6
 refine wpAny_mono (tl C s₀ H₀ pn _ H6 s6 (q03 caps ρ d) r I6 (j5v (w:=w0) hT fr (Pers.of sm) rd) er) (λok s7 h7=>?_) λ_ _ z=>z
 obtain ⟨H7,I7,sm7,h7⟩:=h7
 exact ⟨[some y],H7,rfl,I7,sm7,h7⟩
end
structure DC (T:Tb) (X:Cx) (e:Expr) (scope:Scope) (gs:List Comprehension) (pos:Pos) (f:Ro->Out (List D)):Prop where
 mk ::
 run:∀(G:Hp) (E:Value->Shared->Prop),PassesOwn (model X.prog X.w) X.A X.env E->CompOk (X.wish E) (.ListComp e gs scope pos) scope (firstIterPos gs pos) (firstIter gs X.env) (tF T X G E f)
noncomputable def q42 (fl:Ro->Out (List D)) (step:Ro->D->Option (Option D)) (ρ:Ro):Out (List D):=(fl ρ).bind λds=>if ds.length<=1000000 then (match q1p (step ρ) ds with | some es=>.ok es | none=>.bad) else .bad
section
variable {T T0:Tb} {X:Cx} {elt tg iter tst:Expr} {ifs:List Expr} {x x2 y:Str} {px px2 pos pt py spos:Pos} {kk:Nat} {N ys zs:List Str} {pre:Nat} {scope:Scope} {caps:List Nat} {fe:Ev} {ft:Ro->Out Bool} {fl f:Ro->Out (List D)} {step:Ro->D->Option (Option D)} {gs:List Comprehension}
theorem w2A (hc:X.calm=true) (hi:DI T X tg iter fl) (cp:Cap X scope x ys caps)
 (hI:∀{cl:List (Str×Addr)} {fp:List Addr} {cs:L2.St} {C:Addr} {s₀:Shared} {H₀ H:Hp} {s:Shared},Inv (CxC X (x::ys) scope cl C s₀ H₀ fp) [] (none::cs) H s->∃w0:L2.St,w0.length=pre/\Inv (CxC X (x::zs) scope cl C s₀ H₀ fp) [] (w0++cs) H s)
 (body:∀{cl:List (Str×Addr)} {fp:List Addr} {G H2:Hp} {σ:L2.St} {ρ:Ro},FR T X.K G H2 σ ρ->q8b X T (x::zs) scope cl fp H2 (caps.map λi=>σ.getD i none) pre tg elt ifs (step ρ))
 (hs:∀x,foldedSetIterable iter X.env x=pure x):DC T X elt scope [⟨tg,iter,ifs,0⟩] pos (q42 fl step):=.mk λG E hp=>by
 rintro pins s σ H Q use QQ I ⟨ρ,fr,h⟩ k
 obtain ⟨cl,hclos,h1,h2⟩:=q7H X.env scope λy hy hf=>I.ok.has y.1 (cp.free y hy hf)
 refine wpAny_comprehension_free rfl hs hclos cp.kind cp.names ?_
 refine wpAny_mono (hi.run G E hp pins s σ H (λJ H'=>∃ds es,Same H H'/\Walk T X.K G J ds H'/\q1p (step ρ) ds=some es/\ds.length<=1000000/\∀a vs H'',Same H H''->H a=none->H'' a=some (.lst vs)->RepL T X.K H'' es vs->Q (.ref a) H'') I
  ⟨ρ,fr,Acc.mono (Acc.bind h) λds _ hd J H1 s1 wk=>?_⟩) (λv s1 h1'=>wpAny_mono h1' (λitv s2 h2'=>?_) λ_ _ z=>z) λ_ _ z=>z
 ·by_cases hl:ds.length<=1000000
  ·rw [if_pos hl] at hd
   cases hm:q1p (step ρ) ds with
   | none=>rw [hm] at hd;exact hd.elim
   | some es=>
    rw [hm] at hd
    exact ⟨ds,es,s1,wk,hm,hl,hd⟩
  ·rw [if_neg hl] at hd;exact hd.elim
 ·obtain ⟨it,fp,tn,J,H2,rfl,I2,Tn,t0,f2,ds,es,sm,wk,hm,hl,kq⟩:=h2'
  refine q7Z (X:=X) (E:=E) (G:=G) (RR:=λacc C=>compPost (model X.prog X.w) X.A E use QQ acc C) hc cp h1 h2 hI (body (fr.mono sm)) (λa b c=>q7x a b c) I2.unwish Tn t0 f2 (fr.same.trans sm) wk hm hl ?_
  intro a C s' m' Hn vs I' f hn smn ha hv rp
  exact k a C s' m' Hn (I'.wish E) f hn (kq a vs Hn (sm.trans smn) (sm.free ha) hv rp)
theorem w1j (fl:Ro->Out (List D)) (caps:List Nat) (fe:Ev):q00 fl caps fe=q42 fl fun ρ d=>q8n (fe (q03 caps ρ d)):=by
 funext ρ
 unfold q00 q42
 simp only [q45]<;>rfl
theorem j7c (fl:Ro->Out (List D)) (caps:List Nat) (ft:Ro->Out Bool) (fe:Ev):q1i fl caps ft fe=q42 fl fun ρ d=>j6n ft fe (q03 caps ρ d):=by
 funext ρ
 unfold q1i q42
 simp only [q4O]<;>rfl
theorem q1h (hT:T0={ T with me:=none }) (hc:X.calm=true) (hi:DI T X (.Name x px) iter fl) (cp:Cap X scope x ys caps)
 (he:∀(cl:List (Str×Addr)) (C:Addr) (s₀:Shared) (H₀:Hp) (ex:List Addr),DE T0 (CxC X (x::ys) scope cl C s₀ H₀ ex) elt fe) (hs:∀x,foldedSetIterable iter X.env x=pure x:=by intro _;rfl):DC T X elt scope [⟨.Name x px,iter,[],0⟩] pos (q00 fl caps fe):=by
 rw [w1j]
 exact w2A hc hi cp (λI=>⟨[none],rfl,I⟩) (λfr=>head1 hT cp fr (tail0 hT he)) hs
theorem q2b (hT:T0={ T with me:=none }) (hc:X.calm=true) (hi:DI T X (.Name x px) iter fl) (cp:Cap X scope x ys caps)
 (he:∀(cl:List (Str×Addr)) (C:Addr) (s₀:Shared) (H₀:Hp) (ex:List Addr),DE T0 (CxC X (x::ys) scope cl C s₀ H₀ ex) elt fe) (ht:∀(cl:List (Str×Addr)) (C:Addr) (s₀:Shared) (H₀:Hp) (ex:List Addr),DT T0 (CxC X (x::ys) scope cl C s₀ H₀ ex) tst ft)
 (hs:∀x,foldedSetIterable iter X.env x=pure x:=by intro _;rfl):DC T X elt scope [⟨.Name x px,iter,[tst],0⟩] pos (q1i fl caps ft fe):=by
 rw [j7c]
 exact w2A hc hi cp (λI=>⟨[none],rfl,I⟩) (λfr=>head1 hT cp fr (tail1 hT he ht)) hs
theorem DC.df (h:DC T X elt scope gs pos f) (ha:firstAsync gs=false:=by rfl):DF T X (.ListComp elt gs scope pos) f:=.mk λG E hp=>CompOk.pe (X:=X.wish E) (h.run G E hp) ha
variable {ib:Bool}
theorem DC.set (i:Nat) (hN:X.N.Nodup) (h:DC T X elt scope gs pos f) (hiN:X.N[i]?=some y:=by rfl) (hy:Loc X.env.scope y:=by walk_at "v3")
 (hf:X.fn y=true∨X.env.scope.names.lookup y=some .local:=by walk_at "v2")
 (hz:T.me=none∨i≠0:=by walk_at "v1")
 (hsw:swapsWith (.ListComp elt gs scope pos) (some (.Name y py)) spos.line X.env=pure true:=by rfl) (ha:firstAsync gs=false:=by rfl) :
 DS T ib X (.Assign [.Name y py] (.ListComp elt gs scope pos) spos) (q1V i (fun ρ=>(f ρ).bind λds=>.ok (.fr ds))):=.mk λG E hp=>
 PS.imp (CompOk.ps (X:=X.wish E) (i:=i) (h.run G E hp) hN hiN hy hf hsw ha) λD σ H ⟨ρ,fr,h⟩=>⟨ρ,fr,Acc.mono (Acc.bind (AccS.fl fr h)) λds _ hd a vs H1 s1 ha ha' r=>
  hd _ _ ((fr.mono s1).set_ow ha' (fr.same.free ha) r (λj es _ e=>q4b (H1:=H1) fr s1 ha j es e) hz) (Pers.of s1)⟩
theorem DC.setF (i:Nat) (hN:X.N.Nodup) (h:DC T X elt scope gs pos f) (hiN:X.N[i]?=some y:=by rfl) (hy:Loc X.env.scope y:=by walk_at "v3")
 (hf:X.fn y=true∨X.env.scope.names.lookup y=some .local:=by walk_at "v2")
 (hz:T.me=none∨i≠0:=by walk_at "v1")
 (hsw:swapsWith (.ListComp elt gs scope pos) (some (.Name y py)) spos.line X.env=pure true:=by rfl) (ha:firstAsync gs=false:=by rfl) :
 DS T ib X (.Assign [.Name y py] (.ListComp elt gs scope pos) spos) (q08 i (q1I f)):=.mk λG E hp=>
 PS.imp (CompOk.ps (X:=X.wish E) (i:=i) (CompOk.freeze (h.run G E hp)) hN hiN hy hf hsw ha) λD σ H ⟨ρ,fr,h⟩=>⟨ρ,fr,Acc.mono (Acc.bind (AccS.fl fr h)) λds _ hd a vs H1 s1 ha ha' r=>⟨a,vs,rfl,ha',λo=>by
  have s2:Same H (upd H1 a (.frz o (.lst vs))):=λb u e=>by
   rw [q0i (λz=>by rw [z,ha] at e;cases e)];exact s1 b u e
  exact hd _ _ ((fr.mono s2).set_sh ⟨a,vs,rfl,.inl ⟨o,q0u⟩,RepL.froz ha' _ _ r⟩ hz) (Pers.of s2)⟩⟩
end
structure Cal (K:PySem.W.Frag) (mg:Str->Option Value) (f:Addr) (fd:FuncData) (x:Str) (ps:List Str):Prop where
 m:mg x=some (.ref f)
 k:PySem.W.keepIn K (.ref f)=true
 b:Binds K fd ps []
theorem q0g {T:Tb} {X:Cx} {e:Expr} {es:List Expr} {pos p:Pos} {fs:Ro->Out (List Sl)} {k n:Nat} {f:Addr} {fd:FuncData} {ps:List Str} {F:Fn} {x:Str} (FO:q1j X.prog X.w X.K X.mg X.base (CXE T X.prog X.w) k f fd ps (spD T X.K ps.length F)) (hr:Room k X.A) (c:Cal X.K X.mg f fd x ps) (ha:DG T X (e::es) fs)
 (hg:Gl X x:=by rfl) (hn:n=ps.length:=by rfl) (hdb:(x==("__debug__" : Str))=false:=by decide) (he:starEach (e::es) X.env=(false,eval e X.env)::starEach es X.env:=by exact q0D rfl) (hpl:(backTo pos (starEach es X.env)).any (·.1)=false:=by exact q0J rfl) :
 DR T X (.Call (.Name x p) (e::es) [] pos) (q0r (n:=n) F [] fs):=j5s FO hr hg c.m c.k c.b .nil (λ_=>rfl) hn ha hdb he hpl
section
variable {P:Program} {w:World} {K:PySem.W.Frag} {mg:Str->Option Value} {base:Heap} {T:Tb}
end
section
variable {T:Tb} {X:Cx} {K:PySem.W.Frag} {G H:Hp} {σ:L2.St} {ρ:Ro} {y:Addr}
end
section
variable {T:Tb} {X:Cx} {e:Expr} {pos pos':Pos} {x:Str} {k:Ro->Fl} {rest:List Stmt}
end
end L3
namespace L3
open PySem L2
theorem j7a {l:PySem.W.OpenLaw} {k:Nat} {q:Program} {loose:List Str} {XP:(Str->Option Value)->Heap->Prop} {YP:World->Heap->Prop} {d:DefRec} {x:Str} {F:Fn}
 (hn:l.most=some 63) (hdf:d.params.defaults=[]) (hr:Room k callerA)
 (FF:∀(w:World) (mg:Str->Option Value) (fa:Addr) (h:Heap),YP w h->h.Ns mainGlobals mg->mg d.name=some (.ref fa) ->
  ∃K:PySem.W.Frag,K.In h/\∃fd:FuncData,(∀(s:Shared) (u:Value),BindsTo s fd ⟨[u],[]⟩ [(x,u)])/\∃T:Tb,∀base:Heap,K.In base->base.Ns mainGlobals mg->q1j l.prog w K mg base (CXE T l.prog w) k fa fd [x] (spD T K 1 F))
 (hL:∀ns:List Int,ns.length<=63->F [.sh (.lst (ns.map D.int))]=.ok (.sh (.bl true))) :
 PySem.W.WalkO q loose XP YP l.row.toRowW d [] (λf vs=>PySem.call f vs):=by
 refine Att.attach_call hn hdf λw s₀ s₁ mg mb fa o pm cd doc a vs ns G Y ho hd hcd hmg hobj hints hlen hg=>?_
 obtain ⟨K,KX,fd,hb,T,hF⟩:=FF w mg fa _ Y G.T.g hmg
 refine j1H KX G.T.g G.T.b G.T.builtins G.T.nolimit hg hobj hints (Nat.le_trans hlen (by rw [sizeLine_eq];decide)) hr hF hb (λH hO hS=>?_) λH e s' h=>?_
 ·refine ⟨[.sh (.lst (ns.map D.int))],⟨_,[],rfl,⟨a,ns.map V.int,rfl,?_,RepL.ints ns⟩,rfl⟩,rfl,?_⟩
  ·rcases hS with (h | ⟨ob,h⟩) | h
   ·rcases hO a with z | ⟨_,_,z⟩
    ·rw [h] at z;cases z
    ·rw [h] at z;cases z
   ·exact .inl ⟨ob,h⟩
   ·exact .inr h
  ·rw [hL ns hlen]
   exact λv H' _ r=>r
 ·obtain ⟨_,_,_,_,_,_,_,_,_,z⟩:=h
  exact z
end L3
namespace Lw
open PySem L2 L3
structure Tx (K:PySem.W.Frag) (mg:Str->Option Value) (fa:Nat->Addr) (fd:Nat->FuncData) (T:Tb):Prop where
 me:T.me=none
 F1:L2.Fun K "check_name" "check_name" s_1 (fa 1) (fd 1)
 c1:Cal K mg (fa 1) (fd 1) "check_name" ["name"]
 F2:L2.Fun K "check_number" "check_number" s_2 (fa 2) (fd 2)
 c2:Cal K mg (fa 2) (fd 2) "check_number" ["number","lowest","highest"]
 F3:L2.Fun K "check_count" "check_count" s_3 (fa 3) (fd 3)
 c3:Cal K mg (fa 3) (fd 3) "check_count" ["count","lowest","highest"]
 F4:L2.Fun K "__init__" "Order.__init__" s_4 (fa 4) (fd 4)
 b4:Binds K (fd 4) ["self","bread","loaves","due"] []
 F5:L2.Fun K "__init__" "Batch.__init__" s_5 (fa 5) (fd 5)
 b5:Binds K (fd 5) ["self","order","first","loaves"] []
 F6:L2.Fun K "greatest" "greatest" s_6 (fa 6) (fd 6)
 c6:Cal K mg (fa 6) (fd 6) "greatest" ["bakery"]
 F7:L2.Fun K "check_due" "check_due" s_7 (fa 7) (fd 7)
 c7:Cal K mg (fa 7) (fd 7) "check_due" ["due","night"]
 F8:L2.Fun K "accept" "accept" s_8 (fa 8) (fd 8)
 c8:Cal K mg (fa 8) (fd 8) "accept" ["bakery","orders"]
 F9:L2.Fun K "batches_of" "batches_of" s_9 (fa 9) (fd 9)
 c9:Cal K mg (fa 9) (fd 9) "batches_of" ["orders","most"]
 F10:L2.Fun K "cut" "cut" j9p (fa 10) (fd 10)
 c10:Cal K mg (fa 10) (fd 10) "cut" ["bakery","orders"]
 F11:w07 K "__init__" "Run.__init__" j9x (fa 11) (fd 11)
 b11:Binds K (fd 11) ["self","begin","lengths","oven"] []
 F13:L2.Fun K "spans" "Run.spans" j9W (fa 13) (fd 13)
 b13:Binds K (fd 13) ["self"] []
 mt13:Meth K (T.ca 12) "spans" (fa 13)
 F14:L2.Fun K "__init__" "Part.__init__" j9A (fa 14) (fd 14)
 b14:Binds K (fd 14) ["self","batch","stage","begin","until","loaves","oven"] []
 F15:L2.Fun K "check_run" "check_run" j9V (fa 15) (fd 15)
 c15:Cal K mg (fa 15) (fd 15) "check_run" ["bakery","bread","run"]
 F16:L2.Fun K "fitted" "fitted" j9g (fa 16) (fd 16)
 c16:Cal K mg (fa 16) (fd 16) "fitted" ["bakery","orders","plan"]
 F17:L2.Fun K "bread_in" "bread_in" w0f (fa 17) (fd 17)
 c17:Cal K mg (fa 17) (fd 17) "bread_in" ["bakery","orders","batch"]
 F18:L2.Fun K "parts_of" "parts_of" j9X (fa 18) (fd 18)
 c18:Cal K mg (fa 18) (fd 18) "parts_of" ["bakery","orders","plan"]
 F19:L2.Fun K "lasting" "lasting" j9o (fa 19) (fd 19)
 c19:Cal K mg (fa 19) (fd 19) "lasting" ["parts","minute"]
 F20:L2.Fun K "count_of" "count_of" j9n (fa 20) (fd 20)
 c20:Cal K mg (fa 20) (fd 20) "count_of" ["parts","want"]
 F21:L2.Fun K "loaves_in" "loaves_in" j9l (fa 21) (fd 21)
 c21:Cal K mg (fa 21) (fd 21) "loaves_in" ["parts","oven"]
 F22:L2.Fun K "held" "held" j90 (fa 22) (fd 22)
 c22:Cal K mg (fa 22) (fd 22) "held" ["bakery","orders","plan","minute"]
 F23:L2.Fun K "__init__" "Bakery.__init__" j9k (fa 23) (fd 23)
 b23:Binds K (fd 23) ["self","night","hands","benches","ovens","breads"] []
 F24:L2.Fun K "bread_of" "Bakery.bread_of" j9y (fa 24) (fd 24)
 b24:Binds K (fd 24) ["self","name"] []
 mt24:Meth K (T.ca 14) "bread_of" (fa 24)
 F25:L2.Fun K "check_names_apart" "check_names_apart" j9m (fa 25) (fd 25)
 c25:Cal K mg (fa 25) (fd 25) "check_names_apart" ["names"]
 F26:w07 K "__init__" "Stage.__init__" j9N (fa 26) (fd 26)
 b26:Binds K (fd 26) ["self","name","least","most","want","heat"] []
 F27:L2.Fun K "__init__" "Bread.__init__" w0a (fa 27) (fd 27)
 b27:Binds K (fd 27) ["self","name","stages"] []
 F30:L2.Fun K "bakes" "Bread.bakes" j93 (fa 30) (fd 30)
 b30:Binds K (fd 30) ["self"] []
 mt30:Meth K (T.ca 16) "bakes" (fa 30)
 F31:L2.Fun K "__init__" "Oven.__init__" j9q (fa 31) (fd 31)
 b31:Binds K (fd 31) ["self","room","rate","heat"] []
 F32:L2.Fun K "_law_pick" "_law_pick" j9j (fa 32) (fd 32)
 c32:Cal K mg (fa 32) (fd 32) "_law_pick" ["_law_script","_law_k"]
 F33:L2.Fun K "_law_is" "_law_is" j9L (fa 33) (fd 33)
 c33:Cal K mg (fa 33) (fd 33) "_law_is" ["_law_found","_law_due"]
 F34:L2.Fun K "_law_row" "_law_row" j9c (fa 34) (fd 34)
 c34:Cal K mg (fa 34) (fd 34) "_law_row" ["_law_found","_law_due"]
 F35:L2.Fun K "_law_names" "_law_names" j9d (fa 35) (fd 35)
 c35:Cal K mg (fa 35) (fd 35) "_law_names" ["_law_cell","_law_many"]
 F36:L2.Fun K "_law_wide_kilns" "_law_wide_kilns" j98 (fa 36) (fd 36)
 c36:Cal K mg (fa 36) (fd 36) "_law_wide_kilns" ["_law_script"]
 F37:L2.Fun K "_law_wide_kinds" "_law_wide_kinds" j9T (fa 37) (fd 37)
 c37:Cal K mg (fa 37) (fd 37) "_law_wide_kinds" ["_law_script"]
 F38:L2.Fun K "_law_wide_scene" "_law_wide_scene" j9J (fa 38) (fd 38)
 c38:Cal K mg (fa 38) (fd 38) "_law_wide_scene" ["_law_script"]
 F39:L2.Fun K "_law_oven_of" "_law_oven_of" j91 (fa 39) (fd 39)
 c39:Cal K mg (fa 39) (fd 39) "_law_oven_of" ["_law_script","_law_scene","_law_batch","_law_k"]
 F40:L2.Fun K "_law_wide_run" "_law_wide_run" j9H (fa 40) (fd 40)
 c40:Cal K mg (fa 40) (fd 40) "_law_wide_run" ["_law_script","_law_scene","_law_batch","_law_k","_law_begin"]
 F41:L2.Fun K "_law_wide_plan" "_law_wide_plan" j9S (fa 41) (fd 41)
 c41:Cal K mg (fa 41) (fd 41) "_law_wide_plan" ["_law_script","_law_scene","_law_batches_here"]
 F42:L2.Fun K "_law_batches" "_law_batches" j9E (fa 42) (fd 42)
 c42:Cal K mg (fa 42) (fd 42) "_law_batches" ["_law_scene"]
 F43:L2.Fun K "_law_bakery" "_law_bakery" w0m (fa 43) (fd 43)
 c43:Cal K mg (fa 43) (fd 43) "_law_bakery" ["_law_scene","_law_names_here"]
 F44:L2.Fun K "_law_orders" "_law_orders" j9P (fa 44) (fd 44)
 c44:Cal K mg (fa 44) (fd 44) "_law_orders" ["_law_asked","_law_names_here"]
 F45:L2.Fun K "_law_runs" "_law_runs" j94 (fa 45) (fd 45)
 c45:Cal K mg (fa 45) (fd 45) "_law_runs" ["_law_rows"]
 F46:L2.Fun K "_law_runs_stayed" "_law_runs_stayed" w0d (fa 46) (fd 46)
 c46:Cal K mg (fa 46) (fd 46) "_law_runs_stayed" ["_law_plan","_law_rows"]
 F47:L2.Fun K "_law_spans" "_law_spans" j9h (fa 47) (fd 47)
 c47:Cal K mg (fa 47) (fd 47) "_law_spans" ["_law_scene","_law_batch","_law_way"]
 F48:L2.Fun K "_law_all_spans" "_law_all_spans" j9U (fa 48) (fd 48)
 c48:Cal K mg (fa 48) (fd 48) "_law_all_spans" ["_law_scene","_law_batches_here","_law_rows"]
 F49:L2.Fun K "_law_stayed" "_law_stayed" j9I (fa 49) (fd 49)
 c49:Cal K mg (fa 49) (fd 49) "_law_stayed" ["_law_orders_here","_law_asked","_law_names_here"]
 F50:L2.Fun K "_law_later" "_law_later" w0g (fa 50) (fd 50)
 c50:Cal K mg (fa 50) (fd 50) "_law_later" ["_law_script","_law_rows"]
 F51:L2.Fun K "_law_right" "_law_right" w0e (fa 51) (fd 51)
 c51:Cal K mg (fa 51) (fd 51) "_law_right" ["_law_found","_law_scene","_law_spans_here","_law_minute"]
 F52:L2.Fun K "law" "law" w0j (fa 52) (fd 52)
 c52:Cal K mg (fa 52) (fd 52) "law" ["_law_script"]
 mC0:mg "DoughError" = some (.ref (T.ca 0))
 xc0:q7V K (T.ca 0)
 mC1:mg "BadName" = some (.ref (T.ca 1))
 xc1:q7V K (T.ca 1)
 mC2:mg "BadWant" = some (.ref (T.ca 2))
 xc2:q7V K (T.ca 2)
 mC3:mg "BadNumber" = some (.ref (T.ca 3))
 xc3:q7V K (T.ca 3)
 mC4:mg "BadCount" = some (.ref (T.ca 4))
 xc4:q7V K (T.ca 4)
 mC5:mg "TwiceNamed" = some (.ref (T.ca 5))
 xc5:q7V K (T.ca 5)
 mC6:mg "NoBread" = some (.ref (T.ca 6))
 xc6:q7V K (T.ca 6)
 mC7:mg "BeyondNight" = some (.ref (T.ca 7))
 xc7:q7V K (T.ca 7)
 mC8:mg "TooMany" = some (.ref (T.ca 8))
 xc8:q7V K (T.ca 8)
 mC9:mg "BadPlan" = some (.ref (T.ca 9))
 xc9:q7V K (T.ca 9)
 mC10:mg "Order" = some (.ref (T.ca 10))
 cC10:Cls K (T.ca 10)
 mk10:Mk K (T.ca 10) (fa 4)
 fl10:T.fl 10=(["bread","loaves","due"]:List Str)
 na10_bread:NoAttr K (T.ca 10) "bread"
 na10_loaves:NoAttr K (T.ca 10) "loaves"
 na10_due:NoAttr K (T.ca 10) "due"
 mC11:mg "Batch" = some (.ref (T.ca 11))
 cC11:Cls K (T.ca 11)
 mk11:Mk K (T.ca 11) (fa 5)
 fl11:T.fl 11=(["order","first","loaves"]:List Str)
 na11_order:NoAttr K (T.ca 11) "order"
 na11_first:NoAttr K (T.ca 11) "first"
 na11_loaves:NoAttr K (T.ca 11) "loaves"
 mC12:mg "Run" = some (.ref (T.ca 12))
 cC12:Cls K (T.ca 12)
 mk12:Mk K (T.ca 12) (fa 11)
 fl12:T.fl 12=(["begin","lengths","oven"]:List Str)
 na12_begin:NoAttr K (T.ca 12) "begin"
 na12_lengths:NoAttr K (T.ca 12) "lengths"
 na12_oven:NoAttr K (T.ca 12) "oven"
 mC13:mg "Part" = some (.ref (T.ca 13))
 cC13:Cls K (T.ca 13)
 mk13:Mk K (T.ca 13) (fa 14)
 fl13:T.fl 13=(["batch","stage","begin","until","loaves","oven"]:List Str)
 na13_batch:NoAttr K (T.ca 13) "batch"
 na13_stage:NoAttr K (T.ca 13) "stage"
 na13_begin:NoAttr K (T.ca 13) "begin"
 na13_until:NoAttr K (T.ca 13) "until"
 na13_loaves:NoAttr K (T.ca 13) "loaves"
 na13_oven:NoAttr K (T.ca 13) "oven"
 mC14:mg "Bakery" = some (.ref (T.ca 14))
 cC14:Cls K (T.ca 14)
 mk14:Mk K (T.ca 14) (fa 23)
 fl14:T.fl 14=(["night","hands","benches","ovens","breads"]:List Str)
 na14_night:NoAttr K (T.ca 14) "night"
 na14_hands:NoAttr K (T.ca 14) "hands"
 na14_benches:NoAttr K (T.ca 14) "benches"
 na14_ovens:NoAttr K (T.ca 14) "ovens"
 na14_breads:NoAttr K (T.ca 14) "breads"
 mC15:mg "Stage" = some (.ref (T.ca 15))
 cC15:Cls K (T.ca 15)
 mk15:Mk K (T.ca 15) (fa 26)
 fl15:T.fl 15=(["name","least","most","want","heat"]:List Str)
 na15_name:NoAttr K (T.ca 15) "name"
 na15_least:NoAttr K (T.ca 15) "least"
 na15_most:NoAttr K (T.ca 15) "most"
 na15_want:NoAttr K (T.ca 15) "want"
 na15_heat:NoAttr K (T.ca 15) "heat"
 mC16:mg "Bread" = some (.ref (T.ca 16))
 cC16:Cls K (T.ca 16)
 mk16:Mk K (T.ca 16) (fa 27)
 fl16:T.fl 16=(["name","stages"]:List Str)
 na16_name:NoAttr K (T.ca 16) "name"
 na16_stages:NoAttr K (T.ca 16) "stages"
 mC17:mg "Oven" = some (.ref (T.ca 17))
 cC17:Cls K (T.ca 17)
 mk17:Mk K (T.ca 17) (fa 31)
 fl17:T.fl 17=(["room","rate","heat"]:List Str)
 na17_room:NoAttr K (T.ca 17) "room"
 na17_rate:NoAttr K (T.ca 17) "rate"
 na17_heat:NoAttr K (T.ca 17) "heat"
 c_FASTEST:∃t,mg "FASTEST" = some (.int 300 t)
 c_HOTTEST:∃t,mg "HOTTEST" = some (.int 300 t)
 c_LETTERS:∃t,mg "LETTERS" = some (.str "abcdefghijklmnopqrstuvwxyz" t)
 c_LONGEST_NAME:∃t,mg "LONGEST_NAME" = some (.int 12 t)
 c_MOST_BATCHES:∃t,mg "MOST_BATCHES" = some (.int 24 t)
 c_MOST_BENCHES:∃t,mg "MOST_BENCHES" = some (.int 6 t)
 c_MOST_BREADS:∃t,mg "MOST_BREADS" = some (.int 8 t)
 c_MOST_HANDS:∃t,mg "MOST_HANDS" = some (.int 6 t)
 c_MOST_LOAVES:∃t,mg "MOST_LOAVES" = some (.int 60 t)
 c_MOST_ORDERS:∃t,mg "MOST_ORDERS" = some (.int 12 t)
 c_MOST_OVENS:∃t,mg "MOST_OVENS" = some (.int 3 t)
 c_MOST_ROOM:∃t,mg "MOST_ROOM" = some (.int 30 t)
 c_MOST_STAGES:∃t,mg "MOST_STAGES" = some (.int 6 t)
 c_NIGHT:∃t,mg "NIGHT" = some (.int 720 t)
 c_WANTS:j5k K mg "WANTS" [.str "nothing",.str "hands",.str "bench",.str "oven"]
 n_all:mg "all" = none
 n_any:mg "any" = none
 n_bool:mg "bool" = none
 n_enumerate:mg "enumerate" = none
 n_int:mg "int" = none
 n_isinstance:mg "isinstance" = none
 n_len:mg "len" = none
 n_list:mg "list" = none
 n_max:mg "max" = none
 n_min:mg "min" = none
 n_range:mg "range" = none
 n_set:mg "set" = none
 n_sum:mg "sum" = none
 n_tuple:mg "tuple" = none
 n_zip:mg "zip" = none
local macro_rules | `(tactic| walk_at "sc")=>`(tactic| exact ⟨rfl,rfl,rfl,by decide +kernel,rfl,by decide +kernel,by decide +kernel⟩)
section
variable {P:Program} {w:World} {K:PySem.W.Frag} {mg:Str->Option Value} {base:Heap} {fa:Nat->Addr} {fd:Nat->FuncData} {T:Tb}
theorem fo0 (x:Tx K mg fa fd T):∀q∈[(15,0),(16,0)],FoC T K "name" q:=foC x.cC15 x.na15_name x.fl15 (foC x.cC16 x.na16_name x.fl16 foN)
theorem fo1 (x:Tx K mg fa fd T):∀q∈[(14,3)],FoC T K "ovens" q:=foC x.cC14 x.na14_ovens x.fl14 foN
theorem fo2 (x:Tx K mg fa fd T):∀q∈[(12,0),(13,2)],FoC T K "begin" q:=foC x.cC12 x.na12_begin x.fl12 (foC x.cC13 x.na13_begin x.fl13 foN)
theorem fo3 (x:Tx K mg fa fd T):∀q∈[(13,3)],FoC T K "until" q:=foC x.cC13 x.na13_until x.fl13 foN
theorem fo4 (x:Tx K mg fa fd T):∀q∈[(16,1)],FoC T K "stages" q:=foC x.cC16 x.na16_stages x.fl16 foN
theorem fo5 (x:Tx K mg fa fd T):∀q∈[(15,3)],FoC T K "want" q:=foC x.cC15 x.na15_want x.fl15 foN
theorem fo6 (x:Tx K mg fa fd T):∀q∈[(12,2),(13,5)],FoC T K "oven" q:=foC x.cC12 x.na12_oven x.fl12 (foC x.cC13 x.na13_oven x.fl13 foN)
theorem fo7 (x:Tx K mg fa fd T):∀q∈[(10,1),(11,2),(13,4)],FoC T K "loaves" q:=foC x.cC10 x.na10_loaves x.fl10 (foC x.cC11 x.na11_loaves x.fl11 (foC x.cC13 x.na13_loaves x.fl13 foN))
theorem fo8 (x:Tx K mg fa fd T):∀q∈[(10,0)],FoC T K "bread" q:=foC x.cC10 x.na10_bread x.fl10 foN
theorem fo9 (x:Tx K mg fa fd T):∀q∈[(14,0)],FoC T K "night" q:=foC x.cC14 x.na14_night x.fl14 foN
theorem fo10 (x:Tx K mg fa fd T):∀q∈[(10,2)],FoC T K "due" q:=foC x.cC10 x.na10_due x.fl10 foN
theorem fo11 (x:Tx K mg fa fd T):∀q∈[(14,4)],FoC T K "breads" q:=foC x.cC14 x.na14_breads x.fl14 foN
theorem fo12 (x:Tx K mg fa fd T):∀q∈[(17,0)],FoC T K "room" q:=foC x.cC17 x.na17_room x.fl17 foN
theorem fo13 (x:Tx K mg fa fd T):∀q∈[(12,1)],FoC T K "lengths" q:=foC x.cC12 x.na12_lengths x.fl12 foN
theorem fo14 (x:Tx K mg fa fd T):∀q∈[(11,0)],FoC T K "order" q:=foC x.cC11 x.na11_order x.fl11 foN
theorem fo15 (x:Tx K mg fa fd T):∀q∈[(13,1)],FoC T K "stage" q:=foC x.cC13 x.na13_stage x.fl13 foN
theorem w00:q0q ["_law_script","_law_k"] ["_law_script","_law_k"] (q0j j9j):=by walk_at "sc"
noncomputable def j3u (ρ:Ro):Fl:=(q2N (q0d 1)) ρ
noncomputable def j4h (ρ:Ro):Fl:=(q2N (e2 q1l (e2 ixD (q0d 0) (e2 (i2c q0G λi j=>.int (i % j)) (q0d 1) (eCB q1Z (q0k (q0d 0) q0E)))) (e2 (i2c q1R λi j=>.int (i*j)) (eC (.int 7)) (e2 (i2c q1K λi j=>.int (i / j)) (q0d 1) (eCB q1Z (q0k (q0d 0) q0E)))))) ρ
noncomputable def q87 (ρ:Ro):Fl:=((sIf (tB2 (λa b=>bD false (eqS a b)) (eCB q1Z (q0k (q0d 0) q0E)) (eC (.int 0))) j3u Fl.nx) ρ).bind j4h
noncomputable def q2z:Fn:=fnF 2 q87
theorem q1q (x:Tx K mg fa fd T):q1j P w K mg base (CXE T P w) 1 (fa 32) (fd 32) ["_law_script","_law_k"] (spD T K 2 q2z):=
 have hT:=x.me
 have hT0:=q0t x.me
 q15 x.me x.F32 w00 λcdv A outer s H E hr=>
  (q0b (q1d (q0S q2K (q0p q0H rfl x.n_len rfl (q0e (q0a 0) q0l)) q0c (nomark _)) (q0h (q0W (q0a 1))) q0B)
   (q0h (q0W (q0n q0y (q0o (q0a 0) (q0n q0w (q0a 1) (q0p q0H rfl x.n_len rfl (q0e (q0a 0) q0l)))) (q0n q3i q0c (q0n q06 (q0a 1) (q0p q0H rfl x.n_len rfl (q0e (q0a 0) q0l))))))))
theorem q7y:q0q ["_law_script","_law_rows","_law_k","_law_cell","_law_rate","_law_heat"] ["_law_script"] (q0j j98):=by walk_at "sc"
noncomputable def j2Y (ρ:Ro):Fl:=(q5y 1 (j2j (q0k (e2 q1l (eC (.int 1)) (e2 (i2c q0G λi j=>.int (i % j)) (q0d 3) (eC (.int 30)))) (q0k (q0d 4) (q0k (q0d 5) q0E))))) ρ
noncomputable def j3w (ρ:Ro):Fl:=((q08 5 (e2 ixD (q1I (q09 (q0k (eC (.int 200)) (q0k (eC (.int 200)) (q0k (eC (.int 230)) (q0k (e2 (i2c q0G λi j=>.int (i % j)) (rD (q0r (n:=2) q2z [] (gSh (q0d 0) (gSh (e2 q1l (eC (.int 11)) (q0d 2)) gN0)))) (eC (.int 301))) q0E)))))) (e2 (i2c q0G λi j=>.int (i % j)) (q0d 3) (eC (.int 4))))) ρ).bind j2Y
noncomputable def j4o (ρ:Ro):Fl:=((q08 4 (e2 ixD (q1I (q09 (q0k (eC (.int 300)) (q0k (eC (.int 40)) (q0k (e2 q1l (eC (.int 1)) (e2 (i2c q0G λi j=>.int (i % j)) (e2 (i2c q1K λi j=>.int (i / j)) (q0d 3) (eC (.int 90))) (eC (.int 300)))) q0E))))) (e2 (i2c q0G λi j=>.int (i % j)) (e2 (i2c q1K λi j=>.int (i / j)) (q0d 3) (eC (.int 30))) (eC (.int 3))))) ρ).bind j3w
noncomputable def q6M (ρ:Ro):Fl:=((q08 3 (rD (q0r (n:=2) q2z [] (gSh (q0d 0) (gSh (e2 q1l (eC (.int 8)) (q0d 2)) gN0))))) ρ).bind j4o
noncomputable def j33 (ρ:Ro):Fl:=(q3y 1) ρ
noncomputable def j0g (ρ:Ro):Fl:=((q2T (q3a (n1 (e2 q1l (eC (.int 1)) (e2 (i2c q0G λi j=>.int (i % j)) (rD (q0r (n:=2) q2z [] (gSh (q0d 0) (gSh (eC (.int 2)) gN0)))) (eC (.int 3)))))) (q1n 2) q6M) ρ).bind j33
noncomputable def j4i (ρ:Ro):Fl:=((q1V 1 (fun ρ=>((q09 q0E) ρ).bind λds=>.ok (.fr ds))) ρ).bind j0g
noncomputable def j96:Fn:=fnF 6 j4i
theorem w1p (x:Tx K mg fa fd T):q1j P w K mg base (CXE T P w) 2 (fa 36) (fd 36) ["_law_script"] (spD T K 1 j96):=
 have hT:=x.me
 have hT0:=q0t x.me
 q15 x.me x.F36 q7y λcdv A outer s H E hr=>
  (q0b (q1g 1 q7y.nd (DF.dr (q0L q0l)))
   (q0b (q0N rfl (q1r (q5k rfl x.n_range (q0n q0y q0c (q0n q0w (DR.de (q0g (q1q x) hr.le x.c32 (q0f (q0a 0) (q0f q0c q0m)))) q0c)))) (q0X 2 q7y.nd) (q0b (q0s 3 q7y.nd (DR.de (q0g (q1q x) hr.le x.c32 (q0f (q0a 0) (q0f (q0n q0y q0c (q0a 2)) q0m)))))
   (q0b (q0s 4 q7y.nd (q0o (DF.de (q0L (q0e q0c (q0e q0c (q0e (q0n q0y q0c (q0n q0w (q0n q06 (q0a 3) q0c) q0c)) q0l))))) (q0n q0w (q0n q06 (q0a 3) q0c) q0c)))
   (q0b (q0s 5 q7y.nd (q0o (DF.de (q0L (q0e q0c (q0e q0c (q0e q0c (q0e (q0n q0w (DR.de (q0g (q1q x) hr.le x.c32 (q0f (q0a 0) (q0f (q0n q0y q0c (q0a 2)) q0m)))) q0c) q0l)))))) (q0n q0w (q0a 3) q0c)))
   (q0h (q17 1 (q2X (q0e (q0n q0y q0c (q0n q0w (q0a 3) q0c)) (q0e (q0a 4) (q0e (q0a 5) q0l))))))))))
   (q0h (q18 1))))
theorem q3F:q0q ["_law_script","_law_kinds","_law_size","_law_like","_law_k","_law_rows","_law_j","_law_cell","_law_least","_law_heat"] ["_law_script"] (q0j j9T):=by walk_at "sc"
noncomputable def q9Y (ρ:Ro):Fl:=(q5y 5 (j2j (q0k (q0d 8) (q0k (e2 q1l (q0d 8) (e2 (i2c q0G λi j=>.int (i % j)) (e2 (i2c q1K λi j=>.int (i / j)) (q0d 7) (eC (.int 5))) (eC (.int 7)))) (q0k (e2 (i2c q0G λi j=>.int (i % j)) (q0d 7) (eC (.int 4))) (q0k (q0d 9) q0E)))))) ρ
noncomputable def q88 (ρ:Ro):Fl:=((q08 9 (e2 ixD (q1I (q09 (q0k (eC (.int 200)) (q0k (e2 ixD (q1I (q09 (q0k (eC (.int 200)) (q0k (eC (.int 200)) (q0k (eC (.int 230)) (q0k (e2 (i2c q0G λi j=>.int (i % j)) (rD (q0r (n:=2) q2z [] (gSh (q0d 0) (gSh (e2 q1l (e2 q1l (eC (.int 9)) (q0d 6)) (q0d 4)) gN0)))) (eC (.int 301))) q0E)))))) (e2 (i2c q0G λi j=>.int (i % j)) (e2 (i2c q1K λi j=>.int (i / j)) (q0d 7) (eC (.int 16))) (eC (.int 4)))) q0E)))) (eCB j57 (q0k (e2 (λa b=>bD false (eqS a b)) (q0d 3) (eC (.int 1))) q0E)))) ρ).bind q9Y
noncomputable def j0G (ρ:Ro):Fl:=((q08 8 (e2 q1l (eC (.int 1)) (e2 (i2c q0G λi j=>.int (i % j)) (e2 (i2c q1K λi j=>.int (i / j)) (q0d 7) (eC (.int 4))) (q0d 2)))) ρ).bind q88
noncomputable def q5s (ρ:Ro):Fl:=((q08 7 (rD (q0r (n:=2) q2z [] (gSh (q0d 0) (gSh (e2 q1l (e2 q1l (eC (.int 20)) (e2 (i2c q1R λi j=>.int (i*j)) (eC (.int 6)) (q0d 4))) (q0d 6)) gN0))))) ρ).bind j0G
noncomputable def j4t (ρ:Ro):Fl:=(q5y 1 (q0d 5)) ρ
noncomputable def j27 (ρ:Ro):Fl:=j7y 5 j4t ρ
noncomputable def q9r (ρ:Ro):Fl:=((q2T (q3a (n1 (e2 q1l (eC (.int 1)) (e2 (i2c q0G λi j=>.int (i % j)) (e2 q1l (rD (q0r (n:=2) q2z [] (gSh (q0d 0) (gSh (eC (.int 6)) gN0)))) (e2 (i2c q1R λi j=>.int (i*j)) (eC (.int 5)) (q0d 4))) (eC (.int 6)))))) (q1n 6) q5s) ρ).bind j27
noncomputable def q3O (ρ:Ro):Fl:=((q1V 5 (fun ρ=>((q09 q0E) ρ).bind λds=>.ok (.fr ds))) ρ).bind q9r
noncomputable def j4M (ρ:Ro):Fl:=(q3y 1) ρ
noncomputable def q4x (ρ:Ro):Fl:=((q2T (q3a (n1 (e2 q1l (eC (.int 1)) (e2 (i2c q0G λi j=>.int (i % j)) (rD (q0r (n:=2) q2z [] (gSh (q0d 0) (gSh (eC (.int 5)) gN0)))) (eC (.int 8)))))) (q1n 4) q3O) ρ).bind j4M
noncomputable def q9L (ρ:Ro):Fl:=((q08 3 (e2 (i2c q0G λi j=>.int (i % j)) (rD (q0r (n:=2) q2z [] (gSh (q0d 0) (gSh (eC (.int 7)) gN0)))) (eC (.int 3)))) ρ).bind q4x
noncomputable def q8g (ρ:Ro):Fl:=((q08 2 (e2 ixD (q1I (q09 (q0k (eC (.int 4)) (q0k (eC (.int 2)) (q0k (eC (.int 15)) (q0k (e2 ixD (q1I (q09 (j14 [.int 60,.int 700]))) (e2 (i2c q0G λi j=>.int (i % j)) (e2 (i2c q1K λi j=>.int (i / j)) (rD (q0r (n:=2) q2z [] (gSh (q0d 0) (gSh (eC (.int 3)) gN0)))) (eC (.int 4))) (eC (.int 2)))) q0E)))))) (e2 (i2c q0G λi j=>.int (i % j)) (rD (q0r (n:=2) q2z [] (gSh (q0d 0) (gSh (eC (.int 3)) gN0)))) (eC (.int 4))))) ρ).bind q9L
noncomputable def q52 (ρ:Ro):Fl:=((q1V 1 (fun ρ=>((q09 q0E) ρ).bind λds=>.ok (.fr ds))) ρ).bind q8g
noncomputable def w0k:Fn:=fnF 10 q52
theorem w0I (x:Tx K mg fa fd T):q1j P w K mg base (CXE T P w) 2 (fa 37) (fd 37) ["_law_script"] (spD T K 1 w0k):=
 have hT:=x.me
 have hT0:=q0t x.me
 q15 x.me x.F37 q3F λcdv A outer s H E hr=>
  (q0b (q1g 1 q3F.nd (DF.dr (q0L q0l)))
   (q0b (q0s 2 q3F.nd (q0o (DF.de (q0L (q0e q0c (q0e q0c (q0e q0c (q0e (q0o (DF.de (q0L (q4j rfl))) (q0n q0w (q0n q06 (DR.de (q0g (q1q x) hr.le x.c32 (q0f (q0a 0) (q0f q0c q0m)))) q0c) q0c)) q0l)))))) (q0n q0w (DR.de (q0g (q1q x) hr.le x.c32 (q0f (q0a 0) (q0f q0c q0m)))) q0c)))
   (q0b (q0s 3 q3F.nd (q0n q0w (DR.de (q0g (q1q x) hr.le x.c32 (q0f (q0a 0) (q0f q0c q0m)))) q0c))
   (q0b (q0N rfl (q1r (q5k rfl x.n_range (q0n q0y q0c (q0n q0w (DR.de (q0g (q1q x) hr.le x.c32 (q0f (q0a 0) (q0f q0c q0m)))) q0c)))) (q0X 4 q3F.nd) (q0b (q1g 5 q3F.nd (DF.dr (q0L q0l)))
   (q0b (q0N rfl (q1r (q5k rfl x.n_range (q0n q0y q0c (q0n q0w (q0n q0y (DR.de (q0g (q1q x) hr.le x.c32 (q0f (q0a 0) (q0f q0c q0m)))) (q0n q3i q0c (q0a 4))) q0c)))) (q0X 6 q3F.nd) (q0b (q0s 7 q3F.nd (DR.de (q0g (q1q x) hr.le x.c32 (q0f (q0a 0) (q0f (q0n q0y (q0n q0y q0c (q0n q3i q0c (q0a 4))) (q0a 6)) q0m)))))
   (q0b (q0s 8 q3F.nd (q0n q0y q0c (q0n q0w (q0n q06 (q0a 7) q0c) (q0a 2))))
   (q0b (q0s 9 q3F.nd (q0o (DF.de (q0L (q0e q0c (q0e (q0o (DF.de (q0L (q0e q0c (q0e q0c (q0e q0c (q0e (q0n q0w (DR.de (q0g (q1q x) hr.le x.c32 (q0f (q0a 0) (q0f (q0n q0y (q0n q0y q0c (q0a 6)) (q0a 4)) q0m)))) q0c) q0l)))))) (q0n q0w (q0n q06 (q0a 7) q0c) q0c)) q0l)))) (q8T j58 rfl x.n_int rfl (q0e (q6w q2K (q0a 3) q0c (nomark _)) q0l))))
   (q0h (q17 5 (q2X (q0e (q0a 8) (q0e (q0n q0y (q0a 8) (q0n q0w (q0n q06 (q0a 7) q0c) q0c)) (q0e (q0n q0w (q0a 7) q0c) (q0e (q0a 9) q0l)))))))))))
   (q5S 5 (q0h (q17 1 (q0a 5)))))))
   (q0h (q18 1))))))
theorem q3f:q0q ["_law_script","_law_cell","_law_night","_law_kilns","_law_kinds","_law_most","_law_asked","_law_k","_law_one","_law_loaves"] ["_law_script"] (q0j j9J):=by walk_at "sc"
noncomputable def j3X (ρ:Ro):Fl:=(q5y 6 (j2j (q0k (e2 (i2c q0G λi j=>.int (i % j)) (e2 (i2c q0G λi j=>.int (i % j)) (q0d 8) (eC (.int 8))) (eCB q1Z (q0k (q0d 4) q0E))) (q0k (q0d 9) (q0k (q0d 2) q0E))))) ρ
noncomputable def j3n (ρ:Ro):Fl:=((q08 9 (e2 q1l (eC (.int 1)) (e2 (i2c q0G λi j=>.int (i % j)) (e2 (i2c q1K λi j=>.int (i / j)) (q0d 8) (eC (.int 8))) (eCB j5H (q0k (eC (.int 60)) (q0k (e2 (i2c q1R λi j=>.int (i*j)) (eC (.int 2)) (q0d 5)) q0E)))))) ρ).bind j3X
noncomputable def q7i (ρ:Ro):Fl:=((q08 8 (rD (q0r (n:=2) q2z [] (gSh (q0d 0) (gSh (e2 q1l (eC (.int 30)) (q0d 7)) gN0))))) ρ).bind j3n
noncomputable def j3S (ρ:Ro):Fl:=(q27 (fun ρ=>((q09 (q0k (q0d 2) (q0k (e2 q1l (eC (.int 1)) (e2 (i2c q0G λi j=>.int (i % j)) (q0d 1) (eC (.int 6)))) (q0k (e2 q1l (eC (.int 1)) (e2 (i2c q0G λi j=>.int (i % j)) (e2 (i2c q1K λi j=>.int (i / j)) (q0d 1) (eC (.int 6))) (eC (.int 6)))) (q0k (q0d 3) (q0k (q0d 4) (q0k (q0d 6) q0E))))))) ρ).bind λds=>.ok (.fr ds))) ρ
noncomputable def j3W (ρ:Ro):Fl:=j7y 6 j3S ρ
noncomputable def q8S (ρ:Ro):Fl:=((q2T (q3a (n1 (e2 (i2c q0G λi j=>.int (i % j)) (rD (q0r (n:=2) q2z [] (gSh (q0d 0) (gSh (eC (.int 4)) gN0)))) (eC (.int 13))))) (q1n 7) q7i) ρ).bind j3W
noncomputable def j4l (ρ:Ro):Fl:=((q1V 6 (fun ρ=>((q09 q0E) ρ).bind λds=>.ok (.fr ds))) ρ).bind q8S
noncomputable def q6i (ρ:Ro):Fl:=((q08 5 (eCB q4q (q0k (q1I (q00 (q1y (q0d 3)) [] (e2 ixD (q0d 0) (eC (.int 0))))) q0E))) ρ).bind j4l
noncomputable def j4f (ρ:Ro):Fl:=((q08 4 (rD (q0r (n:=1) w0k [] (gSh (q0d 0) gN0)))) ρ).bind q6i
noncomputable def q84 (ρ:Ro):Fl:=((q08 3 (rD (q0r (n:=1) j96 [] (gSh (q0d 0) gN0)))) ρ).bind j4f
noncomputable def q8t (ρ:Ro):Fl:=((q08 1 (rD (q0r (n:=2) q2z [] (gSh (q0d 0) (gSh (eC (.int 1)) gN0))))) ρ).bind q84
noncomputable def q8L (ρ:Ro):Fl:=((q08 2 (e2 ixD (q1I (q09 (q0k (eC (.int 720)) (q0k (e2 q1l (eC (.int 1)) (e2 (i2c q0G λi j=>.int (i % j)) (e2 (i2c q1K λi j=>.int (i / j)) (q0d 1) (eC (.int 3))) (eC (.int 720)))) (q0k (e2 q1l (eC (.int 1)) (e2 (i2c q0G λi j=>.int (i % j)) (e2 (i2c q1K λi j=>.int (i / j)) (q0d 1) (eC (.int 3))) (eC (.int 120)))) q0E))))) (e2 (i2c q0G λi j=>.int (i % j)) (q0d 1) (eC (.int 3))))) ρ).bind q8t
noncomputable def q51 (ρ:Ro):Fl:=((q08 1 (rD (q0r (n:=2) q2z [] (gSh (q0d 0) (gSh (eC (.int 0)) gN0))))) ρ).bind q8L
noncomputable def j9C:Fn:=fnF 10 q51
theorem w01 (x:Tx K mg fa fd T):q1j P w K mg base (CXE T P w) 3 (fa 38) (fd 38) ["_law_script"] (spD T K 1 j9C):=
 have hT:=x.me
 have hT0:=q0t x.me
 q15 x.me x.F38 q3f λcdv A outer s H E hr=>
  (q0b (q0s 1 q3f.nd (DR.de (q0g (q1q x) hr.le x.c32 (q0f (q0a 0) (q0f q0c q0m)))))
   (q0b (q0s 2 q3f.nd (q0o (DF.de (q0L (q0e q0c (q0e (q0n q0y q0c (q0n q0w (q0n q06 (q0a 1) q0c) q0c)) (q0e (q0n q0y q0c (q0n q0w (q0n q06 (q0a 1) q0c) q0c)) q0l))))) (q0n q0w (q0a 1) q0c)))
   (q0b (q0s 1 q3f.nd (DR.de (q0g (q1q x) hr.le x.c32 (q0f (q0a 0) (q0f q0c q0m)))))
   (q0b (q0s 3 q3f.nd (DR.de (q0g (w1p x) hr.le x.c36 (q0f (q0a 0) q0m))))
   (q0b (q0s 4 q3f.nd (DR.de (q0g (w0I x) hr.le x.c37 (q0f (q0a 0) q0m))))
   (q0b (q0s 5 q3f.nd (q0p (q4G rfl) rfl x.n_max rfl (q0e (DF.de (DC.df (q1h hT0 rfl (q02 (DE.dp (q0a 3))) cap0 (λcl C s₀ H₀ ex=>(q0o (q0a 0) q0c))))) q0l)))
   (q0b (q1g 6 q3f.nd (DF.dr (q0L q0l)))
   (q0b (q0N rfl (q1r (q5k rfl x.n_range (q0n q0w (DR.de (q0g (q1q x) hr.le x.c32 (q0f (q0a 0) (q0f q0c q0m)))) q0c))) (q0X 7 q3f.nd) (q0b (q0s 8 q3f.nd (DR.de (q0g (q1q x) hr.le x.c32 (q0f (q0a 0) (q0f (q0n q0y q0c (q0a 7)) q0m)))))
   (q0b (q0s 9 q3f.nd (q0n q0y q0c (q0n q0w (q0n q06 (q0a 8) q0c) (q0p (q5h rfl) rfl x.n_min rfl (q0e q0c (q0e (q0n q3i q0c (q0a 5)) q0l))))))
   (q0h (q17 6 (q2X (q0e (q0n q0w (q0n q0w (q0a 8) q0c) (q0p q0H rfl x.n_len rfl (q0e (q0a 4) q0l))) (q0e (q0a 9) (q0e (q0a 2) q0l)))))))))
   (q5S 6 (q0h (q1N (DF.dr (q0L (q0e (q0a 2) (q0e (q0n q0y q0c (q0n q0w (q0a 1) q0c)) (q0e (q0n q0y q0c (q0n q0w (q0n q06 (q0a 1) q0c) q0c)) (q0e (q0a 3) (q0e (q0a 4) (q0e (q0a 6) q0l)))))))))))))))))))
theorem q70:q0q ["_law_scene","_law_most","_law_rows","_law_k","_law_left"] ["_law_scene"] (q0j j9E):=by walk_at "sc"
noncomputable def j2N (ρ:Ro):Fl:=(q08 4 (e2 (i2 λi j=>.int (i-j)) (q0d 4) (q0d 1))) ρ
noncomputable def q99 (ρ:Ro):Fl:=((q5y 2 (j2j (q0k (q0d 3) (q0k (eCB j5H (q0k (q0d 1) (q0k (q0d 4) q0E))) q0E)))) ρ).bind j2N
noncomputable def q6R (ρ:Ro):Fl:=(fun ρ=>whD (tB2 (i2 λi j=>.bl (decide (j < i))) (q0d 4) (eC (.int 0))) q99 100000 ρ) ρ
noncomputable def q44 (ρ:Ro):Fl:=((q08 4 (e2 ixD (e2 ixD (e2 ixD (q0d 0) (eC (.int 5))) (q0d 3)) (eC (.int 1)))) ρ).bind q6R
noncomputable def j3e (ρ:Ro):Fl:=(q3y 2) ρ
noncomputable def q9b (ρ:Ro):Fl:=((q2T (q3a (n1 (eCB q1Z (q0k (e2 ixD (q0d 0) (eC (.int 5))) q0E)))) (q1n 3) q44) ρ).bind j3e
noncomputable def j2Q (ρ:Ro):Fl:=((q1V 2 (fun ρ=>((q09 q0E) ρ).bind λds=>.ok (.fr ds))) ρ).bind q9b
noncomputable def q9E (ρ:Ro):Fl:=((q08 1 (eCB q4q (q0k (q1I (q00 (q1y (e2 ixD (q0d 0) (eC (.int 3)))) [] (e2 ixD (q0d 0) (eC (.int 0))))) q0E))) ρ).bind j2Q
noncomputable def j9z:Fn:=fnF 5 q9E
theorem w1O (x:Tx K mg fa fd T):q1j P w K mg base (CXE T P w) 1 (fa 42) (fd 42) ["_law_scene"] (spD T K 1 j9z):=
 have hT:=x.me
 have hT0:=q0t x.me
 q15 x.me x.F42 q70 λcdv A outer s H E hr=>
  (q0b (q0s 1 q70.nd (q0p (q4G rfl) rfl x.n_max rfl (q0e (DF.de (DC.df (q1h hT0 rfl (q02 (DE.dp (q0o (q0a 0) q0c))) cap0 (λcl C s₀ H₀ ex=>(q0o (q0a 0) q0c))))) q0l)))
   (q0b (q1g 2 q70.nd (DF.dr (q0L q0l)))
   (q0b (q0N rfl (q1r (q5k rfl x.n_range (q0p q0H rfl x.n_len rfl (q0e (q0o (q0a 0) q0c) q0l)))) (q0X 3 q70.nd) (q0b (q0s 4 q70.nd (q0o (q0o (q0o (q0a 0) q0c) (q0a 3)) q0c))
   (q0h (j1W 100000 (q0S j4Z (q0a 4) q0c (nomark _)) (q0b (q17 2 (q2X (q0e (q0a 3) (q0e (q0p (q5h rfl) rfl x.n_min rfl (q0e (q0a 1) (q0e (q0a 4) q0l))) q0l))))
   (q0h (q0s 4 q70.nd (q0n q2t (q0a 4) (q0a 1)))))))))
   (q0h (q18 2)))))
theorem j1R:q0q ["_law_script","_law_scene","_law_batch","_law_k","_law_oven","_law_rooms"] ["_law_script","_law_scene","_law_batch","_law_k"] (q0j j91):=by walk_at "sc"
noncomputable def j3f (ρ:Ro):Fl:=(q2N (eC (.int 0))) ρ
noncomputable def j4g (ρ:Ro):Fl:=(q08 4 (e2 q1l (eC (.int 1)) (eMt q6f q3l (q0d 5) (q0k (eCB q4q (q0k (q0d 5) q0E)) q0E)))) ρ
noncomputable def q5i (ρ:Ro):Fl:=((q08 5 (q1I (q00 (q1y (e2 ixD (q0d 1) (eC (.int 3)))) [] (e2 ixD (q0d 0) (eC (.int 0)))))) ρ).bind j4g
noncomputable def q6t (ρ:Ro):Fl:=(q2N (q0d 4)) ρ
noncomputable def q6Q (ρ:Ro):Fl:=((sIf (q4Q (tB2 (i2 λi j=>.bl (decide (i < j))) (e2 ixD (e2 ixD (e2 ixD (q0d 1) (eC (.int 3))) (e2 (i2 λi j=>.int (i-j)) (q0d 4) (eC (.int 1)))) (eC (.int 0))) (e2 ixD (q0d 2) (eC (.int 1)))) (tB2 (i2 λi j=>.bl (decide (j < i))) (e2 (i2c q0G λi j=>.int (i % j)) (rD (q0r (n:=2) q2z [] (gSh (q0d 0) (gSh (eC (.int 51)) gN0)))) (eC (.int 5))) (eC (.int 0)))) q5i Fl.nx) ρ).bind q6t
noncomputable def q6z (ρ:Ro):Fl:=((q08 4 (e2 q1l (eC (.int 1)) (e2 (i2c q0G λi j=>.int (i % j)) (rD (q0r (n:=2) q2z [] (gSh (q0d 0) (gSh (e2 q1l (eC (.int 50)) (q0d 3)) gN0)))) (eCB q1Z (q0k (e2 ixD (q0d 1) (eC (.int 3))) q0E))))) ρ).bind q6Q
noncomputable def q3C (ρ:Ro):Fl:=((sIf (tB2 (inD true) (eC (.int 3)) (q1I (q00 (q1y (e2 ixD (e2 ixD (q0d 1) (eC (.int 4))) (e2 ixD (e2 ixD (e2 ixD (q0d 1) (eC (.int 5))) (e2 ixD (q0d 2) (eC (.int 0)))) (eC (.int 0))))) [] (e2 ixD (q0d 0) (eC (.int 2)))))) j3f Fl.nx) ρ).bind q6z
noncomputable def j6u:Fn:=fnF 6 q3C
theorem w1m (x:Tx K mg fa fd T):q1j P w K mg base (CXE T P w) 2 (fa 39) (fd 39) ["_law_script","_law_scene","_law_batch","_law_k"] (spD T K 4 j6u):=
 have hT:=x.me
 have hT0:=q0t x.me
 q15 x.me x.F39 j1R λcdv A outer s H E hr=>
  (q0b (q1d (q0S q6Z q0c (DF.de (DC.df (q1h hT0 rfl (q02 (DE.dp (q0o (q0o (q0a 1) q0c) (q0o (q0o (q0o (q0a 1) q0c) (q0o (q0a 2) q0c)) q0c)))) cap0 (λcl C s₀ H₀ ex=>(q0o (q0a 0) q0c))))) rfl) (q0h (q0W q0c)) q0B)
   (q0b (q0s 4 j1R.nd (q0n q0y q0c (q0n q0w (DR.de (q0g (q1q x) hr.le x.c32 (q0f (q0a 0) (q0f (q0n q0y q0c (q0a 3)) q0m)))) (q0p q0H rfl x.n_len rfl (q0e (q0o (q0a 1) q0c) q0l)))))
   (q0b (q1d (DW.dt (q4U (q0S j1k (q0o (q0o (q0o (q0a 1) q0c) (q0n q2t (q0a 4) q0c)) q0c) (q0o (q0a 2) q0c) (nomark _)) (q3r (q0S j4Z (q0n q0w (DR.de (q0g (q1q x) hr.le x.c32 (q0f (q0a 0) (q0f q0c q0m)))) q0c) q0c (nomark _))))) (q0b (DC.setF 5 j1R.nd (q1h hT0 rfl (q02 (DE.dp (q0o (q0a 1) q0c))) cap0 (λcl C s₀ H₀ ex=>(q0o (q0a 0) q0c))))
   (q0h (q0s 4 j1R.nd (q0n q0y q0c (q8K (q0a 5) (q0p (q4G rfl) rfl x.n_max rfl (q0e (q0a 5) q0l))))))) q0B)
   (q0h (q0W (q0a 4))))))
theorem q5O:q0q ["_law_script","_law_scene","_law_batch","_law_k","_law_begin","_law_stages","_law_lengths","_law_j","_law_cell","_law_length"] ["_law_script","_law_scene","_law_batch","_law_k","_law_begin"] (q0j j9H):=by walk_at "sc"
noncomputable def j4w (ρ:Ro):Fl:=(q08 9 (e2 ixD (q1I (q09 (q0k (eCB w0Q (q0k (eC (.int 0)) (q0k (e2 (i2 λi j=>.int (i-j)) (e2 (i2 λi j=>.int (i-j)) (e2 ixD (e2 ixD (q0d 5) (q0d 7)) (eC (.int 0))) (eC (.int 1))) (e2 (i2c q0G λi j=>.int (i % j)) (q0d 8) (eC (.int 3)))) q0E))) (q0k (e2 q1l (e2 q1l (e2 ixD (e2 ixD (q0d 5) (q0d 7)) (eC (.int 1))) (eC (.int 1))) (e2 (i2c q0G λi j=>.int (i % j)) (q0d 8) (eC (.int 3)))) q0E)))) (e2 (i2c q0G λi j=>.int (i % j)) (e2 (i2c q1K λi j=>.int (i / j)) (q0d 8) (eC (.int 3))) (eC (.int 2))))) ρ
noncomputable def j0M (ρ:Ro):Fl:=(q5y 6 (q0d 9)) ρ
noncomputable def j07 (ρ:Ro):Fl:=((sIf (tB2 (λa b=>bD false (eqS a b)) (e2 (i2c q0G λi j=>.int (i % j)) (rD (q0r (n:=2) q2z [] (gSh (q0d 0) (gSh (eC (.int 19)) gN0)))) (eC (.int 97))) (e2 q1l (e2 (i2c q1R λi j=>.int (i*j)) (eC (.int 2)) (q0d 3)) (q0d 7))) j4w Fl.nx) ρ).bind j0M
noncomputable def j0F (ρ:Ro):Fl:=((q08 9 (e2 q1l (e2 ixD (e2 ixD (q0d 5) (q0d 7)) (eC (.int 0))) (e2 (i2c q0G λi j=>.int (i % j)) (q0d 8) (e2 q1l (e2 (i2 λi j=>.int (i-j)) (e2 ixD (e2 ixD (q0d 5) (q0d 7)) (eC (.int 1))) (e2 ixD (e2 ixD (q0d 5) (q0d 7)) (eC (.int 0)))) (eC (.int 1)))))) ρ).bind j07
noncomputable def q5n (ρ:Ro):Fl:=((q08 8 (rD (q0r (n:=2) q2z [] (gSh (q0d 0) (gSh (e2 q1l (e2 q1l (eC (.int 40)) (e2 (i2c q1R λi j=>.int (i*j)) (eC (.int 3)) (q0d 3))) (q0d 7)) gN0))))) ρ).bind j0F
noncomputable def j4H (ρ:Ro):Fl:=(q2N (j2j (q0k (eCB j5H (q0k (q0d 4) (q0k (eC (.int 1440)) q0E))) (q0k (q0d 6) (q0k (rD (q0r (n:=4) j6u [] (gSh (q0d 0) (gSh (q0d 1) (gSh (q0d 2) (gSh (q0d 3) gN0)))))) q0E))))) ρ
noncomputable def j4e (ρ:Ro):Fl:=j7y 6 j4H ρ
noncomputable def q8e (ρ:Ro):Fl:=((q2T (q3a (n1 (eCB q1Z (q0k (q0d 5) q0E)))) (q1n 7) q5n) ρ).bind j4e
noncomputable def j3Y (ρ:Ro):Fl:=((q1V 6 (fun ρ=>((q09 q0E) ρ).bind λds=>.ok (.fr ds))) ρ).bind q8e
noncomputable def q54 (ρ:Ro):Fl:=((q08 5 (e2 ixD (e2 ixD (q0d 1) (eC (.int 4))) (e2 ixD (e2 ixD (e2 ixD (q0d 1) (eC (.int 5))) (e2 ixD (q0d 2) (eC (.int 0)))) (eC (.int 0))))) ρ).bind j3Y
noncomputable def w0i:Fn:=fnF 10 q54
theorem w1c (x:Tx K mg fa fd T):q1j P w K mg base (CXE T P w) 3 (fa 40) (fd 40) ["_law_script","_law_scene","_law_batch","_law_k","_law_begin"] (spD T K 5 w0i):=
 have hT:=x.me
 have hT0:=q0t x.me
 q15 x.me x.F40 q5O λcdv A outer s H E hr=>
  (q0b (q0s 5 q5O.nd (q0o (q0o (q0a 1) q0c) (q0o (q0o (q0o (q0a 1) q0c) (q0o (q0a 2) q0c)) q0c)))
   (q0b (q1g 6 q5O.nd (DF.dr (q0L q0l)))
   (q0b (q0N rfl (q1r (q5k rfl x.n_range (q0p q0H rfl x.n_len rfl (q0e (q0a 5) q0l)))) (q0X 7 q5O.nd) (q0b (q0s 8 q5O.nd (DR.de (q0g (q1q x) hr.le x.c32 (q0f (q0a 0) (q0f (q0n q0y (q0n q0y q0c (q0n q3i q0c (q0a 3))) (q0a 7)) q0m)))))
   (q0b (q0s 9 q5O.nd (q0n q0y (q0o (q0o (q0a 5) (q0a 7)) q0c) (q0n q0w (q0a 8) (q0n q0y (q0n q2t (q0o (q0o (q0a 5) (q0a 7)) q0c) (q0o (q0o (q0a 5) (q0a 7)) q0c)) q0c))))
   (q0b (q1d (q0S q2K (q0n q0w (DR.de (q0g (q1q x) hr.le x.c32 (q0f (q0a 0) (q0f q0c q0m)))) q0c) (q0n q0y (q0n q3i q0c (q0a 3)) (q0a 7)) (nomark _)) (q0h (q0s 9 q5O.nd (q0o (DF.de (q0L (q0e (q0p (j7K rfl) rfl x.n_max rfl (q0e q0c (q0e (q0n q2t (q0n q2t (q0o (q0o (q0a 5) (q0a 7)) q0c) q0c) (q0n q0w (q0a 8) q0c)) q0l))) (q0e (q0n q0y (q0n q0y (q0o (q0o (q0a 5) (q0a 7)) q0c) q0c) (q0n q0w (q0a 8) q0c)) q0l)))) (q0n q0w (q0n q06 (q0a 8) q0c) q0c)))) q0B)
   (q0h (q17 6 (q0a 9)))))))
   (q5S 6 (q0h (q0W (q2X (q0e (q0p (q5h rfl) rfl x.n_min rfl (q0e (q0a 4) (q0e q0c q0l))) (q0e (q0a 6) (q0e (DR.de (q0g (w1m x) hr.le x.c39 (q0f (q0a 0) (q0f (q0a 1) (q0f (q0a 2) (q0f (q0a 3) q0m)))))) q0l))))))))))
theorem q3G:q0q ["_law_script","_law_scene","_law_batches_here","_law_rows","_law_ends","_law_mode","_law_k","_law_cell","_law_lane","_law_begin","_law_row_here"] ["_law_script","_law_scene","_law_batches_here"] (q0j j9S):=by walk_at "sc"
noncomputable def j3V (ρ:Ro):Fl:=(q08 9 (e2 (i2c q0G λi j=>.int (i % j)) (q0d 7) (e2 q1l (e2 ixD (q0d 1) (eC (.int 0))) (eC (.int 1))))) ρ
noncomputable def j0Y (ρ:Ro):Fl:=(q5y 3 (q0d 10)) ρ
noncomputable def q4X (ρ:Ro):Fl:=((j1q 4 (q0d 8) (e2 q1l (e2 ixD (q0d 10) (eC (.int 0))) (eCB q8h (q0k (e2 ixD (q0d 10) (eC (.int 1))) q0E)))) ρ).bind j0Y
noncomputable def q5b (ρ:Ro):Fl:=((q08 10 (rD (q0r (n:=5) w0i [] (gSh (q0d 0) (gSh (q0d 1) (gSh (e2 ixD (q0d 2) (q0d 6)) (gSh (q0d 6) (gSh (q0d 9) gN0)))))))) ρ).bind q4X
noncomputable def q9e (ρ:Ro):Fl:=((sIf (tB2 (λa b=>bD false (eqS a b)) (q0d 5) (eC (.int 3))) j3V Fl.nx) ρ).bind q5b
noncomputable def j0s (ρ:Ro):Fl:=((q08 9 (e2 q1l (w0F (j3R 4) (q0d 8)) (e2 ixD (q1I (q09 (q0k (eC (.int 0)) (q0k (eC (.int 1)) (q0k (eC (.int 8)) (q0k (e2 (i2c q0G λi j=>.int (i % j)) (q0d 7) (eC (.int 31))) q0E)))))) (e2 (i2c q0G λi j=>.int (i % j)) (e2 (i2c q1K λi j=>.int (i / j)) (q0d 7) (eC (.int 4))) (eC (.int 4)))))) ρ).bind q9e
noncomputable def j0L (ρ:Ro):Fl:=((q08 8 (e2 ixD (q1I (q09 (q0k (eC (.int 0)) (q0k (e2 (i2c q0G λi j=>.int (i % j)) (q0d 6) (eC (.int 2))) (q0k (e2 (i2c q0G λi j=>.int (i % j)) (q0d 6) (eC (.int 3))) (q0k (eC (.int 0)) q0E)))))) (q0d 5))) ρ).bind j0s
noncomputable def q3X (ρ:Ro):Fl:=((q08 7 (rD (q0r (n:=2) q2z [] (gSh (q0d 0) (gSh (e2 q1l (eC (.int 14)) (q0d 6)) gN0))))) ρ).bind j0L
noncomputable def j3D (ρ:Ro):Fl:=(q3y 3) ρ
noncomputable def q4g (ρ:Ro):Fl:=((q2T (q3a (n1 (eCB q1Z (q0k (q0d 2) q0E)))) (q1n 6) q3X) ρ).bind j3D
noncomputable def j0t (ρ:Ro):Fl:=((q08 5 (e2 (i2c q0G λi j=>.int (i % j)) (rD (q0r (n:=2) q2z [] (gSh (q0d 0) (gSh (eC (.int 13)) gN0)))) (eC (.int 4)))) ρ).bind q4g
noncomputable def q9a (ρ:Ro):Fl:=((q1V 4 (fun ρ=>((q09 (j14 [.int 0,.int 0,.int 0])) ρ).bind λds=>.ok (.fr ds))) ρ).bind j0t
noncomputable def q5X (ρ:Ro):Fl:=((q1V 3 (fun ρ=>((q09 q0E) ρ).bind λds=>.ok (.fr ds))) ρ).bind q9a
noncomputable def w0c:Fn:=fnF 11 q5X
theorem w1S (x:Tx K mg fa fd T):q1j P w K mg base (CXE T P w) 4 (fa 41) (fd 41) ["_law_script","_law_scene","_law_batches_here"] (spD T K 3 w0c):=
 have hT:=x.me
 have hT0:=q0t x.me
 q15 x.me x.F41 q3G λcdv A outer s H E hr=>
  (q0b (q1g 3 q3G.nd (DF.dr (q0L q0l)))
   (q0b (q1g 4 q3G.nd (DF.dr (q0L (q4j rfl))))
   (q0b (q0s 5 q3G.nd (q0n q0w (DR.de (q0g (q1q x) hr.le x.c32 (q0f (q0a 0) (q0f q0c q0m)))) q0c))
   (q0b (q0N rfl (q1r (q5k rfl x.n_range (q0p q0H rfl x.n_len rfl (q0e (q0a 2) q0l)))) (q0X 6 q3G.nd) (q0b (q0s 7 q3G.nd (DR.de (q0g (q1q x) hr.le x.c32 (q0f (q0a 0) (q0f (q0n q0y q0c (q0a 6)) q0m)))))
   (q0b (q0s 8 q3G.nd (q0o (DF.de (q0L (q0e q0c (q0e (q0n q0w (q0a 6) q0c) (q0e (q0n q0w (q0a 6) q0c) (q0e q0c q0l)))))) (q0a 5)))
   (q0b (q0s 9 q3G.nd (q0n q0y (j4d (q3L 4) (q0a 8)) (q0o (DF.de (q0L (q0e q0c (q0e q0c (q0e q0c (q0e (q0n q0w (q0a 7) q0c) q0l)))))) (q0n q0w (q0n q06 (q0a 7) q0c) q0c))))
   (q0b (q1d (q0S q2K (q0a 5) q0c (nomark _)) (q0h (q0s 9 q3G.nd (q0n q0w (q0a 7) (q0n q0y (q0o (q0a 1) q0c) q0c)))) q0B)
   (q0b (q0s 10 q3G.nd (DR.de (q0g (w1c x) hr.le x.c40 (q0f (q0a 0) (q0f (q0a 1) (q0f (q0o (q0a 2) (q0a 6)) (q0f (q0a 6) (q0f (q0a 9) q0m))))))))
   (q0b (q8q 4 (q0n q0y (q0o (q0a 10) q0c) (q0p (q9n rfl) rfl x.n_sum rfl (q0e (q0o (q0a 10) q0c) q0l))) (q0a 8))
   (q0h (q17 3 (q0a 10))))))))))
   (q0h (q18 3))))))
theorem q7U:q0q ["_law_cell","_law_many","_law_letters","_law_shift","_law_stem","_law_place","_law_row_here"] ["_law_cell","_law_many"] (q0j j9d):=by walk_at "sc"
noncomputable def q7j (ρ:Ro):Fl:=(q27 (fun ρ=>((q00 (q3a (n1 (q0d 1))) [6,0] (q7R (q0d 1) oNo (oSo (e2 q1l (e2 q1l (q0d 0) (eC (.int 1))) (e2 (i2c q0G λi j=>.int (i % j)) (e2 (i2c q1K λi j=>.int (i / j)) (q0d 2) (eC (.int 2))) (eC (.int 3))))))) ρ).bind λds=>.ok (.fr ds))) ρ
noncomputable def j4E (ρ:Ro):Fl:=((q08 6 (e2 q1l (q7R (q0d 2) (oSo (q0d 3)) oNo) (q7R (q0d 2) oNo (oSo (q0d 3))))) ρ).bind q7j
noncomputable def q6K (ρ:Ro):Fl:=(q27 (fun ρ=>((q00 (q3a (n1 (q0d 1))) [4,2,5,3] (e2 q1l (e2 q1l (q7R (q0d 1) oNo (oSo (q0d 3))) (e2 ixD (q0d 2) (e2 (i2c q0G λi j=>.int (i % j)) (e2 q1l (q0d 4) (q0d 0)) (eC (.int 26))))) (q7R (q0d 1) (oSo (q0d 3)) oNo))) ρ).bind λds=>.ok (.fr ds))) ρ
noncomputable def j3Q (ρ:Ro):Fl:=((q08 5 (e2 (i2c q0G λi j=>.int (i % j)) (e2 (i2c q1K λi j=>.int (i / j)) (q0d 0) (eC (.int 24))) (e2 q1l (eCB q1Z (q0k (q0d 4) q0E)) (eC (.int 1))))) ρ).bind q6K
noncomputable def q65 (ρ:Ro):Fl:=((q08 4 (eMt q6Y q9A (eC (.str "")) (q0k (q1I (q00 (q3a (n1 (e2 (i2c q0G λi j=>.int (i % j)) (e2 (i2c q1K λi j=>.int (i / j)) (q0d 0) (eC (.int 2))) (eC (.int 12))))) [2,0] (e2 ixD (q0d 1) (e2 (i2c q0G λi j=>.int (i % j)) (e2 q1l (e2 (i2c q1K λi j=>.int (i / j)) (q0d 2) (eC (.int 7))) (e2 (i2c q1R λi j=>.int (i*j)) (q0d 0) (e2 q1l (q0d 0) (eC (.int 2))))) (eC (.int 26)))))) q0E))) ρ).bind j3Q
noncomputable def j0i (ρ:Ro):Fl:=((sIf (tB2 (λa b=>bD false (eqS a b)) (e2 (i2c q0G λi j=>.int (i % j)) (q0d 0) (eC (.int 2))) (eC (.int 1))) j4E Fl.nx) ρ).bind q65
noncomputable def q9J (ρ:Ro):Fl:=((q08 3 (e2 (i2c q0G λi j=>.int (i % j)) (e2 (i2c q1K λi j=>.int (i / j)) (q0d 0) (eC (.int 288))) (eC (.int 26)))) ρ).bind j0i
noncomputable def q8R (ρ:Ro):Fl:=((q08 2 (eC (.str "abcdefghijklmnopqrstuvwxyz"))) ρ).bind q9J
noncomputable def j6Q:Fn:=fnF 7 q8R
theorem w0x (x:Tx K mg fa fd T):q1j P w K mg base (CXE T P w) 1 (fa 35) (fd 35) ["_law_cell","_law_many"] (spD T K 2 j6Q):=
 have hT:=x.me
 have hT0:=q0t x.me
 q15 x.me x.F35 q7U λcdv A outer s H E hr=>
  (q0b (q0s 2 q7U.nd q16)
   (q0b (q0s 3 q7U.nd (q0n q0w (q0n q06 (q0a 0) q0c) q0c))
   (q0b (q1d (q0S q2K (q0n q0w (q0a 0) q0c) q0c (nomark _)) (q0b (q0s 6 q7U.nd (q0n q0y (q3D (q0a 2) (j0J (q0a 3)) q8Y) (q3D (q0a 2) q8Y (j0J (q0a 3)))))
   (q0h (q1N (DF.dr (DC.df (q1h hT0 rfl (q1r (q5k rfl x.n_range (q0a 1))) (j06 ["_law_row_here","_law_cell"] [6,0] (hc:=(q1f rfl rfl rfl (q1f rfl rfl rfl q2p)))) (λcl C s₀ H₀ ex=>(q3D (q0a 1) q8Y (j0J (q0n q0y (q0n q0y (q0a 0) q0c) (q0n q0w (q0n q06 (q0a 2) q0c) q0c))))))))))) q0B)
   (q0b (q0s 4 q7U.nd (j6A j6c PySem.F.slot_str_join PySem.F.type_str_join q16 (q0e (DF.de (DC.df (q1h hT0 rfl (q1r (q5k rfl x.n_range (q0n q0w (q0n q06 (q0a 0) q0c) q0c))) (j06 ["_law_letters","_law_cell"] [2,0] (hc:=(q1f rfl rfl rfl (q1f rfl rfl rfl q2p)))) (λcl C s₀ H₀ ex=>(q0o (q0a 1) (q0n q0w (q0n q0y (q0n q06 (q0a 2) q0c) (q0n q3i (q0a 0) (q0n q0y (q0a 0) q0c))) q0c)))))) q0l)))
   (q0b (q0s 5 q7U.nd (q0n q0w (q0n q06 (q0a 0) q0c) (q0n q0y (q0p q0H rfl x.n_len rfl (q0e (q0a 4) q0l)) q0c)))
   (q0h (q1N (DF.dr (DC.df (q1h hT0 rfl (q1r (q5k rfl x.n_range (q0a 1))) (j06 ["_law_stem","_law_letters","_law_place","_law_shift"] [4,2,5,3] (hc:=(q1f rfl rfl rfl (q1f rfl rfl rfl (q1f rfl rfl rfl (q1f rfl rfl rfl q2p)))))) (λcl C s₀ H₀ ex=>(q0n q0y (q0n q0y (q3D (q0a 1) q8Y (j0J (q0a 3))) (q0o (q0a 2) (q0n q0w (q0n q0y (q0a 4) (q0a 0)) q0c))) (q3D (q0a 1) (j0J (q0a 3)) q8Y)))))))))))))
theorem w25:q0q ["name"] ["name"] (q0j s_1):=by walk_at "sc"
noncomputable def j1u (ρ:Ro):Fl:=(q1U 1 (q0k (eJ (q4I j02 (q0d 0) (q6k " is not 1 to " (q4I q7L (eC (.int 12)) (q6k " small letters" jN0))))) q0E)) ρ
noncomputable def j1G (ρ:Ro):Fl:=(sIf (j5o (q1X (fun ρ=>(q23 (i2 λi j=>.bl (decide (i<=j))) (i2 λi j=>.bl (decide (i<=j))) (eC (.int 1)) (eCB q1Z (q0k (q0d 0) q0E)) (eC (.int 12)) ρ).bind D.toB)) (q1X (q46 (eCB j6y (q0k (q1I (q00 (j6x (q0d 0)) [] (e2 (inD false) (q0d 0) (eC (.str "abcdefghijklmnopqrstuvwxyz"))))) q0E))))) j1u Fl.nx) ρ
noncomputable def F_1:Fn:=fnF 1 j1G
theorem w2I (x:Tx K mg fa fd T):q1j P w K mg base (CXE T P w) 1 (fa 1) (fd 1) ["name"] (spD T K 1 F_1):=
 have hT:=x.me
 have hT0:=q0t x.me
 q15 x.me x.F1 w25 λcdv A outer s H E hr=>
  (q0h (q1d (DW.dt (q7C (q1k (q2y q26 q26 q0c (q0p q0H rfl x.n_len rfl (q0e (q0a 0) q0l)) (q0U rfl x.c_LONGEST_NAME))) (q3W (q1k (q01 (q0p (j86 rfl) rfl x.n_all rfl (q0e (DF.de (DC.df (q1h hT0 rfl (j78 (q0a 0)) cap0 (λcl C s₀ H₀ ex=>(q6w w0M (q0a 0) (j2n rfl x.c_LETTERS) rfl))))) q0l))))))) (q0h (q1c (c:=1) rfl x.xc1 rfl x.mC1 (q0e (q2s (q5U (q0a 0) (q2d (q2m (q0U rfl x.c_LONGEST_NAME) (q2d q2Y))))) q0l) hsh1)) q0B))
theorem w23:q0q ["number","lowest","highest"] ["number","lowest","highest"] (q0j s_2):=by walk_at "sc"
noncomputable def j4S (ρ:Ro):Fl:=(q1U 3 (q0k (eJ (q4I q7L (q0d 0) (q6k " does not lie from " (q4I q7L (q0d 1) (q6k " to " (q4I q7L (q0d 2) jN0)))))) q0E)) ρ
noncomputable def j2c (ρ:Ro):Fl:=(sIf (q1X (fun ρ=>(q23 (i2 λi j=>.bl (decide (i<=j))) (i2 λi j=>.bl (decide (i<=j))) (q0d 1) (q0d 0) (q0d 2) ρ).bind D.toB)) j4S Fl.nx) ρ
noncomputable def F_2:Fn:=fnF 3 j2c
theorem j09 (x:Tx K mg fa fd T):q1j P w K mg base (CXE T P w) 1 (fa 2) (fd 2) ["number","lowest","highest"] (spD T K 3 F_2):=
 have hT:=x.me
 have hT0:=q0t x.me
 q15 x.me x.F2 w23 λcdv A outer s H E hr=>
  (q0h (q1d (q1k (q2y q26 q26 (q0a 1) (q0a 0) (q0a 2))) (q0h (q1c (c:=3) rfl x.xc3 rfl x.mC3 (q0e (q2s (q2m (q0a 0) (q2d (q2m (q0a 1) (q2d (q2m (q0a 2) q2Y)))))) q0l) hsh1)) q0B))
theorem w0R:q0q ["self","name","least","most","want","heat"] ["self","name","least","most","want","heat"] (q0j j9N):=by walk_at "sc"
noncomputable def j7B (ρ:Ro):Fl:=(q1U 2 (q0k (eJ (q6k "a stage can't want " (q4I j02 (q0d 4) jN0))) q0E)) ρ
noncomputable def j4A (ρ:Ro):Fl:=(q0P 15 4 (q0d 5)) ρ
noncomputable def j2W (ρ:Ro):Fl:=((q0P 15 3 (q0d 4)) ρ).bind j4A
noncomputable def j3s (ρ:Ro):Fl:=((q0P 15 2 (q0d 3)) ρ).bind j2W
noncomputable def j3E (ρ:Ro):Fl:=((q0P 15 1 (q0d 2)) ρ).bind j3s
noncomputable def j4K (ρ:Ro):Fl:=((q0P 15 0 (q0d 1)) ρ).bind j3E
noncomputable def j3M (ρ:Ro):Fl:=((q1Q (rD (q0r (n:=3) F_2 [] (gSh (q0d 5) (gSh (eC (.int 0)) (gSh (eC (.int 300)) gN0)))))) ρ).bind j4K
noncomputable def j3Z (ρ:Ro):Fl:=((q1Q (rD (q0r (n:=3) F_2 [] (gSh (q0d 3) (gSh (q0d 2) (gSh (eC (.int 720)) gN0)))))) ρ).bind j3M
noncomputable def j26 (ρ:Ro):Fl:=((q1Q (rD (q0r (n:=3) F_2 [] (gSh (q0d 2) (gSh (eC (.int 1)) (gSh (eC (.int 720)) gN0)))))) ρ).bind j3Z
noncomputable def j0C (ρ:Ro):Fl:=((sIf (tB2 (inD true) (q0d 4) (eC (.tup [.str "nothing",.str "hands",.str "bench",.str "oven"]))) j7B Fl.nx) ρ).bind j26
noncomputable def j0r (ρ:Ro):Fl:=((q1Q (rD (q0r (n:=1) F_1 [] (gSh (q0d 1) gN0)))) ρ).bind j0C
noncomputable def j9Y:Fn:=q24 6 15 5 j0r
theorem w1A (x:Tx K mg fa fd T):q1j P w K mg base (CXE T P w) 2 (fa 26) (fd 26) ["self","name","least","most","want","heat"] (spI T K 15 6 j9Y):=
 have hT0:=q0t x.me
 j3i x.me (by rw [x.fl15];rfl) x.F26.ex w0R λy cdv A outer s H E hr=>
  (q0b (q0Y (DR.de (q0g (q2C (w2I x)) hr.le x.c1 (q0f (q0a 1) q0m))))
   (q0b (q1d (q0S q6Z (q0a 4) (j2u rfl x.c_WANTS) rfl) (q0h (q1c (c:=2) rfl x.xc2 rfl x.mC2 (q0e (q2s (q2d (q5U (q0a 4) q2Y))) q0l) hsh1)) q0B)
   (q0b (q0Y (DR.de (q0g (q2C (j09 x)) hr.le x.c2 (q0f (q0a 2) (q0f q0c (q0f (q0U rfl x.c_NIGHT) q0m))))))
   (q0b (q0Y (DR.de (q0g (q2C (j09 x)) hr.le x.c2 (q0f (q0a 3) (q0f (q0a 2) (q0f (q0U rfl x.c_NIGHT) q0m))))))
   (q0b (q0Y (DR.de (q0g (q2C (j09 x)) hr.le x.c2 (q0f (q0a 5) (q0f q0c (q0f (q0U rfl x.c_HOTTEST) q0m))))))
   (q0b (q0V (c:=15) 0 x.cC15 x.na15_name (flA x.fl15) (flN x.fl15) (by decide) (q0a 1))
   (q0b (q0V (c:=15) 1 x.cC15 x.na15_least (flA x.fl15) (flN x.fl15) (by decide) (q0a 2))
   (q0b (q0V (c:=15) 2 x.cC15 x.na15_most (flA x.fl15) (flN x.fl15) (by decide) (q0a 3))
   (q0b (q0V (c:=15) 3 x.cC15 x.na15_want (flA x.fl15) (flN x.fl15) (by decide) (q0a 4))
   (q0h (q0V (c:=15) 4 x.cC15 x.na15_heat (flA x.fl15) (flN x.fl15) (by decide) (q0a 5))))))))))))
theorem w3t:q0q ["count","lowest","highest"] ["count","lowest","highest"] (q0j s_3):=by walk_at "sc"
noncomputable def j41 (ρ:Ro):Fl:=(q1U 4 (q0k (eJ (q4I q7L (q0d 0) (q6k " of them, not " (q4I q7L (q0d 1) (q6k " to " (q4I q7L (q0d 2) jN0)))))) q0E)) ρ
noncomputable def j12 (ρ:Ro):Fl:=(sIf (q1X (fun ρ=>(q23 (i2 λi j=>.bl (decide (i<=j))) (i2 λi j=>.bl (decide (i<=j))) (q0d 1) (q0d 0) (q0d 2) ρ).bind D.toB)) j41 Fl.nx) ρ
noncomputable def F_3:Fn:=fnF 3 j12
theorem j97 (x:Tx K mg fa fd T):q1j P w K mg base (CXE T P w) 1 (fa 3) (fd 3) ["count","lowest","highest"] (spD T K 3 F_3):=
 have hT:=x.me
 have hT0:=q0t x.me
 q15 x.me x.F3 w3t λcdv A outer s H E hr=>
  (q0h (q1d (q1k (q2y q26 q26 (q0a 1) (q0a 0) (q0a 2))) (q0h (q1c (c:=4) rfl x.xc4 rfl x.mC4 (q0e (q2s (q2m (q0a 0) (q2d (q2m (q0a 1) (q2d (q2m (q0a 2) q2Y)))))) q0l) hsh1)) q0B))
theorem w1y:q0q ["self","name","stages"] ["self","name","stages"] (q0j w0a):=by walk_at "sc"
noncomputable def j4x (ρ:Ro):Fl:=(q0P 16 1 (q47 (q1y (q0d 2)))) ρ
noncomputable def j4q (ρ:Ro):Fl:=((q0P 16 0 (q0d 1)) ρ).bind j4x
noncomputable def j3l (ρ:Ro):Fl:=((q1Q (rD (q0r (n:=3) F_3 [] (gSh (eCB q1Z (q0k (q0d 2) q0E)) (gSh (eC (.int 1)) (gSh (eC (.int 6)) gN0)))))) ρ).bind j4q
noncomputable def j3H (ρ:Ro):Fl:=((q1Q (rD (q0r (n:=1) F_1 [] (gSh (q0d 1) gN0)))) ρ).bind j3l
noncomputable def j99:Fn:=q24 3 16 2 j3H
theorem w1v (x:Tx K mg fa fd T):q1j P w K mg base (CXE T P w) 2 (fa 27) (fd 27) ["self","name","stages"] (spI T K 16 3 j99):=
 have hT0:=q0t x.me
 j3i x.me (by rw [x.fl16];rfl) (q3U x.F27) w1y λy cdv A outer s H E hr=>
  (q0b (q0Y (DR.de (q0g (q2C (w2I x)) hr.le x.c1 (q0f (q0a 1) q0m))))
   (q0b (q0Y (DR.de (q0g (q2C (j97 x)) hr.le x.c3 (q0f (q0p q0H rfl x.n_len rfl (q0e (q0a 2) q0l)) (q0f q0c (q0f (q0U rfl x.c_MOST_STAGES) q0m))))))
   (q0b (q0V (c:=16) 0 x.cC16 x.na16_name (flA x.fl16) (flN x.fl16) (by decide) (q0a 1))
   (q0h (q0V (c:=16) 1 x.cC16 x.na16_stages (flA x.fl16) (flN x.fl16) (by decide) (q39 rfl x.n_tuple (DE.dl (q0a 2))))))))
theorem w1K:q0q ["self","room","rate","heat"] ["self","room","rate","heat"] (q0j j9q):=by walk_at "sc"
noncomputable def j3v (ρ:Ro):Fl:=(q0P 17 2 (q0d 3)) ρ
noncomputable def j3L (ρ:Ro):Fl:=((q0P 17 1 (q0d 2)) ρ).bind j3v
noncomputable def j3x (ρ:Ro):Fl:=((q0P 17 0 (q0d 1)) ρ).bind j3L
noncomputable def j2V (ρ:Ro):Fl:=((q1Q (rD (q0r (n:=3) F_2 [] (gSh (q0d 3) (gSh (eC (.int 0)) (gSh (eC (.int 300)) gN0)))))) ρ).bind j3x
noncomputable def j3G (ρ:Ro):Fl:=((q1Q (rD (q0r (n:=3) F_2 [] (gSh (q0d 2) (gSh (eC (.int 1)) (gSh (eC (.int 300)) gN0)))))) ρ).bind j2V
noncomputable def j28 (ρ:Ro):Fl:=((q1Q (rD (q0r (n:=3) F_2 [] (gSh (q0d 1) (gSh (eC (.int 1)) (gSh (eC (.int 30)) gN0)))))) ρ).bind j3G
noncomputable def j6P:Fn:=q24 4 17 3 j28
theorem w1f (x:Tx K mg fa fd T):q1j P w K mg base (CXE T P w) 2 (fa 31) (fd 31) ["self","room","rate","heat"] (spI T K 17 4 j6P):=
 have hT0:=q0t x.me
 j3i x.me (by rw [x.fl17];rfl) (q3U x.F31) w1K λy cdv A outer s H E hr=>
  (q0b (q0Y (DR.de (q0g (q2C (j09 x)) hr.le x.c2 (q0f (q0a 1) (q0f q0c (q0f (q0U rfl x.c_MOST_ROOM) q0m))))))
   (q0b (q0Y (DR.de (q0g (q2C (j09 x)) hr.le x.c2 (q0f (q0a 2) (q0f q0c (q0f (q0U rfl x.c_FASTEST) q0m))))))
   (q0b (q0Y (DR.de (q0g (q2C (j09 x)) hr.le x.c2 (q0f (q0a 3) (q0f q0c (q0f (q0U rfl x.c_HOTTEST) q0m))))))
   (q0b (q0V (c:=17) 0 x.cC17 x.na17_room (flA x.fl17) (flN x.fl17) (by decide) (q0a 1))
   (q0b (q0V (c:=17) 1 x.cC17 x.na17_rate (flA x.fl17) (flN x.fl17) (by decide) (q0a 2))
   (q0h (q0V (c:=17) 2 x.cC17 x.na17_heat (flA x.fl17) (flN x.fl17) (by decide) (q0a 3))))))))
theorem w0p:q0q ["names"] ["names"] (q0j j9m):=by walk_at "sc"
noncomputable def j8l (ρ:Ro):Fl:=(q1U 5 (q0k (eJ (q6k "two breads of one name among " (j95 (q1y (q0d 0)) jN0))) q0E)) ρ
noncomputable def j4b (ρ:Ro):Fl:=(sIf (tB2 (λa b=>bD true (eqS a b)) (q8E (q1y (q0d 0))) (eCB q1Z (q0k (q0d 0) q0E))) j8l Fl.nx) ρ
noncomputable def j92:Fn:=fnF 1 j4b
theorem w0W (x:Tx K mg fa fd T):q1j P w K mg base (CXE T P w) 1 (fa 25) (fd 25) ["names"] (spD T K 1 j92):=
 have hT:=x.me
 have hT0:=q0t x.me
 q15 x.me x.F25 w0p λcdv A outer s H E hr=>
  (q0h (q1d (q0S q4C (j0p rfl rfl x.n_len rfl x.n_set (DE.dl (q0a 0))) (q0p q0H rfl x.n_len rfl (q0e (q0a 0) q0l)) (nomark _)) (q0h (q1c (c:=5) rfl x.xc5 rfl x.mC5 (q0e (q2s (q2d (j2e hr (DE.dl (q0a 0)) q2Y))) q0l) hsh1)) q0B))
theorem w03:q0q ["self","night","hands","benches","ovens","breads"] ["self","night","hands","benches","ovens","breads"] (q0j j9k):=by walk_at "sc"
noncomputable def j3a (ρ:Ro):Fl:=(q0P 14 4 (q47 (j3R 5))) ρ
noncomputable def j3O (ρ:Ro):Fl:=((q0P 14 3 (q47 (q1y (q0d 4)))) ρ).bind j3a
noncomputable def j4m (ρ:Ro):Fl:=((q0P 14 2 (q0d 3)) ρ).bind j3O
noncomputable def j3o (ρ:Ro):Fl:=((q0P 14 1 (q0d 2)) ρ).bind j4m
noncomputable def j3h (ρ:Ro):Fl:=((q0P 14 0 (q0d 1)) ρ).bind j3o
noncomputable def j24 (ρ:Ro):Fl:=((q1Q (rD (q0r (n:=1) j92 [] (gSh (q1I (q00 (w1s 5) [] (q1M [(15,0),(16,0)] (q0d 0)))) gN0)))) ρ).bind j3h
noncomputable def j4G (ρ:Ro):Fl:=((q1Q (rD (q0r (n:=3) F_3 [] (gSh (j5I (j3R 5)) (gSh (eC (.int 1)) (gSh (eC (.int 8)) gN0)))))) ρ).bind j24
noncomputable def j4r (ρ:Ro):Fl:=((q1Q (rD (q0r (n:=3) F_3 [] (gSh (eCB q1Z (q0k (q0d 4) q0E)) (gSh (eC (.int 1)) (gSh (eC (.int 3)) gN0)))))) ρ).bind j4G
noncomputable def j4p (ρ:Ro):Fl:=((q1Q (rD (q0r (n:=3) F_2 [] (gSh (q0d 3) (gSh (eC (.int 1)) (gSh (eC (.int 6)) gN0)))))) ρ).bind j4r
noncomputable def j0w (ρ:Ro):Fl:=((q1Q (rD (q0r (n:=3) F_2 [] (gSh (q0d 2) (gSh (eC (.int 1)) (gSh (eC (.int 6)) gN0)))))) ρ).bind j4p
noncomputable def q8c (ρ:Ro):Fl:=((q1Q (rD (q0r (n:=3) F_2 [] (gSh (q0d 1) (gSh (eC (.int 1)) (gSh (eC (.int 720)) gN0)))))) ρ).bind j0w
noncomputable def j9v:Fn:=q24 6 14 5 q8c
theorem w0U (x:Tx K mg fa fd T):q1j P w K mg base (CXE T P w) 2 (fa 23) (fd 23) ["self","night","hands","benches","ovens","breads"] (spI T K 14 6 j9v):=
 have hT0:=q0t x.me
 j3i x.me (by rw [x.fl14];rfl) (q3U x.F23) w03 λy cdv A outer s H E hr=>
  (q0b (q0Y (DR.de (q0g (q2C (j09 x)) hr.le x.c2 (q0f (q0a 1) (q0f q0c (q0f (q0U rfl x.c_NIGHT) q0m))))))
   (q0b (q0Y (DR.de (q0g (q2C (j09 x)) hr.le x.c2 (q0f (q0a 2) (q0f q0c (q0f (q0U rfl x.c_MOST_HANDS) q0m))))))
   (q0b (q0Y (DR.de (q0g (q2C (j09 x)) hr.le x.c2 (q0f (q0a 3) (q0f q0c (q0f (q0U rfl x.c_MOST_BENCHES) q0m))))))
   (q0b (q0Y (DR.de (q0g (q2C (j97 x)) hr.le x.c3 (q0f (q0p q0H rfl x.n_len rfl (q0e (q0a 4) q0l)) (q0f q0c (q0f (q0U rfl x.c_MOST_OVENS) q0m))))))
   (q0b (q0Y (DR.de (q0g (q2C (j97 x)) hr.le x.c3 (q0f (q2U rfl x.n_len (q3L 5)) (q0f q0c (q0f (q0U rfl x.c_MOST_BREADS) q0m))))))
   (q0b (q0Y (DR.de (q0g (q2C (w0W x)) hr.le x.c25 (q0f (DF.de (DC.df (q1h hT0 rfl (q02 (j8N 5)) cap0 (λcl C s₀ H₀ ex=>(q0F (q0a 0) (fo0 x)))))) q0m))))
   (q0b (q0V (c:=14) 0 x.cC14 x.na14_night (flA x.fl14) (flN x.fl14) (by decide) (q0a 1))
   (q0b (q0V (c:=14) 1 x.cC14 x.na14_hands (flA x.fl14) (flN x.fl14) (by decide) (q0a 2))
   (q0b (q0V (c:=14) 2 x.cC14 x.na14_benches (flA x.fl14) (flN x.fl14) (by decide) (q0a 3))
   (q0b (q0V (c:=14) 3 x.cC14 x.na14_ovens (flA x.fl14) (flN x.fl14) (by decide) (q39 rfl x.n_tuple (DE.dl (q0a 4))))
   (q0h (q0V (c:=14) 4 x.cC14 x.na14_breads (flA x.fl14) (flN x.fl14) (by decide) (q39 rfl x.n_tuple (q3L 5))))))))))))))
theorem q74:q0q ["_law_scene","_law_names_here","_law_wants","_law_kinds","_law_k","_law_kilns","_law_rows"] ["_law_scene","_law_names_here"] (q0j w0m):=by walk_at "sc"
noncomputable def j4D (ρ:Ro):Fl:=(q5y 3 (rD (q0r (n:=2) j99 [] (gSh (e2 ixD (q0d 1) (q0d 4)) (gSh (q0d 6) gN0))))) ρ
noncomputable def q36 (ρ:Ro):Fl:=((q08 6 (q1I (q00 (q1y (e2 ixD (e2 ixD (q0d 0) (eC (.int 4))) (q0d 4))) [2] (rD (q0r (n:=5) j9Y [] (gSh (eC (.str "stage")) (gSh (e2 ixD (q0d 0) (eC (.int 0))) (gSh (e2 ixD (q0d 0) (eC (.int 1))) (gSh (e2 ixD (q0d 1) (e2 ixD (q0d 0) (eC (.int 2)))) (gSh (e2 ixD (q0d 0) (eC (.int 3))) gN0)))))))))) ρ).bind j4D
noncomputable def j3m (ρ:Ro):Fl:=(q27 (q0r (n:=5) j9v [] (gSh (e2 ixD (q0d 0) (eC (.int 0))) (gSh (e2 ixD (q0d 0) (eC (.int 1))) (gSh (e2 ixD (q0d 0) (eC (.int 2))) (gSh (q0d 5) (gBo 3 gN0))))))) ρ
noncomputable def j38 (ρ:Ro):Fl:=((q08 5 (q1I (q00 (q1y (e2 ixD (q0d 0) (eC (.int 3)))) [] (rD (q0r (n:=3) j6P [] (gSh (e2 ixD (q0d 0) (eC (.int 0))) (gSh (e2 ixD (q0d 0) (eC (.int 1))) (gSh (e2 ixD (q0d 0) (eC (.int 2))) gN0)))))))) ρ).bind j3m
noncomputable def q6V (ρ:Ro):Fl:=((q2T (q3a (n1 (eCB q1Z (q0k (e2 ixD (q0d 0) (eC (.int 4))) q0E)))) (q1n 4) q36) ρ).bind j38
noncomputable def j32 (ρ:Ro):Fl:=((q1V 3 (fun ρ=>((q09 q0E) ρ).bind λds=>.ok (.fr ds))) ρ).bind q6V
noncomputable def j0R (ρ:Ro):Fl:=((q08 2 (q1I (q09 (j14 [.str "nothing",.str "hands",.str "bench",.str "oven"])))) ρ).bind j32
noncomputable def j9Z:Fn:=fnF 7 j0R
theorem w1L (x:Tx K mg fa fd T):q1j P w K mg base (CXE T P w) 4 (fa 43) (fd 43) ["_law_scene","_law_names_here"] (spD T K 2 j9Z):=
 have hT:=x.me
 have hT0:=q0t x.me
 q15 x.me x.F43 q74 λcdv A outer s H E hr=>
  (q0b (q0s 2 q74.nd (DF.de (q0L (q4j rfl))))
   (q0b (q1g 3 q74.nd (DF.dr (q0L q0l)))
   (q0b (q0N rfl (q1r (q5k rfl x.n_range (q0p q0H rfl x.n_len rfl (q0e (q0o (q0a 0) q0c) q0l)))) (q0X 4 q74.nd) (q0b (DC.setF 6 q74.nd (q1h hT0 rfl (q02 (DE.dp (q0o (q0o (q0a 0) q0c) (q0a 4)))) (j06 ["_law_wants"] [2] (hc:=(q1f rfl rfl rfl q2p))) (λcl C s₀ H₀ ex=>(DR.de (q2r x.mk15 (w1A x) q1S hr.le rfl x.mC15 x.b26 .nil (λ_=>rfl) rfl (q0f q16 (q0f (q0o (q0a 0) q0c) (q0f (q0o (q0a 0) q0c) (q0f (q0o (q0a 1) (q0o (q0a 0) q0c)) (q0f (q0o (q0a 0) q0c) q0m))))))))))
   (q0h (q17 3 (DR.de (q2r x.mk16 (w1v x) q1S hr.le rfl x.mC16 x.b27 .nil (λ_=>rfl) rfl (q0f (q0o (q0a 1) (q0a 4)) (q0f (q0a 6) q0m))))))))
   (q0b (DC.setF 5 q74.nd (q1h hT0 rfl (q02 (DE.dp (q0o (q0a 0) q0c))) cap0 (λcl C s₀ H₀ ex=>(DR.de (q2r x.mk17 (w1f x) q1S hr.le rfl x.mC17 x.b31 .nil (λ_=>rfl) rfl (q0f (q0o (q0a 0) q0c) (q0f (q0o (q0a 0) q0c) (q0f (q0o (q0a 0) q0c) q0m))))))))
   (q0h (q1N (q2r x.mk14 (w0U x) q1S hr.le rfl x.mC14 x.b23 .nil (λ_=>rfl) rfl (q0f (q0o (q0a 0) q0c) (q0f (q0o (q0a 0) q0c) (q0f (q0o (q0a 0) q0c) (q0f (q0a 5) (j88 3 q0m))))))))))))
theorem w3n:q0q ["self","bread","loaves","due"] ["self","bread","loaves","due"] (q0j s_4):=by walk_at "sc"
noncomputable def j7w (ρ:Ro):Fl:=(q0P 10 2 (q0d 3)) ρ
noncomputable def j7P (ρ:Ro):Fl:=((q0P 10 1 (q0d 2)) ρ).bind j7w
noncomputable def j8r (ρ:Ro):Fl:=((q0P 10 0 (q0d 1)) ρ).bind j7P
noncomputable def j5X (ρ:Ro):Fl:=((q1Q (rD (q0r (n:=3) F_2 [] (gSh (q0d 2) (gSh (eC (.int 1)) (gSh (eC (.int 60)) gN0)))))) ρ).bind j8r
noncomputable def F_4:Fn:=q24 4 10 3 j5X
theorem w3e (x:Tx K mg fa fd T):q1j P w K mg base (CXE T P w) 2 (fa 4) (fd 4) ["self","bread","loaves","due"] (spI T K 10 4 F_4):=
 have hT0:=q0t x.me
 j3i x.me (by rw [x.fl10];rfl) (q3U x.F4) w3n λy cdv A outer s H E hr=>
  (q0b (q0Y (DR.de (q0g (q2C (j09 x)) hr.le x.c2 (q0f (q0a 2) (q0f q0c (q0f (q0U rfl x.c_MOST_LOAVES) q0m))))))
   (q0b (q0V (c:=10) 0 x.cC10 x.na10_bread (flA x.fl10) (flN x.fl10) (by decide) (q0a 1))
   (q0b (q0V (c:=10) 1 x.cC10 x.na10_loaves (flA x.fl10) (flN x.fl10) (by decide) (q0a 2))
   (q0h (q0V (c:=10) 2 x.cC10 x.na10_due (flA x.fl10) (flN x.fl10) (by decide) (q0a 3))))))
theorem w1E:q0q ["_law_asked","_law_names_here"] ["_law_asked","_law_names_here"] (q0j j9P):=by walk_at "sc"
noncomputable def q9l (ρ:Ro):Fl:=(q27 (fun ρ=>((q00 (q1y (q0d 0)) [1] (rD (q0r (n:=3) F_4 [] (gSh (e2 ixD (q0d 1) (e2 ixD (q0d 0) (eC (.int 0)))) (gSh (e2 ixD (q0d 0) (eC (.int 1))) (gSh (e2 ixD (q0d 0) (eC (.int 2))) gN0)))))) ρ).bind λds=>.ok (.fr ds))) ρ
noncomputable def w0h:Fn:=fnF 2 q9l
theorem w1t (x:Tx K mg fa fd T):q1j P w K mg base (CXE T P w) 4 (fa 44) (fd 44) ["_law_asked","_law_names_here"] (spD T K 2 w0h):=
 have hT:=x.me
 have hT0:=q0t x.me
 q15 x.me x.F44 w1E λcdv A outer s H E hr=>
  (q0h (q1N (DF.dr (DC.df (q1h hT0 rfl (q02 (DE.dp (q0a 0))) (j06 ["_law_names_here"] [1] (hc:=(q1f rfl rfl rfl q2p))) (λcl C s₀ H₀ ex=>(DR.de (q2r x.mk10 (w3e x) q1S hr.le rfl x.mC10 x.b4 .nil (λ_=>rfl) rfl (q0f (q0o (q0a 1) (q0o (q0a 0) q0c)) (q0f (q0o (q0a 0) q0c) (q0f (q0o (q0a 0) q0c) q0m)))))))))))
theorem q6c:q0q ["_law_scene","_law_batch","_law_way","_law_stages","_law_begin","_law_rows","_law_k","_law_end"] ["_law_scene","_law_batch","_law_way"] (q0j j9h):=by walk_at "sc"
noncomputable def j4C (ρ:Ro):Fl:=(q08 4 (q0d 7)) ρ
noncomputable def j3j (ρ:Ro):Fl:=((q5y 5 (j2j (q0k (e2 ixD (e2 ixD (q0d 3) (q0d 6)) (eC (.int 2))) (q0k (q0d 4) (q0k (q0d 7) (q0k (e2 ixD (e2 ixD (q0d 3) (q0d 6)) (eC (.int 3))) (q0k (e2 ixD (q0d 1) (eC (.int 1))) (q0k (e2 ixD (q0d 2) (eC (.int 2))) q0E)))))))) ρ).bind j4C
noncomputable def q7e (ρ:Ro):Fl:=((q08 7 (e2 q1l (q0d 4) (e2 ixD (e2 ixD (q0d 2) (eC (.int 1))) (q0d 6)))) ρ).bind j3j
noncomputable def j8z (ρ:Ro):Fl:=(q3y 5) ρ
noncomputable def j0D (ρ:Ro):Fl:=((q2T (q3a (n1 (eCB q1Z (q0k (q0d 3) q0E)))) (q1n 6) q7e) ρ).bind j8z
noncomputable def j2X (ρ:Ro):Fl:=((q1V 5 (fun ρ=>((q09 q0E) ρ).bind λds=>.ok (.fr ds))) ρ).bind j0D
noncomputable def j4N (ρ:Ro):Fl:=((q08 4 (e2 ixD (q0d 2) (eC (.int 0)))) ρ).bind j2X
noncomputable def q9K (ρ:Ro):Fl:=((q08 3 (e2 ixD (e2 ixD (q0d 0) (eC (.int 4))) (e2 ixD (e2 ixD (e2 ixD (q0d 0) (eC (.int 5))) (e2 ixD (q0d 1) (eC (.int 0)))) (eC (.int 0))))) ρ).bind j4N
noncomputable def w0b:Fn:=fnF 8 q9K
theorem w0O (x:Tx K mg fa fd T):q1j P w K mg base (CXE T P w) 1 (fa 47) (fd 47) ["_law_scene","_law_batch","_law_way"] (spD T K 3 w0b):=
 have hT:=x.me
 have hT0:=q0t x.me
 q15 x.me x.F47 q6c λcdv A outer s H E hr=>
  (q0b (q0s 3 q6c.nd (q0o (q0o (q0a 0) q0c) (q0o (q0o (q0o (q0a 0) q0c) (q0o (q0a 1) q0c)) q0c)))
   (q0b (q0s 4 q6c.nd (q0o (q0a 2) q0c))
   (q0b (q1g 5 q6c.nd (DF.dr (q0L q0l)))
   (q0b (q0N rfl (q1r (q5k rfl x.n_range (q0p q0H rfl x.n_len rfl (q0e (q0a 3) q0l)))) (q0X 6 q6c.nd) (q0b (q0s 7 q6c.nd (q0n q0y (q0a 4) (q0o (q0o (q0a 2) q0c) (q0a 6))))
   (q0b (q17 5 (q2X (q0e (q0o (q0o (q0a 3) (q0a 6)) q0c) (q0e (q0a 4) (q0e (q0a 7) (q0e (q0o (q0o (q0a 3) (q0a 6)) q0c) (q0e (q0o (q0a 1) q0c) (q0e (q0o (q0a 2) q0c) q0l))))))))
   (q0h (q0s 4 q6c.nd (q0a 7))))))
   (q0h (q18 5))))))
theorem j1s:q0q ["_law_scene","_law_batches_here","_law_rows","_law_spans_here","_law_k"] ["_law_scene","_law_batches_here","_law_rows"] (q0j j9U):=by walk_at "sc"
noncomputable def q8l (ρ:Ro):Fl:=(q08 3 (q1I (j9i (q1y (q0d 3)) (q1y (rD (q0r (n:=3) w0b [] (gSh (q0d 0) (gSh (e2 ixD (q0d 1) (q0d 4)) (gSh (e2 ixD (q0d 2) (q0d 4)) gN0))))))))) ρ
noncomputable def j8T (ρ:Ro):Fl:=(q2N (q0d 3)) ρ
noncomputable def q9D (ρ:Ro):Fl:=((q2T (q3a (n1 (eCB q1Z (q0k (q0d 1) q0E)))) (q1n 4) q8l) ρ).bind j8T
noncomputable def q9d (ρ:Ro):Fl:=((q08 3 (q1I (q09 q0E))) ρ).bind q9D
noncomputable def j60:Fn:=fnF 5 q9d
theorem j6W (x:Tx K mg fa fd T):q1j P w K mg base (CXE T P w) 2 (fa 48) (fd 48) ["_law_scene","_law_batches_here","_law_rows"] (spD T K 3 j60):=
 have hT:=x.me
 have hT0:=q0t x.me
 q15 x.me x.F48 j1s λcdv A outer s H E hr=>
  (q0b (q0s 3 j1s.nd (DF.de (q0L q0l)))
   (q0b (q0N rfl (q1r (q5k rfl x.n_range (q0p q0H rfl x.n_len rfl (q0e (q0a 1) q0l)))) (q0X 4 j1s.nd) (q0h (q0s 3 j1s.nd (DF.de (j0l (DE.dl (q0a 3)) (DE.dl (DR.de (q0g (w0O x) hr.le x.c47 (q0f (q0a 0) (q0f (q0o (q0a 1) (q0a 4)) (q0f (q0o (q0a 2) (q0a 4)) q0m)))))))))))
   (q0h (q0W (q0a 3)))))
theorem q7X:q0q ["_law_script","_law_rows","_law_more","_law_cell","_law_begin","_law_lengths","_law_oven"] ["_law_script","_law_rows"] (q0j w0g):=by walk_at "sc"
noncomputable def j3g (ρ:Ro):Fl:=(j1q 2 (e2 (i2c q0G λi j=>.int (i % j)) (q0d 3) (eCB q1Z (q0k (q0d 1) q0E))) (j2j (q0k (eCB j5H (q0k (eC (.int 1440)) (q0k (e2 q1l (e2 q1l (q0d 4) (eC (.int 1))) (e2 (i2c q0G λi j=>.int (i % j)) (rD (q0r (n:=2) q2z [] (gSh (q0d 0) (gSh (eC (.int 58)) gN0)))) (eC (.int 30)))) q0E))) (q0k (q0d 5) (q0k (q0d 6) q0E))))) ρ
noncomputable def j3t (ρ:Ro):Fl:=((w2f [4,5,6] (e2 ixD (q0d 1) (e2 (i2c q0G λi j=>.int (i % j)) (q0d 3) (eCB q1Z (q0k (q0d 1) q0E))))) ρ).bind j3g
noncomputable def j3U (ρ:Ro):Fl:=((q08 3 (rD (q0r (n:=2) q2z [] (gSh (q0d 0) (gSh (eC (.int 57)) gN0))))) ρ).bind j3t
noncomputable def q90 (ρ:Ro):Fl:=(q3y 2) ρ
noncomputable def j03 (ρ:Ro):Fl:=((sIf (tB2 (j3P true) (q0d 1) (q1I (q09 q0E))) j3U Fl.nx) ρ).bind q90
noncomputable def j0u (ρ:Ro):Fl:=((q1V 2 (fun ρ=>((q7h (q1y (q0d 1))) ρ).bind λds=>.ok (.fr ds))) ρ).bind j03
noncomputable def j6w:Fn:=fnF 7 j0u
theorem w0w (x:Tx K mg fa fd T):q1j P w K mg base (CXE T P w) 2 (fa 50) (fd 50) ["_law_script","_law_rows"] (spD T K 2 j6w):=
 have hT:=x.me
 have hT0:=q0t x.me
 q15 x.me x.F50 q7X λcdv A outer s H E hr=>
  (q0b (q1g 2 q7X.nd (DF.dr (q4o rfl x.n_list (DE.dl (q0a 1)))))
   (q0b (q1d (q0S (q8v hr) (q0a 1) (DF.de (q0L q0l)) (nomark _)) (q0b (q0s 3 q7X.nd (DR.de (q0g (q1q x) hr.le x.c32 (q0f (q0a 0) (q0f q0c q0m)))))
   (q0b (j8p (q0o (q0a 1) (q0n q0w (q0a 3) (q0p q0H rfl x.n_len rfl (q0e (q0a 1) q0l)))) (q5v rfl (q1m 4 q7X.nd (q1m 5 q7X.nd (q1m 6 q7X.nd q3p)))))
   (q0h (q8q 2 (q2X (q0e (q0p (q5h rfl) rfl x.n_min rfl (q0e q0c (q0e (q0n q0y (q0n q0y (q0a 4) q0c) (q0n q0w (DR.de (q0g (q1q x) hr.le x.c32 (q0f (q0a 0) (q0f q0c q0m)))) q0c)) q0l))) (q0e (q0a 5) (q0e (q0a 6) q0l)))) (q0n q0w (q0a 3) (q0p q0H rfl x.n_len rfl (q0e (q0a 1) q0l))))))) q0B)
   (q0h (q18 2))))
theorem w0q:q0q ["self","begin","lengths","oven"] ["self","begin","lengths","oven"] (q0j j9x):=by walk_at "sc"
noncomputable def j4L (ρ:Ro):Fl:=(q1U 3 (q0k (eC (.str "a run has no number below 0")) q0E)) ρ
noncomputable def j2U (ρ:Ro):Fl:=(q0P 12 2 (q0d 3)) ρ
noncomputable def j4j (ρ:Ro):Fl:=((q0P 12 1 (q47 (q1y (q0d 2)))) ρ).bind j2U
noncomputable def j2P (ρ:Ro):Fl:=((q0P 12 0 (q0d 1)) ρ).bind j4j
noncomputable def q8N (ρ:Ro):Fl:=((sIf (tB2 (i2 λi j=>.bl (decide (i < j))) (eCB q7K (q0k (q1I (j9i (q09 (q0k (q0d 1) (q0k (q0d 3) q0E))) (q7h (q1y (q0d 2))))) q0E)) (eC (.int 0))) j4L Fl.nx) ρ).bind j2P
noncomputable def j8U:Fn:=q24 4 12 3 q8N
theorem w08 (x:Tx K mg fa fd T):q1j P w K mg base (CXE T P w) 1 (fa 11) (fd 11) ["self","begin","lengths","oven"] (spI T K 12 4 j8U):=
 have hT0:=q0t x.me
 j3i x.me (by rw [x.fl12];rfl) x.F11.ex w0q λy cdv A outer s H E hr=>
  (q0b (q1d (q0S j1k (q0p (j5O rfl) rfl x.n_min rfl (q0e (DF.de (j0l (DF.dl (q0L (q0e (q0a 1) (q0e (q0a 3) q0l)))) (DF.dl (q4o rfl x.n_list (DE.dl (q0a 2)))))) q0l)) q0c (nomark _)) (q0h (q1c (c:=3) rfl x.xc3 rfl x.mC3 (q0e q16 q0l) hsh1)) q0B)
   (q0b (q0V (c:=12) 0 x.cC12 x.na12_begin (flA x.fl12) (flN x.fl12) (by decide) (q0a 1))
   (q0b (q0V (c:=12) 1 x.cC12 x.na12_lengths (flA x.fl12) (flN x.fl12) (by decide) (q39 rfl x.n_tuple (DE.dl (q0a 2))))
   (q0h (q0V (c:=12) 2 x.cC12 x.na12_oven (flA x.fl12) (flN x.fl12) (by decide) (q0a 3))))))
theorem w1x:q0q ["_law_rows"] ["_law_rows"] (q0j j94):=by walk_at "sc"
noncomputable def q8k (ρ:Ro):Fl:=(q27 (fun ρ=>((q00 (q1y (q0d 0)) [] (rD (q0r (n:=3) j8U [] (gSh (e2 ixD (q0d 0) (eC (.int 0))) (gSh (q1I (q7h (q1y (e2 ixD (q0d 0) (eC (.int 1)))))) (gSh (e2 ixD (q0d 0) (eC (.int 2))) gN0)))))) ρ).bind λds=>.ok (.fr ds))) ρ
noncomputable def j9F:Fn:=fnF 1 q8k
theorem w0C (x:Tx K mg fa fd T):q1j P w K mg base (CXE T P w) 3 (fa 45) (fd 45) ["_law_rows"] (spD T K 1 j9F):=
 have hT:=x.me
 have hT0:=q0t x.me
 q15 x.me x.F45 w1x λcdv A outer s H E hr=>
  (q0h (q1N (DF.dr (DC.df (q1h hT0 rfl (q02 (DE.dp (q0a 0))) cap0 (λcl C s₀ H₀ ex=>(DR.de (q2r x.mk12 (w08 x) q1S hr.le rfl x.mC12 x.b11 .nil (λ_=>rfl) rfl (q0f (q0o (q0a 0) q0c) (q0f (DF.de (q4o rfl x.n_list (DE.dl (q0o (q0a 0) q0c)))) (q0f (q0o (q0a 0) q0c) q0m)))))))))))
theorem w1d:q0q ["parts","minute"] ["parts","minute"] (q0j j9o):=by walk_at "sc"
noncomputable def q9g (ρ:Ro):Fl:=(q27 (fun ρ=>((q1i (q1y (q0d 0)) [1] (fun ρ=>(q23 (i2 λi j=>.bl (decide (i<=j))) (i2 λi j=>.bl (decide (i < j))) (q1M [(12,0),(13,2)] (q0d 0)) (q0d 1) (q1M [(13,3)] (q0d 0)) ρ).bind D.toB) (q0d 0)) ρ).bind λds=>.ok (.fr ds))) ρ
noncomputable def w0l:Fn:=fnF 2 q9g
theorem w0H (x:Tx K mg fa fd T):q1j P w K mg base (CXE T P w) 1 (fa 19) (fd 19) ["parts","minute"] (spD T K 2 w0l):=
 have hT:=x.me
 have hT0:=q0t x.me
 q15 x.me x.F19 w1d λcdv A outer s H E hr=>
  (q0h (q1N (DF.dr (DC.df (q2b hT0 rfl (q02 (DE.dp (q0a 0))) (j06 ["minute"] [1] (hc:=(q1f rfl rfl rfl q2p))) (λcl C s₀ H₀ ex=>(q0a 0)) (λcl C s₀ H₀ ex=>(q2y q26 j1k (q0F (q0a 0) (fo2 x)) (q0a 1) (q0F (q0a 0) (fo3 x)))))))))
theorem j7p:q0q ["self","name","bread"] ["self","name"] (q0j j9y):=by walk_at "sc"
noncomputable def q9c (ρ:Ro):Fl:=(q2N (q0d 2)) ρ
noncomputable def q6X (ρ:Ro):Fl:=(sIf (tB2 (λa b=>bD false (eqS a b)) (q1M [(15,0),(16,0)] (q0d 2)) (q0d 1)) q9c Fl.nx) ρ
noncomputable def j3r (ρ:Ro):Fl:=(q1U 6 (q0k (eJ (q6k "the bakery has no bread " (q4I j02 (q0d 1) jN0))) q0E)) ρ
noncomputable def q7g (ρ:Ro):Fl:=((q2T (q4y (q1M [(14,4)] (q0d 0))) (q1n 2) q6X) ρ).bind j3r
noncomputable def j8d:Fn:=fnF 3 q7g
theorem j83 (x:Tx K mg fa fd T):q1j P w K mg base (CXE T P w) 1 (fa 24) (fd 24) ["self","name"] (spD T K 2 j8d):=
 have hT:=x.me
 have hT0:=q0t x.me
 q15 x.me x.F24 j7p λcdv A outer s H E hr=>
  (q0b (q0N rfl (q7c (q0F (q0a 0) (fo11 x))) (q0X 2 j7p.nd) (q0h (q1d (q0S q2K (q0F (q0a 2) (fo0 x)) (q0a 1) (nomark _)) (q0h (q0W (q0a 2))) q0B)))
   (q0h (q1c (c:=6) rfl x.xc6 rfl x.mC6 (q0e (q2s (q2d (q5U (q0a 1) q2Y))) q0l) hsh1)))
theorem w3v:q0q ["due","night"] ["due","night"] (q0j s_7):=by walk_at "sc"
noncomputable def w1n (ρ:Ro):Fl:=(q1U 7 (q0k (eJ (q6k "minute " (q4I q7L (q0d 0) (q6k " does not lie from 0 to " (q4I q7L (q0d 1) jN0))))) q0E)) ρ
noncomputable def j65 (ρ:Ro):Fl:=(sIf (q1X (fun ρ=>(q23 (i2 λi j=>.bl (decide (i<=j))) (i2 λi j=>.bl (decide (i<=j))) (eC (.int 0)) (q0d 0) (q0d 1) ρ).bind D.toB)) w1n Fl.nx) ρ
noncomputable def F_7:Fn:=fnF 2 j65
theorem w2X (x:Tx K mg fa fd T):q1j P w K mg base (CXE T P w) 1 (fa 7) (fd 7) ["due","night"] (spD T K 2 F_7):=
 have hT:=x.me
 have hT0:=q0t x.me
 q15 x.me x.F7 w3v λcdv A outer s H E hr=>
  (q0h (q1d (q1k (q2y q26 q26 q0c (q0a 0) (q0a 1))) (q0h (q1c (c:=7) rfl x.xc7 rfl x.mC7 (q0e (q2s (q2d (q2m (q0a 0) (q2d (q2m (q0a 1) q2Y))))) q0l) hsh1)) q0B))
theorem w2Q:q0q ["self","order","first","loaves"] ["self","order","first","loaves"] (q0j s_5):=by walk_at "sc"
noncomputable def j7d (ρ:Ro):Fl:=(q0P 11 2 (q0d 3)) ρ
noncomputable def j6N (ρ:Ro):Fl:=((q0P 11 1 (q0d 2)) ρ).bind j7d
noncomputable def j6G (ρ:Ro):Fl:=((q0P 11 0 (q0d 1)) ρ).bind j6N
noncomputable def F_5:Fn:=q24 4 11 3 j6G
theorem w3g (x:Tx K mg fa fd T):q1j P w K mg base (CXE T P w) 1 (fa 5) (fd 5) ["self","order","first","loaves"] (spI T K 11 4 F_5):=
 have hT0:=q0t x.me
 j3i x.me (by rw [x.fl11];rfl) (q3U x.F5) w2Q λy cdv A outer s H E hr=>
  (q0b (q0V (c:=11) 0 x.cC11 x.na11_order (flA x.fl11) (flN x.fl11) (by decide) (q0a 1))
   (q0b (q0V (c:=11) 1 x.cC11 x.na11_first (flA x.fl11) (flN x.fl11) (by decide) (q0a 2))
   (q0h (q0V (c:=11) 2 x.cC11 x.na11_loaves (flA x.fl11) (flN x.fl11) (by decide) (q0a 3)))))
theorem j6v:q0q ["orders","most","row","number","order","first","left"] ["orders","most"] (q0j s_9):=by walk_at "sc"
noncomputable def j7A (ρ:Ro):Fl:=(q5y 2 (rD (q0r (n:=3) F_5 [] (gSh (q0d 3) (gSh (q0d 5) (gSh (eCB j5H (q0k (q0d 1) (q0k (q0d 6) q0E))) gN0)))))) ρ
noncomputable def j5N (ρ:Ro):Fl:=((q08 6 (e2 q1l (e2 (i2 λi j=>.int (i-j)) (q1M [(10,1),(11,2),(13,4)] (q0d 4)) (q0d 5)) (eC (.int 1)))) ρ).bind j7A
noncomputable def j5Y (ρ:Ro):Fl:=(q2T (j1h (eC (.int 1)) (e2 q1l (q1M [(10,1),(11,2),(13,4)] (q0d 4)) (eC (.int 1))) (q0d 1)) (q1n 5) j5N) ρ
noncomputable def j7V (ρ:Ro):Fl:=(q3y 2) ρ
noncomputable def j1C (ρ:Ro):Fl:=((q2T (w0D (q1y (q0d 0))) (q5R [3,4]) j5Y) ρ).bind j7V
noncomputable def j8s (ρ:Ro):Fl:=((q1V 2 (fun ρ=>((q09 q0E) ρ).bind λds=>.ok (.fr ds))) ρ).bind j1C
noncomputable def F_9:Fn:=fnF 7 j8s
theorem w2o (x:Tx K mg fa fd T):q1j P w K mg base (CXE T P w) 3 (fa 9) (fd 9) ["orders","most"] (spD T K 2 F_9):=
 have hT:=x.me
 have hT0:=q0t x.me
 q15 x.me x.F9 j6v λcdv A outer s H E hr=>
  (q0b (q1g 2 j6v.nd (DF.dr (q0L q0l)))
   (q0b (q0N rfl (q7d rfl x.n_enumerate (DE.dp (q0a 0))) (q5v rfl (q1m 3 j6v.nd (q1m 4 j6v.nd q3p))) (q0h (q0N rfl (j5T rfl x.n_range q0c (q0n q0y (q0F (q0a 4) (fo7 x)) q0c) (q0a 1)) (q0X 5 j6v.nd) (q0b (q0s 6 j6v.nd (q0n q0y (q0n q2t (q0F (q0a 4) (fo7 x)) (q0a 5)) q0c))
   (q0h (q17 2 (DR.de (q2r x.mk11 (w3g x) q1S hr.le rfl x.mC11 x.b5 .nil (λ_=>rfl) rfl (q0f (q0a 3) (q0f (q0a 5) (q0f (q0p (q5h rfl) rfl x.n_min rfl (q0e (q0a 1) (q0e (q0a 6) q0l))) q0m)))))))))))
   (q0h (q18 2))))
theorem w3F:q0q ["bakery"] ["bakery"] (q0j s_6):=by walk_at "sc"
noncomputable def j8u (ρ:Ro):Fl:=(q2N (eCB q4q (q0k (q1I (q00 (q4y (q1M [(14,3)] (q0d 0))) [] (q1M [(17,0)] (q0d 0)))) q0E))) ρ
noncomputable def F_6:Fn:=fnF 1 j8u
theorem w2h (x:Tx K mg fa fd T):q1j P w K mg base (CXE T P w) 1 (fa 6) (fd 6) ["bakery"] (spD T K 1 F_6):=
 have hT:=x.me
 have hT0:=q0t x.me
 q15 x.me x.F6 w3F λcdv A outer s H E hr=>
  (q0h (q0W (q0p (q4G rfl) rfl x.n_max rfl (q0e (DF.de (DC.df (q1h hT0 rfl (q7c (q0F (q0a 0) (fo1 x))) cap0 (λcl C s₀ H₀ ex=>(q0F (q0a 0) (fo12 x)))))) q0l))))
theorem j9Q:q0q ["bakery","orders","order","count"] ["bakery","orders"] (q0j s_8):=by walk_at "sc"
noncomputable def j4R (ρ:Ro):Fl:=(q1Q (rD (j5A (n:=2) 14 j8d (q0d 0) (gSh (q1M [(10,0)] (q0d 2)) gN0)))) ρ
noncomputable def j5y (ρ:Ro):Fl:=(q1Q (rD (q0r (n:=2) F_7 [] (gSh (q1M [(10,2)] (q0d 2)) (gSh (q1M [(14,0)] (q0d 0)) gN0))))) ρ
noncomputable def w0r (ρ:Ro):Fl:=(q1U 8 (q0k (eJ (q4I q7L (q0d 3) (q6k " batches, not at most " (q4I q7L (eC (.int 24)) jN0)))) q0E)) ρ
noncomputable def j8G (ρ:Ro):Fl:=(sIf (tB2 (i2 λi j=>.bl (decide (j < i))) (q0d 3) (eC (.int 24))) w0r Fl.nx) ρ
noncomputable def j5P (ρ:Ro):Fl:=((q08 3 (eCB q1Z (q0k (rD (q0r (n:=2) F_9 [] (gSh (q0d 1) (gSh (rD (q0r (n:=1) F_6 [] (gSh (q0d 0) gN0))) gN0)))) q0E))) ρ).bind j8G
noncomputable def j7G (ρ:Ro):Fl:=((q2T (q1y (q0d 1)) (q1n 2) j5y) ρ).bind j5P
noncomputable def j2m (ρ:Ro):Fl:=((q2T (q1y (q0d 1)) (q1n 2) j4R) ρ).bind j7G
noncomputable def j8a (ρ:Ro):Fl:=((q1Q (rD (q0r (n:=3) F_3 [] (gSh (eCB q1Z (q0k (q0d 1) q0E)) (gSh (eC (.int 0)) (gSh (eC (.int 12)) gN0)))))) ρ).bind j2m
noncomputable def F_8:Fn:=fnF 4 j8a
theorem w3k (x:Tx K mg fa fd T):q1j P w K mg base (CXE T P w) 4 (fa 8) (fd 8) ["bakery","orders"] (spD T K 2 F_8):=
 have hT:=x.me
 have hT0:=q0t x.me
 q15 x.me x.F8 j9Q λcdv A outer s H E hr=>
  (q0b (q0Y (DR.de (q0g (j97 x) hr.le x.c3 (q0f (q0p q0H rfl x.n_len rfl (q0e (q0a 1) q0l)) (q0f q0c (q0f (q0U rfl x.c_MOST_ORDERS) q0m))))))
   (q0b (q0N rfl (q02 (DE.dp (q0a 1))) (q0X 2 j9Q.nd) (q0h (q0Y (DR.de (j0x (q0a 0) x.cC14 x.mt24 (by rw [x.fl14];decide) (j83 x) hr.le x.b24 rfl (q0f (q0F (q0a 2) (fo8 x)) q0m))))))
   (q0b (q0N rfl (q02 (DE.dp (q0a 1))) (q0X 2 j9Q.nd) (q0h (q0Y (DR.de (q0g (w2X x) hr.le x.c7 (q0f (q0F (q0a 2) (fo10 x)) (q0f (q0F (q0a 0) (fo9 x)) q0m)))))))
   (q0b (q0s 3 j9Q.nd (q0p q0H rfl x.n_len rfl (q0e (DR.de (q0g (w2o x) hr.le x.c9 (q0f (q0a 1) (q0f (DR.de (q0g (w2h x) hr.le x.c6 (q0f (q0a 0) q0m))) q0m)))) q0l)))
   (q0h (q1d (q0S j4Z (q0a 3) (q0U rfl x.c_MOST_BATCHES) (nomark _)) (q0h (q1c (c:=8) rfl x.xc8 rfl x.mC8 (q0e (q2s (q2m (q0a 3) (q2d (q2m (q0U rfl x.c_MOST_BATCHES) q2Y)))) q0l) hsh1)) q0B))))))
theorem w0Y:q0q ["bakery","orders"] ["bakery","orders"] (q0j j9p):=by walk_at "sc"
noncomputable def j3p (ρ:Ro):Fl:=(q27 (q0r (n:=2) F_9 [] (gSh (q0d 1) (gSh (rD (q0r (n:=1) F_6 [] (gSh (q0d 0) gN0))) gN0)))) ρ
noncomputable def j36 (ρ:Ro):Fl:=((q1Q (rD (q0r (n:=2) F_8 [] (gSh (q0d 0) (gSh (q0d 1) gN0))))) ρ).bind j3p
noncomputable def j7n:Fn:=fnF 2 j36
theorem w1P (x:Tx K mg fa fd T):q1j P w K mg base (CXE T P w) 5 (fa 10) (fd 10) ["bakery","orders"] (spD T K 2 j7n):=
 have hT:=x.me
 have hT0:=q0t x.me
 q15 x.me x.F10 w0Y λcdv A outer s H E hr=>
  (q0b (q0Y (DR.de (q0g (w3k x) hr.le x.c8 (q0f (q0a 0) (q0f (q0a 1) q0m)))))
   (q0h (q1N (q0g (w2o x) hr.le x.c9 (q0f (q0a 1) (q0f (DR.de (q0g (w2h x) hr.le x.c6 (q0f (q0a 0) q0m))) q0m))))))
theorem w0T:q0q ["self"] ["self"] (q0j j93):=by walk_at "sc"
noncomputable def j0m (ρ:Ro):Fl:=(q2N (eCB j7v (q0k (q1I (q00 (q4y (q1M [(16,1)] (q0d 0))) [] (e2 (λa b=>bD false (eqS a b)) (q1M [(15,3)] (q0d 0)) (eC (.str "oven"))))) q0E))) ρ
noncomputable def j7I:Fn:=fnF 1 j0m
theorem j7x (x:Tx K mg fa fd T):q1j P w K mg base (CXE T P w) 1 (fa 30) (fd 30) ["self"] (spD T K 1 j7I):=
 have hT:=x.me
 have hT0:=q0t x.me
 q15 x.me x.F30 w0T λcdv A outer s H E hr=>
  (q0h (q0W (q0p (j6B rfl) rfl x.n_any rfl (q0e (DF.de (DC.df (q1h hT0 rfl (q7c (q0F (q0a 0) (fo4 x))) cap0 (λcl C s₀ H₀ ex=>(q6w q2K (q0F (q0a 0) (fo5 x)) q16 (nomark _)))))) q0l))))
theorem w1w:q0q ["bakery","bread","run"] ["bakery","bread","run"] (q0j j9V):=by walk_at "sc"
noncomputable def j7Y (ρ:Ro):Fl:=(q1U 9 (q0k (eC (.str "a run has another number of lengths than its bread has stages")) q0E)) ρ
noncomputable def j8L (ρ:Ro):Fl:=(q1U 9 (q0k (eC (.str "a run of a bread that bakes has no oven of the bakery")) q0E)) ρ
noncomputable def j8D (ρ:Ro):Fl:=(q1U 9 (q0k (eC (.str "a run of a bread that doesn't bake has an oven")) q0E)) ρ
noncomputable def j0V (ρ:Ro):Fl:=(sIf (q4Q (q1X (q46 (rD (q6W 16 j7I (q0d 1))))) (tB2 (λa b=>bD true (eqS a b)) (q1M [(12,2),(13,5)] (q0d 2)) (eC (.int 0)))) j8D Fl.nx) ρ
noncomputable def q96 (ρ:Ro):Fl:=((sIf (q4Q (q46 (rD (q6W 16 j7I (q0d 1)))) (q1X (fun ρ=>(q23 (i2 λi j=>.bl (decide (i<=j))) (i2 λi j=>.bl (decide (i<=j))) (eC (.int 1)) (q1M [(12,2),(13,5)] (q0d 2)) (eCB q1Z (q0k (q1M [(14,3)] (q0d 0)) q0E)) ρ).bind D.toB))) j8L Fl.nx) ρ).bind j0V
noncomputable def q6A (ρ:Ro):Fl:=((sIf (tB2 (λa b=>bD true (eqS a b)) (eCB q1Z (q0k (q1M [(12,1)] (q0d 2)) q0E)) (eCB q1Z (q0k (q1M [(16,1)] (q0d 1)) q0E))) j7Y Fl.nx) ρ).bind q96
noncomputable def j9G:Fn:=fnF 3 q6A
theorem w1D (x:Tx K mg fa fd T):q1j P w K mg base (CXE T P w) 2 (fa 15) (fd 15) ["bakery","bread","run"] (spD T K 3 j9G):=
 have hT:=x.me
 have hT0:=q0t x.me
 q15 x.me x.F15 w1w λcdv A outer s H E hr=>
  (q0b (q1d (q0S q4C (q0p q0H rfl x.n_len rfl (q0e (q0F (q0a 2) (fo13 x)) q0l)) (q0p q0H rfl x.n_len rfl (q0e (q0F (q0a 1) (fo4 x)) q0l)) (nomark _)) (q0h (q1c (c:=9) rfl x.xc9 rfl x.mC9 (q0e q16 q0l) hsh1)) q0B)
   (q0b (q1d (DW.dt (q4U (q01 (DR.de (q4p (q0a 1) x.cC16 x.mt30 (by rw [x.fl16];decide) (j7x x) hr.le x.b30 rfl))) (q3r (q1k (q2y q26 q26 q0c (q0F (q0a 2) (fo6 x)) (q0p q0H rfl x.n_len rfl (q0e (q0F (q0a 0) (fo1 x)) q0l))))))) (q0h (q1c (c:=9) rfl x.xc9 rfl x.mC9 (q0e q16 q0l) hsh1)) q0B)
   (q0h (q1d (DW.dt (q4U (q1k (q01 (DR.de (q4p (q0a 1) x.cC16 x.mt30 (by rw [x.fl16];decide) (j7x x) hr.le x.b30 rfl)))) (q3r (q0S q4C (q0F (q0a 2) (fo6 x)) q0c (nomark _))))) (q0h (q1c (c:=9) rfl x.xc9 rfl x.mC9 (q0e q16 q0l) hsh1)) q0B))))
theorem w09:q0q ["bakery","orders","batch"] ["bakery","orders","batch"] (q0j w0f):=by walk_at "sc"
noncomputable def q9H (ρ:Ro):Fl:=(q27 (j5A (n:=2) 14 j8d (q0d 0) (gSh (q1M [(10,0)] (e2 ixD (q0d 1) (e2 (i2 λi j=>.int (i-j)) (q1M [(11,0)] (q0d 2)) (eC (.int 1))))) gN0))) ρ
noncomputable def j7r:Fn:=fnF 3 q9H
theorem j8n (x:Tx K mg fa fd T):q1j P w K mg base (CXE T P w) 2 (fa 17) (fd 17) ["bakery","orders","batch"] (spD T K 3 j7r):=
 have hT:=x.me
 have hT0:=q0t x.me
 q15 x.me x.F17 w09 λcdv A outer s H E hr=>
  (q0h (q1N (j0x (q0a 0) x.cC14 x.mt24 (by rw [x.fl14];decide) (j83 x) hr.le x.b24 rfl (q0f (q0F (q0o (q0a 1) (q0n q2t (q0F (q0a 2) (fo14 x)) q0c)) (fo8 x)) q0m))))
theorem j2i:q0q ["bakery","orders","plan","batches","batch","run"] ["bakery","orders","plan"] (q0j j9g):=by walk_at "sc"
noncomputable def j6I (ρ:Ro):Fl:=(q1U 9 (q0k (eC (.str "the plan has another number of runs than there are batches")) q0E)) ρ
noncomputable def q8H (ρ:Ro):Fl:=(q1Q (rD (q0r (n:=3) j9G [] (gSh (q0d 0) (gSh (rD (q0r (n:=3) j7r [] (gSh (q0d 0) (gSh (q0d 1) (gSh (q0d 4) gN0))))) (gSh (q0d 5) gN0)))))) ρ
noncomputable def j75 (ρ:Ro):Fl:=(q2N (q0d 3)) ρ
noncomputable def q7s (ρ:Ro):Fl:=((q2T (j9e (q1y (q0d 3)) (q1y (q0d 2))) (q5R [4,5]) q8H) ρ).bind j75
noncomputable def j3A (ρ:Ro):Fl:=((sIf (tB2 (λa b=>bD true (eqS a b)) (eCB q1Z (q0k (q0d 2) q0E)) (eCB q1Z (q0k (q0d 3) q0E))) j6I Fl.nx) ρ).bind q7s
noncomputable def q9y (ρ:Ro):Fl:=((q08 3 (rD (q0r (n:=2) j7n [] (gSh (q0d 0) (gSh (q0d 1) gN0))))) ρ).bind j3A
noncomputable def j9D:Fn:=fnF 6 q9y
theorem w0y (x:Tx K mg fa fd T):q1j P w K mg base (CXE T P w) 6 (fa 16) (fd 16) ["bakery","orders","plan"] (spD T K 3 j9D):=
 have hT:=x.me
 have hT0:=q0t x.me
 q15 x.me x.F16 j2i λcdv A outer s H E hr=>
  (q0b (q0s 3 j2i.nd (DR.de (q0g (w1P x) hr.le x.c10 (q0f (q0a 0) (q0f (q0a 1) q0m)))))
   (q0b (q1d (q0S q4C (q0p q0H rfl x.n_len rfl (q0e (q0a 2) q0l)) (q0p q0H rfl x.n_len rfl (q0e (q0a 3) q0l)) (nomark _)) (q0h (q1c (c:=9) rfl x.xc9 rfl x.mC9 (q0e q16 q0l) hsh1)) q0B)
   (q0b (q0N rfl (j76 rfl x.n_zip (DE.dp (q0a 3)) (DE.dp (q0a 2))) (q5v rfl (q1m 4 j2i.nd (q1m 5 j2i.nd q3p))) (q0h (q0Y (DR.de (q0g (w1D x) hr.le x.c15 (q0f (q0a 0) (q0f (DR.de (q0g (j8n x) hr.le x.c17 (q0f (q0a 0) (q0f (q0a 1) (q0f (q0a 4) q0m))))) (q0f (q0a 5) q0m))))))))
   (q0h (q0W (q0a 3))))))
theorem j0b:q0q ["self","row","minute","length"] ["self"] (q0j j9W):=by walk_at "sc"
noncomputable def j3K (ρ:Ro):Fl:=(w1R 2 (q0d 3)) ρ
noncomputable def j0X (ρ:Ro):Fl:=((q5y 1 (j2j (q0k (q0d 2) (q0k (e2 q1l (q0d 2) (q0d 3)) q0E)))) ρ).bind j3K
noncomputable def j23 (ρ:Ro):Fl:=(q3y 1) ρ
noncomputable def q6p (ρ:Ro):Fl:=((q2T (q4y (q1M [(12,1)] (q0d 0))) (q1n 3) j0X) ρ).bind j23
noncomputable def j2M (ρ:Ro):Fl:=((q08 2 (q1M [(12,0),(13,2)] (q0d 0))) ρ).bind q6p
noncomputable def j0B (ρ:Ro):Fl:=((q1V 1 (fun ρ=>((q09 q0E) ρ).bind λds=>.ok (.fr ds))) ρ).bind j2M
noncomputable def j9s:Fn:=fnF 4 j0B
theorem w1M (x:Tx K mg fa fd T):q1j P w K mg base (CXE T P w) 1 (fa 13) (fd 13) ["self"] (spD T K 1 j9s):=
 have hT:=x.me
 have hT0:=q0t x.me
 q15 x.me x.F13 j0b λcdv A outer s H E hr=>
  (q0b (q1g 1 j0b.nd (DF.dr (q0L q0l)))
   (q0b (q0s 2 j0b.nd (q0F (q0a 0) (fo2 x)))
   (q0b (q0N rfl (q7c (q0F (q0a 0) (fo13 x))) (q0X 3 j0b.nd) (q0b (q17 1 (q2X (q0e (q0a 2) (q0e (q0n q0y (q0a 2) (q0a 3)) q0l))))
   (q0h (j6U 2 j0b.nd (q0a 3)))))
   (q0h (q18 1)))))
theorem w0K:q0q ["self","batch","stage","begin","until","loaves","oven"] ["self","batch","stage","begin","until","loaves","oven"] (q0j j9A):=by walk_at "sc"
noncomputable def j3d (ρ:Ro):Fl:=(q0P 13 5 (q0d 6)) ρ
noncomputable def j4u (ρ:Ro):Fl:=((q0P 13 4 (q0d 5)) ρ).bind j3d
noncomputable def j37 (ρ:Ro):Fl:=((q0P 13 3 (q0d 4)) ρ).bind j4u
noncomputable def j4F (ρ:Ro):Fl:=((q0P 13 2 (q0d 3)) ρ).bind j37
noncomputable def j4J (ρ:Ro):Fl:=((q0P 13 1 (q0d 2)) ρ).bind j4F
noncomputable def j4z (ρ:Ro):Fl:=((q0P 13 0 (q0d 1)) ρ).bind j4J
noncomputable def j9B:Fn:=q24 7 13 6 j4z
theorem w0Z (x:Tx K mg fa fd T):q1j P w K mg base (CXE T P w) 1 (fa 14) (fd 14) ["self","batch","stage","begin","until","loaves","oven"] (spI T K 13 7 j9B):=
 have hT0:=q0t x.me
 j3i x.me (by rw [x.fl13];rfl) (q3U x.F14) w0K λy cdv A outer s H E hr=>
  (q0b (q0V (c:=13) 0 x.cC13 x.na13_batch (flA x.fl13) (flN x.fl13) (by decide) (q0a 1))
   (q0b (q0V (c:=13) 1 x.cC13 x.na13_stage (flA x.fl13) (flN x.fl13) (by decide) (q0a 2))
   (q0b (q0V (c:=13) 2 x.cC13 x.na13_begin (flA x.fl13) (flN x.fl13) (by decide) (q0a 3))
   (q0b (q0V (c:=13) 3 x.cC13 x.na13_until (flA x.fl13) (flN x.fl13) (by decide) (q0a 4))
   (q0b (q0V (c:=13) 4 x.cC13 x.na13_loaves (flA x.fl13) (flN x.fl13) (by decide) (q0a 5))
   (q0h (q0V (c:=13) 5 x.cC13 x.na13_oven (flA x.fl13) (flN x.fl13) (by decide) (q0a 6))))))))
theorem q43:q0q ["bakery","orders","plan","row","number","batch","run","stage","span","oven"] ["bakery","orders","plan"] (q0j j9X):=by walk_at "sc"
noncomputable def q9t (ρ:Ro):Fl:=(q5y 3 (rD (q0r (n:=6) j9B [] (gSh (q0d 4) (gSh (q0d 7) (gSh (e2 ixD (q0d 8) (eC (.int 0))) (gSh (e2 ixD (q0d 8) (eC (.int 1))) (gSh (q1M [(10,1),(11,2),(13,4)] (q0d 5)) (gSh (q0d 9) gN0))))))))) ρ
noncomputable def q4J (ρ:Ro):Fl:=((q08 9 (eIf (tB2 (λa b=>bD false (eqS a b)) (q1M [(15,3)] (q0d 7)) (eC (.str "oven"))) (q1M [(12,2),(13,5)] (q0d 6)) (eC (.int 0)))) ρ).bind q9t
noncomputable def j0H (ρ:Ro):Fl:=(q2T (j9e (q4y (q1M [(16,1)] (rD (q0r (n:=3) j7r [] (gSh (q0d 0) (gSh (q0d 1) (gSh (q0d 5) gN0))))))) (q1y (rD (q6W 12 j9s (q0d 6))))) (q5R [7,8]) q4J) ρ
noncomputable def q9k (ρ:Ro):Fl:=((q08 6 (e2 ixD (q0d 2) (e2 (i2 λi j=>.int (i-j)) (q0d 4) (eC (.int 1))))) ρ).bind j0H
noncomputable def j6C (ρ:Ro):Fl:=(q3y 3) ρ
noncomputable def q8X (ρ:Ro):Fl:=((q2T (w0D (q1y (rD (q0r (n:=3) j9D [] (gSh (q0d 0) (gSh (q0d 1) (gSh (q0d 2) gN0))))))) (q5R [4,5]) q9k) ρ).bind j6C
noncomputable def q9p (ρ:Ro):Fl:=((q1V 3 (fun ρ=>((q09 q0E) ρ).bind λds=>.ok (.fr ds))) ρ).bind q8X
noncomputable def j9u:Fn:=fnF 10 q9p
theorem w1F (x:Tx K mg fa fd T):q1j P w K mg base (CXE T P w) 7 (fa 18) (fd 18) ["bakery","orders","plan"] (spD T K 3 j9u):=
 have hT:=x.me
 have hT0:=q0t x.me
 q15 x.me x.F18 q43 λcdv A outer s H E hr=>
  (q0b (q1g 3 q43.nd (DF.dr (q0L q0l)))
   (q0b (q0N rfl (q7d rfl x.n_enumerate (DE.dp (DR.de (q0g (w0y x) hr.le x.c16 (q0f (q0a 0) (q0f (q0a 1) (q0f (q0a 2) q0m))))))) (q5v rfl (q1m 4 q43.nd (q1m 5 q43.nd q3p))) (q0b (q0s 6 q43.nd (q0o (q0a 2) (q0n q2t (q0a 4) q0c)))
   (q0h (q0N rfl (j6k rfl x.n_zip (q0F (DR.de (q0g (j8n x) hr.le x.c17 (q0f (q0a 0) (q0f (q0a 1) (q0f (q0a 5) q0m))))) (fo4 x)) (DE.dp (DR.de (q4p (q0a 6) x.cC12 x.mt13 (by rw [x.fl12];decide) (w1M x) hr.le x.b13 rfl)))) (q5v rfl (q1m 7 q43.nd (q1m 8 q43.nd q3p))) (q0b (q0s 9 q43.nd (w1G (q0S q2K (q0F (q0a 7) (fo5 x)) q16 (nomark _)) (q0F (q0a 6) (fo6 x)) q0c))
   (q0h (q17 3 (DR.de (q2r x.mk13 (w0Z x) q1S hr.le rfl x.mC13 x.b14 .nil (λ_=>rfl) rfl (q0f (q0a 4) (q0f (q0a 7) (q0f (q0o (q0a 8) q0c) (q0f (q0o (q0a 8) q0c) (q0f (q0F (q0a 5) (fo7 x)) (q0f (q0a 9) q0m)))))))))))))))
   (q0h (q18 3))))
theorem w1e:q0q ["parts","oven"] ["parts","oven"] (q0j j9l):=by walk_at "sc"
noncomputable def j0O (ρ:Ro):Fl:=(q2N (eCB q8h (q0k (q1I (q1i (q1y (q0d 0)) [1] (tB2 (λa b=>bD false (eqS a b)) (q1M [(12,2),(13,5)] (q0d 0)) (q0d 1)) (q1M [(10,1),(11,2),(13,4)] (q0d 0)))) q0E))) ρ
noncomputable def j8g:Fn:=fnF 2 j0O
theorem w0s (x:Tx K mg fa fd T):q1j P w K mg base (CXE T P w) 1 (fa 21) (fd 21) ["parts","oven"] (spD T K 2 j8g):=
 have hT:=x.me
 have hT0:=q0t x.me
 q15 x.me x.F21 w1e λcdv A outer s H E hr=>
  (q0h (q0W (q0p (q9n rfl) rfl x.n_sum rfl (q0e (DF.de (DC.df (q2b hT0 rfl (q02 (DE.dp (q0a 0))) (j06 ["oven"] [1] (hc:=(q1f rfl rfl rfl q2p))) (λcl C s₀ H₀ ex=>(q0F (q0a 0) (fo7 x))) (λcl C s₀ H₀ ex=>(q0S q2K (q0F (q0a 0) (fo6 x)) (q0a 1) (nomark _)))))) q0l))))
theorem w0A:q0q ["parts","want"] ["parts","want"] (q0j j9n):=by walk_at "sc"
noncomputable def q9N (ρ:Ro):Fl:=(q2N (j5I (q1i (q1y (q0d 0)) [1] (tB2 (λa b=>bD false (eqS a b)) (q1M [(15,3)] (q1M [(13,1)] (q0d 0))) (q0d 1)) (q0d 0)))) ρ
noncomputable def j6L:Fn:=fnF 2 q9N
theorem j8M (x:Tx K mg fa fd T):q1j P w K mg base (CXE T P w) 1 (fa 20) (fd 20) ["parts","want"] (spD T K 2 j6L):=
 have hT:=x.me
 have hT0:=q0t x.me
 q15 x.me x.F20 w0A λcdv A outer s H E hr=>
  (q0h (q0W (q2U rfl x.n_len (DF.dl (DC.df (q2b hT0 rfl (q02 (DE.dp (q0a 0))) (j06 ["want"] [1] (hc:=(q1f rfl rfl rfl q2p))) (λcl C s₀ H₀ ex=>(q0a 0)) (λcl C s₀ H₀ ex=>(q0S q2K (q0F (q0F (q0a 0) (fo15 x)) (fo5 x)) (q0a 1) (nomark _)))))))))
theorem j5V:q0q ["bakery","orders","plan","minute","now","loaves"] ["bakery","orders","plan","minute"] (q0j j90):=by walk_at "sc"
noncomputable def q8o (ρ:Ro):Fl:=(j8w true (j46 (rD (q0r (n:=2) j6L [] (gSh (q0d 4) (gSh (eC (.str "hands")) gN0)))) (j46 (rD (q0r (n:=2) j6L [] (gSh (q0d 4) (gSh (eC (.str "bench")) gN0)))) (w1l 5 q0E)))) ρ
noncomputable def q9C (ρ:Ro):Fl:=((q1V 5 (fun ρ=>(q00 (q3a (n2 (eC (.int 1)) (e2 q1l (eCB q1Z (q0k (q1M [(14,3)] (q0d 0)) q0E)) (eC (.int 1))))) [4] (rD (q0r (n:=2) j8g [] (gSh (q0d 1) (gSh (q0d 0) gN0)))) ρ).bind λds=>.ok (.fr ds))) ρ).bind q8o
noncomputable def j0v (ρ:Ro):Fl:=((q08 4 (rD (q0r (n:=2) w0l [] (gSh (rD (q0r (n:=3) j9u [] (gSh (q0d 0) (gSh (q0d 1) (gSh (q0d 2) gN0))))) (gSh (q0d 3) gN0))))) ρ).bind q9C
noncomputable def j9w:Fn:=fnF 6 j0v
theorem w1o (x:Tx K mg fa fd T):q1j P w K mg base (CXE T P w) 8 (fa 22) (fd 22) ["bakery","orders","plan","minute"] (spD T K 4 j9w):=
 have hT:=x.me
 have hT0:=q0t x.me
 q15 x.me x.F22 j5V λcdv A outer s H E hr=>
  (q0b (q0s 4 j5V.nd (DR.de (q0g (w0H x) hr.le x.c19 (q0f (DR.de (q0g (w1F x) hr.le x.c18 (q0f (q0a 0) (q0f (q0a 1) (q0f (q0a 2) q0m))))) (q0f (q0a 3) q0m)))))
   (q0b (DC.set 5 j5V.nd (q1h hT0 rfl (q1r (w3r rfl x.n_range q0c (q0n q0y (q0p q0H rfl x.n_len rfl (q0e (q0F (q0a 0) (fo1 x)) q0l)) q0c))) (j06 ["now"] [4] (hc:=(q1f rfl rfl rfl q2p))) (λcl C s₀ H₀ ex=>(DR.de (q0g (w0s x) hr.le x.c21 (q0f (q0a 1) (q0f (q0a 0) q0m)))))))
   (q0h (j13 (q9Q (DR.de (q0g (j8M x) hr.le x.c20 (q0f (q0a 4) (q0f q16 q0m)))) (q9Q (DR.de (q0g (j8M x) hr.le x.c20 (q0f (q0a 4) (q0f q16 q0m)))) (j64 5 q0l)))))))
theorem w1U:q0q ["_law_found","_law_due"] ["_law_found","_law_due"] (q0j j9L):=by walk_at "sc"
noncomputable def j3B (ρ:Ro):Fl:=(q2N (j53 (j6o j6l (q0d 0)) (j53 (j8Z (j6o q9S (q0d 0))) (e2 (λa b=>bD false (eqS a b)) (q0d 0) (q0d 1))))) ρ
noncomputable def j1c:Fn:=fnF 2 j3B
theorem q6d (x:Tx K mg fa fd T):q1j P w K mg base (CXE T P w) 1 (fa 33) (fd 33) ["_law_found","_law_due"] (spD T K 2 j1c):=
 have hT:=x.me
 have hT0:=q0t x.me
 q15 x.me x.F33 w1U λcdv A outer s H E hr=>
  (q0h (q0W (j31 (q3e rfl x.n_isinstance (q0a 0) rfl x.n_int rfl j5F q7J) (j31 (j7X (q3e rfl x.n_isinstance (q0a 0) rfl x.n_bool rfl j15 q5L)) (j6V (q6w q2K (q0a 0) (q0a 1) (nomark _)))))))
theorem j8t:q0q ["_law_found","_law_due","_law_k"] ["_law_found","_law_due"] (q0j j9c):=by walk_at "sc"
noncomputable def j6M (ρ:Ro):Fl:=(q2N (eC (.bl false))) ρ
noncomputable def j67 (ρ:Ro):Fl:=(q2N (eC (.bl false))) ρ
noncomputable def q82 (ρ:Ro):Fl:=(sIf (q1X (q46 (rD (q0r (n:=2) j1c [] (gSh (e2 ixD (q0d 0) (q0d 2)) (gSh (w0F (j3R 1) (q0d 2)) gN0)))))) j67 Fl.nx) ρ
noncomputable def j80 (ρ:Ro):Fl:=(q2N (eC (.bl true))) ρ
noncomputable def q60 (ρ:Ro):Fl:=((q2T (q3a (n1 (j5I (j3R 1)))) (q1n 2) q82) ρ).bind j80
noncomputable def q95 (ρ:Ro):Fl:=((sIf (j5o (q1X (q46 (j6o q6x (q0d 0)))) (tB2 (λa b=>bD true (eqS a b)) (eCB q1Z (q0k (q0d 0) q0E)) (j5I (j3R 1)))) j6M Fl.nx) ρ).bind q60
noncomputable def j7R:Fn:=fnF 3 q95
theorem j9b (x:Tx K mg fa fd T):q1j P w K mg base (CXE T P w) 2 (fa 34) (fd 34) ["_law_found","_law_due"] (spD T K 2 j7R):=
 have hT:=x.me
 have hT0:=q0t x.me
 q15 x.me x.F34 j8t λcdv A outer s H E hr=>
  (q0b (q1d (DW.dt (q7C (q1k (q01 (q3e rfl x.n_isinstance (q0a 0) rfl x.n_list rfl j1M q5F))) (q3W (q0S q4C (q0p q0H rfl x.n_len rfl (q0e (q0a 0) q0l)) (q2U rfl x.n_len (q3L 1)) (nomark _))))) (q0h (q0W q2k)) q0B)
   (q0b (q0N rfl (q1r (q5k rfl x.n_range (q2U rfl x.n_len (q3L 1)))) (q0X 2 j8t.nd) (q0h (q1d (q1k (q01 (DR.de (q0g (q6d x) hr.le x.c33 (q0f (q0o (q0a 0) (q0a 2)) (q0f (j4d (q3L 1) (q0a 2)) q0m)))))) (q0h (q0W q2k)) q0B)))
   (q0h (q0W q2k))))
theorem j1t:q0q ["_law_found","_law_scene","_law_spans_here","_law_minute","_law_live","_law_due","_law_k"] ["_law_found","_law_scene","_law_spans_here","_law_minute"] (q0j w0e):=by walk_at "sc"
noncomputable def j8A (ρ:Ro):Fl:=(q2N (eC (.bl false))) ρ
noncomputable def j6F (ρ:Ro):Fl:=(q2N (eC (.bl false))) ρ
noncomputable def j8c (ρ:Ro):Fl:=(q2N (eC (.bl false))) ρ
noncomputable def q91 (ρ:Ro):Fl:=(q5y 5 (eCB q8h (q0k (q1I (q1i (q1y (q0d 4)) [6] (q4Q (tB2 (λa b=>bD false (eqS a b)) (e2 ixD (q0d 0) (eC (.int 0))) (eC (.int 3))) (tB2 (λa b=>bD false (eqS a b)) (e2 ixD (q0d 0) (eC (.int 5))) (e2 q1l (q0d 1) (eC (.int 1))))) (e2 ixD (q0d 0) (eC (.int 4))))) q0E))) ρ
noncomputable def j3b (ρ:Ro):Fl:=(q27 (q0r (n:=2) j7R [] (gSh (e2 ixD (q0d 0) (eC (.int 2))) (gBo 5 gN0)))) ρ
noncomputable def q6F (ρ:Ro):Fl:=((q2T (q3a (n1 (eCB q1Z (q0k (e2 ixD (q0d 1) (eC (.int 3))) q0E)))) (q1n 6) q91) ρ).bind j3b
noncomputable def j2S (ρ:Ro):Fl:=((q1V 5 (fun ρ=>((q09 q0E) ρ).bind λds=>.ok (.fr ds))) ρ).bind q6F
noncomputable def q6g (ρ:Ro):Fl:=((sIf (q1X (q46 (rD (q0r (n:=2) j1c [] (gSh (e2 ixD (q0d 0) (eC (.int 1))) (gSh (j5I (q1i (q1y (q0d 4)) [] (tB2 (λa b=>bD false (eqS a b)) (e2 ixD (q0d 0) (eC (.int 0))) (eC (.int 2))) (q0d 0))) gN0)))))) j8c Fl.nx) ρ).bind j2S
noncomputable def q6U (ρ:Ro):Fl:=((sIf (q1X (q46 (rD (q0r (n:=2) j1c [] (gSh (e2 ixD (q0d 0) (eC (.int 0))) (gSh (j5I (q1i (q1y (q0d 4)) [] (tB2 (λa b=>bD false (eqS a b)) (e2 ixD (q0d 0) (eC (.int 0))) (eC (.int 1))) (q0d 0))) gN0)))))) j6F Fl.nx) ρ).bind q6g
noncomputable def j0S (ρ:Ro):Fl:=((sIf (j5o (q1X (q46 (j6o q3h (q0d 0)))) (tB2 (λa b=>bD true (eqS a b)) (eCB q1Z (q0k (q0d 0) q0E)) (eC (.int 3)))) j8A Fl.nx) ρ).bind q6U
noncomputable def q5I (ρ:Ro):Fl:=((q08 4 (q1I (q1i (q1y (q0d 2)) [3] (q4Q (tB2 (i2 λi j=>.bl (decide (i<=j))) (e2 ixD (q0d 0) (eC (.int 1))) (q0d 1)) (tB2 (i2 λi j=>.bl (decide (i < j))) (q0d 1) (e2 ixD (q0d 0) (eC (.int 2))))) (q0d 0)))) ρ).bind j0S
noncomputable def j9K:Fn:=fnF 7 q5I
theorem w1N (x:Tx K mg fa fd T):q1j P w K mg base (CXE T P w) 3 (fa 51) (fd 51) ["_law_found","_law_scene","_law_spans_here","_law_minute"] (spD T K 4 j9K):=
 have hT:=x.me
 have hT0:=q0t x.me
 q15 x.me x.F51 j1t λcdv A outer s H E hr=>
  (q0b (DC.setF 4 j1t.nd (q2b hT0 rfl (q02 (DE.dp (q0a 2))) (j06 ["_law_minute"] [3] (hc:=(q1f rfl rfl rfl q2p))) (λcl C s₀ H₀ ex=>(q0a 0)) (λcl C s₀ H₀ ex=>(DW.dt (q4U (q0S q26 (q0o (q0a 0) q0c) (q0a 1) (nomark _)) (q3r (q0S j1k (q0a 1) (q0o (q0a 0) q0c) (nomark _))))))))
   (q0b (q1d (DW.dt (q7C (q1k (q01 (q3e rfl x.n_isinstance (q0a 0) rfl x.n_tuple rfl q5f q2Z))) (q3W (q0S q4C (q0p q0H rfl x.n_len rfl (q0e (q0a 0) q0l)) q0c (nomark _))))) (q0h (q0W q2k)) q0B)
   (q0b (q1d (q1k (q01 (DR.de (q0g (q6d x) hr.le x.c33 (q0f (q0o (q0a 0) q0c) (q0f (q2U rfl x.n_len (DF.dl (DC.df (q2b hT0 rfl (q02 (DE.dp (q0a 4))) cap0 (λcl C s₀ H₀ ex=>(q0a 0)) (λcl C s₀ H₀ ex=>(q0S q2K (q0o (q0a 0) q0c) q0c (nomark _))))))) q0m)))))) (q0h (q0W q2k)) q0B)
   (q0b (q1d (q1k (q01 (DR.de (q0g (q6d x) hr.le x.c33 (q0f (q0o (q0a 0) q0c) (q0f (q2U rfl x.n_len (DF.dl (DC.df (q2b hT0 rfl (q02 (DE.dp (q0a 4))) cap0 (λcl C s₀ H₀ ex=>(q0a 0)) (λcl C s₀ H₀ ex=>(q0S q2K (q0o (q0a 0) q0c) q0c (nomark _))))))) q0m)))))) (q0h (q0W q2k)) q0B)
   (q0b (q1g 5 j1t.nd (DF.dr (q0L q0l)))
   (q0b (q0N rfl (q1r (q5k rfl x.n_range (q0p q0H rfl x.n_len rfl (q0e (q0o (q0a 1) q0c) q0l)))) (q0X 6 j1t.nd) (q0h (q17 5 (q0p (q9n rfl) rfl x.n_sum rfl (q0e (DF.de (DC.df (q2b hT0 rfl (q02 (DE.dp (q0a 4))) (j06 ["_law_k"] [6] (hc:=(q1f rfl rfl rfl q2p))) (λcl C s₀ H₀ ex=>(q0o (q0a 0) q0c)) (λcl C s₀ H₀ ex=>(DW.dt (q4U (q0S q2K (q0o (q0a 0) q0c) q0c (nomark _)) (q3r (q0S q2K (q0o (q0a 0) q0c) (q0n q0y (q0a 1) q0c) (nomark _))))))))) q0l)))))
   (q0h (q1N (q0g (j9b x) hr.le x.c34 (q0f (q0o (q0a 0) q0c) (j88 5 q0m)))))))))))
theorem j8K:q0q ["_law_plan","_law_rows","_law_k"] ["_law_plan","_law_rows"] (q0j w0d):=by walk_at "sc"
noncomputable def j6T (ρ:Ro):Fl:=(q2N (eC (.bl false))) ρ
noncomputable def j6O (ρ:Ro):Fl:=(q2N (eC (.bl false))) ρ
noncomputable def j69 (ρ:Ro):Fl:=(q2N (eC (.bl false))) ρ
noncomputable def j25 (ρ:Ro):Fl:=(sIf (j5o (q1X (q46 (j6o q3h (q1M [(12,1)] (e2 ixD (q0d 0) (q0d 2)))))) (q1X (q46 (rD (q0r (n:=2) j7R [] (gSh (q1I (q4y (q1M [(12,1)] (e2 ixD (q0d 0) (q0d 2))))) (gSh (e2 ixD (e2 ixD (q0d 1) (q0d 2)) (eC (.int 1))) gN0))))))) j69 Fl.nx) ρ
noncomputable def j0n (ρ:Ro):Fl:=((sIf (j5o (q1X (q46 (rD (q0r (n:=2) j1c [] (gSh (q1M [(12,0),(13,2)] (e2 ixD (q0d 0) (q0d 2))) (gSh (e2 ixD (e2 ixD (q0d 1) (q0d 2)) (eC (.int 0))) gN0)))))) (q1X (q46 (rD (q0r (n:=2) j1c [] (gSh (q1M [(12,2),(13,5)] (e2 ixD (q0d 0) (q0d 2))) (gSh (e2 ixD (e2 ixD (q0d 1) (q0d 2)) (eC (.int 2))) gN0))))))) j6O Fl.nx) ρ).bind j25
noncomputable def j8B (ρ:Ro):Fl:=(q2N (eC (.bl true))) ρ
noncomputable def q61 (ρ:Ro):Fl:=((q2T (q3a (n1 (eCB q1Z (q0k (q0d 1) q0E)))) (q1n 2) j0n) ρ).bind j8B
noncomputable def q9j (ρ:Ro):Fl:=((sIf (tB2 (λa b=>bD true (eqS a b)) (eCB q1Z (q0k (q0d 0) q0E)) (eCB q1Z (q0k (q0d 1) q0E))) j6T Fl.nx) ρ).bind q61
noncomputable def j9M:Fn:=fnF 3 q9j
theorem w0S (x:Tx K mg fa fd T):q1j P w K mg base (CXE T P w) 3 (fa 46) (fd 46) ["_law_plan","_law_rows"] (spD T K 2 j9M):=
 have hT:=x.me
 have hT0:=q0t x.me
 q15 x.me x.F46 j8K λcdv A outer s H E hr=>
  (q0b (q1d (q0S q4C (q0p q0H rfl x.n_len rfl (q0e (q0a 0) q0l)) (q0p q0H rfl x.n_len rfl (q0e (q0a 1) q0l)) (nomark _)) (q0h (q0W q2k)) q0B)
   (q0b (q0N rfl (q1r (q5k rfl x.n_range (q0p q0H rfl x.n_len rfl (q0e (q0a 1) q0l)))) (q0X 2 j8K.nd) (q0b (q1d (DW.dt (q7C (q1k (q01 (DR.de (q0g (q6d x) hr.le x.c33 (q0f (q0F (q0o (q0a 0) (q0a 2)) (fo2 x)) (q0f (q0o (q0o (q0a 1) (q0a 2)) q0c) q0m)))))) (q3W (q1k (q01 (DR.de (q0g (q6d x) hr.le x.c33 (q0f (q0F (q0o (q0a 0) (q0a 2)) (fo6 x)) (q0f (q0o (q0o (q0a 1) (q0a 2)) q0c) q0m))))))))) (q0h (q0W q2k)) q0B)
   (q0h (q1d (DW.dt (q7C (q1k (q01 (q3e rfl x.n_isinstance (q0F (q0o (q0a 0) (q0a 2)) (fo13 x)) rfl x.n_tuple rfl q5f q2Z))) (q3W (q1k (q01 (DR.de (q0g (j9b x) hr.le x.c34 (q0f (DF.de (j18 rfl x.n_list (q0F (q0o (q0a 0) (q0a 2)) (fo13 x)))) (q0f (q0o (q0o (q0a 1) (q0a 2)) q0c) q0m))))))))) (q0h (q0W q2k)) q0B))))
   (q0h (q0W q2k))))
theorem j56:q0q ["_law_orders_here","_law_asked","_law_names_here","_law_k","_law_row_here"] ["_law_orders_here","_law_asked","_law_names_here"] (q0j j9I):=by walk_at "sc"
noncomputable def j7O (ρ:Ro):Fl:=(q2N (eC (.bl false))) ρ
noncomputable def j7Q (ρ:Ro):Fl:=(q2N (eC (.bl false))) ρ
noncomputable def j8E (ρ:Ro):Fl:=(q2N (eC (.bl false))) ρ
noncomputable def j3k (ρ:Ro):Fl:=(sIf (q1X (q46 (rD (q0r (n:=2) j1c [] (gSh (q1M [(10,2)] (e2 ixD (q0d 0) (q0d 3))) (gSh (e2 ixD (q0d 4) (eC (.int 2))) gN0)))))) j8E Fl.nx) ρ
noncomputable def j3q (ρ:Ro):Fl:=((sIf (j5o (tB2 (λa b=>bD true (eqS a b)) (q1M [(10,0)] (e2 ixD (q0d 0) (q0d 3))) (e2 ixD (q0d 2) (e2 ixD (q0d 4) (eC (.int 0))))) (q1X (q46 (rD (q0r (n:=2) j1c [] (gSh (q1M [(10,1),(11,2),(13,4)] (e2 ixD (q0d 0) (q0d 3))) (gSh (e2 ixD (q0d 4) (eC (.int 1))) gN0))))))) j7Q Fl.nx) ρ).bind j3k
noncomputable def q80 (ρ:Ro):Fl:=((q08 4 (e2 ixD (q0d 1) (q0d 3))) ρ).bind j3q
noncomputable def j4a (ρ:Ro):Fl:=(q2N (eC (.bl true))) ρ
noncomputable def q6C (ρ:Ro):Fl:=((q2T (q3a (n1 (eCB q1Z (q0k (q0d 1) q0E)))) (q1n 3) q80) ρ).bind j4a
noncomputable def j0I (ρ:Ro):Fl:=((sIf (tB2 (λa b=>bD true (eqS a b)) (eCB q1Z (q0k (q0d 0) q0E)) (eCB q1Z (q0k (q0d 1) q0E))) j7O Fl.nx) ρ).bind q6C
noncomputable def j9f:Fn:=fnF 5 j0I
theorem w1I (x:Tx K mg fa fd T):q1j P w K mg base (CXE T P w) 2 (fa 49) (fd 49) ["_law_orders_here","_law_asked","_law_names_here"] (spD T K 3 j9f):=
 have hT:=x.me
 have hT0:=q0t x.me
 q15 x.me x.F49 j56 λcdv A outer s H E hr=>
  (q0b (q1d (q0S q4C (q0p q0H rfl x.n_len rfl (q0e (q0a 0) q0l)) (q0p q0H rfl x.n_len rfl (q0e (q0a 1) q0l)) (nomark _)) (q0h (q0W q2k)) q0B)
   (q0b (q0N rfl (q1r (q5k rfl x.n_range (q0p q0H rfl x.n_len rfl (q0e (q0a 1) q0l)))) (q0X 3 j56.nd) (q0b (q0s 4 j56.nd (q0o (q0a 1) (q0a 3)))
   (q0b (q1d (DW.dt (q7C (q0S q4C (q0F (q0o (q0a 0) (q0a 3)) (fo8 x)) (q0o (q0a 2) (q0o (q0a 4) q0c)) (nomark _)) (q3W (q1k (q01 (DR.de (q0g (q6d x) hr.le x.c33 (q0f (q0F (q0o (q0a 0) (q0a 3)) (fo7 x)) (q0f (q0o (q0a 4) q0c) q0m))))))))) (q0h (q0W q2k)) q0B)
   (q0h (q1d (q1k (q01 (DR.de (q0g (q6d x) hr.le x.c33 (q0f (q0F (q0o (q0a 0) (q0a 3)) (fo10 x)) (q0f (q0o (q0a 4) q0c) q0m)))))) (q0h (q0W q2k)) q0B)))))
   (q0h (q0W q2k))))
theorem q2g:q0q ["_law_script","_law_scene","_law_batches_here","_law_rows","_law_names_here","_law_bakery_here","_law_orders_here","_law_spans_here","_law_far","_law_minutes","_law_row_here","_law_one","_law_two","_law_plan","_law_minute","_law_found"] ["_law_script"] (q0j w0j):=by walk_at "sc"
noncomputable def j21 (ρ:Ro):Fl:=(q08 9 (q1I (j9i (q1y (q0d 9)) (q09 (q0k (e2 ixD (q0d 11) (eC (.int 1))) (q0k (e2 ixD (q0d 11) (eC (.int 2))) (q0k (e2 (i2 λi j=>.int (i-j)) (e2 ixD (q0d 12) (eC (.int 1))) (eC (.int 1))) q0E))))))) ρ
noncomputable def j39 (ρ:Ro):Fl:=((q08 12 (e2 ixD (q0d 7) (e2 (i2c q0G λi j=>.int (i % j)) (rD (q0r (n:=2) q2z [] (gSh (q0d 0) (gSh (eC (.int 61)) gN0)))) (eCB q1Z (q0k (q0d 7) q0E))))) ρ).bind j21
noncomputable def j22 (ρ:Ro):Fl:=((q08 11 (e2 ixD (q0d 7) (e2 (i2c q0G λi j=>.int (i % j)) (rD (q0r (n:=2) q2z [] (gSh (q0d 0) (gSh (eC (.int 60)) gN0)))) (eCB q1Z (q0k (q0d 7) q0E))))) ρ).bind j39
noncomputable def j7E (ρ:Ro):Fl:=(q2N (eC (.bl false))) ρ
noncomputable def j3C (ρ:Ro):Fl:=(q8G 15 2 (eC (.int 7))) ρ
noncomputable def j2O (ρ:Ro):Fl:=((sIf (fun ρ=>(q1X (q46 (rD (q0r (n:=4) j9K [] (gSh (q0d 15) (gSh (q0d 1) (gSh (q0d 7) (gSh (q0d 14) gN0)))))))) (vwR 15 ρ)) j7E Fl.nx) ρ).bind j3C
noncomputable def q7m (ρ:Ro):Fl:=((q1V 15 (q0r (n:=4) j9w [] (gSh (q0d 5) (gSh (q0d 6) (gSh (q0d 13) (gSh (q0d 14) gN0)))))) ρ).bind j2O
noncomputable def j7k (ρ:Ro):Fl:=(q2N (eC (.bl false))) ρ
noncomputable def j2Z (ρ:Ro):Fl:=(sIf (q1X (q46 (rD (q0r (n:=2) j9M [] (gSh (q0d 13) (gSh (q0d 10) gN0)))))) j7k Fl.nx) ρ
noncomputable def q4t (ρ:Ro):Fl:=((q2T (q1y (q0d 9)) (q1n 14) q7m) ρ).bind j2Z
noncomputable def j00 (ρ:Ro):Fl:=((q08 7 (rD (q0r (n:=3) j60 [] (gSh (q0d 1) (gSh (q0d 2) (gSh (q0d 10) gN0)))))) ρ).bind q4t
noncomputable def q3z (ρ:Ro):Fl:=((q08 13 (rD (q0r (n:=1) j9F [] (gSh (q0d 10) gN0)))) ρ).bind j00
noncomputable def q9M (ρ:Ro):Fl:=(q27 (q0r (n:=3) j9f [] (gSh (q0d 6) (gSh (e2 ixD (q0d 1) (eC (.int 5))) (gSh (q0d 4) gN0))))) ρ
noncomputable def q2W (ρ:Ro):Fl:=((q2T (q1y (q1I (q09 (q0k (q0d 3) (q0k (rD (q0r (n:=2) j6w [] (gSh (q0d 0) (gSh (q0d 3) gN0)))) (q0k (q0d 3) q0E)))))) (q1n 10) q3z) ρ).bind q9M
noncomputable def q3m (ρ:Ro):Fl:=((sIf (tB2 (j3P true) (q0d 7) (q1I (q09 q0E))) j22 Fl.nx) ρ).bind q2W
noncomputable def j0K (ρ:Ro):Fl:=((q08 9 (q1I (q09 (q0k (e2 (i2 λi j=>.int (i-j)) (e2 (i2c q0G λi j=>.int (i % j)) (rD (q0r (n:=2) q2z [] (gSh (q0d 0) (gSh (eC (.int 60)) gN0)))) (eC (.int 1510))) (eC (.int 9))) (q0k (e2 ixD (q1I (q09 (q0k (e2 (i2 λi j=>.int (i-j)) (eC (.int 0)) (q0d 8)) (q0k (q0d 8) q0E)))) (e2 (i2c q0G λi j=>.int (i % j)) (rD (q0r (n:=2) q2z [] (gSh (q0d 0) (gSh (eC (.int 61)) gN0)))) (eC (.int 2)))) q0E))))) ρ).bind q3m
noncomputable def j0A (ρ:Ro):Fl:=((q08 8 (e2 (i2c q0G λi j=>.int (i % j)) (rD (q0r (n:=2) q2z [] (gSh (q0d 0) (gSh (eC (.int 60)) gN0)))) (e2 (i2c j5R λi j=>.int (i ^ j.toNat)) (eC (.int 10)) (eC (.int 30))))) ρ).bind j0K
noncomputable def q8x (ρ:Ro):Fl:=((q08 7 (rD (q0r (n:=3) j60 [] (gSh (q0d 1) (gSh (q0d 2) (gSh (q0d 3) gN0)))))) ρ).bind j0A
noncomputable def j0N (ρ:Ro):Fl:=((q08 6 (rD (q0r (n:=2) w0h [] (gSh (e2 ixD (q0d 1) (eC (.int 5))) (gSh (q0d 4) gN0))))) ρ).bind q8x
noncomputable def q8p (ρ:Ro):Fl:=((q08 5 (rD (q0r (n:=2) j9Z [] (gSh (q0d 1) (gSh (q0d 4) gN0))))) ρ).bind j0N
noncomputable def q9h (ρ:Ro):Fl:=((q08 4 (rD (q0r (n:=2) j6Q [] (gSh (rD (q0r (n:=2) q2z [] (gSh (q0d 0) (gSh (eC (.int 62)) gN0)))) (gSh (eCB q1Z (q0k (e2 ixD (q0d 1) (eC (.int 4))) q0E)) gN0))))) ρ).bind q8p
noncomputable def q8m (ρ:Ro):Fl:=((q08 3 (rD (q0r (n:=3) w0c [] (gSh (q0d 0) (gSh (q0d 1) (gSh (q0d 2) gN0)))))) ρ).bind q9h
noncomputable def q89 (ρ:Ro):Fl:=((q08 2 (rD (q0r (n:=1) j9z [] (gSh (q0d 1) gN0)))) ρ).bind q8m
noncomputable def q5K (ρ:Ro):Fl:=((q08 1 (rD (q0r (n:=1) j9C [] (gSh (q0d 0) gN0)))) ρ).bind q89
noncomputable def j66:Fn:=fnF 16 q5K
theorem w1g (x:Tx K mg fa fd T):q1j P w K mg base (CXE T P w) 9 (fa 52) (fd 52) ["_law_script"] (spD T K 1 j66):=
 have hT:=x.me
 have hT0:=q0t x.me
 q15 x.me x.F52 q2g λcdv A outer s H E hr=>
  (q0b (q0s 1 q2g.nd (DR.de (q0g (w01 x) hr.le x.c38 (q0f (q0a 0) q0m))))
   (q0b (q0s 2 q2g.nd (DR.de (q0g (w1O x) hr.le x.c42 (q0f (q0a 1) q0m))))
   (q0b (q0s 3 q2g.nd (DR.de (q0g (w1S x) hr.le x.c41 (q0f (q0a 0) (q0f (q0a 1) (q0f (q0a 2) q0m))))))
   (q0b (q0s 4 q2g.nd (DR.de (q0g (w0x x) hr.le x.c35 (q0f (DR.de (q0g (q1q x) hr.le x.c32 (q0f (q0a 0) (q0f q0c q0m)))) (q0f (q0p q0H rfl x.n_len rfl (q0e (q0o (q0a 1) q0c) q0l)) q0m)))))
   (q0b (q0s 5 q2g.nd (DR.de (q0g (w1L x) hr.le x.c43 (q0f (q0a 1) (q0f (q0a 4) q0m)))))
   (q0b (q0s 6 q2g.nd (DR.de (q0g (w1t x) hr.le x.c44 (q0f (q0o (q0a 1) q0c) (q0f (q0a 4) q0m)))))
   (q0b (q0s 7 q2g.nd (DR.de (q0g (j6W x) hr.le x.c48 (q0f (q0a 1) (q0f (q0a 2) (q0f (q0a 3) q0m))))))
   (q0b (q0s 8 q2g.nd (q0n q0w (DR.de (q0g (q1q x) hr.le x.c32 (q0f (q0a 0) (q0f q0c q0m)))) (q0n j7W q0c q0c)))
   (q0b (q0s 9 q2g.nd (DF.de (q0L (q0e (q0n q2t (q0n q0w (DR.de (q0g (q1q x) hr.le x.c32 (q0f (q0a 0) (q0f q0c q0m)))) q0c) q0c) (q0e (q0o (DF.de (q0L (q0e (q0n q2t q0c (q0a 8)) (q0e (q0a 8) q0l)))) (q0n q0w (DR.de (q0g (q1q x) hr.le x.c32 (q0f (q0a 0) (q0f q0c q0m)))) q0c)) q0l)))))
   (q0b (q1d (q0S (q8v hr) (q0a 7) (DF.de (q0L q0l)) (nomark _)) (q0b (q0s 11 q2g.nd (q0o (q0a 7) (q0n q0w (DR.de (q0g (q1q x) hr.le x.c32 (q0f (q0a 0) (q0f q0c q0m)))) (q0p q0H rfl x.n_len rfl (q0e (q0a 7) q0l)))))
   (q0b (q0s 12 q2g.nd (q0o (q0a 7) (q0n q0w (DR.de (q0g (q1q x) hr.le x.c32 (q0f (q0a 0) (q0f q0c q0m)))) (q0p q0H rfl x.n_len rfl (q0e (q0a 7) q0l)))))
   (q0h (q0s 9 q2g.nd (DF.de (j0l (DE.dl (q0a 9)) (DF.dl (q0L (q0e (q0o (q0a 11) q0c) (q0e (q0o (q0a 11) q0c) (q0e (q0n q2t (q0o (q0a 12) q0c) q0c) q0l))))))))))) q0B)
   (q0b (q0N rfl (q02 (DE.dp (DF.de (q0L (q0e (q0a 3) (q0e (DR.de (q0g (w0w x) hr.le x.c50 (q0f (q0a 0) (q0f (q0a 3) q0m)))) (q0e (q0a 3) q0l))))))) (q0X 10 q2g.nd) (q0b (q0s 13 q2g.nd (DR.de (q0g (w0C x) hr.le x.c45 (q0f (q0a 10) q0m))))
   (q0b (q0s 7 q2g.nd (DR.de (q0g (j6W x) hr.le x.c48 (q0f (q0a 1) (q0f (q0a 2) (q0f (q0a 10) q0m))))))
   (q0b (q0N rfl (q02 (DE.dp (q0a 9))) (q0X 14 q2g.nd) (q0b (q1g 15 q2g.nd (q0g (w1o x) hr.le x.c22 (q0f (q0a 5) (q0f (q0a 6) (q0f (q0a 13) (q0f (q0a 14) q0m))))))
   (q0b (q1d (j6e 15 (q1k (q01 (DR.de (q0g (w1N x) hr.le x.c51 (q0f (q0a 15) (q0f (q0a 1) (q0f (q0a 7) (q0f (q0a 14) q0m))))))))) (q0h (q0W q2k)) q0B)
   (q0h (j1g 15 q0c)))))
   (q0h (q1d (q1k (q01 (DR.de (q0g (w0S x) hr.le x.c46 (q0f (q0a 13) (q0f (q0a 10) q0m)))))) (q0h (q0W q2k)) q0B))))))
   (q0h (q1N (q0g (w1I x) hr.le x.c49 (q0f (q0a 6) (q0f (q0o (q0a 1) q0c) (q0f (q0a 4) q0m)))))))))))))))))
end
end Lw
open PySem L2 L3
namespace Lw
noncomputable def pk (ns:List Int) (k:Nat):Int:=if ns.length=0 then (k:Int) else ns.getD (k % ns.length) 0+7*((k / ns.length:Nat):Int)
theorem w0X (ns:List Int) (hn:ns.length<=63) (k:Nat) (hk:k<=100000):q2z [.sh (.lst (ns.map D.int)),.sh (.int k)]=.ok (.sh (.int (pk ns k))):=by
 unfold pk
 have lm:(ns.map D.int).length=ns.length:=by simp
 by_cases h:ns.length=0
 ·rw [if_pos h]
  generalize ns.map D.int=nn at *
  have h2:nn.length=0:=by omega
  simp [q2z,q87,j3u,h2]
 ·rw [if_neg h]
  have lt:k % ns.length < ns.length:=Nat.mod_lt _ (by omega)
  have e:atI (ns.map D.int) ((k:Int) % (ns.length:Int))=some (.int (ns.getD (k % ns.length) 0)):=by
   rw [show (k:Int) % (ns.length:Int)=((k % ns.length:Nat):Int) from rfl]
   refine q0C ?_
   rw [List.getElem?_map,List.getElem?_eq_getElem lt,List.getD_eq_getElem?_getD,List.getElem?_eq_getElem lt]
   rfl
  have mo:q1R 7 ((k:Int) / (ns.length:Int))=true:=by
   unfold q1R
   simp only [Bool.or_eq_true,Bool.and_eq_true,decide_eq_true_eq]
   left;constructor<;>decide
  generalize ns.getD (k % ns.length) 0=v at *
  generalize ns.map D.int=nn at *
  have h2:¬nn.length=0:=by omega
  have h3:0 < (nn.length:Int):=by omega
  have h3':0 < nn.length:=by omega
  have h4:nn.length < 1073741824:=by omega
  have h5:(nn.length:Int) < 1073741824:=by omega
  rw [<-lm] at e mo ⊢
  rw [<-lm] at lt
  simp [q2z,q87,j4h,h2,h3,h3',h4,h5,e,mo]
theorem is_ (i j:Int):j1c [.sh (.int i),.sh (.int j)]=.ok (.sh (.bl (decide (i=j)))):=by simp [j1c,j3B]
theorem q1O {n:Int} (h:n.natAbs < 2 ^ 200):n.natAbs.log2 < 1920:=by
 by_cases h0:n.natAbs=0
 ·rw [h0];decide
 ·rw [Nat.log2_lt h0]
  exact Nat.lt_of_lt_of_le h (Nat.pow_le_pow_right (by decide) (by decide))
theorem chkn (n lo hi:Int) (hn:n.natAbs.log2 < 1920) (hl:lo.natAbs.log2 < 1920) (hh:hi.natAbs.log2 < 1920):F_2 [.sh (.int n),.sh (.int lo),.sh (.int hi)]=if lo<=n/\n<=hi then .ok (.sh .non) else .exc 3:=by
 have l1:Str.length " does not lie from "<=200000:=by decide
 have l2:Str.length " to "<=200000:=by decide
 by_cases h1:lo<=n
 ·by_cases h2:n<=hi
  ·simp [F_2,j2c,h1,h2]
  ·simp [F_2,j2c,j4S,h1,h2,hn,hl,hh,l1,l2]
 ·simp [F_2,j2c,j4S,h1,hn,hl,hh,l1,l2]
noncomputable abbrev abc:Str:="abcdefghijklmnopqrstuvwxyz"
theorem j4k:Tz 26 abc:=⟨by decide +kernel,by decide +kernel⟩
theorem j4X:abc.length=26:=by decide +kernel
noncomputable def oc (c:Nat):Bool:=!(Builtin.Str.occurrences abc ⟨#[c]⟩ 0 abc.length 1).isEmpty
noncomputable def good (z:Str):Prop:=(1<=(z.length:Int)/\(z.length:Int)<=12)/\z.cps.toList.all oc=true
theorem q63 (ρ:Ro):∀cs:List Nat,q6y (λd=>e2 (inD false) (q0d 0) (eC (.str abc)) (q03 [] ρ d)) (cs.map λc=>D.str ⟨#[c]⟩)=some ((cs.map oc).map D.bl)
 | []=>rfl
 | c::cs=>by
  rw [List.map_cons,q6y,q63 ρ cs]
  rfl
theorem q4F:∀bs:List Bool,j1a (bs.map D.bl)=some bs
 | []=>rfl
 | b::bs=>by rw [List.map_cons,j1a,q4F bs]
theorem j5p (z:Str) (hz:z.length<=1000) (ρ:Ro) (h0:q0d 0 ρ=.ok (.str z)):eCB j6y (q0k (q1I (q00 (j6x (q0d 0)) [] (e2 (inD false) (q0d 0) (eC (.str abc))))) q0E) ρ=.ok (.bl (z.cps.toList.all oc)):=by
 have e1:q00 (j6x (q0d 0)) [] (e2 (inD false) (q0d 0) (eC (.str abc))) ρ=.ok ((z.cps.toList.map oc).map D.bl):=by
  rw [q00,j6x,h0,Out.ok_bind,D.toS,Out.ok_bind]
  rw [if_pos (by simp [signs,Str.length] at hz ⊢; omega),signs,q63]
 rw [eCB,q0k,q1I,e1,Out.ok_bind,Out.ok_bind,q0E,Out.ok_bind,Out.ok_bind]
 rw [j6y,q4F]
 simp [List.all_map]
theorem j5e (z:Str) (hz:Tz 1000 z):F_1 [.sh (.str z)]=open Classical in if good z then .ok (.sh .non) else .exc 1:=by
 have hl:z.length<=1000000:=by have:=hz.len;omega
 have al:=j5p z hz.len [.sh (.str z)] rfl
 have l1:Str.length " is not 1 to "<=200000:=by decide
 have l2:Str.length " small letters"<=200000:=by decide
 have rp:=hz.repr (Nat.le_refl _)
 have m12:Nat.log2 12 < 1920:=by decide
 have bad:j1u [.sh (.str z)]=.exc 1 [.sh (.str z)]:=by
  simp [j1u,l1,l2,rp,m12]
 have step:∀b:Bool,z.cps.toList.all oc=b->j1G [.sh (.str z)]=if (1<=(z.length:Int)/\(z.length:Int)<=12)/\b=true then .nx [.sh (.str z)] else .exc 1 [.sh (.str z)]:=by
  intro b hb
  rw [hb] at al
  rw [<-bad,j1G]
  generalize j1u=G
  generalize hA:eCB j6y (q0k (q1I (q00 (j6x (q0d 0)) [] (e2 (inD false) (q0d 0) (eC (.str "abcdefghijklmnopqrstuvwxyz"))))) q0E)=A
  have al:A [.sh (.str z)]=.ok (.bl b):=by rw [<-hA];exact al
  clear hA
  by_cases h1:1<=(z.length:Int)
  ·by_cases h2:(z.length:Int)<=12
   ·cases b<;>simp [hl,h1,h2,al]
   ·simp [hl,h1,h2]
  ·simp [hl,h1]
 have st:=step _ rfl
 rw [F_1,fnF]
 show (match j1G [.sh (.str z)] with | .nx _=>_ | .rt r=>_ | .exc c _=>_ | _=>_)=_
 rw [st]
 by_cases h:good z
 ·rw [if_pos h,if_pos (show _/\_ from h)]
 ·rw [if_neg h,if_neg (show ¬(_/\_) from h)]
theorem chkc (n lo hi:Int) (hn:n.natAbs.log2 < 1920) (hl:lo.natAbs.log2 < 1920) (hh:hi.natAbs.log2 < 1920):F_3 [.sh (.int n),.sh (.int lo),.sh (.int hi)]=if lo<=n/\n<=hi then .ok (.sh .non) else .exc 4:=by
 have l1:Str.length " of them, not "<=200000:=by decide
 have l2:Str.length " to "<=200000:=by decide
 by_cases h1:lo<=n
 ·by_cases h2:n<=hi
  ·simp [F_3,j12,h1,h2]
  ·simp [F_3,j12,j41,h1,h2,hn,hl,hh,l1,l2]
 ·simp [F_3,j12,j41,h1,hn,hl,hh,l1,l2]
theorem small2 {n:Nat} (h:n<=1000000):(n:Int).natAbs.log2 < 1920:=q1O (by simp;omega)
noncomputable def wOk (w:Str):Bool:=inV (.str w) [V.str "nothing",V.str "hands",V.str "bench",V.str "oven"]
theorem j5Q (w:Str):inD true (.str w) (.tup [.str "nothing",.str "hands",.str "bench",.str "oven"])=.ok (.bl (!wOk w)):=rfl
structure Wd (n:Nat) (z:Str):Prop where
 tz:Tz n z
 pos:1<=z.length
 oc:z.cps.toList.all oc=true
theorem Wd.good {z:Str} (h:Wd 12 z):good z:=⟨⟨by have:=h.pos;omega,by have:=h.tz.len;omega⟩,h.oc⟩
theorem j8P {z:Str} (h:Wd 12 z):F_1 [.sh (.str z)]=.ok (.sh .non):=by
 have:=j5e z (h.tz.mono (by decide))
 rw [if_pos h.good] at this
 exact this
theorem j1r (z w:Str) (a b h:Int) (hz:Wd 12 z) (hw:wOk w=true) (h1:1<=a) (h2:a<=b) (h3:b<=720) (h4:0<=h) (h5:h<=300):j9Y [.sh (.str z),.sh (.int a),.sh (.int b),.sh (.str w),.sh (.int h)]=.ok (.sh (.ins 15 [.str z,.int a,.int b,.str w,.int h])):=by
 have n0:=j8P hz
 have la:a.natAbs.log2 < 1920:=q1O (by omega)
 have lb:b.natAbs.log2 < 1920:=q1O (by omega)
 have c1:=chkn a 1 720 la (by decide) (by decide)
 have c2:=chkn b a 720 lb la (by decide)
 have c3:=chkn h 0 300 (q1O (by omega)) (by decide) (by decide)
 rw [if_pos ⟨by omega,by omega⟩] at c1 c2 c3
 have iw:=j5Q w
 rw [hw] at iw
 simp [j9Y,j0r,j0C,j26,j3Z,j3M,j4K,j3E,j3s,j2W,j4A,n0,iw,c1,c2,c3]
theorem j1K (z:Str) (ss:List D) (hz:Wd 12 z) (h1:1<=ss.length) (h2:ss.length<=6):j99 [.sh (.str z),.sh (.lst ss)]=.ok (.sh (.ins 16 [.str z,.tup ss])):=by
 have n0:=j8P hz
 have c1:=chkc (ss.length:Int) 1 6 (small2 (by omega)) (by decide) (by decide)
 rw [if_pos ⟨by omega,by omega⟩] at c1
 simp [j99,j3H,j3l,j4q,j4x,n0,c1]
theorem j5r (a b h:Int) (h1:1<=a/\a<=30) (h2:1<=b/\b<=300) (h3:0<=h/\h<=300):j6P [.sh (.int a),.sh (.int b),.sh (.int h)]=.ok (.sh (.ins 17 [.int a,.int b,.int h])):=by
 have c1:=chkn a 1 30 (q1O (by omega)) (by decide) (by decide)
 have c2:=chkn b 1 300 (q1O (by omega)) (by decide) (by decide)
 have c3:=chkn h 0 300 (q1O (by omega)) (by decide) (by decide)
 rw [if_pos (by assumption)] at c1 c2 c3
 simp [j6P,j28,j3G,j2V,j3x,j3L,j3v,c1,c2,c3]
noncomputable def brd (b:Str×List D):D:=.ins 16 [.str b.1,.tup b.2]
theorem q6L:∀ts:List Str,q2F (ts.map D.str)=some ts
 | []=>rfl
 | t::ts=>by rw [List.map_cons,q2F,q6L ts]
theorem j1n (ts:List Str) (h:ts.Nodup) (hl:ts.length<=4000):j92 [.sh (.lst (ts.map D.str))]=.ok (.sh .non):=by
 have e:=(q7Q ts).mpr h
 have s:=q6L ts
 have hm:(ts.map D.str).length=ts.length:=by simp
 generalize ts.map D.str=zs at *
 simp [j92,j4b,s,hl,e,hm]
theorem q94 (n h b:Int) (os:List D) (bs:List (Str×List D)) (hn:1<=n/\n<=720) (hh:1<=h/\h<=6) (hb:1<=b/\b<=6) (ho:1<=os.length) (ho':os.length<=3) (hl:1<=bs.length) (hl':bs.length<=8) (nd:(bs.map (·.1)).Nodup) :
 j9v [.sh (.int n),.sh (.int h),.sh (.int b),.sh (.lst os),.bo (bs.map brd)]=.ok (.sh (.ins 14 [.int n,.int h,.int b,.tup os,.tup (bs.map brd)])):=by
 have c1:=chkn n 1 720 (q1O (by omega)) (by decide) (by decide)
 have c2:=chkn h 1 6 (q1O (by omega)) (by decide) (by decide)
 have c3:=chkn b 1 6 (q1O (by omega)) (by decide) (by decide)
 rw [if_pos (by assumption)] at c1 c2 c3
 have c4:=chkc (os.length:Int) 1 3 (small2 (by omega)) (by decide) (by decide)
 have c5:=chkc ((bs.map brd).length:Int) 1 8 (small2 (by simp;omega)) (by decide) (by decide)
 rw [if_pos ⟨by omega,by omega⟩] at c4
 rw [if_pos ⟨by simp;omega,by simp;omega⟩] at c5
 have ap:=j1n (bs.map (·.1)) nd (by simp;omega)
 have mp:∀ρ:Ro,q6y (λd=>q1M [(15,0),(16,0)] (q0d 0) (q03 [] ρ d)) (bs.map brd)=some ((bs.map (·.1)).map D.str):=by
  intro ρ
  rw [List.map_map]
  exact q28 bs λx _=>by simp [q03,brd,List.lookup]
 have lb:(bs.map brd).length<=1000000:=by simp;omega
 generalize bs.map brd=bb at *
 generalize (bs.map (·.1)).map D.str=zz at *
 simp only [q1M,q0d] at mp
 simp [j9v,q8c,j0w,j4p,j4r,j4G,j24,j3h,j3o,j4m,j3O,j3a,c1,c2,c3,c4,c5,mp,lb,ap]
theorem q8u (me:Sl) (z:Str):∀(bs:List (Str×List D)) (x:Sl),∃x',q2R (q0x (q1n 2) q6X) (bs.map brd) [me,.sh (.str z),x]=(match bs.find? (λb=>decide (b.1=z)) with | some b=>.rt (.sh (brd b)) | none=>.nx [me,.sh (.str z),x'])
 | [],x=>⟨x,by rw [List.map_nil,q1w];rfl⟩
 | b::bs,x=>by
  obtain ⟨x',e⟩:=q8u me z bs (.sh (brd b))
  refine ⟨x',?_⟩
  by_cases h:b.1=z
  ·rw [List.map_cons,j5L (r:=.sh (brd b)),List.find?_cons_of_pos (by simpa using h)]
   simp [q0x,q6X,q9c,brd,List.lookup,h]
  ·rw [List.map_cons,q19 (ρ':=[me,.sh (.str z),.sh (brd b)]),List.find?_cons_of_neg (by simpa using h),e]
   simp [q0x,q6X,q9c,brd,List.lookup,h]
theorem bread_of (n h b:D) (os:List D) (bs:List (Str×List D)) (z:Str) (hz:Tz 1000 z):j8d [.sh (.ins 14 [n,h,b,.tup os,.tup (bs.map brd)]),.sh (.str z)]=(match bs.find? (λb=>decide (b.1=z)) with | some b=>.ok (.sh (brd b)) | none=>.exc 6):=by
 obtain ⟨x',e⟩:=q8u (.sh (.ins 14 [n,h,b,.tup os,.tup (bs.map brd)])) z bs .no
 have rp:=hz.repr (Nat.le_refl _)
 have l1:Str.length "the bakery has no bread "<=200000:=by decide
 have k:q7g [.sh (.ins 14 [n,h,b,.tup os,.tup (bs.map brd)]),.sh (.str z),.no]=(match bs.find? (λb=>decide (b.1=z)) with | some b=>.rt (.sh (brd b)) | none=>.exc 6 [.sh (.ins 14 [n,h,b,.tup os,.tup (bs.map brd)]),.sh (.str z),x']):=by
  rw [q7g,q0O (ds:=bs.map brd) (by simp),e]
  cases bs.find? (λb=>decide (b.1=z)) with
  | some b=>rfl
  | none=>simp [j3r,rp,l1]
 rw [j8d,fnF]
 show (match q7g [.sh (.ins 14 [n,h,b,.tup os,.tup (bs.map brd)]),.sh (.str z),.no] with | .nx _=>_ | .rt r=>_ | .exc c _=>_ | _=>_)=_
 rw [k]
 cases bs.find? (λb=>decide (b.1=z))<;>rfl
theorem q4a {x:Str} {n:Nat} (h:n<=x.length):Txt.slice x none (some (n:Int))=⟨(x.cps.toList.take n).toArray⟩:=by
 have:=PyProof.Rows.slice_closes_toL (x:=x) (j:=(n:Int)) (by omega) (by omega)
 rw [beq_iff_eq] at this
 rw [this]
 simp
theorem q6G {x:Str} {n:Nat} (h:n<=x.length):Txt.slice x (some (n:Int)) none=⟨(x.cps.toList.drop n).toArray⟩:=by
 have:=PyProof.Rows.slice_from_eq (x:=x) (i:=(n:Int)) (b:=x.length) (by omega) (by omega) rfl
 rw [this]
 have l:x.cps.toList.length=x.length:=q53 x
 congr 2
 rw [List.take_of_length_le (by rw [List.length_drop,l];omega)]
 simp
theorem q8I:abc.cps.toList.Nodup:=by decide +kernel
theorem j7F:∀c∈abc.cps.toList,oc c=true:=by decide +kernel
theorem j7M {n:Nat} (cs:List Nat) (h1:1<=cs.length) (h2:cs.length<=n) (h:∀c∈cs,c∈abc.cps.toList):Wd n ⟨cs.toArray⟩:=
 ⟨⟨by show cs.toArray.size<=n;simpa using h2,λc hc=>j4k.cps c (h c (by simpa using hc))⟩,by show 1<=cs.toArray.size;simpa using h1,by
  rw [List.all_eq_true]
  intro c hc
  exact j7F c (h c (by simpa using hc))⟩
theorem q9w {as bs:List Nat} (h:(⟨as.toArray⟩:Str)=⟨bs.toArray⟩):as=bs:=by
 injection h with h
 simpa using h
theorem q4s (as bs:List Nat):((⟨as.toArray⟩:Str)++(⟨bs.toArray⟩:Str))=⟨(as++bs).toArray⟩:=j42 (by rw [j4W])
theorem q1A (as:List Nat):(⟨as.toArray⟩:Str).length=as.length:=by simp [Str.length]
theorem q3N {α:Type} (n:Nat) (f:Nat->α) (h:∀i j,i < j->j < n->f i≠f j):((List.range n).map f).Nodup:=by
 unfold List.Nodup
 rw [List.pairwise_map]
 exact List.pairwise_lt_range.imp_of_mem λ{a b} ha hb hab=>h a b hab (by simpa using hb)
theorem j1j (cell:Int) (n:Nat) (hn:n<=10):∃zs:List Str,zs.length=n/\zs.Nodup/\(∀z∈zs,Wd 12 z)/\j6Q [.sh (.int cell),.sh (.int n)]=.ok (.fr (zs.map D.str)):=by
 obtain ⟨sh,hsh,esh⟩:∃sh:Nat,sh < 26/\cell / 288 % 26=(sh:Int):=⟨(cell / 288 % 26).toNat,by omega,by omega⟩
 have al:abc.length=26:=j4X
 have ll:abc.cps.toList.length=26:=by rw [q53,al]
 have rg:∀ρ:Ro,ρ[1]?=some (.sh (.int n))->q3a (n1 (q0d 1)) ρ=.ok ((List.range n).map λk:Nat=>D.int (0+(k:Int))):=fun ρ h=>by
  rw [q1E (n:=n) (by simp [h]) (by omega)];rfl
 by_cases ho:cell % 2=1
 ·obtain ⟨c3,hc3,e3⟩:∃c3:Nat,c3<=2/\cell / 2 % 3=(c3:Int):=⟨(cell / 2 % 3).toNat,by omega,by omega⟩
  let row:List Nat:=abc.cps.toList.drop sh++abc.cps.toList.take sh
  have hrow:row.length=26:=by simp [row,ll];omega
  have mrow:∀c∈row,c∈abc.cps.toList:=by
   intro c hc
   rcases List.mem_append.mp hc with hc | hc
   ·exact List.mem_of_mem_drop hc
   ·exact List.mem_of_mem_take hc
  let f:Nat->Str:=λk=>⟨(row.take (k+1+c3)).toArray⟩
  refine ⟨(List.range n).map f,by simp,q3N n f λi j hij hj e=>?_,λz hz=>?_,?_⟩
  ·have:=congrArg List.length (q9w e)
   rw [List.length_take,List.length_take,hrow] at this
   omega
  ·obtain ⟨k,hk,rfl⟩:=List.mem_map.mp hz
   have hk:k < n:=by simpa using hk
   exact j7M _ (by rw [List.length_take,hrow];omega) (by rw [List.length_take,hrow];omega) λc hc=>mrow c (List.mem_of_mem_take hc)
  ·have g1:q7j [.sh (.int cell),.sh (.int n),.sh (.str abc),.sh (.int sh),.no,.no,.sh (.str ⟨row.toArray⟩)]=.rt (.fr (((List.range n).map f).map D.str)):=by
    rw [q7j]
    show Out.fl (Out.bind (q00 _ _ _ _) _) _ _=_
    rw [q1o (rg _ rfl) (by simp;omega) (k:=λk=>D.str (f k))]
    ·rw [List.map_map];rfl
    ·intro k hk
     have hk:k < n:=by simpa using hk
     have sl:Txt.slice ⟨row.toArray⟩ none (some ((k:Int)+1+(c3:Int)))=f k:=by
      rw [show (k:Int)+1+(c3:Int)=((k+1+c3:Nat):Int) by omega]
      exact q4a (by rw [q1A,hrow];omega)
     have lr:(⟨row.toArray⟩:Str).length<=1000000:=by rw [q1A,hrow];decide
     generalize (⟨row.toArray⟩:Str)=R at *
     simp [q03,q3E,lr,e3,sl]
   have s1:=q6G (x:=abc) (n:=sh) (by rw [al];omega)
   have s2:=q4a (x:=abc) (n:=sh) (by rw [al];omega)
   have ap:=q4s (abc.cps.toList.drop sh) (abc.cps.toList.take sh)
   have hz:abc.length<=1000000:=by rw [al];decide
   have z1:(⟨(abc.cps.toList.drop sh).toArray⟩:Str).length+(⟨(abc.cps.toList.take sh).toArray⟩:Str).length<=1000000:=by
    rw [q1A,q1A,List.length_drop,List.length_take];omega
   generalize hG:q7j=G at *
   generalize ((List.range n).map f).map D.str=Z at *
   have hrw:(⟨row.toArray⟩:Str)=⟨(abc.cps.toList.drop sh).toArray⟩++⟨(abc.cps.toList.take sh).toArray⟩:=ap.symm
   rw [hrw] at g1
   generalize (⟨(abc.cps.toList.drop sh).toArray⟩:Str)=A at *
   generalize (⟨(abc.cps.toList.take sh).toArray⟩:Str)=B at *
   generalize hL:abc=L at *
   have hL':Str.ofString "abcdefghijklmnopqrstuvwxyz" = L:=hL
   simp [j6Q,q8R,q9J,j0i,j4E,ho,esh,hL',hz,s1,s2,z1,hG,g1]
 ·obtain ⟨m,hm,em⟩:∃m:Nat,m<=11/\cell / 2 % 12=(m:Int):=⟨(cell / 2 % 12).toNat,by omega,by omega⟩
  obtain ⟨cs,c1,c2,c3⟩:=q32 j4k (by decide) (f:=λd=>e2 ixD (q0d 1) (e2 (i2c q0G λi j=>.int (i % j)) (e2 q1l (e2 (i2c q1K λi j=>.int (i / j)) (q0d 2) (eC (.int 7))) (e2 (i2c q1R λi j=>.int (i*j)) (q0d 0) (e2 q1l (q0d 0) (eC (.int 2))))) (eC (.int 26))) (q03 [2,0] [.sh (.int cell),.sh (.int n),.sh (.str abc),.sh (.int sh),.no,.no,.no] d)) (g:=λk:Nat=>D.int (0+(k:Int))) (ix:=λk=>(cell / 7+(k:Int)*((k:Int)+2)) % 26) (List.range m) (by
   intro k hk
   have hk:k < m:=by simpa using hk
   have mo:q1R (k:Int) ((k:Int)+2)=true:=by
    unfold q1R
    simp only [Bool.or_eq_true,Bool.and_eq_true,decide_eq_true_eq]
    left;constructor<;>omega
   refine ⟨by omega,by rw [al];omega,?_⟩
   generalize abc=L
   simp [q03,q3E,mo])
  rw [List.length_range] at c1
  obtain ⟨p,hp,ep⟩:∃p:Nat,p<=m/\cell / 24 % ((m:Int)+1)=(p:Int):=by
   have h0:=Int.emod_nonneg (cell / 24) (b:=(m:Int)+1) (by omega)
   have h1:=Int.emod_lt_of_pos (cell / 24) (b:=(m:Int)+1) (by omega)
   exact ⟨(cell / 24 % ((m:Int)+1)).toNat,by omega,by omega⟩
  have lt:∀k:Nat,(sh+k) % 26 < abc.cps.toList.length:=λk=>by rw [ll];exact Nat.mod_lt _ (by decide)
  let f:Nat->Str:=λk=>⟨(cs.take p++[abc.cps.toList[(sh+k) % 26]'(lt k)]++cs.drop p).toArray⟩
  have fl:∀k,(cs.take p++[abc.cps.toList[(sh+k) % 26]'(lt k)]++cs.drop p).length=m+1:=λk=>by
   simp [c1];omega
  refine ⟨(List.range n).map f,by simp,q3N n f λi j hij hj e=>?_,λz hz=>?_,?_⟩
  ·have e:=q9w e
   rw [List.append_assoc,List.append_assoc] at e
   have e:=List.append_cancel_left e
   have e:abc.cps.toList[(sh+i) % 26]'(lt i)=abc.cps.toList[(sh+j) % 26]'(lt j):=by
    have:=congrArg (λl=>l[0]?) e
    simpa using this
   have:=(List.getElem_inj q8I).mp e
   omega
  ·obtain ⟨k,hk,rfl⟩:=List.mem_map.mp hz
   refine j7M _ (by rw [fl];omega) (by rw [fl];omega) λc hc=>?_
   rcases List.mem_append.mp hc with hc | hc
   ·rcases List.mem_append.mp hc with hc | hc
    ·exact c2 c (List.mem_of_mem_take hc)
    ·rw [List.mem_singleton.mp hc];exact List.getElem_mem _
   ·exact c2 c (List.mem_of_mem_drop hc)
  ·have g3:q6K [.sh (.int cell),.sh (.int n),.sh (.str abc),.sh (.int sh),.sh (.str ⟨cs.toArray⟩),.sh (.int p),.no]=.rt (.fr (((List.range n).map f).map D.str)):=by
    rw [q6K]
    show Out.fl (Out.bind (q00 _ _ _ _) _) _ _=_
    rw [q1o (rg _ rfl) (by simp;omega) (k:=λk=>D.str (f k))]
    ·rw [List.map_map];rfl
    ·intro k hk
     have hk:k < n:=by simpa using hk
     have s1:=q4a (x:=⟨cs.toArray⟩) (n:=p) (by rw [q1A];omega)
     have s2:=q6G (x:=⟨cs.toArray⟩) (n:=p) (by rw [q1A];omega)
     have lr:(⟨cs.toArray⟩:Str).length<=1000000:=by rw [q1A];omega
     have ix:atI abc.cps.toList (((sh:Int)+(0+(k:Int))) % 26)=some (abc.cps.toList[(sh+k) % 26]'(lt k)):=by
      rw [show ((sh:Int)+(0+(k:Int))) % 26=(((sh+k) % 26:Nat):Int) by omega]
      exact q0C (by simp [lt k])
     have hz:abc.length<=1000000:=by rw [al];decide
     have eq1:f k=⟨(cs.take p).toArray⟩++⟨#[abc.cps.toList[(sh+k) % 26]'(lt k)]⟩++⟨(cs.drop p).toArray⟩:=by
      show (⟨_⟩:Str)=_
      rw [show (⟨#[abc.cps.toList[(sh+k) % 26]'(lt k)]⟩:Str)=⟨[abc.cps.toList[(sh+k) % 26]'(lt k)].toArray⟩ from rfl,q4s,q4s]
     have z1:(⟨(cs.take p).toArray⟩:Str).length+(⟨#[abc.cps.toList[(sh+k) % 26]'(lt k)]⟩:Str).length<=1000000:=by
      rw [show (⟨#[abc.cps.toList[(sh+k) % 26]'(lt k)]⟩:Str)=⟨[abc.cps.toList[(sh+k) % 26]'(lt k)].toArray⟩ from rfl,q1A,q1A];simp;omega
     have z2:((⟨(cs.take p).toArray⟩:Str)++⟨#[abc.cps.toList[(sh+k) % 26]'(lt k)]⟩).length+(⟨(cs.drop p).toArray⟩:Str).length<=1000000:=by
      rw [show (⟨#[abc.cps.toList[(sh+k) % 26]'(lt k)]⟩:Str)=⟨[abc.cps.toList[(sh+k) % 26]'(lt k)].toArray⟩ from rfl,q4s,q1A,q1A];simp;omega
     rw [eq1]
     generalize abc.cps.toList[(sh+k) % 26]'(lt k)=q at *
     clear eq1 fl
     generalize (⟨(cs.take p).toArray⟩:Str)=A at *
     generalize (⟨(cs.drop p).toArray⟩:Str)=B at *
     generalize (⟨cs.toArray⟩:Str)=C at *
     generalize hL:abc=L at *
     generalize hI:((sh:Int)+(0+(k:Int))) % 26=I at *
     have hI':((sh:Int)+(k:Int)) % 26=I:=by rw [<-hI];congr 2;omega
     simp [q03,q3E,lr,s1,s2,hz,ix,hI',z1,z2]
   have fc:q00 (q3a (n1 (e2 (i2c q0G λi j=>.int (i % j)) (e2 (i2c q1K λi j=>.int (i / j)) (q0d 0) (eC (.int 2))) (eC (.int 12))))) [2,0] (e2 ixD (q0d 1) (e2 (i2c q0G λi j=>.int (i % j)) (e2 q1l (e2 (i2c q1K λi j=>.int (i / j)) (q0d 2) (eC (.int 7))) (e2 (i2c q1R λi j=>.int (i*j)) (q0d 0) (e2 q1l (q0d 0) (eC (.int 2))))) (eC (.int 26)))) [.sh (.int cell),.sh (.int n),.sh (.str abc),.sh (.int sh),.no,.no,.no]=.ok (cs.map λc=>D.str ⟨#[c]⟩):=by
    rw [q00,q1E (n:=m) (by rw [<-em];simp) (by omega),Out.ok_bind,if_pos (by simp [rgD];omega)]
    show (match q6y _ ((List.range m).map _) with | some es=>Out.ok es | none=>.bad)=_
    rw [show q6y _ ((List.range m).map λk:Nat=>D.int (0+(k:Int)))=_ from c3]
   have jn:=j1S cs (by omega)
   have ln:(⟨cs.toArray⟩:Str).length=m:=by rw [q1A,c1]
   have g5:q65 [.sh (.int cell),.sh (.int n),.sh (.str abc),.sh (.int sh),.no,.no,.no]=.rt (.fr (((List.range n).map f).map D.str)):=by
    rw [q65,q1u (v:=.str ⟨cs.toArray⟩)]
    ·rw [Fl.nx_bind]
     generalize hG:q6K=G at *
     generalize ((List.range n).map f).map D.str=Z at *
     generalize (⟨cs.toArray⟩:Str)=C at *
     have lz:C.length<=1000000:=by omega
     have mp:0 < (m:Int)+1:=by omega
     have m6:m<=1000000:=by omega
     simp [j3Q,lz,m6,ln,ep,mp,hG,g3]
    ·show (Out.ok (D.str "")).bind _=_
     rw [Out.ok_bind]
     show Out.bind (Out.bind (Out.bind (q00 _ _ _ _) _) _) _=_
     rw [fc]
     exact jn
   generalize hG:q65=G at *
   generalize ((List.range n).map f).map D.str=Z at *
   generalize hL:abc=L at *
   have hL':Str.ofString "abcdefghijklmnopqrstuvwxyz" = L:=hL
   simp [j6Q,q8R,q9J,j0i,ho,esh,hL',hG,g5]
theorem j2D (z:Str) (l d:Int) (hl:l.natAbs.log2 < 1920):F_4 [.sh (.str z),.sh (.int l),.sh (.int d)]=if 1<=l/\l<=60 then .ok (.sh (.ins 10 [.str z,.int l,.int d])) else .exc 3:=by
 have c1:=chkn l 1 60 hl (by decide) (by decide)
 by_cases h1:1<=l/\l<=60
 ·simp [F_4,j5X,j8r,j7P,j7w,c1,h1]
 ·simp [F_4,j5X,c1,h1]
noncomputable def ord (o:Str×Int×Int):D:=.ins 10 [.str o.1,.int o.2.1,.int o.2.2]
noncomputable def bat (b:Int×Int×Int):D:=.ins 11 [.int b.1,.int b.2.1,.int b.2.2]
noncomputable def ovn (o:Int×Int×Int):D:=.ins 17 [.int o.1,.int o.2.1,.int o.2.2]
noncomputable def nb (most ls:Int):Nat:=((ls-1) / most+1).toNat
noncomputable def q83 (most n ls:Int) (t:Nat):Int×Int×Int:=(n,1+(t:Int)*most,if ls-(1+(t:Int)*most)+1 < most then ls-(1+(t:Int)*most)+1 else most)
noncomputable def j1J (most n ls:Int):List (Int×Int×Int):=(List.range (nb most ls)).map (q83 most n ls)
noncomputable def q2i (most:Int):Int->List Int->List (Int×Int×Int)
 | _,[]=>[]
 | n,l::ls=>j1J most n l++q2i most (n+1) ls
theorem q4z (most n ls:Int):(j1J most n ls).length=nb most ls:=by simp [j1J]
theorem j4P {most ls:Int} (h:1<=most) (h1:1<=ls) (h2:ls<=60):nb most ls<=60:=by
 unfold nb
 have:(ls-1) / most<=ls-1:=Int.ediv_le_self _ (by omega)
 omega
theorem q6u (most:Int) (h:1<=most):∀(ls:List Int) (n:Int),(∀l∈ls,1<=l/\l<=60)->(q2i most n ls).length<=60*ls.length
 | [],n,_=>by simp [q2i]
 | l::ls,n,hl=>by
  have h1:=q6u most h ls (n+1) λx hx=>hl x (by simp [hx])
  have h2:=j4P h (hl l (by simp)).1 (hl l (by simp)).2
  rw [q2i,List.length_append,q4z,List.length_cons]
  omega
theorem j2w (a b c:Int):F_5 [.sh (.int a),.sh (.int b),.sh (.int c)]=.ok (.sh (.ins 11 [.int a,.int b,.int c])):=by
 simp [F_5,j6G,j6N,j7d]
theorem j5a {fa fb fc:Ev} {ρ:Ro} {ls most:Int} (ha:fa ρ=.ok (.int 1)) (hb:fb ρ=.ok (.int (ls+1))) (hc:fc ρ=.ok (.int most)) (h:1<=most/\most<=1000) (h1:1<=ls/\ls<=1000) :
 j1h fa fb fc ρ=.ok ((List.range (nb most ls)).map λ(t:Nat)=>D.int (1+(t:Int)*most)):=by
 have ok:q40 1 (ls+1) most=true:=by
  unfold q40
  simp only [Bool.and_eq_true,decide_eq_true_eq]
  refine ⟨⟨⟨⟨⟨⟨?_,?_⟩,?_⟩,?_⟩,?_⟩,?_⟩,?_⟩<;>omega
 have sz:(Builtin.Range.rangeSize 1 (ls+1) most).toNat=nb most ls:=by
  unfold Builtin.Range.rangeSize nb
  rw [if_pos (by omega),if_pos (by omega),show ls+1-1-1=ls-1 by omega]
 rw [j1h,ha,Out.ok_bind,hb,Out.ok_bind,hc,Out.ok_bind]
 show (if q40 1 (ls+1) most=true then Out.ok (rgS 1 most _) else .bad)=_
 rw [if_pos ok,sz]
 rfl
theorem q9X (os:Sl) (most n:Int) (o:Str×Int×Int):∀(ts:List Nat) (row:List D) (x y:Sl),row.length+ts.length<=900000->∃x' y',q2R (q0x (q1n 5) j5N) (ts.map λ(t:Nat)=>D.int (1+(t:Int)*most)) [os,.sh (.int most),.ow row,.sh (.int n),.sh (ord o),x,y] =
 .nx [os,.sh (.int most),.ow (row++(ts.map (q83 most n o.2.1)).map bat),.sh (.int n),.sh (ord o),x',y']
 | [],row,x,y,_=>⟨x,y,by simp [q1w]⟩
 | t::ts,row,x,y,hl=>by
  have hr:row.length < 1000000:=by simp at hl;omega
  obtain ⟨x',y',e⟩:=q9X os most n o ts (row++[bat (q83 most n o.2.1 t)]) (.sh (.int (1+(t:Int)*most))) (.sh (.int (o.2.1-(1+(t:Int)*most)+1))) (by simp at hl ⊢; omega)
  refine ⟨x',y',?_⟩
  have bm:=j2w n (1+(t:Int)*most) (if o.2.1-(1+(t:Int)*most)+1 < most then o.2.1-(1+(t:Int)*most)+1 else most)
  rw [List.map_cons,q19 (ρ':=[os,.sh (.int most),.ow (row++[bat (q83 most n o.2.1 t)]),.sh (.int n),.sh (ord o),.sh (.int (1+(t:Int)*most)),.sh (.int (o.2.1-(1+(t:Int)*most)+1))]),e]
  ·simp
  ·generalize hF:1+(t:Int)*most=f at *
   simp [q0x,j5N,j7A,ord,List.lookup,bm,hr,bat,q83,hF]
theorem j2d {is:List Nat} {f:Ro->Fl} {ρ ρ':Ro} {d:D} (h:q5R is ρ d=.ok ρ'):q0x (q5R is) f ρ d=f ρ':=by
 rw [q0x,h]
theorem q62 (os:Sl) (most:Int) (hm:1<=most/\most<=1000):∀(ol:List (Str×Int×Int)) (n:Int) (row:List D) (p q x y:Sl),(∀o∈ol,1<=o.2.1/\o.2.1<=60)->row.length+60*ol.length<=900000->∃p' q' x' y',q2R (q0x (q5R [3,4]) j5Y) (q4V n (ol.map ord)) [os,.sh (.int most),.ow row,p,q,x,y] =
 .nx [os,.sh (.int most),.ow (row++(q2i most n (ol.map (·.2.1))).map bat),p',q',x',y']
 | [],n,row,p,q,x,y,_,_=>⟨p,q,x,y,by simp [q1w,q4V,q2i]⟩
 | o::ol,n,row,p,q,x,y,ho,hl=>by
  have h1:=ho o (by simp)
  have hn:=j4P hm.1 h1.1 h1.2
  obtain ⟨x1,y1,e1⟩:=q9X os most n o (List.range (nb most o.2.1)) row x y (by simp at hl ⊢; omega)
  obtain ⟨p',q',x',y',e2⟩:=q62 os most hm ol (n+1) (row++(j1J most n o.2.1).map bat) (.sh (.int n)) (.sh (ord o)) x1 y1 (λz hz=>ho z (by simp [hz])) (by simp [q4z] at hl ⊢; omega)
  refine ⟨p',q',x',y',?_⟩
  rw [List.map_cons,q4V,q19 (ρ':=[os,.sh (.int most),.ow (row++(j1J most n o.2.1).map bat),.sh (.int n),.sh (ord o),x1,y1]),e2]
  ·simp [q2i]
  ·rw [j2d (ρ':=[os,.sh (.int most),.ow row,.sh (.int n),.sh (ord o),x,y]) (by simp [q5w]),j5Y,q0O (j5a (ls:=o.2.1) (most:=most) ?_ ?_ ?_ hm ⟨h1.1,by omega⟩),e1]
   ·rfl
   ·simp
   ·simp [ord,List.lookup]
   ·simp
theorem q31 (most:Int) (hm:1<=most/\most<=1000) (ol:List (Str×Int×Int)) (ho:∀o∈ol,1<=o.2.1/\o.2.1<=60) (hl:ol.length<=1000):F_9 [.sh (.lst (ol.map ord)),.sh (.int most)]=.ok (.fr ((q2i most 1 (ol.map (·.2.1))).map bat)):=by
 obtain ⟨p',q',x',y',e⟩:=q62 (.sh (.lst (ol.map ord))) most hm ol 1 [] .no .no .no .no ho (by simp;omega)
 have k:j1C [.sh (.lst (ol.map ord)),.sh (.int most),.ow [],.no,.no,.no,.no]=.rt (.fr ((q2i most 1 (ol.map (·.2.1))).map bat)):=by
  rw [j1C,q0O (ds:=q4V 1 (ol.map ord)) (by simp),e]
  simp [j7V]
 generalize hG:j1C=G at *
 simp [F_9,j8s,k,hG]
theorem q3u (n h b bb:D) (rs:List (Int×Int×Int)) (hr:rs≠[]) (hl:rs.length<=3):F_6 [.sh (.ins 14 [n,h,b,.tup (rs.map ovn),bb])]=.ok (.sh (.int (q0Q true (rs.map (·.1))))):=by
 have mp:∀ρ:Ro,q6y (λd=>q1M [(17,0)] (q0d 0) (q03 [] ρ d)) (rs.map ovn)=some ((rs.map (·.1)).map D.int):=by
  intro ρ
  rw [List.map_map]
  exact q28 rs λx _=>by simp [q03,ovn,List.lookup]
 have mx:=q4u (is:=rs.map (·.1)) (by simpa using hr)
 have lz:(rs.map ovn).length<=1000000:=by simp;omega
 simp only [q1M,q0d] at mp
 generalize rs.map ovn=oo at *
 generalize (rs.map (·.1)).map D.int=zz at *
 simp [F_6,j8u,mp,mx,lz]
theorem j68 (d n:Int) (h:0<=d/\d<=n):F_7 [.sh (.int d),.sh (.int n)]=.ok (.sh .non):=by
 simp [F_7,j65,h.1,h.2]
structure Taken (night:Int) (bs:List (Str×List D)) (rs:List (Int×Int×Int)) (ol:List (Str×Int×Int)):Prop where
 len:ol.length<=12
 name:∀o∈ol,o.1∈bs.map (·.1)
 tz:∀o∈ol,Tz 1000 o.1
 due:∀o∈ol,0<=o.2.2/\o.2.2<=night
 lv:∀o∈ol,1<=o.2.1/\o.2.1<=60
 few:(q2i (q0Q true (rs.map (·.1))) 1 (ol.map (·.2.1))).length<=24
structure RsOk (rs:List (Int×Int×Int)):Prop where
 ne:rs≠[]
 len:rs.length<=3
 room:∀r∈rs,1<=r.1/\r.1<=30
theorem RsOk.most {rs:List (Int×Int×Int)} (h:RsOk rs):1<=q0Q true (rs.map (·.1))/\q0Q true (rs.map (·.1))<=30:=by
 obtain ⟨h1,h2⟩:=q2O (is:=rs.map (·.1)) (by simpa using h.ne)
 obtain ⟨r,hr,e⟩:=List.mem_map.mp h1
 rw [<-e]
 exact h.room r hr
noncomputable abbrev bkr (n h b:Int) (rs:List (Int×Int×Int)) (bs:List (Str×List D)):D:=.ins 14 [.int n,.int h,.int b,.tup (rs.map ovn),.tup (bs.map brd)]
theorem q4Z (n h b:Int) (rs:List (Int×Int×Int)) (bs:List (Str×List D)) (w:Sl) (y:Sl):∀(ol:List (Str×Int×Int)) (x:Sl),(∀o∈ol,o.1∈bs.map (·.1))->(∀o∈ol,Tz 1000 o.1)->∃x',q2R (q0x (q1n 2) j4R) (ol.map ord) [.sh (bkr n h b rs bs),w,x,y]=.nx [.sh (bkr n h b rs bs),w,x',y]
 | [],x,_,_=>⟨x,by rw [List.map_nil,q1w]⟩
 | o::ol,x,h1,h2=>by
  obtain ⟨x',e⟩:=q4Z n h b rs bs w y ol (.sh (ord o)) (λz hz=>h1 z (by simp [hz])) (λz hz=>h2 z (by simp [hz]))
  refine ⟨x',?_⟩
  have bo:=bread_of (.int n) (.int h) (.int b) (rs.map ovn) bs o.1 (h2 o (by simp))
  obtain ⟨bb,hb,eb⟩:=List.mem_map.mp (h1 o (by simp))
  have fd:∃b2,bs.find? (λb=>decide (b.1=o.1))=some b2:=by
   cases q:bs.find? (λb=>decide (b.1=o.1)) with
   | some b2=>exact ⟨b2,rfl⟩
   | none=>
    rw [List.find?_eq_none] at q
    exact absurd (by simpa using eb) (q bb hb)
  obtain ⟨b2,fd⟩:=fd
  rw [fd] at bo
  rw [List.map_cons,q19 (ρ':=[.sh (bkr n h b rs bs),w,.sh (ord o),y]),e]
  unfold bkr
  generalize rs.map ovn=oo at *
  generalize bs.map brd=bb at *
  simp [q0x,j4R,ord,List.lookup,bo]
theorem q6J (n h b:Int) (rs:List (Int×Int×Int)) (bs:List (Str×List D)) (w:Sl) (y:Sl):∀(ol:List (Str×Int×Int)) (x:Sl),(∀o∈ol,0<=o.2.2/\o.2.2<=n)->∃x',q2R (q0x (q1n 2) j5y) (ol.map ord) [.sh (bkr n h b rs bs),w,x,y]=.nx [.sh (bkr n h b rs bs),w,x',y]
 | [],x,_=>⟨x,by rw [List.map_nil,q1w]⟩
 | o::ol,x,h1=>by
  obtain ⟨x',e⟩:=q6J n h b rs bs w y ol (.sh (ord o)) (λz hz=>h1 z (by simp [hz]))
  refine ⟨x',?_⟩
  have d:=j68 o.2.2 n (h1 o (by simp))
  rw [List.map_cons,q19 (ρ':=[.sh (bkr n h b rs bs),w,.sh (ord o),y]),e]
  unfold bkr
  generalize rs.map ovn=oo at *
  generalize bs.map brd=bb at *
  simp [q0x,j5y,ord,List.lookup,d]
theorem q8O (n h b:Int) (rs:List (Int×Int×Int)) (bs:List (Str×List D)) (ol:List (Str×Int×Int)) (hr:RsOk rs) (tk:Taken n bs rs ol):F_8 [.sh (bkr n h b rs bs),.sh (.lst (ol.map ord))]=.ok (.sh .non):=by
 have c1:=chkc ((ol.map ord).length:Int) 0 12 (small2 (by simp;have:=tk.len;omega)) (by decide) (by decide)
 rw [if_pos ⟨by omega,by have:=tk.len;simp;omega⟩,List.length_map] at c1
 obtain ⟨x1,e1⟩:=q4Z n h b rs bs (.sh (.lst (ol.map ord))) .no ol .no tk.name tk.tz
 obtain ⟨x2,e2⟩:=q6J n h b rs bs (.sh (.lst (ol.map ord))) .no ol x1 tk.due
 have gr:=q3u (.int n) (.int h) (.int b) (.tup (bs.map brd)) rs hr.ne hr.len
 have mo:=hr.most
 have bt:=q31 (q0Q true (rs.map (·.1))) ⟨mo.1,by omega⟩ ol tk.lv (by have:=tk.len;omega)
 have few:=tk.few
 have k5:j5P [.sh (bkr n h b rs bs),.sh (.lst (ol.map ord)),x2,.no]=.nx [.sh (bkr n h b rs bs),.sh (.lst (ol.map ord)),x2,.sh (.int (q2i (q0Q true (rs.map (·.1))) 1 (ol.map (·.2.1))).length)]:=by
  have lb:((q2i (q0Q true (rs.map (·.1))) 1 (ol.map (·.2.1))).map bat).length=(q2i (q0Q true (rs.map (·.1))) 1 (ol.map (·.2.1))).length:=by simp
  have few':¬(24:Int) < ((q2i (q0Q true (rs.map (·.1))) 1 (ol.map (·.2.1))).length:Int):=by omega
  unfold bkr
  clear e1 e2 tk few
  generalize (q2i (q0Q true (rs.map (·.1))) 1 (ol.map (·.2.1))).map bat=BB at *
  generalize hN:(q2i (q0Q true (rs.map (·.1))) 1 (ol.map (·.2.1))).length=N at *
  generalize q0Q true (rs.map (·.1))=M at *
  generalize rs.map ovn=oo at *
  generalize bs.map brd=bb at *
  generalize ol.map ord=ll at *
  have few2:¬(24 < N):=by omega
  simp [j5P,j8G,gr,bt,lb,few',few2]
 have k7:j2m [.sh (bkr n h b rs bs),.sh (.lst (ol.map ord)),.no,.no]=.nx [.sh (bkr n h b rs bs),.sh (.lst (ol.map ord)),x2,.sh (.int (q2i (q0Q true (rs.map (·.1))) 1 (ol.map (·.2.1))).length)]:=by
  rw [j2m,q0O (ds:=ol.map ord) (by simp),e1,Fl.nx_bind,j7G,q0O (ds:=ol.map ord) (by simp),e2,Fl.nx_bind,k5]
 generalize hG:j2m=G at *
 simp [F_8,j8a,c1,k7,hG]
theorem j7z (n h b:Int) (rs:List (Int×Int×Int)) (bs:List (Str×List D)) (ol:List (Str×Int×Int)) (hr:RsOk rs) (tk:Taken n bs rs ol):j7n [.sh (bkr n h b rs bs),.sh (.lst (ol.map ord))]=.ok (.fr ((q2i (q0Q true (rs.map (·.1))) 1 (ol.map (·.2.1))).map bat)):=by
 have ac:=q8O n h b rs bs ol hr tk
 have gr:=q3u (.int n) (.int h) (.int b) (.tup (bs.map brd)) rs hr.ne hr.len
 have mo:=hr.most
 have bt:=q31 (q0Q true (rs.map (·.1))) ⟨mo.1,by omega⟩ ol tk.lv (by have:=tk.len;omega)
 unfold bkr at *
 clear tk
 generalize (q2i (q0Q true (rs.map (·.1))) 1 (ol.map (·.2.1))).map bat=BB at *
 generalize q0Q true (rs.map (·.1))=M at *
 generalize rs.map ovn=oo at *
 generalize bs.map brd=bb at *
 generalize ol.map ord=ll at *
 simp [j7n,j36,j3p,ac,gr,bt]
theorem j6S (b o:Int) (ls:List Int) (hl:ls.length<=1000):j8U [.sh (.int b),.sh (.lst (ls.map D.int)),.sh (.int o)]=if ∀x∈b::o::ls,0<=x then .ok (.sh (.ins 12 [.int b,.tup (ls.map D.int),.int o])) else .exc 3:=by
 have ne:b::o::ls≠[]:=by simp
 obtain ⟨b1,b2⟩:=j0P ne
 have e:q7K [.lst (.int b::.int o::ls.map D.int)]=.ok (.int (q0Q false (b::o::ls))):=j1E (is:=b::o::ls) ne
 generalize q0Q false (b::o::ls)=m at *
 have hz:2+ls.length<=1000000:=by omega
 have hz':ls.length+1+1<=1000000:=by omega
 by_cases h:∀x∈b::o::ls,0<=x
 ·have hm:=h m b1
  rw [if_pos h]
  have hm':¬m < 0:=by omega
  simp [j8U,q8N,j2P,j4j,j2U,e,hm',hz,hz',Nat.add_comm]
 ·rw [if_neg h]
  have hm:m < 0:=by
   refine Classical.byContradiction λz=>h λx hx=>?_
   have:=b2 x hx;omega
  simp [j8U,q8N,j4L,e,hm,hz,hz',Nat.add_comm]
structure w3z (ls:List Int):Prop where
 len:ls.length<=6
 nn:∀x∈ls,0<=x/\x<=1000000
theorem q1F (ns:List Int) (hn:ns.length<=63) (i:Int) (h0:0<=i) (h1:i<=100000):q2z [.sh (.lst (ns.map D.int)),.sh (.int i)]=.ok (.sh (.int (pk ns i.toNat))):=by
 obtain ⟨k,rfl⟩:=Int.eq_ofNat_of_zero_le h0
 exact w0X ns hn k (by omega)
noncomputable def q2x (k:Int×Int×Int):D:=.tup [.int k.1,.int k.2.1,.int k.2.2]
structure j9t (k:Int×Int×Int):Prop where
 room:1<=k.1/\k.1<=30
 rate:1<=k.2.1/\k.2.1<=300
 heat:0<=k.2.2/\k.2.2<=300
theorem q9Z (ns:List Int) (hn:ns.length<=63) (j:Nat) (hj:j<=100) (row:List D) (hr:row.length < 1000) (a b c d:Sl) :
 ∃q,j9t q/\∃b' c' d',q0x (q1n 2) q6M [.sh (.lst (ns.map D.int)),.ow row,a,b,c,d] (.int j)=.nx [.sh (.lst (ns.map D.int)),.ow (row++[q2x q]),.sh (.int j),b',c',d']:=by
 have p1:=q1F ns hn (8+(j:Int)) (by omega) (by omega)
 have p2:=q1F ns hn (11+(j:Int)) (by omega) (by omega)
 generalize pk ns (8+(j:Int)).toNat=v at *
 generalize pk ns (11+(j:Int)).toNat=u at *
 obtain ⟨r,er,hr1⟩:=pick3 300 40 (1+v / 90 % 300) (v / 30)
 obtain ⟨h,eh,hh⟩:=pick4 200 200 230 (u % 301) v
 refine ⟨(1+v % 30,r,h),⟨by dsimp only;omega,by dsimp only;omega,by dsimp only;omega⟩,.sh (.int v),.sh (.int r),.sh (.int h),?_⟩
 have hr2:row.length < 1000000:=by omega
 generalize ns.map D.int=nn at *
 simp [q0x,q6M,j4o,j3w,j2Y,p1,p2,er,eh,q2x,hr2]
theorem j2E (ns:List Int) (hn:ns.length<=63):∃ks:List (Int×Int×Int),ks≠[]/\ks.length<=3/\(∀k∈ks,j9t k)/\j96 [.sh (.lst (ns.map D.int))]=.ok (.fr (ks.map q2x)):=by
 have p:=q1F ns hn 2 (by decide) (by decide)
 generalize pk ns (2:Int).toNat=v at *
 obtain ⟨n,hn1,hn3,en⟩:∃n:Nat,1<=n/\n<=3/\1+v % 3=(n:Int):=⟨(1+v % 3).toNat,by omega,by omega,by omega⟩
 obtain ⟨ρ',e,ks,a,b,c,d,h1,h2,rfl⟩:=q6P (body:=q0x (q1n 2) q6M) (λj ρ=>∃(ks:List (Int×Int×Int)) (a b c d:Sl),ks.length=j/\(∀k∈ks,j9t k)/\ρ=[.sh (.lst (ns.map D.int)),.ow (ks.map q2x),a,b,c,d]) n (λj ρ hj ⟨ks,a,b,c,d,h1,h2,e⟩=>by
  obtain ⟨q,hq,b',c',d',eq⟩:=q9Z ns hn j (by omega) (ks.map q2x) (by simp;omega) a b c d
  refine ⟨_,by rw [e];exact eq,ks++[q],_,b',c',d',by simp [h1],λk hk=>?_,by rw [List.map_append];rfl⟩
  rcases List.mem_append.mp hk with hk | hk
  ·exact h2 k hk
  ·rw [List.mem_singleton.mp hk];exact hq) (ρ:=[.sh (.lst (ns.map D.int)),.ow [],.no,.no,.no,.no]) ⟨[],.no,.no,.no,.no,rfl,by simp,rfl⟩
 refine ⟨ks,λz=>by rw [z] at h1;simp at h1;omega,by omega,h2,?_⟩
 have k6:j0g [.sh (.lst (ns.map D.int)),.ow [],.no,.no,.no,.no]=.rt (.fr (ks.map q2x)):=by
  rw [j0g,q0O (ds:=rgD 0 n) (q1E (by rw [<-en];generalize ns.map D.int=nn at *; simp [p]) (by omega)),e]
  simp [j33]
 rw [j96]
 refine q1v _ rfl ?_
 rw [j4i,q1T (v:=[]) rfl,Fl.nx_bind]
 exact k6
noncomputable abbrev Sg:=Int×Int×Int×Int
noncomputable def q3H (s:Sg):D:=.tup [.int s.1,.int s.2.1,.int s.2.2.1,.int s.2.2.2]
noncomputable def q0K (k:List Sg):D:=.lst (k.map q3H)
structure j7Z (s:Sg):Prop where
 least:1<=s.1/\s.1<=700
 most:s.1<=s.2.1/\s.2.1<=s.1+6
 want:0<=s.2.2.1/\s.2.2.1<=3
 heat:0<=s.2.2.2/\s.2.2.2<=300
structure j4O (k:List Sg):Prop where
 one:1<=k.length
 six:k.length<=6
 all:∀s∈k,j7Z s
theorem q7M (ns:List Int) (hn:ns.length<=63) (size like:Int) (hs:1<=size/\size<=700) (k j:Nat) (hk:k<=100) (hj:j<=100) (kd:Sl) (row:List D) (hr:row.length < 1000) (a b c d:Sl) :
 ∃q,j7Z q/\∃b' c' d',q0x (q1n 6) q5s [.sh (.lst (ns.map D.int)),kd,.sh (.int size),.sh (.int like),.sh (.int k),.ow row,a,b,c,d] (.int j)=.nx [.sh (.lst (ns.map D.int)),kd,.sh (.int size),.sh (.int like),.sh (.int k),.ow (row++[q3H q]),.sh (.int j),b',c',d']:=by
 have p1:=q1F ns hn (20+6*(k:Int)+(j:Int)) (by omega) (by omega)
 have p2:=q1F ns hn (9+(j:Int)+(k:Int)) (by omega) (by omega)
 generalize pk ns (20+6*(k:Int)+(j:Int)).toNat=v at *
 generalize pk ns (9+(j:Int)+(k:Int)).toNat=u at *
 have mo:q1R 6 (k:Int)=true:=q2q (by decide)
 obtain ⟨h,eh,hh⟩:=pick4 200 200 230 (u % 301) (v / 16)
 have s1:0 < size:=by omega
 have m0:0<=v / 4 % size:=Int.emod_nonneg _ (by omega)
 have m1:v / 4 % size < size:=Int.emod_lt_of_pos _ s1
 have hr2:row.length < 1000000:=by omega
 by_cases hl:like=1
 ·have e1:atI [D.int 200,D.int h] 1=some (.int h):=q0Z _ _ _
  refine ⟨(1+v / 4 % size,1+v / 4 % size+v / 5 % 7,v % 4,h),⟨by dsimp only;omega,by dsimp only;omega,by dsimp only;omega,by dsimp only;omega⟩,.sh (.int v),.sh (.int (1+v / 4 % size)),.sh (.int h),?_⟩
  generalize ns.map D.int=nn at *
  simp [q0x,q5s,j0G,q88,q9Y,p1,p2,mo,eh,e1,hl,s1,q3H,hr2]
 ·have e1:atI [D.int 200,D.int h] 0=some (.int 200):=q0M _ _
  refine ⟨(1+v / 4 % size,1+v / 4 % size+v / 5 % 7,v % 4,200),⟨by dsimp only;omega,by dsimp only;omega,by dsimp only;omega,by dsimp only;omega⟩,.sh (.int v),.sh (.int (1+v / 4 % size)),.sh (.int 200),?_⟩
  generalize ns.map D.int=nn at *
  simp [q0x,q5s,j0G,q88,q9Y,p1,p2,mo,eh,e1,hl,s1,q3H,hr2]
theorem q8d (ns:List Int) (hn:ns.length<=63) (size like:Int) (hs:1<=size/\size<=700) (k:Nat) (hk:k<=100) (kd:List D) (hr:kd.length < 1000) (a4 a5 a b c d:Sl) :
 ∃q,j4O q/\∃a5' a' b' c' d',q0x (q1n 4) q3O [.sh (.lst (ns.map D.int)),.ow kd,.sh (.int size),.sh (.int like),a4,a5,a,b,c,d] (.int k)=.nx [.sh (.lst (ns.map D.int)),.ow (kd++[q0K q]),.sh (.int size),.sh (.int like),.sh (.int k),a5',a',b',c',d']:=by
 have p:=q1F ns hn 6 (by decide) (by decide)
 generalize pk ns (6:Int).toNat=v at *
 have mo:q1R 5 (k:Int)=true:=q2q (by decide)
 obtain ⟨n,hn1,hn3,en⟩:∃n:Nat,1<=n/\n<=6/\1+(v+5*(k:Int)) % 6=(n:Int):=⟨(1+(v+5*(k:Int)) % 6).toNat,by omega,by omega,by omega⟩
 obtain ⟨ρ',e,ks,a',b',c',d',h1,h2,rfl⟩:=q6P (body:=q0x (q1n 6) q5s) (λj ρ=>∃(ks:List Sg) (a b c d:Sl),ks.length=j/\(∀k∈ks,j7Z k)/\ρ=[.sh (.lst (ns.map D.int)),.ow kd,.sh (.int size),.sh (.int like),.sh (.int k),.ow (ks.map q3H),a,b,c,d]) n (λj ρ hj ⟨ks,a,b,c,d,h1,h2,e⟩=>by
  obtain ⟨q,hq,b',c',d',eq⟩:=q7M ns hn size like hs k j hk (by omega) (.ow kd) (ks.map q3H) (by simp;omega) a b c d
  refine ⟨_,by rw [e];exact eq,ks++[q],_,b',c',d',by simp [h1],λk hk=>?_,by rw [List.map_append];rfl⟩
  rcases List.mem_append.mp hk with hk | hk
  ·exact h2 k hk
  ·rw [List.mem_singleton.mp hk];exact hq) (ρ:=[.sh (.lst (ns.map D.int)),.ow kd,.sh (.int size),.sh (.int like),.sh (.int k),.ow [],a,b,c,d]) ⟨[],a,b,c,d,rfl,by simp,rfl⟩
 refine ⟨ks,⟨by omega,by omega,h2⟩,.sh (q0K ks),a',b',c',d',?_⟩
 have b0:q0x (q1n 4) q3O [.sh (.lst (ns.map D.int)),.ow kd,.sh (.int size),.sh (.int like),a4,a5,a,b,c,d] (.int k)=q3O [.sh (.lst (ns.map D.int)),.ow kd,.sh (.int size),.sh (.int like),.sh (.int k),a5,a,b,c,d]:=by simp [q0x]
 have hr2:kd.length < 1000000:=by omega
 rw [b0,q3O,q1T (v:=[]) rfl,Fl.nx_bind]
 show q9r [.sh (.lst (ns.map D.int)),.ow kd,.sh (.int size),.sh (.int like),.sh (.int k),.ow [],a,b,c,d]=_
 rw [q9r,q0O (ds:=rgD 0 n) (q1E (by rw [<-en];generalize ns.map D.int=nn at *; simp [p,mo]) (by omega)),e]
 simp [j27,j4t,hr2,q0K]
theorem j1B (ns:List Int) (hn:ns.length<=63):∃ks:List (List Sg),1<=ks.length/\ks.length<=8/\(∀k∈ks,j4O k)/\w0k [.sh (.lst (ns.map D.int))]=.ok (.fr (ks.map q0K)):=by
 have p3:=q1F ns hn 3 (by decide) (by decide)
 have p5:=q1F ns hn 5 (by decide) (by decide)
 have p7:=q1F ns hn 7 (by decide) (by decide)
 generalize pk ns (3:Int).toNat=v3 at *
 generalize pk ns (5:Int).toNat=v5 at *
 generalize pk ns (7:Int).toNat=v7 at *
 obtain ⟨n,hn1,hn3,en⟩:∃n:Nat,1<=n/\n<=8/\1+v5 % 8=(n:Int):=⟨(1+v5 % 8).toNat,by omega,by omega,by omega⟩
 obtain ⟨w,ew,hw⟩:=pick2 60 700 (v3 / 4)
 obtain ⟨size,es,hs⟩:=pick4 4 2 15 w v3
 have hs2:1<=size/\size<=700:=by omega
 obtain ⟨ρ',e,ks,a4,a5,a,b,c,d,h1,h2,rfl⟩:=q6P (body:=q0x (q1n 4) q3O) (λj ρ=>∃(ks:List (List Sg)) (a4 a5 a b c d:Sl),ks.length=j/\(∀k∈ks,j4O k)/\ρ=[.sh (.lst (ns.map D.int)),.ow (ks.map q0K),.sh (.int size),.sh (.int (v7 % 3)),a4,a5,a,b,c,d]) n (λj ρ hj ⟨ks,a4,a5,a,b,c,d,h1,h2,e⟩=>by
  obtain ⟨q,hq,a5',a',b',c',d',eq⟩:=q8d ns hn size (v7 % 3) hs2 j (by omega) (ks.map q0K) (by simp;omega) a4 a5 a b c d
  refine ⟨_,by rw [e];exact eq,ks++[q],_,a5',a',b',c',d',by simp [h1],λk hk=>?_,by rw [List.map_append];rfl⟩
  rcases List.mem_append.mp hk with hk | hk
  ·exact h2 k hk
  ·rw [List.mem_singleton.mp hk];exact hq) (ρ:=[.sh (.lst (ns.map D.int)),.ow [],.sh (.int size),.sh (.int (v7 % 3)),.no,.no,.no,.no,.no,.no]) ⟨[],.no,.no,.no,.no,.no,.no,rfl,by simp,rfl⟩
 refine ⟨ks,by omega,by omega,h2,?_⟩
 have k10:q4x [.sh (.lst (ns.map D.int)),.ow [],.sh (.int size),.sh (.int (v7 % 3)),.no,.no,.no,.no,.no,.no]=.rt (.fr (ks.map q0K)):=by
  rw [q4x,q0O (ds:=rgD 0 n) (q1E (by rw [<-en];generalize ns.map D.int=nn at *; simp [p5]) (by omega)),e]
  simp [j4M]
 have k13:q52 [.sh (.lst (ns.map D.int)),.no,.no,.no,.no,.no,.no,.no,.no,.no]=.rt (.fr (ks.map q0K)):=by
  clear e
  generalize hG:q4x=G at *
  generalize ks.map q0K=kk at *
  generalize ns.map D.int=nn at *
  simp [q52,q8g,q9L,p3,p7,ew,es,hG,k10]
 rw [w0k]
 exact q1v _ rfl k13
noncomputable def q10 (a:Nat×Int×Int):D:=.tup [.int a.1,.int a.2.1,.int a.2.2]
structure Sc where
 night:Int
 hands:Int
 benches:Int
 kilns:List (Int×Int×Int)
 kinds:List (List Sg)
 asked:List (Nat×Int×Int)
noncomputable def Sc.d (s:Sc):D:=.lst [.int s.night,.int s.hands,.int s.benches,.lst (s.kilns.map q2x),.lst (s.kinds.map q0K),.lst (s.asked.map q10)]
noncomputable def Sc.best (s:Sc):Int:=q0Q true (s.kilns.map (·.1))
structure ScOk (s:Sc):Prop where
 night:1<=s.night/\s.night<=720
 hands:1<=s.hands/\s.hands<=6
 benches:1<=s.benches/\s.benches<=6
 kne:s.kilns≠[]
 klen:s.kilns.length<=3
 kall:∀k∈s.kilns,j9t k
 dne:1<=s.kinds.length
 dlen:s.kinds.length<=8
 dall:∀k∈s.kinds,j4O k
 alen:s.asked.length<=12
 aix:∀a∈s.asked,a.1 < s.kinds.length
 alv:∀a∈s.asked,(1<=a.2.1/\a.2.1<=60)/\a.2.1<=2*s.best
 adue:∀a∈s.asked,0<=a.2.2/\a.2.2<=s.night
theorem ScOk.best {s:Sc} (h:ScOk s):1<=s.best/\s.best<=30:=by
 obtain ⟨h1,_⟩:=q2O (is:=s.kilns.map (·.1)) (by simpa using h.kne)
 obtain ⟨r,hr,e⟩:=List.mem_map.mp h1
 unfold Sc.best
 rw [<-e]
 exact (h.kall r hr).room
theorem q3Z (ks:List (Int×Int×Int)) (hk:ks≠[]) (hl:ks.length<=3) (f:Ev) (ρ:Ro) (h:f ρ=.ok (.lst (ks.map q2x))):eCB q4q (q0k (q1I (q00 (q1y f) [] (e2 ixD (q0d 0) (eC (.int 0))))) q0E) ρ=.ok (.int (q0Q true (ks.map (·.1)))):=by
 have mx:=q4u (is:=ks.map (·.1)) (by simpa using hk)
 have fc:q00 (q1y f) [] (e2 ixD (q0d 0) (eC (.int 0))) ρ=.ok ((ks.map (·.1)).map D.int):=by
  rw [List.map_map]
  refine q1o (g:=q2x) (by rw [q1y,h];rfl) (by omega) λk _=>?_
  simp [q03,q2x,q0M]
 rw [eCB,q0k,q1I,fc]
 exact mx
theorem q71 (ns:List Int) (hn:ns.length<=63) (night best:Int) (hb:1<=best/\best<=30) (kn:Nat) (hk:1<=kn) (kd:List D) (hkd:kd.length=kn) (hkl:kn<=1000) (j:Nat) (hj:j<=100) (row:List D) (hr:row.length < 1000) (s1 s3 a b c:Sl) :
 ∃q:Nat×Int×Int,(q.1 < kn/\((1<=q.2.1/\q.2.1<=60)/\q.2.1<=2*best)/\q.2.2=night)/\∃b' c',q0x (q1n 7) q7i [.sh (.lst (ns.map D.int)),s1,.sh (.int night),s3,.sh (.lst kd),.sh (.int best),.ow row,a,b,c] (.int j)=.nx [.sh (.lst (ns.map D.int)),s1,.sh (.int night),s3,.sh (.lst kd),.sh (.int best),.ow (row++[q10 q]),.sh (.int j),b',c']:=by
 have p1:=q1F ns hn (30+(j:Int)) (by omega) (by omega)
 generalize pk ns (30+(j:Int)).toNat=v at *
 have mo:q1R 2 best=true:=q2q (by decide)
 obtain ⟨m,hm,em⟩:∃m:Int,(1<=m/\m<=60/\m<=2*best)/\(if 2*best < 60 then 2*best else 60)=m:=⟨_,by split<;>omega,rfl⟩
 have m1:0 < m:=by omega
 have l0:0<=v / 8 % m:=Int.emod_nonneg _ (by omega)
 have l1:v / 8 % m < m:=Int.emod_lt_of_pos _ m1
 have k0:0 < (kn:Int):=by omega
 have k0':0 < kn:=by omega
 obtain ⟨x,hx,ex⟩:∃x:Nat,x < kn/\v % 8 % (kn:Int)=(x:Int):=by
  have h0:=Int.emod_nonneg (v % 8) (b:=(kn:Int)) (by omega)
  have h1:=Int.emod_lt_of_pos (v % 8) (b:=(kn:Int)) (by omega)
  exact ⟨(v % 8 % (kn:Int)).toNat,by omega,by omega⟩
 refine ⟨(x,1+v / 8 % m,night),⟨hx,by dsimp only;omega,rfl⟩,.sh (.int v),.sh (.int (1+v / 8 % m)),?_⟩
 have hr2:row.length < 1000000:=by omega
 generalize ns.map D.int=nn at *
 simp [q0x,q7i,j3n,j3X,p1,mo,em,m1,hkd,k0,k0',ex,q10,hr2]
theorem j2y (ns:List Int) (hn:ns.length<=63):∃s:Sc,ScOk s/\(∀a∈s.asked,a.2.2=s.night)/\∃ds,s.d=.lst ds/\j9C [.sh (.lst (ns.map D.int))]=.ok (.fr ds):=by
 have p0:=q1F ns hn 0 (by decide) (by decide)
 have p1:=q1F ns hn 1 (by decide) (by decide)
 have p4:=q1F ns hn 4 (by decide) (by decide)
 generalize pk ns (0:Int).toNat=v0 at *
 generalize pk ns (1:Int).toNat=v1 at *
 generalize pk ns (4:Int).toNat=v4 at *
 obtain ⟨ks,k1,k2,k3,ke⟩:=j2E ns hn
 obtain ⟨kds,d1,d2,d3,de⟩:=j1B ns hn
 obtain ⟨night,en,hni⟩:=pick3 720 (1+v0 / 3 % 720) (1+v0 / 3 % 120) v0
 have hni:1<=night/\night<=720:=by omega
 obtain ⟨n,hn3,e4⟩:∃n:Nat,n<=12/\v4 % 13=(n:Int):=⟨(v4 % 13).toNat,by omega,by omega⟩
 have hb:1<=q0Q true (ks.map (·.1))/\q0Q true (ks.map (·.1))<=30:=by
  obtain ⟨h1,_⟩:=q2O (is:=ks.map (·.1)) (by simpa using k1)
  obtain ⟨r,hr,e⟩:=List.mem_map.mp h1
  rw [<-e]
  exact (k3 r hr).room
 obtain ⟨ρ',e,al,a,b,c,h1,h2,rfl⟩:=q6P (body:=q0x (q1n 7) q7i) (λj ρ=>∃(al:List (Nat×Int×Int)) (a b c:Sl),al.length=j/\(∀q∈al,q.1 < kds.length/\((1<=q.2.1/\q.2.1<=60)/\q.2.1<=2*q0Q true (ks.map (·.1)))/\q.2.2=night)/\ρ=[.sh (.lst (ns.map D.int)),.sh (.int v1),.sh (.int night),.sh (.lst (ks.map q2x)),.sh (.lst (kds.map q0K)),.sh (.int (q0Q true (ks.map (·.1)))),.ow (al.map q10),a,b,c]) n (λj ρ hj ⟨al,a,b,c,h1,h2,e⟩=>by
  obtain ⟨q,hq,b',c',eq⟩:=q71 ns hn night _ hb kds.length d1 (kds.map q0K) (by simp) (by omega) j (by omega) (al.map q10) (by simp;omega) (.sh (.int v1)) (.sh (.lst (ks.map q2x))) a b c
  refine ⟨_,by rw [e];exact eq,al++[q],_,b',c',by simp [h1],λk hk=>?_,by rw [List.map_append];rfl⟩
  rcases List.mem_append.mp hk with hk | hk
  ·exact h2 k hk
  ·rw [List.mem_singleton.mp hk];exact hq) (ρ:=[.sh (.lst (ns.map D.int)),.sh (.int v1),.sh (.int night),.sh (.lst (ks.map q2x)),.sh (.lst (kds.map q0K)),.sh (.int (q0Q true (ks.map (·.1)))),.ow [],.no,.no,.no]) ⟨[],.no,.no,.no,rfl,by simp,rfl⟩
 refine ⟨⟨night,1+v1 % 6,1+v1 / 6 % 6,ks,kds,al⟩,⟨hni,by dsimp only;omega,by dsimp only;omega,k1,k2,k3,d1,d2,d3,by dsimp only;omega,λa ha=>(h2 a ha).1,λa ha=>(h2 a ha).2.1,λa ha=>?_⟩,λa ha=>(h2 a ha).2.2,_,rfl,?_⟩
 ·have:=(h2 a ha).2.2
  dsimp only
  omega
 have k6:q8S [.sh (.lst (ns.map D.int)),.sh (.int v1),.sh (.int night),.sh (.lst (ks.map q2x)),.sh (.lst (kds.map q0K)),.sh (.int (q0Q true (ks.map (·.1)))),.ow [],.no,.no,.no]=.rt (.fr [.int night,.int (1+v1 % 6),.int (1+v1 / 6 % 6),.lst (ks.map q2x),.lst (kds.map q0K),.lst (al.map q10)]):=by
  rw [q8S,q0O (ds:=rgD 0 n) (q1E (by rw [<-e4];generalize ns.map D.int=nn at *; simp [p4]) (by omega)),e]
  generalize ns.map D.int=nn
  generalize ks.map q2x=kk
  generalize kds.map q0K=dd
  generalize al.map q10=aa
  simp [j3W,j3S]
 have k8:q6i [.sh (.lst (ns.map D.int)),.sh (.int v1),.sh (.int night),.sh (.lst (ks.map q2x)),.sh (.lst (kds.map q0K)),.no,.no,.no,.no,.no]=.rt (.fr [.int night,.int (1+v1 % 6),.int (1+v1 / 6 % 6),.lst (ks.map q2x),.lst (kds.map q0K),.lst (al.map q10)]):=by
  rw [q6i,q1u (q3Z ks k1 k2 (q0d 3) _ rfl),Fl.nx_bind,j4l,q1T (v:=[]) rfl,Fl.nx_bind]
  exact k6
 clear e k6
 have k13:q51 [.sh (.lst (ns.map D.int)),.no,.no,.no,.no,.no,.no,.no,.no,.no]=.rt (.fr [.int night,.int (1+v1 % 6),.int (1+v1 / 6 % 6),.lst (ks.map q2x),.lst (kds.map q0K),.lst (al.map q10)]):=by
  generalize hG:q6i=G at *
  generalize ns.map D.int=nn at *
  generalize ks.map q2x=kk at *
  generalize kds.map q0K=dd at *
  generalize al.map q10=aa at *
  generalize q0Q true (ks.map (·.1))=M at *
  simp [q51,q8L,q8t,q84,j4f,p0,p1,en,ke,de,hG,k8]
 rw [j9C]
 exact q1v _ rfl k13
noncomputable def q07 (b:Nat×Int):D:=.tup [.int b.1,.int b.2]
noncomputable def toB (b:Int×Int×Int):Nat×Int:=((b.1-1).toNat,b.2.2)
theorem q6o (most:Int) (l:Int):∀(ls:List Int) (n:Int),q2i most n (ls++[l])=q2i most n ls++j1J most (n+ls.length) l
 | [],n=>by simp [q2i]
 | x::ls,n=>by
  rw [List.cons_append,q2i,q2i,q6o most l ls (n+1),List.append_assoc]
  congr 3
  simp;omega
theorem j8R {most ls:Int} {t:Nat} (h:1<=most) (h1:1<=ls) (ht:t < nb most ls):(t:Int)*most < ls:=by
 unfold nb at ht
 have:(t:Int)<=(ls-1) / most:=by omega
 have:=(Int.le_ediv_iff_mul_le (by omega)).mp this
 omega
theorem w0P {most ls:Int} (h:1<=most) (h1:1<=ls):ls<=(nb most ls:Int)*most:=by
 have h2:0<=(ls-1) / most:=Int.ediv_nonneg (by omega) (by omega)
 have e:(nb most ls:Int)=(ls-1) / most+1:=by unfold nb;omega
 rw [e]
 have:=Int.lt_ediv_add_one_mul_self (ls-1) (b:=most) (by omega)
 omega
noncomputable def Sc.bats (s:Sc):List (Int×Int×Int):=q2i s.best 1 (s.asked.map (·.2.1))
noncomputable def Sc.bs (s:Sc):List (Nat×Int):=s.bats.map toB
theorem j8S {most ls:Int} (h:1<=most) (h1:1<=ls) (h2:ls<=2*most):nb most ls<=2:=by
 unfold nb
 have:(ls-1) / most < 2:=(Int.ediv_lt_iff_lt_mul (by omega)).mpr (by omega)
 omega
theorem q67 (most:Int) (h:1<=most):∀(ls:List Int) (n:Int),(∀l∈ls,1<=l/\l<=2*most)->(q2i most n ls).length<=2*ls.length
 | [],n,_=>by simp [q2i]
 | l::ls,n,hl=>by
  have h1:=q67 most h ls (n+1) λx hx=>hl x (by simp [hx])
  have h2:=j8S h (hl l (by simp)).1 (hl l (by simp)).2
  rw [q2i,List.length_append,q4z,List.length_cons]
  omega
theorem ScOk.few {s:Sc} (h:ScOk s):s.bats.length<=24:=by
 have:=q67 s.best h.best.1 (s.asked.map (·.2.1)) 1 λl hl=>by
  obtain ⟨a,ha,rfl⟩:=List.mem_map.mp hl
  exact ⟨(h.alv a ha).1.1,(h.alv a ha).2⟩
 have:=h.alen
 unfold Sc.bats
 simp only [List.length_map] at *
 omega
theorem j2z {most n ls:Int} {b:Int×Int×Int} (hm:1<=most) (h1:1<=ls) (h:b∈j1J most n ls):b.1=n/\1<=b.2.2/\b.2.2<=most:=by
 obtain ⟨t,ht,rfl⟩:=List.mem_map.mp h
 have ht:t < nb most ls:=by simpa using ht
 have:=j8R hm h1 ht
 refine ⟨rfl,?_⟩
 dsimp only [q83]
 split<;>omega
theorem q6m {most:Int} (hm:1<=most):∀{ls:List Int} {n:Int} {b:Int×Int×Int},(∀l∈ls,1<=l)->b∈q2i most n ls->(n<=b.1/\b.1 < n+ls.length)/\1<=b.2.2/\b.2.2<=most
 | [],n,b,_,h=>by simp [q2i] at h
 | l::ls,n,b,hl,h=>by
  rw [q2i] at h
  rcases List.mem_append.mp h with h | h
  ·obtain ⟨e,q⟩:=j2z hm (hl l (by simp)) h
   exact ⟨⟨by omega,by simp;omega⟩,q⟩
  ·obtain ⟨e,q⟩:=q6m hm (λx hx=>hl x (by simp [hx])) h
   exact ⟨⟨by omega,by simp;omega⟩,q⟩
theorem ScOk.bat {s:Sc} (h:ScOk s) {b:Int×Int×Int} (hb:b∈s.bats):∃k:Nat,b.1=(k:Int)+1/\k < s.asked.length/\1<=b.2.2/\b.2.2<=s.best:=by
 obtain ⟨⟨h1,h2⟩,q⟩:=q6m h.best.1 (λl hl=>by
  obtain ⟨a,ha,rfl⟩:=List.mem_map.mp hl
  exact (h.alv a ha).1.1) hb
 rw [List.length_map] at h2
 exact ⟨(b.1-1).toNat,by omega,by omega,q⟩
theorem q9z {s:Sc} (h:ScOk s) (k:Nat) (hk:k < s.asked.length) (row:List D) (hr:row.length<=1000) (a b:Sl) :
 ∃b',q0x (q1n 3) q44 [.sh s.d,.sh (.int s.best),.ow row,a,b] (.int k)=.nx [.sh s.d,.sh (.int s.best),.ow (row++((j1J s.best ((k:Int)+1) (s.asked[k]'hk).2.1).map toB).map q07),.sh (.int k),b']:=by
 have at1:atI (s.asked.map q10) (k:Int)=some (q10 (s.asked[k]'hk)):=q0C (by simp [hk])
 have lv:=(h.alv _ (List.getElem_mem hk)).1
 generalize s.asked[k]'hk=A at *
 have mo:=h.best
 have hnb:=j4P mo.1 lv.1 lv.2
 obtain ⟨ρ',e,rfl⟩:=whR (t:=tB2 (i2 λi j=>.bl (decide (j < i))) (q0d 4) (eC (.int 0))) (b:=q99) (λt ρ=>ρ=[.sh s.d,.sh (.int s.best),.ow (row++(((List.range t).map (q83 s.best ((k:Int)+1) A.2.1)).map toB).map q07),.sh (.int k),.sh (.int (A.2.1-(t:Int)*s.best))]) (nb s.best A.2.1) 100000 (by omega) (λt ρ ht e=>by
  subst e
  have lt:=j8R mo.1 lv.1 ht
  refine ⟨?_,_,?_,rfl⟩
  ·have:0 < A.2.1-(t:Int)*s.best:=by omega
   have this':(t:Int)*s.best < A.2.1:=by omega
   simp [this,this']
  ·rw [List.range_succ,List.map_append,List.map_append,List.map_append,<-List.append_assoc]
   have eq:(((([t]).map (q83 s.best ((k:Int)+1) A.2.1)).map toB).map q07)=[.tup [.int k,.int (if A.2.1-(t:Int)*s.best < s.best then A.2.1-(t:Int)*s.best else s.best)]]:=by
    simp only [List.map_cons,List.map_nil,q83,toB,q07]
    rw [show A.2.1-(1+(t:Int)*s.best)+1=A.2.1-(t:Int)*s.best by omega,show (((k:Int)+1-1).toNat:Int)=k by omega]
   rw [eq]
   have em:((t+1:Nat):Int)*s.best=(t:Int)*s.best+s.best:=by rw [Int.natCast_add,Int.add_mul];simp
   rw [em]
   have hl:(row++(((List.range t).map (q83 s.best ((k:Int)+1) A.2.1)).map toB).map q07).length < 1000000:=by simp;omega
   have e2:A.2.1-(t:Int)*s.best-s.best=A.2.1-((t:Int)*s.best+s.best):=by omega
   generalize row++(((List.range t).map (q83 s.best ((k:Int)+1) A.2.1)).map toB).map q07=R at *
   generalize s.d=sd
   generalize s.best=M at *
   generalize (t:Int)*M=q at *
   simp [q99,j2N,hl,e2]) (fun ρ e=>by
  subst e
  have ge:=w0P mo.1 lv.1
  have:¬0 < A.2.1-(nb s.best A.2.1:Int)*s.best:=by omega
  have this':¬(nb s.best A.2.1:Int)*s.best < A.2.1:=by omega
  simp [this,this']) (ρ:=[.sh s.d,.sh (.int s.best),.ow row,.sh (.int k),.sh (.int A.2.1)]) (by simp)
 refine ⟨.sh (.int (A.2.1-(nb s.best A.2.1:Int)*s.best)),?_⟩
 have b0:q0x (q1n 3) q44 [.sh s.d,.sh (.int s.best),.ow row,a,b] (.int k)=q6R [.sh s.d,.sh (.int s.best),.ow row,.sh (.int k),.sh (.int A.2.1)]:=by
  generalize hG:q6R=G
  unfold Sc.d
  generalize s.asked.map q10=aa at *
  simp [q0x,q44,at1,q10,q0Z,q20,hG]
 rw [b0,q6R]
 exact e
theorem j5J {s:Sc} (h:ScOk s):j9z [.sh s.d]=.ok (.fr (s.bs.map q07)):=by
 have tk:∀j (hj:j < s.asked.length),q2i s.best 1 ((s.asked.take (j+1)).map (·.2.1))=q2i s.best 1 ((s.asked.take j).map (·.2.1))++j1J s.best ((j:Int)+1) (s.asked[j]'hj).2.1:=λj hj=>by
  rw [List.take_succ_eq_append_getElem hj,List.map_append]
  show q2i s.best 1 (_++[_])=_
  rw [q6o]
  congr 2
  simp;omega
 have few:=h.few
 obtain ⟨ρ',e,a,b,rfl⟩:=q6P (body:=q0x (q1n 3) q44) (λj ρ=>∃(a b:Sl),ρ=[.sh s.d,.sh (.int s.best),.ow (((q2i s.best 1 ((s.asked.take j).map (·.2.1))).map toB).map q07),a,b]) s.asked.length (λj ρ hj ⟨a,b,e⟩=>by
  have ll:=q6u s.best h.best.1 ((s.asked.take j).map (·.2.1)) 1 (λl hl=>by
   obtain ⟨x,hx,rfl⟩:=List.mem_map.mp hl
   exact (h.alv x (List.mem_of_mem_take hx)).1)
  have al:=h.alen
  obtain ⟨b',eq⟩:=q9z h j hj (((q2i s.best 1 ((s.asked.take j).map (·.2.1))).map toB).map q07) (by simp at ll ⊢; omega) a b
  refine ⟨_,by rw [e];exact eq,.sh (.int j),b',?_⟩
  rw [tk j hj,List.map_append,List.map_append]) (ρ:=[.sh s.d,.sh (.int s.best),.ow [],.no,.no]) ⟨.no,.no,by simp [q2i]⟩
 rw [List.take_length] at e
 have al:=h.alen
 have k6:q9b [.sh s.d,.sh (.int s.best),.ow [],.no,.no]=.rt (.fr (s.bs.map q07)):=by
  rw [q9b,q0O (ds:=rgD 0 s.asked.length) (q1E (by unfold Sc.d;simp [q20]) (by omega)),e]
  simp [j3e,Sc.bs,Sc.bats]
 rw [j9z]
 refine q1v _ rfl ?_
 show q9E [.sh s.d,.no,.no,.no,.no]=_
 rw [q9E,q1u (q3Z s.kilns h.kne h.klen (e2 ixD (q0d 0) (eC (.int 3))) _ (by unfold Sc.d;simp [q2e])),Fl.nx_bind,j2Q,q1T (v:=[]) rfl,Fl.nx_bind]
 exact k6
noncomputable abbrev Rr:=Int×List Int×Int
noncomputable def q0T (r:Rr):D:=.tup [.int r.1,.lst (r.2.1.map D.int),.int r.2.2]
noncomputable def Sc.kd (s:Sc) (k:Nat):List Sg:=s.kinds.getD (s.asked.getD k (0,0,0)).1 []
noncomputable def Sc.bk (s:Sc) (k:Nat):Prop:=(3:Int)∈(s.kd k).map (·.2.2.1)
structure RnOk (s:Sc) (k:Nat) (r:Rr):Prop where
 beg:0<=r.1/\r.1<=1440
 len:r.2.1.length=(s.kd k).length
 nn:∀x∈r.2.1,0<=x/\x<=1000
 dry:¬s.bk k->r.2.2=0
 oven:s.bk k->1<=r.2.2/\r.2.2<=s.kilns.length
theorem Sc.at_asked {s:Sc} {k:Nat} (hk:k < s.asked.length):atI (s.asked.map q10) (k:Int)=some (q10 (s.asked.getD k (0,0,0))):=q0C (by simp [hk])
theorem ScOk.ix {s:Sc} (h:ScOk s) {k:Nat} (hk:k < s.asked.length):(s.asked.getD k (0,0,0)).1 < s.kinds.length:=by
 have:=h.aix _ (List.getElem_mem hk)
 rwa [List.getD_eq_getElem?_getD,List.getElem?_eq_getElem hk,Option.getD_some]
theorem ScOk.at_kind {s:Sc} (h:ScOk s) {k:Nat} (hk:k < s.asked.length):atI (s.kinds.map q0K) ((s.asked.getD k (0,0,0)).1:Int)=some (q0K (s.kd k)):=by
 have hx:=h.ix hk
 unfold Sc.kd
 generalize (s.asked.getD k (0,0,0)).1=x at *
 exact q0C (by simp [hx])
theorem ScOk.kd {s:Sc} (h:ScOk s) {k:Nat} (hk:k < s.asked.length):j4O (s.kd k):=by
 have hx:=h.ix hk
 unfold Sc.kd
 generalize (s.asked.getD k (0,0,0)).1=x at *
 rw [List.getD_eq_getElem?_getD,List.getElem?_eq_getElem hx,Option.getD_some]
 exact h.dall _ (List.getElem_mem hx)
theorem ScOk.look {s:Sc} (h:ScOk s) {b:Nat×Int} (hb:b.1 < s.asked.length) (ρ:Ro) (h1:ρ[1]?=some (.sh s.d)) (h2:ρ[2]?=some (.sh (q07 b))) :
 e2 ixD (e2 ixD (q0d 1) (eC (.int 4))) (e2 ixD (e2 ixD (e2 ixD (q0d 1) (eC (.int 5))) (e2 ixD (q0d 2) (eC (.int 0)))) (eC (.int 0))) ρ=.ok (q0K (s.kd b.1)):=by
 have a1:=Sc.at_asked hb
 have a2:=h.at_kind hb
 unfold Sc.d at h1
 unfold q07 at h2
 generalize s.asked.getD b.1 (0,0,0)=A at *
 generalize s.asked.map q10=aa at *
 generalize s.kinds.map q0K=kk at *
 simp [h1,h2,a1,a2,q10,q0M,q3M,q20]
theorem j5b (ns:List Int) (hn:ns.length<=63) {s:Sc} (h:ScOk s) {b:Nat×Int} (hb:b.1 < s.asked.length) (k:Nat) (hk:k<=1000) :
 ∃o:Int,(¬s.bk b.1->o=0)/\(s.bk b.1->1<=o/\o<=s.kilns.length)/\j6u [.sh (.lst (ns.map D.int)),.sh s.d,.sh (q07 b),.sh (.int k)]=.ok (.sh (.int o)):=by
 have p1:=q1F ns hn (50+(k:Int)) (by omega) (by omega)
 have p2:=q1F ns hn 51 (by decide) (by decide)
 generalize pk ns (50+(k:Int)).toNat=v at *
 generalize pk ns (51:Int).toNat=u at *
 have fc:q00 (q1y (e2 ixD (e2 ixD (q0d 1) (eC (.int 4))) (e2 ixD (e2 ixD (e2 ixD (q0d 1) (eC (.int 5))) (e2 ixD (q0d 2) (eC (.int 0)))) (eC (.int 0))))) [] (e2 ixD (q0d 0) (eC (.int 2))) [.sh (.lst (ns.map D.int)),.sh s.d,.sh (q07 b),.sh (.int k),.no,.no]=.ok (((s.kd b.1).map (·.2.2.1)).map D.int):=by
  rw [List.map_map]
  refine q1o (g:=q3H) (by rw [q1y,h.look hb _ rfl rfl];rfl) (by have:=(h.kd hb).six;omega) λx _=>?_
  simp [q03,q3H,q1s]
 have ind:=j1z true 3 ((s.kd b.1).map (·.2.2.1))
 by_cases hbk:s.bk b.1
 ·have hd:decide ((3:Int)∈(s.kd b.1).map (·.2.2.1))=true:=decide_eq_true hbk
  rw [hd] at ind
  have back:∀j:Nat,(1:Int)+(j:Int)-1=(j:Int):=λj=>by omega
  have n0':0 < s.kilns.length:=List.length_pos_iff.mpr h.kne
  have n0:0 < (s.kilns.length:Int):=by have:=List.length_pos_iff.mpr h.kne;omega
  obtain ⟨j,hj,ej⟩:∃j:Nat,j < s.kilns.length/\v % (s.kilns.length:Int)=(j:Int):=by
   have h0:=Int.emod_nonneg v (b:=(s.kilns.length:Int)) (by omega)
   have h1:=Int.emod_lt_of_pos v (b:=(s.kilns.length:Int)) (by omega)
   exact ⟨(v % (s.kilns.length:Int)).toNat,by omega,by omega⟩
  have a1:atI (s.kilns.map q2x) (j:Int)=some (q2x (s.kilns[j]'hj)):=q0C (by simp [hj])
  generalize s.kilns[j]'hj=K at *
  have mx:=q4u (is:=s.kilns.map (·.1)) (by simpa using h.kne)
  obtain ⟨x,hx,ex⟩:=q5Y (q0Q true (s.kilns.map (·.1))) (s.kilns.map (·.1)) (q2O (is:=s.kilns.map (·.1)) (by simpa using h.kne)).1
  rw [List.length_map] at hx
  have fr:∀o:Sl,q00 (q1y (e2 ixD (q0d 1) (eC (.int 3)))) [] (e2 ixD (q0d 0) (eC (.int 0))) [.sh (.lst (ns.map D.int)),.sh s.d,.sh (q07 b),.sh (.int k),o,.no]=.ok ((s.kilns.map (·.1)).map D.int):=λo=>by
   rw [List.map_map]
   refine q1o (g:=q2x) (by unfold Sc.d;simp [q2e]) (by have:=h.klen;omega) λx _=>?_
   simp [q03,q2x,q0M]
  have k3:∀o:Sl,∃z,q5i [.sh (.lst (ns.map D.int)),.sh s.d,.sh (q07 b),.sh (.int k),o,.no]=.nx [.sh (.lst (ns.map D.int)),.sh s.d,.sh (q07 b),.sh (.int k),.sh (.int (1+(x:Int))),z]:=λo=>by
   refine ⟨.sh (.lst ((s.kilns.map (·.1)).map D.int)),?_⟩
   rw [q5i,q1u (v:=.lst ((s.kilns.map (·.1)).map D.int)) (by rw [q1I,fr,Out.ok_bind]),Fl.nx_bind]
   generalize q0Q true (s.kilns.map (·.1))=M at *
   generalize (s.kilns.map (·.1)).map D.int=rr at *
   simp [j4g,mx,ex]
  by_cases h5:K.1 < b.2/\0 < u % 5
  ·refine ⟨1+(x:Int),λz=>absurd hbk z,λ_=>by omega,?_⟩
   obtain ⟨z,e3⟩:=k3 (.sh (.int (1+(j:Int))))
   rw [j6u]
   refine q1v _ rfl ?_
   show q3C [.sh (.lst (ns.map D.int)),.sh s.d,.sh (q07 b),.sh (.int k),.no,.no]=_
   rw [q3C]
   generalize hC:q00 (q1y (e2 ixD (e2 ixD (q0d 1) (eC (.int 4))) (e2 ixD (e2 ixD (e2 ixD (q0d 1) (eC (.int 5))) (e2 ixD (q0d 2) (eC (.int 0)))) (eC (.int 0))))) [] (e2 ixD (q0d 0) (eC (.int 2)))=C at *
   generalize hG:q5i=G at *
   have h51:=h5.1
   have h52:=h5.2
   have sl:(s.kilns.map q2x).length=s.kilns.length:=by simp
   clear fr k3 mx ex
   generalize ((s.kd b.1).map (·.2.2.1)).map D.int=ww at *
   generalize hsd:s.d=sd at *
   unfold Sc.d at hsd
   generalize s.kilns.map q2x=kk at *
   generalize s.kinds.map q0K=dd at *
   generalize s.asked.map q10=aa at *
   subst hsd
   generalize s.kilns.length=L at *
   generalize ns.map D.int=nn at *
   unfold q07 q2x at *
   simp [q6z,q6Q,q6t,hG,fc,ind,p1,p2,sl,n0,n0',back,ej,a1,q0M,q0Z,q2e,h51,h52,e3]
  ·refine ⟨1+(j:Int),λz=>absurd hbk z,λ_=>by omega,?_⟩
   rw [j6u]
   refine q1v _ rfl ?_
   show q3C [.sh (.lst (ns.map D.int)),.sh s.d,.sh (q07 b),.sh (.int k),.no,.no]=_
   rw [q3C]
   generalize hC:q00 (q1y (e2 ixD (e2 ixD (q0d 1) (eC (.int 4))) (e2 ixD (e2 ixD (e2 ixD (q0d 1) (eC (.int 5))) (e2 ixD (q0d 2) (eC (.int 0)))) (eC (.int 0))))) [] (e2 ixD (q0d 0) (eC (.int 2)))=C at *
   generalize hG:q5i=G at *
   have sl:(s.kilns.map q2x).length=s.kilns.length:=by simp
   clear fr k3 mx ex
   generalize ((s.kd b.1).map (·.2.2.1)).map D.int=ww at *
   generalize hsd:s.d=sd at *
   unfold Sc.d at hsd
   generalize s.kilns.map q2x=kk at *
   generalize s.kinds.map q0K=dd at *
   generalize s.asked.map q10=aa at *
   subst hsd
   generalize s.kilns.length=L at *
   generalize ns.map D.int=nn at *
   unfold q07 q2x at *
   by_cases h51:K.1 < b.2
   ·have h52:¬0 < u % 5:=λz=>h5 ⟨h51,z⟩
    simp [q6z,q6Q,q6t,hG,fc,ind,p1,p2,sl,n0,n0',back,ej,a1,q0M,q0Z,q2e,h51,h52]
   ·simp [q6z,q6Q,q6t,hG,fc,ind,p1,p2,sl,n0,n0',back,ej,a1,q0M,q0Z,q2e,h51]
 ·have hd:decide ((3:Int)∈(s.kd b.1).map (·.2.2.1))=false:=decide_eq_false hbk
  rw [hd] at ind
  refine ⟨0,λ_=>rfl,λz=>absurd z hbk,?_⟩
  rw [j6u]
  refine q1v _ rfl ?_
  show q3C [.sh (.lst (ns.map D.int)),.sh s.d,.sh (q07 b),.sh (.int k),.no,.no]=_
  rw [q3C]
  generalize hC:q00 (q1y (e2 ixD (e2 ixD (q0d 1) (eC (.int 4))) (e2 ixD (e2 ixD (e2 ixD (q0d 1) (eC (.int 5))) (e2 ixD (q0d 2) (eC (.int 0)))) (eC (.int 0))))) [] (e2 ixD (q0d 0) (eC (.int 2)))=C at *
  generalize ((s.kd b.1).map (·.2.2.1)).map D.int=ww at *
  simp [j3f,fc,ind]
theorem j1L (ns:List Int) (hn:ns.length<=63) (kd:List Sg) (hk:j4O kd) (k j:Nat) (hk1:k<=1000) (hj:j < kd.length) (s1 s2 s4:Sl) (row:List D) (hr:row.length < 1000) (a b c:Sl) :
 ∃x:Int,(0<=x/\x<=1000)/\∃b' c',q0x (q1n 7) q5n [.sh (.lst (ns.map D.int)),s1,s2,.sh (.int k),s4,.sh (q0K kd),.ow row,a,b,c] (.int j)=.nx [.sh (.lst (ns.map D.int)),s1,s2,.sh (.int k),s4,.sh (q0K kd),.ow (row++[.int x]),.sh (.int j),b',c']:=by
 have j6:=hk.six
 have p1:=q1F ns hn (40+3*(k:Int)+(j:Int)) (by omega) (by omega)
 have p2:=q1F ns hn 19 (by decide) (by decide)
 generalize pk ns (40+3*(k:Int)+(j:Int)).toNat=v at *
 generalize pk ns (19:Int).toNat=u at *
 have mo:q1R 3 (k:Int)=true:=q2q (by decide)
 have mo2:q1R 2 (k:Int)=true:=q2q (by decide)
 have at1:atI (kd.map q3H) (j:Int)=some (q3H (kd[j]'hj)):=q0C (by simp [hj])
 have so:=hk.all _ (List.getElem_mem hj)
 generalize kd[j]'hj=S at *
 have l1:=so.least
 have l2:=so.most
 have d1:0 < S.2.1-S.1+1:=by omega
 have m0:0<=v % (S.2.1-S.1+1):=Int.emod_nonneg _ (by omega)
 have m1:v % (S.2.1-S.1+1) < S.2.1-S.1+1:=Int.emod_lt_of_pos _ d1
 have hr2:row.length < 1000000:=by omega
 by_cases h:u % 97=2*(k:Int)+(j:Int)
 ·obtain ⟨m,hm,em⟩:∃m:Int,(0<=m/\m<=1000)/\(if S.1-1-v % 3 > 0 then S.1-1-v % 3 else 0)=m:=⟨_,by split<;>omega,rfl⟩
  have em':(if 0 < S.1-1-v % 3 then S.1-1-v % 3 else 0)=m:=em
  have em3:(if v % 3 < S.1-1 then S.1-1-v % 3 else 0)=m:=by rw [<-em];split<;>split<;>omega
  obtain ⟨x,ex,hx⟩:=pick2 m (S.2.1+1+v % 3) (v / 3)
  refine ⟨x,by omega,.sh (.int v),.sh (.int x),?_⟩
  unfold q0K
  generalize kd.map q3H=kk at *
  generalize ns.map D.int=nn at *
  unfold q3H at at1
  generalize S.1=A at *
  generalize S.2.1=B at *
  simp [q0x,q5n,j0F,j07,j0M,j4w,p1,p2,mo,mo2,at1,q0M,q0Z,d1,h,em,em',em3,ex,hr2]
 ·refine ⟨S.1+v % (S.2.1-S.1+1),by omega,.sh (.int v),.sh (.int (S.1+v % (S.2.1-S.1+1))),?_⟩
  unfold q0K
  generalize kd.map q3H=kk at *
  generalize ns.map D.int=nn at *
  unfold q3H at at1
  generalize S.1=A at *
  generalize S.2.1=B at *
  simp [q0x,q5n,j0F,j07,j0M,p1,p2,mo,mo2,at1,q0M,q0Z,d1,h,hr2]
theorem j6h (ns:List Int) (hn:ns.length<=63) {s:Sc} (h:ScOk s) {b:Nat×Int} (hb:b.1 < s.asked.length) (k:Nat) (hk:k<=1000) (beg:Int) (h0:0<=beg) :
 ∃r:Rr,RnOk s b.1 r/\w0i [.sh (.lst (ns.map D.int)),.sh s.d,.sh (q07 b),.sh (.int k),.sh (.int beg)]=.ok (.sh (q0T r)):=by
 obtain ⟨o,o1,o2,oe⟩:=j5b ns hn h hb k hk
 have kk:=h.kd hb
 have k6:=kk.six
 obtain ⟨ρ',e,ls,a,b',c,h1,h2,rfl⟩:=q6P (body:=q0x (q1n 7) q5n) (λj ρ=>∃(ls:List Int) (a b' c:Sl),ls.length=j/\(∀x∈ls,0<=x/\x<=1000)/\ρ=[.sh (.lst (ns.map D.int)),.sh s.d,.sh (q07 b),.sh (.int k),.sh (.int beg),.sh (q0K (s.kd b.1)),.ow (ls.map D.int),a,b',c]) (s.kd b.1).length (λj ρ hj ⟨ls,a,b',c,h1,h2,e⟩=>by
  obtain ⟨q,hq,b2,c2,eq⟩:=j1L ns hn (s.kd b.1) kk k j hk hj (.sh s.d) (.sh (q07 b)) (.sh (.int beg)) (ls.map D.int) (by simp;omega) a b' c
  refine ⟨_,by rw [e];exact eq,ls++[q],_,b2,c2,by simp [h1],λk hk=>?_,by rw [List.map_append];rfl⟩
  rcases List.mem_append.mp hk with hk | hk
  ·exact h2 k hk
  ·rw [List.mem_singleton.mp hk];exact hq) (ρ:=[.sh (.lst (ns.map D.int)),.sh s.d,.sh (q07 b),.sh (.int k),.sh (.int beg),.sh (q0K (s.kd b.1)),.ow [],.no,.no,.no]) ⟨[],.no,.no,.no,rfl,by simp,rfl⟩
 obtain ⟨m,hm,em⟩:∃m:Int,(0<=m/\m<=1440)/\(if 1440 < beg then 1440 else beg)=m:=⟨_,by split<;>omega,rfl⟩
 refine ⟨(m,ls,o),⟨hm,h1,h2,o1,o2⟩,?_⟩
 have k8:q8e [.sh (.lst (ns.map D.int)),.sh s.d,.sh (q07 b),.sh (.int k),.sh (.int beg),.sh (q0K (s.kd b.1)),.ow [],.no,.no,.no]=.rt (.sh (q0T (m,ls,o))):=by
  rw [q8e,q0O (ds:=rgD 0 (s.kd b.1).length) (q1E (by unfold q0K;simp) (by omega)),e]
  generalize s.d=sd at *
  generalize q07 b=bb at *
  generalize q0K (s.kd b.1)=dd at *
  unfold q0T
  generalize ls.map D.int=ll at *
  generalize ns.map D.int=nn at *
  simp [j4e,j4H,oe,em]
 rw [w0i]
 refine q1v _ rfl ?_
 show q54 [.sh (.lst (ns.map D.int)),.sh s.d,.sh (q07 b),.sh (.int k),.sh (.int beg),.no,.no,.no,.no,.no]=_
 rw [q54,q1u (h.look hb _ rfl rfl),Fl.nx_bind,j3Y,q1T (v:=[]) rfl,Fl.nx_bind]
 exact k8
noncomputable def PlOk (s:Sc) (rs:List Rr):Prop:=∀(i:Nat) (b:Nat×Int) (r:Rr),s.bs[i]?=some b->rs[i]?=some r->RnOk s b.1 r
theorem j71 {s:Sc} (h:ScOk s) {b:Nat×Int} (hb:b∈s.bs):b.1 < s.asked.length:=by
 obtain ⟨x,hx,rfl⟩:=List.mem_map.mp hb
 obtain ⟨k,e,hk,_⟩:=h.bat hx
 show (x.1-1).toNat < _
 omega
theorem lane3 (q0 q1 q2:Int) (l:Int) (hl:l=0∨l=1∨l=2) (h0:0<=q0) (h1:0<=q1) (h2:0<=q2):∃e,0<=e/\atI [D.int q0,D.int q1,D.int q2] l=some (.int e):=by
 rcases hl with rfl | rfl | rfl
 ·exact ⟨q0,h0,q0M _ _⟩
 ·exact ⟨q1,h1,q0Z _ _ _⟩
 ·exact ⟨q2,h2,q1s _ _ _ _⟩
theorem set3 (q0 q1 q2 v:Int) (l:Int) (hl:l=0∨l=1∨l=2) (h0:0<=q0) (h1:0<=q1) (h2:0<=q2) (hv:0<=v):∃f0 f1 f2,(0<=f0/\0<=f1/\0<=f2)/\j3I [D.int q0,D.int q1,D.int q2] l (.int v)=some [.int f0,.int f1,.int f2]:=by
 rcases hl with rfl | rfl | rfl
 ·exact ⟨v,q1,q2,⟨hv,h1,h2⟩,rfl⟩
 ·exact ⟨q0,v,q2,⟨h0,hv,h2⟩,rfl⟩
 ·exact ⟨q0,q1,v,⟨h0,h1,hv⟩,rfl⟩
theorem j0j (ns:List Int) (hn:ns.length<=63) {s:Sc} (h:ScOk s) (k:Nat) (hk:k < s.bs.length) (rs:List Rr) (hr:rs.length < 1000) (q0 q1 q2 mode:Int) (hm:mode=0∨mode=1∨mode=2∨mode=3) (h0:0<=q0) (h1:0<=q1) (h2:0<=q2) (a b c d f:Sl) :
 ∃r,RnOk s (s.bs[k]'hk).1 r/\∃f0 f1 f2,(0<=f0/\0<=f1/\0<=f2)/\∃b' c' d' f',q0x (q1n 6) q3X [.sh (.lst (ns.map D.int)),.sh s.d,.sh (.lst (s.bs.map q07)),.ow (rs.map q0T),.ow [.int q0,.int q1,.int q2],.sh (.int mode),a,b,c,d,f] (.int k) =
  .nx [.sh (.lst (ns.map D.int)),.sh s.d,.sh (.lst (s.bs.map q07)),.ow ((rs++[r]).map q0T),.ow [.int f0,.int f1,.int f2],.sh (.int mode),.sh (.int k),b',c',d',f']:=by
 have few:=h.few
 have hk24:k < 24:=by have:s.bs.length=s.bats.length:=by simp [Sc.bs]
                      omega
 have p1:=q1F ns hn (14+(k:Int)) (by omega) (by omega)
 generalize pk ns (14+(k:Int)).toNat=v at *
 have at1:atI (s.bs.map q07) (k:Int)=some (q07 (s.bs[k]'hk)):=q0C (by simp [hk])
 have hb:=j71 h (List.getElem_mem hk)
 generalize s.bs[k]'hk=B at *
 obtain ⟨lane,el,hl⟩:∃lane:Int,atI [D.int 0,D.int ((k:Int) % 2),D.int ((k:Int) % 3),D.int 0] mode=some (.int lane)/\(lane=0∨lane=1∨lane=2):=by
  rcases hm with rfl | rfl | rfl | rfl
  ·exact ⟨0,q0M _ _,.inl rfl⟩
  ·exact ⟨(k:Int) % 2,q0Z _ _ _,by omega⟩
  ·exact ⟨(k:Int) % 3,q1s _ _ _ _,by omega⟩
  ·exact ⟨0,q2e _ _ _ _ _,.inl rfl⟩
 obtain ⟨e,he,ee⟩:=lane3 q0 q1 q2 lane hl h0 h1 h2
 obtain ⟨x,ex,hx⟩:=pick4 0 1 8 (v % 31) (v / 4)
 have hx:0<=x:=by omega
 have n0:0 < s.night+1:=by have:=h.night;omega
 have hv0:0<=v % (s.night+1):=Int.emod_nonneg _ (by omega)
 obtain ⟨beg,hb0,k6⟩:∃beg:Int,0<=beg/\q0x (q1n 6) q3X [.sh (.lst (ns.map D.int)),.sh s.d,.sh (.lst (s.bs.map q07)),.ow (rs.map q0T),.ow [.int q0,.int q1,.int q2],.sh (.int mode),a,b,c,d,f] (.int k)=q5b [.sh (.lst (ns.map D.int)),.sh s.d,.sh (.lst (s.bs.map q07)),.ow (rs.map q0T),.ow [.int q0,.int q1,.int q2],.sh (.int mode),.sh (.int k),.sh (.int v),.sh (.int lane),.sh (.int beg),f]:=by
  generalize hG:q5b=G
  unfold Sc.d
  generalize s.bs.map q07=bb at *
  generalize rs.map q0T=rr at *
  generalize s.kilns.map q2x=kk at *
  generalize s.kinds.map q0K=dd at *
  generalize s.asked.map q10=aa at *
  generalize ns.map D.int=nn at *
  by_cases m3:mode=3
  ·refine ⟨v % (s.night+1),hv0,?_⟩
   subst m3
   simp [q0x,q3X,j0L,j0s,q9e,j3V,p1,el,ee,ex,q0M,n0,hG]
  ·refine ⟨e+x,by omega,?_⟩
   simp [q0x,q3X,j0L,j0s,q9e,p1,el,ee,ex,m3,hG]
 obtain ⟨r,hr1,er⟩:=j6h ns hn h hb k (by omega) beg hb0
 have sm:=q5B (is:=r.2.1) (by have:=hr1.len;have:=(h.kd hb).six;omega) λi hi=>by have:=hr1.nn i hi;omega
 have s0:0<=isum r.2.1:=j5w λi hi=>(hr1.nn i hi).1
 obtain ⟨f0,f1,f2,hf,ef⟩:=set3 q0 q1 q2 (r.1+isum r.2.1) lane hl h0 h1 h2 (by have:=hr1.beg;omega)
 refine ⟨r,hr1,f0,f1,f2,hf,.sh (.int v),.sh (.int lane),.sh (.int beg),.sh (q0T r),?_⟩
 have hr2:(rs.map q0T).length < 1000000:=by simp;omega
 have mp:(rs++[r]).map q0T=rs.map q0T++[q0T r]:=by simp
 rw [k6,mp]
 clear k6 mp
 have c0:ixD (q0T r) (.int 0)=.ok (.int r.1):=by simp [q0T,q0M]
 have c1:ixD (q0T r) (.int 1)=.ok (.lst (r.2.1.map D.int)):=by simp [q0T,q0Z]
 have k4:q5b [.sh (.lst (ns.map D.int)),.sh s.d,.sh (.lst (s.bs.map q07)),.ow (rs.map q0T),.ow [.int q0,.int q1,.int q2],.sh (.int mode),.sh (.int k),.sh (.int v),.sh (.int lane),.sh (.int beg),f]=q4X [.sh (.lst (ns.map D.int)),.sh s.d,.sh (.lst (s.bs.map q07)),.ow (rs.map q0T),.ow [.int q0,.int q1,.int q2],.sh (.int mode),.sh (.int k),.sh (.int v),.sh (.int lane),.sh (.int beg),.sh (q0T r)]:=by
  generalize hG:q4X=G
  generalize s.bs.map q07=bb at *
  generalize rs.map q0T=rr at *
  generalize ns.map D.int=nn at *
  generalize s.d=sd at *
  generalize q0T r=R at *
  simp [q5b,at1,er,hG]
 have k3:q4X [.sh (.lst (ns.map D.int)),.sh s.d,.sh (.lst (s.bs.map q07)),.ow (rs.map q0T),.ow [.int q0,.int q1,.int q2],.sh (.int mode),.sh (.int k),.sh (.int v),.sh (.int lane),.sh (.int beg),.sh (q0T r)]=j0Y [.sh (.lst (ns.map D.int)),.sh s.d,.sh (.lst (s.bs.map q07)),.ow (rs.map q0T),.ow [.int f0,.int f1,.int f2],.sh (.int mode),.sh (.int k),.sh (.int v),.sh (.int lane),.sh (.int beg),.sh (q0T r)]:=by
  have ev:e2 q1l (e2 ixD (q0d 10) (eC (.int 0))) (eCB q8h (q0k (e2 ixD (q0d 10) (eC (.int 1))) q0E)) [.sh (.lst (ns.map D.int)),.sh s.d,.sh (.lst (s.bs.map q07)),.ow (rs.map q0T),.ow [.int q0,.int q1,.int q2],.sh (.int mode),.sh (.int k),.sh (.int v),.sh (.int lane),.sh (.int beg),.sh (q0T r)]=.ok (.int (r.1+isum r.2.1)):=by
   show Out.bind (Out.bind (Out.ok (q0T r)) λx=>Out.bind (.ok (.int 0)) (ixD x)) _=_
   rw [Out.ok_bind,Out.ok_bind,c0,Out.ok_bind]
   show Out.bind (Out.bind (Out.bind (Out.bind (Out.ok (q0T r)) λx=>Out.bind (.ok (.int 1)) (ixD x)) _) _) _=_
   rw [Out.ok_bind,Out.ok_bind,c1,Out.ok_bind]
   show Out.bind (q8h [.lst (r.2.1.map D.int)]) _=_
   rw [sm]
   rfl
  rw [q4X,j1q,ev,Out.ok_fl]
  show Fl.bind (match j3I _ lane _ with | some ds'=>_ | none=>_) _=_
  rw [ef]
  rfl
 rw [k4,k3]
 generalize s.bs.map q07=bb at *
 generalize rs.map q0T=rr at *
 generalize ns.map D.int=nn at *
 generalize s.d=sd at *
 generalize q0T r=R at *
 simp [j0Y,hr2]
theorem j49 (ns:List Int) (hn:ns.length<=63) {s:Sc} (h:ScOk s):∃rs:List Rr,rs.length=s.bs.length/\PlOk s rs/\w0c [.sh (.lst (ns.map D.int)),.sh s.d,.sh (.lst (s.bs.map q07))]=.ok (.fr (rs.map q0T)):=by
 have few:=h.few
 have bl:s.bs.length=s.bats.length:=by simp [Sc.bs]
 have p:=q1F ns hn 13 (by decide) (by decide)
 generalize pk ns (13:Int).toNat=v at *
 obtain ⟨mode,hm,em⟩:∃mode:Int,(mode=0∨mode=1∨mode=2∨mode=3)/\v % 4=mode:=⟨v % 4,by omega,rfl⟩
 obtain ⟨ρ',e,rs,q0,q1,q2,a,b,c,d,f,h1,h2,_,rfl⟩:=q6P (body:=q0x (q1n 6) q3X) (λj ρ=>∃(rs:List Rr) (q0 q1 q2:Int) (a b c d f:Sl),rs.length=j/\PlOk s rs/\(0<=q0/\0<=q1/\0<=q2)/\ρ=[.sh (.lst (ns.map D.int)),.sh s.d,.sh (.lst (s.bs.map q07)),.ow (rs.map q0T),.ow [.int q0,.int q1,.int q2],.sh (.int mode),a,b,c,d,f]) s.bs.length (λj ρ hj ⟨rs,q0,q1,q2,a,b,c,d,f,h1,h2,h3,e⟩=>by
  obtain ⟨r,hr,f0,f1,f2,hf,b',c',d',f',eq⟩:=j0j ns hn h j hj rs (by omega) q0 q1 q2 mode hm h3.1 h3.2.1 h3.2.2 a b c d f
  refine ⟨_,by rw [e];exact eq,rs++[r],f0,f1,f2,.sh (.int j),b',c',d',f',by simp [h1],λi b q hb hq=>?_,hf,rfl⟩
  by_cases hi:i < rs.length
  ·rw [List.getElem?_append_left hi] at hq
   exact h2 i b q hb hq
  ·rw [List.getElem?_append_right (by omega)] at hq
   have:i-rs.length=0:=by
    refine Classical.byContradiction λz=>?_
    rw [List.getElem?_eq_none (by simp;omega)] at hq
    cases hq
   rw [this] at hq
   have hq:r=q:=by simpa using hq
   subst hq
   have ij:i=j:=by omega
   subst ij
   rw [List.getElem?_eq_getElem hj] at hb
   cases hb
   exact hr) (ρ:=[.sh (.lst (ns.map D.int)),.sh s.d,.sh (.lst (s.bs.map q07)),.ow [],.ow [.int 0,.int 0,.int 0],.sh (.int mode),.no,.no,.no,.no,.no]) ⟨[],0,0,0,.no,.no,.no,.no,.no,rfl,λi b r _ z=>by simp at z,by decide,rfl⟩
 refine ⟨rs,h1,h2,?_⟩
 have k10:q4g [.sh (.lst (ns.map D.int)),.sh s.d,.sh (.lst (s.bs.map q07)),.ow [],.ow [.int 0,.int 0,.int 0],.sh (.int mode),.no,.no,.no,.no,.no]=.rt (.fr (rs.map q0T)):=by
  rw [q4g,q0O (ds:=rgD 0 s.bs.length) (q1E (by simp) (by omega)),e]
  simp [j3D]
 have k13:q5X [.sh (.lst (ns.map D.int)),.sh s.d,.sh (.lst (s.bs.map q07)),.no,.no,.no,.no,.no,.no,.no,.no]=.rt (.fr (rs.map q0T)):=by
  clear e
  generalize hG:q4g=G at *
  generalize s.bs.map q07=bb at *
  generalize rs.map q0T=rr at *
  generalize ns.map D.int=nn at *
  generalize s.d=sd at *
  simp [q5X,q9a,j0t,p,em,hG,k10]
 rw [w0c]
 exact q1v _ rfl k13
noncomputable def q2B (w:Int):Str:=if w=0 then "nothing" else if w=1 then "hands" else if w=2 then "bench" else "oven"
noncomputable def q2j (x:Sg):D:=.ins 15 [.str "stage",.int x.1,.int x.2.1,.str (q2B x.2.2.1),.int x.2.2.2]
theorem j6g {w:Int} (h:0<=w/\w<=3):atI [D.str "nothing",D.str "hands",D.str "bench",D.str "oven"] w=some (.str (q2B w)):=by
 have:w=0∨w=1∨w=2∨w=3:=by omega
 rcases this with rfl | rfl | rfl | rfl
 ·exact q0M _ _
 ·exact q0Z _ _ _
 ·exact q1s _ _ _ _
 ·exact q2e _ _ _ _ _
theorem j5S {w:Int} (h:0<=w/\w<=3):wOk (q2B w)=true:=by
 have:w=0∨w=1∨w=2∨w=3:=by omega
 rcases this with rfl | rfl | rfl | rfl<;>decide +kernel
theorem j2H:Wd 12 (Str.ofString "stage"):=⟨⟨by decide +kernel,by decide +kernel⟩,by decide +kernel,by decide +kernel⟩
noncomputable def Sc.brs (s:Sc) (zs:List Str):List (Str×List D):=List.zipWith (λz k=>(z,k.map q2j)) zs s.kinds
theorem q59 {s:Sc} {zs:List Str} (hz:zs.length=s.kinds.length):(s.brs zs).length=s.kinds.length:=by simp [Sc.brs,hz]
theorem j5E {s:Sc} {zs:List Str} (hz:zs.length=s.kinds.length):(s.brs zs).map (·.1)=zs:=by
 unfold Sc.brs
 rw [List.map_zipWith]
 show List.zipWith (λz _=>z) zs s.kinds=zs
 have:∀(zs:List Str) (ks:List (List Sg)),zs.length=ks.length->List.zipWith (λz _=>z) zs ks=zs:=by
  intro zs
  induction zs with
  | nil=>intro ks _;rfl
  | cons z zs ih=>
   intro ks h
   cases ks with
   | nil=>simp at h
   | cons k ks=>rw [List.zipWith_cons_cons,ih ks (by simpa using h)]
 exact this zs s.kinds hz
theorem j4v {s:Sc} {zs:List Str} {k:Nat} (hz:zs.length=s.kinds.length) (hk:k < s.kinds.length):(s.brs zs)[k]?=some (zs.getD k Str.empty,(s.kinds.getD k []).map q2j):=by
 unfold Sc.brs
 rw [List.getElem?_zipWith]
 rw [List.getElem?_eq_getElem (by omega),List.getElem?_eq_getElem hk]
 simp [hz,hk]
noncomputable abbrev Sc.bkr (s:Sc) (zs:List Str):D:=Lw.bkr s.night s.hands s.benches s.kilns (s.brs zs)
theorem q5P {s:Sc} (h:ScOk s) (zs:List Str) (hz:zs.length=s.kinds.length) (w:∀z∈zs,Wd 12 z) (k:Nat) (hk:k < s.kinds.length) (row:List D) (hr:row.length < 1000) (a s5 b:Sl) :
 ∃b',q0x (q1n 4) q36 [.sh s.d,.sh (.lst (zs.map D.str)),.sh (.lst [.str "nothing",.str "hands",.str "bench",.str "oven"]),.ow row,a,s5,b] (.int k) =
  .nx [.sh s.d,.sh (.lst (zs.map D.str)),.sh (.lst [.str "nothing",.str "hands",.str "bench",.str "oven"]),.ow (row++[brd (zs.getD k Str.empty,(s.kinds.getD k []).map q2j)]),.sh (.int k),s5,b']:=by
 have a1:atI (s.kinds.map q0K) (k:Int)=some (q0K (s.kinds.getD k [])):=q0C (by simp [hk])
 have a2:atI (zs.map D.str) (k:Int)=some (.str (zs.getD k Str.empty)):=q0C (by simp [hk,hz])
 have ko:j4O (s.kinds.getD k []):=by
  rw [List.getD_eq_getElem?_getD,List.getElem?_eq_getElem hk,Option.getD_some]
  exact h.dall _ (List.getElem_mem hk)
 have wz:Wd 12 (zs.getD k Str.empty):=by
  rw [List.getD_eq_getElem?_getD,List.getElem?_eq_getElem (by omega),Option.getD_some]
  exact w _ (List.getElem_mem _)
 generalize s.kinds.getD k []=K at *
 generalize zs.getD k Str.empty=Z at *
 have b0:q0x (q1n 4) q36 [.sh s.d,.sh (.lst (zs.map D.str)),.sh (.lst [.str "nothing",.str "hands",.str "bench",.str "oven"]),.ow row,a,s5,b] (.int k)=q36 [.sh s.d,.sh (.lst (zs.map D.str)),.sh (.lst [.str "nothing",.str "hands",.str "bench",.str "oven"]),.ow row,.sh (.int k),s5,b]:=by simp [q0x]
 refine ⟨.sh (.lst (K.map q2j)),?_⟩
 rw [b0,q36,q1u (v:=.lst (K.map q2j))]
 ·rw [Fl.nx_bind]
  have bm:=j1K Z (K.map q2j) wz (by simpa using ko.one) (by simpa using ko.six)
  have hr2:row.length < 1000000:=by omega
  unfold brd
  generalize K.map q2j=kk at *
  generalize s.d=sd at *
  generalize zs.map D.str=zz at *
  simp [j4D,a2,bm,hr2]
 ·rw [q1I,q1o (g:=q3H) (k:=q2j) (l:=K)]
  ·rfl
  ·unfold Sc.d
   generalize s.kinds.map q0K=dd at *
   simp [a1,q3M,q0K]
  ·have:=ko.six;omega
  ·intro x hx
   have so:=ko.all x hx
   have wa:=j6g so.want
   have l1:=so.least
   have l2:=so.most
   have sm:=j1r (Str.ofString "stage") (q2B x.2.2.1) x.1 x.2.1 x.2.2.2 j2H (j5S so.want) (by omega) (by omega) (by omega) so.heat.1 so.heat.2
   unfold q2j
   generalize q2B x.2.2.1=W at *
   simp [q03,q3E,q3H,q0M,q0Z,q1s,q2e,wa,sm]
theorem j7N {s:Sc} (h:ScOk s) (zs:List Str) (hz:zs.length=s.kinds.length) (w:∀z∈zs,Wd 12 z) (nd:zs.Nodup):j9Z [.sh s.d,.sh (.lst (zs.map D.str))]=.ok (.sh (s.bkr zs)):=by
 obtain ⟨ρ',e,a,b,rfl⟩:=q6P (body:=q0x (q1n 4) q36) (λj ρ=>∃a b:Sl,ρ=[.sh s.d,.sh (.lst (zs.map D.str)),.sh (.lst [.str "nothing",.str "hands",.str "bench",.str "oven"]),.ow (((s.brs zs).take j).map brd),a,.no,b]) s.kinds.length (λj ρ hj ⟨a,b,e⟩=>by
  have dl:=h.dlen
  obtain ⟨b',eq⟩:=q5P h zs hz w j hj (((s.brs zs).take j).map brd) (by simp;omega) a .no b
  refine ⟨_,by rw [e];exact eq,.sh (.int j),b',?_⟩
  rw [List.take_succ,j4v hz hj]
  simp) (ρ:=[.sh s.d,.sh (.lst (zs.map D.str)),.sh (.lst [.str "nothing",.str "hands",.str "bench",.str "oven"]),.ow [],.no,.no,.no]) ⟨.no,.no,by simp⟩
 rw [List.take_of_length_le (by rw [q59 hz];exact Nat.le_refl _)] at e
 have kn:=List.length_pos_iff.mpr h.kne
 have bk:=q94 s.night s.hands s.benches (s.kilns.map ovn) (s.brs zs) h.night h.hands h.benches (by simp;omega) (by simpa using h.klen) (by rw [q59 hz];exact h.dne) (by rw [q59 hz];exact h.dlen) (by rw [j5E hz];exact nd)
 have dl:=h.dlen
 have fc:∀x y:Sl,q00 (q1y (e2 ixD (q0d 0) (eC (.int 3)))) [] (rD (q0r (n:=3) j6P [] (gSh (e2 ixD (q0d 0) (eC (.int 0))) (gSh (e2 ixD (q0d 0) (eC (.int 1))) (gSh (e2 ixD (q0d 0) (eC (.int 2))) gN0))))) [.sh s.d,.sh (.lst (zs.map D.str)),.sh (.lst [.str "nothing",.str "hands",.str "bench",.str "oven"]),.ow ((s.brs zs).map brd),x,.no,y]=.ok (s.kilns.map ovn):=λx y=>by
  refine q1o (g:=q2x) ?_ (by have:=h.klen;omega) λk hk=>?_
  ·unfold Sc.d;simp [q2e]
  ·have ko:=h.kall k hk
   have om:=j5r k.1 k.2.1 k.2.2 ko.room ko.rate ko.heat
   unfold ovn
   simp [q03,q2x,q0M,q0Z,q1s,om]
 have k5:q6V [.sh s.d,.sh (.lst (zs.map D.str)),.sh (.lst [.str "nothing",.str "hands",.str "bench",.str "oven"]),.ow [],.no,.no,.no]=.rt (.sh (s.bkr zs)):=by
  rw [q6V,q0O (ds:=rgD 0 s.kinds.length) (q1E (by unfold Sc.d;simp [q3M]) (by omega)),e,Fl.nx_bind,j38,q1u (v:=.lst (s.kilns.map ovn)) (by rw [q1I,fc,Out.ok_bind]),Fl.nx_bind]
  unfold Sc.bkr Lw.bkr
  generalize (s.brs zs).map brd=bb at *
  generalize s.kilns.map ovn=oo at *
  unfold Sc.d
  simp [j3m,q0M,q0Z,q1s,bk]
 have k7:j0R [.sh s.d,.sh (.lst (zs.map D.str)),.no,.no,.no,.no,.no]=.rt (.sh (s.bkr zs)):=by
  clear e fc
  generalize hG:q6V=G at *
  generalize s.d=sd at *
  generalize zs.map D.str=zz at *
  simp [j0R,j32,hG,k5]
 rw [j9Z]
 exact q1v _ rfl k7
noncomputable def q1z (zs:List Str) (a:Nat×Int×Int):Str×Int×Int:=(zs.getD a.1 Str.empty,a.2.1,a.2.2)
theorem j6K (zs:List Str) (al:List (Nat×Int×Int)) (hl:al.length<=12) (hx:∀a∈al,a.1 < zs.length) (lv:∀a∈al,1<=a.2.1/\a.2.1<=60):w0h [.sh (.lst (al.map q10)),.sh (.lst (zs.map D.str))]=.ok (.fr ((al.map (q1z zs)).map ord)):=by
 rw [w0h]
 refine q1v _ rfl ?_
 show q9l [.sh (.lst (al.map q10)),.sh (.lst (zs.map D.str))]=_
 rw [q9l]
 show Out.fl (Out.bind (q00 _ _ _ _) _) _ _=_
 rw [List.map_map,q1o (g:=q10) (k:=ord ∘ q1z zs) (l:=al) (by rfl) (by omega)]
 ·rfl
 ·intro a ha
  have hk:=hx a ha
  have hv:=lv a ha
  have a3:atI (zs.map D.str) (a.1:Int)=some (.str (zs.getD a.1 Str.empty)):=q0C (by simp [hk])
  have om:=j2D (zs.getD a.1 Str.empty) a.2.1 a.2.2 (q1O (by omega))
  rw [if_pos hv] at om
  show _=Out.ok (ord (q1z zs a))
  unfold q1z ord
  generalize zs.getD a.1 Str.empty=Z at *
  generalize zs.map D.str=ss at *
  simp [q03,q3E,q10,q0M,q0Z,q1s,a3,om]
noncomputable def q1b (r:Rr):D:=.ins 12 [.int r.1,.tup (r.2.1.map D.int),.int r.2.2]
structure j9r (r:Rr):Prop where
 beg:0<=r.1
 len:r.2.1.length<=6
 nn:∀x∈r.2.1,0<=x/\x<=1000
 oven:0<=r.2.2
theorem j62 (rs:List Rr) (hl:rs.length<=1000) (h:∀r∈rs,j9r r):j9F [.sh (.lst (rs.map q0T))]=.ok (.fr (rs.map q1b)):=by
 rw [j9F]
 refine q1v _ rfl ?_
 show q8k [.sh (.lst (rs.map q0T))]=_
 rw [q8k]
 show Out.fl (Out.bind (q00 _ _ _ _) _) _ _=_
 rw [q1o (g:=q0T) (k:=q1b) (l:=rs) (by rfl) (by omega)]
 ·rfl
 ·intro r hr
  have ro:=h r hr
  have rm:=j6S r.1 r.2.2 r.2.1 (by have:=ro.len;omega)
  rw [if_pos (by
   intro x hx
   rcases List.mem_cons.mp hx with rfl | hx
   ·exact ro.beg
   rcases List.mem_cons.mp hx with rfl | hx
   ·exact ro.oven
   ·exact (ro.nn x hx).1)] at rm
  unfold q1b
  unfold q0T
  generalize r.2.1.map D.int=ll at *
  simp [q03,q0M,q0Z,q1s,rm]
theorem RnOk.rr {s:Sc} {k:Nat} {r:Rr} (h:ScOk s) (hk:k < s.asked.length) (q:RnOk s k r):j9r r:=
 ⟨q.beg.1,by have:=(h.kd hk).six;have:=q.len;omega,q.nn,by
  by_cases z:s.bk k
  ·have:=q.oven z;omega
  ·rw [q.dry z];exact Int.le_refl _⟩
theorem PlOk.rr {s:Sc} {rs:List Rr} (h:ScOk s) (hl:rs.length=s.bs.length) (p:PlOk s rs):∀r∈rs,j9r r:=by
 intro r hr
 obtain ⟨i,hi,e⟩:=List.getElem_of_mem hr
 have hb:i < s.bs.length:=by omega
 exact (p i (s.bs[i]'hb) r (List.getElem?_eq_getElem hb) (by rw [<-e];exact List.getElem?_eq_getElem hi)).rr h (j71 h (List.getElem_mem hb))
theorem q5u {w:Int} (h:0<=w/\w<=3):decide (q2B w=Str.ofString "oven")=decide (w=3):=by
 have:w=0∨w=1∨w=2∨w=3:=by omega
 rcases this with rfl | rfl | rfl | rfl<;>decide +kernel
theorem j1v (l:List Sg):(l.map λx=>decide (x.2.2.1=3)).any id=decide ((3:Int)∈l.map (·.2.2.1)):=by
 rw [Bool.eq_iff_iff,decide_eq_true_eq,List.any_eq_true]
 constructor
 ·rintro ⟨b,hb,q⟩
  obtain ⟨x,hx,rfl⟩:=List.mem_map.mp hb
  exact List.mem_map.mpr ⟨x,hx,by simpa using q⟩
 ·intro h
  obtain ⟨x,hx,q⟩:=List.mem_map.mp h
  exact ⟨_,List.mem_map.mpr ⟨x,hx,rfl⟩,by simpa using q⟩
theorem j1f (z:Str) (k:List Sg) (hk:j4O k):j7I [.sh (brd (z,k.map q2j))]=.ok (.sh (.bl (decide ((3:Int)∈k.map (·.2.2.1))))):=by
 rw [j7I]
 refine q1v _ rfl ?_
 show j0m [.sh (brd (z,k.map q2j))]=_
 rw [j0m,<-j1v]
 show Out.fl (Out.bind (Out.bind (Out.bind (q00 _ _ _ _) _) _) _) _ _=_
 rw [q1o (g:=q2j) (k:=λx=>D.bl (decide (x.2.2.1=3))) (l:=k)]
 ·show Out.fl (j7v [.lst (k.map λx=>D.bl (decide (x.2.2.1=3)))]) _ _=_
  have e:(k.map λx=>D.bl (decide (x.2.2.1=3)))=(k.map λx=>decide (x.2.2.1=3)).map D.bl:=by rw [List.map_map];rfl
  rw [e,j7v,q4F]
  rfl
 ·unfold brd
  simp [List.lookup]
 ·have:=hk.six;omega
 ·intro x hx
  have q:=q5u (hk.all x hx).want
  unfold q2j
  generalize q2B x.2.2.1=W at *
  simp only [q03,List.map_nil,e2,q1M,q0d,eC,List.getElem?_cons_zero,Out.ok_bind]
  show Out.bind (Out.ok _) _=_
  rw [Out.ok_bind]
  show Out.ok (D.bl (decide (W=Str.ofString "oven")))=_
  rw [q]
theorem q30 {s:Sc} (h:ScOk s) (zs:List Str) (hz:zs.length=s.kinds.length) (w:∀z∈zs,Wd 12 z) (nd:zs.Nodup) {b:Int×Int×Int} {k:Nat} (hb:b.1=(k:Int)+1) (hk:k < s.asked.length) :
 j7r [.sh (s.bkr zs),.sh (.lst ((s.asked.map (q1z zs)).map ord)),.sh (bat b)]=.ok (.sh (brd (zs.getD (s.asked.getD k (0,0,0)).1 Str.empty,(s.kd k).map q2j))):=by
 have hx:=h.ix hk
 have a1:atI ((s.asked.map (q1z zs)).map ord) (k:Int)=some (ord (q1z zs (s.asked.getD k (0,0,0)))):=q0C (by simp [hk])
 have wz:Wd 12 (zs.getD (s.asked.getD k (0,0,0)).1 Str.empty):=by
  rw [List.getD_eq_getElem?_getD,List.getElem?_eq_getElem (by omega),Option.getD_some]
  exact w _ (List.getElem_mem _)
 have bo:=bread_of (.int s.night) (.int s.hands) (.int s.benches) (s.kilns.map ovn) (s.brs zs) (zs.getD (s.asked.getD k (0,0,0)).1 Str.empty) (wz.tz.mono (by decide))
 have fk:=q6H (s.brs zs) (s.asked.getD k (0,0,0)).1 _ (by rw [j5E hz];exact nd) (j4v hz hx)
 rw [show (λx:Str×List D=>decide (x.1=(zs.getD (s.asked.getD k (0,0,0)).1 Str.empty,(s.kinds.getD (s.asked.getD k (0,0,0)).1 []).map q2j).1))=λx=>decide (x.1=zs.getD (s.asked.getD k (0,0,0)).1 Str.empty) from rfl] at fk
 rw [fk] at bo
 dsimp only at bo
 have i1:b.1-1=(k:Int):=by omega
 rw [j7r]
 refine q1v _ rfl ?_
 show q9H [.sh (s.bkr zs),.sh (.lst ((s.asked.map (q1z zs)).map ord)),.sh (bat b)]=_
 unfold Sc.kd Sc.bkr Lw.bkr bat
 unfold q1z ord at a1
 generalize brd (zs.getD (s.asked.getD k (0,0,0)).1 Str.empty,(s.kinds.getD (s.asked.getD k (0,0,0)).1 []).map q2j)=B at *
 generalize zs.getD (s.asked.getD k (0,0,0)).1 Str.empty=Z at *
 unfold q1z ord
 generalize (s.asked.map λa=>(zs.getD a.1 Str.empty,a.2.1,a.2.2)).map (λo:Str×Int×Int=>D.ins 10 [.str o.1,.int o.2.1,.int o.2.2])=oo at *
 generalize (s.brs zs).map brd=bb at *
 generalize s.kilns.map ovn=vv at *
 simp [q9H,List.lookup,i1,a1,bo]
theorem q8D {s:Sc} (h:ScOk s) (zs:List Str) (z:Str) {k:Nat} (hk:k < s.asked.length) {r:Rr} (hr:RnOk s k r) :
 j9G [.sh (s.bkr zs),.sh (brd (z,(s.kd k).map q2j)),.sh (q1b r)]=.ok (.sh .non):=by
 have bk:=j1f z (s.kd k) (h.kd hk)
 have ll:(r.2.1.map D.int).length=((s.kd k).map q2j).length:=by simp [hr.len]
 have kl:(s.kilns.map ovn).length=s.kilns.length:=by simp
 rw [j9G]
 refine w02 _ rfl (ρ':=[.sh (s.bkr zs),.sh (brd (z,(s.kd k).map q2j)),.sh (q1b r)]) ?_
 show q6A [.sh (s.bkr zs),.sh (brd (z,(s.kd k).map q2j)),.sh (q1b r)]=_
 by_cases q:s.bk k
 ·have qd:decide ((3:Int)∈(s.kd k).map (·.2.2.1))=true:=decide_eq_true q
  rw [qd] at bk
  have ov:=hr.oven q
  have o1:=ov.1
  have o2:=ov.2
  unfold Sc.bkr Lw.bkr q1b
  unfold brd at bk ⊢
  generalize (s.kd k).map q2j=kk at *
  generalize (s.brs zs).map _=bb at *
  generalize s.kilns.map ovn=vv at *
  generalize r.2.1.map D.int=rr at *
  rw [<-kl] at o2
  simp [q6A,q96,j0V,List.lookup,ll,bk,o1,o2]
 ·have qd:decide ((3:Int)∈(s.kd k).map (·.2.2.1))=false:=decide_eq_false q
  rw [qd] at bk
  have o0:=hr.dry q
  unfold Sc.bkr Lw.bkr q1b
  unfold brd at bk ⊢
  generalize (s.kd k).map q2j=kk at *
  generalize (s.brs zs).map _=bb at *
  generalize s.kilns.map ovn=vv at *
  generalize r.2.1.map D.int=rr at *
  simp [q6A,q96,j0V,List.lookup,ll,bk,o0]
theorem j0E {α β:Type} (f:α->D) (g:β->D):∀(as:List α) (bs:List β),List.zipWith (λx y=>D.tup [x,y]) (as.map f) (bs.map g)=(as.zip bs).map λp=>D.tup [f p.1,g p.2]
 | [],_=>by simp
 | _::_,[]=>by simp
 | a::as,b::bs=>by simp [j0E f g as bs]
theorem q37 {s:Sc} (h:ScOk s) {rs:List Rr} (hl:rs.length=s.bs.length) (p:PlOk s rs) {j:Nat} {q:(Int×Int×Int)×Rr} (e:(s.bats.zip rs)[j]?=some q):∃k:Nat,q.1.1=(k:Int)+1/\k < s.asked.length/\RnOk s k q.2:=by
 rw [List.getElem?_zip_eq_some] at e
 obtain ⟨e1,e2⟩:=e
 obtain ⟨k,e,hk,_⟩:=h.bat (List.mem_of_getElem? e1)
 refine ⟨k,e,hk,?_⟩
 have hb:s.bs[j]?=some (toB q.1):=by unfold Sc.bs;rw [List.getElem?_map,e1];rfl
 have:=p j (toB q.1) q.2 hb e2
 have tb:(toB q.1).1=k:=by unfold toB;dsimp only;omega
 rwa [tb] at this
theorem ScOk.taken {s:Sc} (h:ScOk s) (zs:List Str) (hz:zs.length=s.kinds.length) (w:∀z∈zs,Wd 12 z):Taken s.night (s.brs zs) s.kilns (s.asked.map (q1z zs)):=by
 refine ⟨by simpa using h.alen,λo ho=>?_,λo ho=>?_,λo ho=>?_,λo ho=>?_,?_⟩
 ·obtain ⟨a,ha,rfl⟩:=List.mem_map.mp ho
  rw [j5E hz]
  have hx:=h.aix a ha
  show zs.getD a.1 Str.empty∈zs
  rw [List.getD_eq_getElem?_getD,List.getElem?_eq_getElem (by omega),Option.getD_some]
  exact List.getElem_mem _
 ·obtain ⟨a,ha,rfl⟩:=List.mem_map.mp ho
  have hx:=h.aix a ha
  show Tz 1000 (zs.getD a.1 Str.empty)
  rw [List.getD_eq_getElem?_getD,List.getElem?_eq_getElem (by omega),Option.getD_some]
  exact (w _ (List.getElem_mem _)).tz.mono (by decide)
 ·obtain ⟨a,ha,rfl⟩:=List.mem_map.mp ho
  exact h.adue a ha
 ·obtain ⟨a,ha,rfl⟩:=List.mem_map.mp ho
  exact (h.alv a ha).1
 ·have:=h.few
  unfold Sc.bats Sc.best at this
  rw [List.map_map]
  exact this
theorem ScOk.rs {s:Sc} (h:ScOk s):RsOk s.kilns:=⟨h.kne,h.klen,λr hr=>(h.kall r hr).room⟩
theorem j79 {s:Sc} (h:ScOk s) (zs:List Str) (hz:zs.length=s.kinds.length) (w:∀z∈zs,Wd 12 z):j7n [.sh (s.bkr zs),.sh (.lst ((s.asked.map (q1z zs)).map ord))]=.ok (.fr (s.bats.map bat)):=by
 have:=j7z s.night s.hands s.benches s.kilns (s.brs zs) (s.asked.map (q1z zs)) h.rs (h.taken zs hz w)
 rw [List.map_map (g:=λx:Str×Int×Int=>x.2.1)] at this
 exact this
theorem q8y {s:Sc} (h:ScOk s) (zs:List Str) (hz:zs.length=s.kinds.length) (w:∀z∈zs,Wd 12 z) (nd:zs.Nodup) (rs:List Rr) (hl:rs.length=s.bs.length) (p:PlOk s rs) :
 j9D [.sh (s.bkr zs),.sh (.lst ((s.asked.map (q1z zs)).map ord)),.sh (.lst (rs.map q1b))]=.ok (.sh (.lst (s.bats.map bat))):=by
 have ct:=j79 h zs hz w
 have bl:s.bs.length=s.bats.length:=by simp [Sc.bs]
 obtain ⟨ρ',e,a,b,rfl⟩:=j9R (body:=q0x (q5R [4,5]) q8H) (λp:(Int×Int×Int)×Rr=>D.tup [bat p.1,q1b p.2]) (λj ρ=>∃a b:Sl,ρ=[.sh (s.bkr zs),.sh (.lst ((s.asked.map (q1z zs)).map ord)),.sh (.lst (rs.map q1b)),.sh (.lst (s.bats.map bat)),a,b]) (s.bats.zip rs) (λj q ρ hq ⟨a,b,e⟩=>by
  subst e
  obtain ⟨k,e1,hk,hr⟩:=q37 h hl p hq
  have bi:=q30 h zs hz w nd e1 hk
  have cr:=q8D h zs (zs.getD (s.asked.getD k (0,0,0)).1 Str.empty) hk hr
  refine ⟨_,?_,.sh (bat q.1),.sh (q1b q.2),rfl⟩
  rw [j2d (ρ':=[.sh (s.bkr zs),.sh (.lst ((s.asked.map (q1z zs)).map ord)),.sh (.lst (rs.map q1b)),.sh (.lst (s.bats.map bat)),.sh (bat q.1),.sh (q1b q.2)]) (by simp [q5w])]
  generalize s.bkr zs=sb at *
  generalize (s.asked.map (q1z zs)).map ord=oo at *
  generalize brd _=B at *
  simp [q8H,bi,cr]) (ρ:=[.sh (s.bkr zs),.sh (.lst ((s.asked.map (q1z zs)).map ord)),.sh (.lst (rs.map q1b)),.sh (.lst (s.bats.map bat)),.no,.no]) ⟨.no,.no,rfl⟩
 have k4:q7s [.sh (s.bkr zs),.sh (.lst ((s.asked.map (q1z zs)).map ord)),.sh (.lst (rs.map q1b)),.sh (.lst (s.bats.map bat)),.no,.no]=.rt (.sh (.lst (s.bats.map bat))):=by
  rw [q7s,q0O (ds:=(s.bats.zip rs).map λp:(Int×Int×Int)×Rr=>D.tup [bat p.1,q1b p.2]) (by rw [<-j0E];rfl),e]
  rfl
 have ln:(rs.map q1b).length=(s.bats.map bat).length:=by simp;omega
 have k6:q9y [.sh (s.bkr zs),.sh (.lst ((s.asked.map (q1z zs)).map ord)),.sh (.lst (rs.map q1b)),.no,.no,.no]=.rt (.sh (.lst (s.bats.map bat))):=by
  clear e
  generalize hG:q7s=G at *
  generalize s.bkr zs=sb at *
  generalize (s.asked.map (q1z zs)).map ord=oo at *
  generalize s.bats.map bat=bb at *
  generalize rs.map q1b=rr at *
  simp [q9y,j3A,ct,ln,hG,k4]
 rw [j9D]
 exact q1v _ rfl k6
theorem j2T (is:List Int) (hl:is.length<=1000) (f:Sl) (hf:(False∨f=.sh (.lst (is.map D.int)))) (d:Sl) (hd:(d=.bo (is.map D.int)∨d=.sh (.lst (is.map D.int)))):j7R [f,d]=.ok (.sh (.bl true)):=by
 obtain ⟨ρ',e,a,rfl⟩:=q6P (body:=q0x (q1n 2) q82) (λj ρ=>∃a:Sl,ρ=[f,d,a]) is.length (λj ρ hj ⟨a,e⟩=>by
  subst e
  have a1:atI (is.map D.int) (j:Int)=some (.int (is[j]'hj)):=q0C (by simp [hj])
  have ii:=is_ (is[j]'hj) (is[j]'hj)
  simp only [decide_true] at ii
  generalize is[j]'hj=v at *
  refine ⟨[f,d,.sh (.int j)],?_,_,rfl⟩
  generalize is.map D.int=nn at *
  rcases hf with hf | hf<;>rcases hd with hd | hd<;>first | exact hf.elim | exact hd.elim | (subst hf;subst hd;simp [q0x,q82,a1,ii])) (ρ:=[f,d,.no]) ⟨.no,rfl⟩
 have k5:q60 [f,d,.no]=.rt (.sh (.bl true)):=by
  rw [q60,q0O (ds:=rgD 0 is.length) (q1E (by rcases hf with hf | hf<;>rcases hd with hd | hd<;>first | exact hf.elim | exact hd.elim | (subst hf;subst hd;simp)) (by omega)),e]
  rfl
 have k6:q95 [f,d,.no]=.rt (.sh (.bl true)):=by
  clear e
  generalize hG:q60=G at *
  generalize is.map D.int=nn at *
  rcases hf with hf | hf<;>rcases hd with hd | hd<;>first | exact hf.elim | exact hd.elim | (subst hf;subst hd;simp [q95,q6x,hG,k5])
 rw [j7R]
 exact q1v _ rfl k6
theorem j4Y (zs:List Str) (al:List (Nat×Int×Int)) (hz:∀a∈al,a.1 < zs.length) (hl:al.length<=12):j9f [.sh (.lst ((al.map (q1z zs)).map ord)),.sh (.lst (al.map q10)),.sh (.lst (zs.map D.str))]=.ok (.sh (.bl true)):=by
 obtain ⟨ρ',e,a,b,rfl⟩:=q6P (body:=q0x (q1n 3) q80) (λj ρ=>∃a b:Sl,ρ=[.sh (.lst ((al.map (q1z zs)).map ord)),.sh (.lst (al.map q10)),.sh (.lst (zs.map D.str)),a,b]) al.length (λj ρ hj ⟨a,b,e⟩=>by
  subst e
  have a1:atI ((al.map (q1z zs)).map ord) (j:Int)=some (ord (zs.getD al[j].1 Str.empty,al[j].2.1,al[j].2.2)):=q0C (by simp [hj,q1z])
  have a2:atI (al.map q10) (j:Int)=some (q10 al[j]):=q0C (by simp [hj])
  have hk:=hz al[j] (List.getElem_mem hj)
  have a3:atI (zs.map D.str) (al[j].1:Int)=some (.str (zs.getD al[j].1 Str.empty)):=q0C (by simp [hk])
  have i1:=is_ al[j].2.1 al[j].2.1
  have i2:=is_ al[j].2.2 al[j].2.2
  simp only [decide_true] at i1 i2
  refine ⟨_,?_,.sh (.int j),.sh (q10 al[j]),rfl⟩
  generalize al[j]=B at *
  generalize (al.map (q1z zs)).map ord=oo at *
  generalize al.map q10=aa at *
  generalize zs.map D.str=ss at *
  generalize zs.getD B.1 Str.empty=Z at *
  simp [q0x,q80,j3q,j3k,a1,a2,a3,ord,q10,q0M,q0Z,q1s,i1,i2,List.lookup]) (ρ:=[.sh (.lst ((al.map (q1z zs)).map ord)),.sh (.lst (al.map q10)),.sh (.lst (zs.map D.str)),.no,.no]) ⟨.no,.no,rfl⟩
 have k8:q6C [.sh (.lst ((al.map (q1z zs)).map ord)),.sh (.lst (al.map q10)),.sh (.lst (zs.map D.str)),.no,.no]=.rt (.sh (.bl true)):=by
  rw [q6C,q0O (ds:=rgD 0 al.length) (q1E (by simp) (by omega)),e,Fl.nx_bind,j4a]
  rfl
 have l1:((al.map (q1z zs)).map ord).length=(al.map q10).length:=by simp
 have k9:j0I [.sh (.lst ((al.map (q1z zs)).map ord)),.sh (.lst (al.map q10)),.sh (.lst (zs.map D.str)),.no,.no]=.rt (.sh (.bl true)):=by
  clear e
  generalize hG:q6C=G at *
  generalize (al.map (q1z zs)).map ord=oo at *
  generalize al.map q10=aa at *
  simp [j0I,k8,hG,l1]
 rw [j9f]
 exact q1v _ rfl k9
theorem j1P (rs:List Rr) (hl:rs.length<=1000) (h:∀r∈rs,j9r r):j9M [.sh (.lst (rs.map q1b)),.sh (.lst (rs.map q0T))]=.ok (.sh (.bl true)):=by
 obtain ⟨ρ',e,a,rfl⟩:=q6P (body:=q0x (q1n 2) j0n) (λj ρ=>∃a:Sl,ρ=[.sh (.lst (rs.map q1b)),.sh (.lst (rs.map q0T)),a]) rs.length (λj ρ hj ⟨a,e⟩=>by
  subst e
  have a1:atI (rs.map q1b) (j:Int)=some (q1b rs[j]):=q0C (by simp [hj])
  have a2:atI (rs.map q0T) (j:Int)=some (q0T rs[j]):=q0C (by simp [hj])
  have i1:=is_ rs[j].1 rs[j].1
  have i2:=is_ rs[j].2.2 rs[j].2.2
  simp only [decide_true] at i1 i2
  have ro:=j2T rs[j].2.1 (by have:=(h _ (List.getElem_mem hj)).len;omega) (.sh (.lst (rs[j].2.1.map D.int))) (.inr rfl) (.sh (.lst (rs[j].2.1.map D.int))) (.inr rfl)
  refine ⟨_,?_,.sh (.int j),rfl⟩
  unfold q1b at a1
  unfold q0T at a2
  generalize rs[j].1=B at *
  generalize rs[j].2.2=O at *
  generalize rs[j].2.1.map D.int=L at *
  unfold q1b q0T
  generalize rs.map (λr:Rr=>D.ins 12 [.int r.1,.tup (r.2.1.map D.int),.int r.2.2])=oo at *
  generalize rs.map (λr:Rr=>D.tup [.int r.1,.lst (r.2.1.map D.int),.int r.2.2])=aa at *
  simp [q0x,j0n,j25,a1,a2,q0M,q0Z,q1s,i1,i2,ro,List.lookup]) (ρ:=[.sh (.lst (rs.map q1b)),.sh (.lst (rs.map q0T)),.no]) ⟨.no,rfl⟩
 have k7:q61 [.sh (.lst (rs.map q1b)),.sh (.lst (rs.map q0T)),.no]=.rt (.sh (.bl true)):=by
  rw [q61,q0O (ds:=rgD 0 rs.length) (q1E (by simp) (by omega)),e]
  rfl
 have l1:(rs.map q1b).length=(rs.map q0T).length:=by simp
 have k8:q9j [.sh (.lst (rs.map q1b)),.sh (.lst (rs.map q0T)),.no]=.rt (.sh (.bl true)):=by
  clear e
  generalize hG:q61=G at *
  generalize rs.map q1b=oo at *
  generalize rs.map q0T=aa at *
  simp [q9j,k7,hG,l1]
 rw [j9M]
 exact q1v _ rfl k8
theorem j1x {ds:List D} {k:Nat} (h:k < ds.length) (d:D):j3I ds (k:Int) d=some (ds.set k d):=by
 have:ixN ds.length (k:Int)=some k:=by unfold ixN;simp;omega
 rw [j3I,this]
 rfl
theorem RnOk.late {s:Sc} {k:Nat} {r:Rr} (h:RnOk s k r) {b:Int} (hb:0<=b/\b<=1440):RnOk s k (b,r.2.1,r.2.2):=⟨hb,h.len,h.nn,h.dry,h.oven⟩
theorem j1F (ns:List Int) (hn:ns.length<=63) {s:Sc} (h:ScOk s) (rs:List Rr) (hl:rs.length=s.bs.length) (p:PlOk s rs) :
 ∃qs:List Rr,qs.length=s.bs.length/\PlOk s qs/\j6w [.sh (.lst (ns.map D.int)),.sh (.lst (rs.map q0T))]=.ok (.fr (qs.map q0T)):=by
 have few:=h.few
 have bl:s.bs.length=s.bats.length:=by simp [Sc.bs]
 have p1:=q1F ns hn 57 (by decide) (by decide)
 have p2:=q1F ns hn 58 (by decide) (by decide)
 generalize pk ns (57:Int).toNat=v at *
 generalize pk ns (58:Int).toNat=u at *
 by_cases hr:rs.length=0
 ·have:rs=[]:=List.eq_nil_of_length_eq_zero hr
  subst this
  refine ⟨[],hl,p,?_⟩
  generalize ns.map D.int=nn at *
  simp [j6w,j0u,j03,q90,j3P]
 ·have n0:0 < (rs.length:Int):=by omega
  have n0':0 < rs.length:=by omega
  obtain ⟨j,hj,ej⟩:∃j:Nat,j < rs.length/\v % (rs.length:Int)=(j:Int):=by
   have h0:=Int.emod_nonneg v (b:=(rs.length:Int)) (by omega)
   have h1:=Int.emod_lt_of_pos v (b:=(rs.length:Int)) (by omega)
   exact ⟨(v % (rs.length:Int)).toNat,by omega,by omega⟩
  have a1:atI (rs.map q0T) (j:Int)=some (.tup [.int rs[j].1,.lst (rs[j].2.1.map D.int),.int rs[j].2.2]):=q0C (by simp [hj,q0T])
  have hb:j < s.bs.length:=by omega
  have rn:=p j _ _ (List.getElem?_eq_getElem hb) (List.getElem?_eq_getElem hj)
  obtain ⟨m,hm,em⟩:∃m:Int,(0<=m/\m<=1440)/\(if rs[j].1+1+u % 30 < 1440 then rs[j].1+1+u % 30 else 1440)=m:=⟨if rs[j].1+1+u % 30 < 1440 then rs[j].1+1+u % 30 else 1440,by have:=rn.beg;split<;>omega,rfl⟩
  have st:=j1x (ds:=rs.map q0T) (k:=j) (by simpa using hj) (.tup [.int m,.lst (rs[j].2.1.map D.int),.int rs[j].2.2])
  refine ⟨rs.set j (m,rs[j].2.1,rs[j].2.2),by simpa using hl,λi b r hb' hr'=>?_,?_⟩
  ·rw [List.getElem?_set] at hr'
   by_cases ij:j=i
   ·subst ij
    rw [if_pos rfl,if_pos hj] at hr'
    cases hr'
    rw [List.getElem?_eq_getElem hb] at hb'
    cases hb'
    exact rn.late hm
   ·rw [if_neg ij] at hr'
    exact p i b r hb' hr'
  ·rw [List.map_set]
   have ne:(rs.map q0T).isEmpty=false:=by
    cases rs with
    | nil=>simp at hr
    | cons a l=>rfl
   have ll:(rs.map q0T).length=rs.length:=by simp
   rw [show q0T (m,rs[j].2.1,rs[j].2.2)=.tup [.int m,.lst (rs[j].2.1.map D.int),.int rs[j].2.2] from rfl]
   generalize rs[j].2.1.map D.int=L at *
   generalize rs[j].1=B at *
   generalize rs[j].2.2=O at *
   rw [<-ll] at ej n0 n0'
   clear p rn
   generalize rs.map q0T=aa at *
   generalize ns.map D.int=nn at *
   rw [j3I] at st
   simp [j6w,j0u,j03,q90,j3U,j3t,j3g,j3P,ne,p1,p2,ej,n0,n0',a1,em,st]
noncomputable def q2f:Int->List Int->List D
 | _,[]=>[]
 | b,l::ls=>.tup [.int b,.int (b+l)]::q2f (b+l) ls
theorem q3K (s:Sl):∀(ls:List Int) (b:Int) (row:List D) (x:Sl),row.length+ls.length<=1000->∃x',q2R (q0x (q1n 3) j0X) (ls.map D.int) [s,.ow row,.sh (.int b),x]=.nx [s,.ow (row++q2f b ls),.sh (.int (b+isum ls)),x']
 | [],b,row,x,_=>⟨x,by simp [q1w,q2f,isum]⟩
 | l::ls,b,row,x,hl=>by
  have hr:row.length < 1000000:=by simp at hl;omega
  obtain ⟨x',e⟩:=q3K s ls (b+l) (row++[.tup [.int b,.int (b+l)]]) (.sh (.int l)) (by simp at hl ⊢; omega)
  refine ⟨x',?_⟩
  rw [List.map_cons,q19 (ρ':=[s,.ow (row++[.tup [.int b,.int (b+l)]]),.sh (.int (b+l)),.sh (.int l)]),e]
  ·simp [q2f,isum];omega
  ·simp [q0x,j0X,j3K,hr]
theorem q8j (b o:Int) (ls:List Int) (h:w3z ls):j9s [.sh (.ins 12 [.int b,.tup (ls.map D.int),.int o])]=.ok (.fr (q2f b ls)):=by
 obtain ⟨x',e⟩:=q3K (.sh (.ins 12 [.int b,.tup (ls.map D.int),.int o])) ls b [] .no (by have:=h.len;simp;omega)
 have f:q6p [.sh (.ins 12 [.int b,.tup (ls.map D.int),.int o]),.ow [],.sh (.int b),.no]=.rt (.fr (q2f b ls)):=by
  rw [q6p,q0O (ds:=ls.map D.int) (by simp),e]
  simp [j23]
 have k:j0B [.sh (.ins 12 [.int b,.tup (ls.map D.int),.int o]),.no,.no,.no]=.rt (.fr (q2f b ls)):=by
  rw [<-f]
  generalize hG:q6p=G at *
  simp [j0B,j2M,hG]
 simp [j9s,k]
structure Sp where
 n:Int
 sg:Sg
 b:Int
 u:Int
 lv:Int
 o:Int
noncomputable def Sp.ov (p:Sp):Int:=if p.sg.2.2.1=3 then p.o else 0
noncomputable def q1a (p:Sp):D:=.ins 13 [.int p.n,q2j p.sg,.int p.b,.int p.u,.int p.lv,.int p.ov]
noncomputable def spR (n lv o:Int):Int->List Sg->List Int->List Sp
 | b,g::gs,l::ls=>⟨n,g,b,b+l,lv,o⟩::spR n lv o (b+l) gs ls
 | _,_,_=>[]
noncomputable def Sc.sp1 (s:Sc) (n:Int) (p:(Int×Int×Int)×Rr):List Sp:=spR n p.1.2.2 p.2.2.2 p.2.1 (s.kd (p.1.1-1).toNat) p.2.2.1
noncomputable def Sc.spA (s:Sc):Int->List ((Int×Int×Int)×Rr)->List Sp
 | _,[]=>[]
 | n,p::l=>s.sp1 n p++s.spA (n+1) l
theorem q3b (s:Sc) (p:(Int×Int×Int)×Rr):∀(l:List ((Int×Int×Int)×Rr)) (n:Int),s.spA n (l++[p])=s.spA n l++s.sp1 (n+l.length) p
 | [],n=>by simp [Sc.spA]
 | q::l,n=>by
  rw [List.cons_append,Sc.spA,Sc.spA,q3b s p l (n+1),List.append_assoc]
  congr 3
  simp;omega
theorem q3n (n lv o:Int):∀(b:Int) (gs:List Sg) (ls:List Int),(spR n lv o b gs ls).length<=gs.length
 | b,g::gs,l::ls=>by simpa [spR] using q3n n lv o (b+l) gs ls
 | b,[],_=>by simp [spR]
 | b,_::_,[]=>by simp [spR]
theorem q8w (n lv o:Int):∀(b:Int) (gs:List Sg) (ls:List Int) (p:Sp),p∈spR n lv o b gs ls->p.n=n/\p.lv=lv/\p.o=o/\p.sg∈gs
 | b,g::gs,l::ls,p,h=>by
  rw [spR] at h
  rcases List.mem_cons.mp h with rfl | h
  ·exact ⟨rfl,rfl,rfl,by simp⟩
  ·obtain ⟨h1,h2,h3,h4⟩:=q8w n lv o (b+l) gs ls p h
   exact ⟨h1,h2,h3,by simp [h4]⟩
 | b,[],_,p,h=>by simp [spR] at h
 | b,_::_,[],p,h=>by simp [spR] at h
theorem j5C (a:Int) (g:D) (b c d f:Int):j9B [.sh (.int a),.sh g,.sh (.int b),.sh (.int c),.sh (.int d),.sh (.int f)]=.ok (.sh (.ins 13 [.int a,g,.int b,.int c,.int d,.int f])):=by
 simp [j9B,j4z,j4J,j4F,j37,j4u,j3d]
noncomputable abbrev pst (a b c row n bt rn x y z:Sl):Ro:=[a,b,c,row,n,bt,rn,x,y,z]
theorem j0k (a b c:Sl) (row:List D) (hr:row.length < 1000000) (n:Int) (bt:Int×Int×Int) (r:Rr) (x y z:Sl) (g:Sg) (hg:j7Z g) (p q:Int) :
 ∃z',q0x (q5R [7,8]) q4J (pst a b c (.ow row) (.sh (.int n)) (.sh (bat bt)) (.sh (q1b r)) x y z) (.tup [q2j g,.tup [.int p,.int q]])=.nx (pst a b c (.ow (row++[q1a ⟨n,g,p,q,bt.2.2,r.2.2⟩])) (.sh (.int n)) (.sh (bat bt)) (.sh (q1b r)) (.sh (q2j g)) (.sh (.tup [.int p,.int q])) z'):=by
 have wo:=q5u hg.want
 rw [j2d (ρ':=pst a b c (.ow row) (.sh (.int n)) (.sh (bat bt)) (.sh (q1b r)) (.sh (q2j g)) (.sh (.tup [.int p,.int q])) z) (by simp [q5w])]
 refine ⟨.sh (.int (Sp.ov ⟨n,g,p,q,bt.2.2,r.2.2⟩)),?_⟩
 unfold q1a
 have pm:=j5C n (q2j g) p q bt.2.2 (Sp.ov ⟨n,g,p,q,bt.2.2,r.2.2⟩)
 unfold Sp.ov at *
 dsimp only at *
 unfold q2j at *
 generalize q2B g.2.2.1=W at *
 by_cases h3:g.2.2.1=3
 ·rw [if_pos h3] at *
  have hW:W=Str.ofString "oven":=by rw [decide_eq_decide] at wo;exact wo.mpr h3
  subst hW
  unfold bat q1b
  simp [q4J,q9t,List.lookup,q0M,q0Z,pm,hr]
 ·rw [if_neg h3] at *
  have hW:¬W=Str.ofString "oven":=by rw [decide_eq_decide] at wo;exact λz=>h3 (wo.mp z)
  unfold bat q1b
  simp [q4J,q9t,List.lookup,q0M,q0Z,pm,hr,hW]
theorem q4P (a b c:Sl) (n:Int) (bt:Int×Int×Int) (r:Rr):∀(gs:List Sg) (ls:List Int) (beg:Int) (row:List D) (x y z:Sl),(∀g∈gs,j7Z g)->row.length+gs.length<=1000 ->
 ∃x' y' z',q2R (q0x (q5R [7,8]) q4J) (List.zipWith (λx y=>D.tup [x,y]) (gs.map q2j) (q2f beg ls)) (pst a b c (.ow row) (.sh (.int n)) (.sh (bat bt)) (.sh (q1b r)) x y z)=.nx (pst a b c (.ow (row++(spR n bt.2.2 r.2.2 beg gs ls).map q1a)) (.sh (.int n)) (.sh (bat bt)) (.sh (q1b r)) x' y' z')
 | [],ls,beg,row,x,y,z,_,_=>⟨x,y,z,by simp [q1w,spR]⟩
 | g::gs,[],beg,row,x,y,z,_,_=>⟨x,y,z,by simp [q1w,spR,q2f]⟩
 | g::gs,l::ls,beg,row,x,y,z,hg,hr=>by
  obtain ⟨z1,e1⟩:=j0k a b c row (by simp at hr;omega) n bt r x y z g (hg g (by simp)) beg (beg+l)
  obtain ⟨x2,y2,z2,e2⟩:=q4P a b c n bt r gs ls (beg+l) (row++[q1a ⟨n,g,beg,beg+l,bt.2.2,r.2.2⟩]) (.sh (q2j g)) (.sh (.tup [.int beg,.int (beg+l)])) z1 (λq hq=>hg q (by simp [hq])) (by simp at hr ⊢; omega)
  refine ⟨x2,y2,z2,?_⟩
  rw [List.map_cons,q2f,List.zipWith_cons_cons,q19 e1,e2,spR,List.map_cons,List.append_assoc]
  rfl
theorem j01 {α:Type} (f:α->D):∀(l:List α) (n:Int),q4V n (l.map f)=(List.range l.length).map λi:Nat=>D.tup [.int (n+(i:Int)),(l[i]?.map f).getD .non]
 | [],n=>by simp [q4V]
 | a::l,n=>by
  rw [List.map_cons,q4V,j01 f l (n+1),List.length_cons,List.range_succ_eq_map,List.map_cons,List.map_map]
  congr 1
  ·simp
  ·apply List.map_congr_left
   intro i _
   simp only [Function.comp_apply,List.getElem?_cons_succ]
   congr 3
   simp;omega
theorem j16 {s:Sc} (h:ScOk s) (zs:List Str) (hz:zs.length=s.kinds.length) (w:∀z∈zs,Wd 12 z) (nd:zs.Nodup) (rs:List Rr) (hl:rs.length=s.bs.length) (p:PlOk s rs) :
 j9u [.sh (s.bkr zs),.sh (.lst ((s.asked.map (q1z zs)).map ord)),.sh (.lst (rs.map q1b))]=.ok (.fr ((s.spA 1 (s.bats.zip rs)).map q1a)):=by
 have ft:=q8y h zs hz w nd rs hl p
 have few:=h.few
 have bl:s.bs.length=s.bats.length:=by simp [Sc.bs]
 have spl:∀j,(s.spA 1 ((s.bats.zip rs).take j)).length<=6*j:=by
  intro j
  induction j with
  | zero=>simp [Sc.spA]
  | succ j ih=>
   by_cases hj:j < (s.bats.zip rs).length
   ·rw [List.take_succ_eq_append_getElem hj,q3b,List.length_append]
    obtain ⟨k,e1,hk,hr⟩:=q37 h hl p (List.getElem?_eq_getElem hj)
    have:=q3n (1+((s.bats.zip rs).take j).length) (s.bats.zip rs)[j].1.2.2 (s.bats.zip rs)[j].2.2.2 (s.bats.zip rs)[j].2.1 (s.kd ((s.bats.zip rs)[j].1.1-1).toNat) (s.bats.zip rs)[j].2.2.1
    have e2:((s.bats.zip rs)[j].1.1-1).toNat=k:=by omega
    have:=(h.kd hk).six
    rw [<-e2] at this
    unfold Sc.sp1
    omega
   ·rw [List.take_of_length_le (by omega)]
    rw [List.take_of_length_le (by omega)] at ih
    omega
 obtain ⟨ρ',e,x1,x2,x3,x4,x5,x6,rfl⟩:=j9R (body:=q0x (q5R [4,5]) q9k) (λi:Nat=>D.tup [.int (1+(i:Int)),(s.bats[i]?.map bat).getD .non]) (λj ρ=>∃x1 x2 x3 x4 x5 x6:Sl,ρ=pst (.sh (s.bkr zs)) (.sh (.lst ((s.asked.map (q1z zs)).map ord))) (.sh (.lst (rs.map q1b))) (.ow ((s.spA 1 ((s.bats.zip rs).take j)).map q1a)) x1 x2 x3 x4 x5 x6) (List.range s.bats.length) (λj q ρ hq ⟨x1,x2,x3,x4,x5,x6,e⟩=>by
  subst e
  have hj:j < s.bats.length:=by
   refine Classical.byContradiction λz=>?_
   rw [List.getElem?_eq_none (by simp;omega)] at hq
   cases hq
  rw [List.getElem?_range hj] at hq
  cases hq
  have hj2:j < rs.length:=by omega
  have zq:(s.bats.zip rs)[j]?=some (s.bats[j],rs[j]):=by rw [List.getElem?_zip_eq_some];exact ⟨List.getElem?_eq_getElem hj,List.getElem?_eq_getElem hj2⟩
  obtain ⟨k,e1,hk,hr⟩:=q37 h hl p zq
  dsimp only at e1 hr
  have bi:=q30 h zs hz w nd e1 hk
  have sp:=q8j rs[j].1 rs[j].2.2 rs[j].2.1 ⟨by have:=hr.len;have:=(h.kd hk).six;omega,λx hx=>by have:=hr.nn x hx;omega⟩
  have at1:atI (rs.map q1b) (j:Int)=some (q1b rs[j]):=q0C (by simp [hj2])
  have k6:=(h.kd hk).six
  have sl:=spl j
  obtain ⟨y1,y2,y3,lp⟩:=q4P (.sh (s.bkr zs)) (.sh (.lst ((s.asked.map (q1z zs)).map ord))) (.sh (.lst (rs.map q1b))) (1+(j:Int)) s.bats[j] rs[j] (s.kd k) rs[j].2.1 rs[j].1 ((s.spA 1 ((s.bats.zip rs).take j)).map q1a) x4 x5 x6 (h.kd hk).all (by simp;omega)
  rw [q3d zq,q3b]
  have e3:(s.bats[j].1-1).toNat=k:=by omega
  have tl:((s.bats.zip rs).take j).length=j:=by simp;omega
  refine ⟨_,?_,.sh (.int (1+(j:Int))),.sh (bat s.bats[j]),.sh (q1b rs[j]),y1,y2,y3,rfl⟩
  rw [List.map_append,Sc.sp1,tl,e3]
  rw [List.getElem?_eq_getElem hj,Option.map_some,Option.getD_some]
  rw [j2d (ρ':=pst (.sh (s.bkr zs)) (.sh (.lst ((s.asked.map (q1z zs)).map ord))) (.sh (.lst (rs.map q1b))) (.ow ((s.spA 1 ((s.bats.zip rs).take j)).map q1a)) (.sh (.int (1+(j:Int)))) (.sh (bat s.bats[j])) x3 x4 x5 x6) (by simp [q5w])]
  rw [q9k,q1u (v:=q1b rs[j])]
  ·rw [Fl.nx_bind]
   show j0H (pst (.sh (s.bkr zs)) (.sh (.lst ((s.asked.map (q1z zs)).map ord))) (.sh (.lst (rs.map q1b))) (.ow ((s.spA 1 ((s.bats.zip rs).take j)).map q1a)) (.sh (.int (1+(j:Int)))) (.sh (bat s.bats[j])) (.sh (q1b rs[j])) x4 x5 x6)=_
   rw [j0H,q0O (ds:=List.zipWith (λx y=>D.tup [x,y]) ((s.kd k).map q2j) (q2f rs[j].1 rs[j].2.1))]
   ·exact lp
   ·clear lp at1
    unfold brd at bi
    dsimp only at bi
    generalize s.bkr zs=sb at *
    generalize (s.asked.map (q1z zs)).map ord=oo at *
    generalize (s.kd k).map q2j=kk at *
    generalize q2f rs[j].1 rs[j].2.1=ss at *
    generalize bat s.bats[j]=bb at *
    generalize (s.spA 1 ((s.bats.zip rs).take j)).map q1a=pp at *
    unfold q1b
    generalize rs[j].2.1.map D.int=LL at *
    simp [bi,sp,List.lookup]
  ·have i1:(1:Int)+(j:Int)-1=(j:Int):=by omega
   generalize rs.map q1b=rr at *
   simp [i1,at1]) (ρ:=pst (.sh (s.bkr zs)) (.sh (.lst ((s.asked.map (q1z zs)).map ord))) (.sh (.lst (rs.map q1b))) (.ow []) .no .no .no .no .no .no) ⟨.no,.no,.no,.no,.no,.no,by simp [Sc.spA]⟩
 rw [List.length_range,List.take_of_length_le (by simp;omega)] at e
 have k6:q8X (pst (.sh (s.bkr zs)) (.sh (.lst ((s.asked.map (q1z zs)).map ord))) (.sh (.lst (rs.map q1b))) (.ow []) .no .no .no .no .no .no)=.rt (.fr ((s.spA 1 (s.bats.zip rs)).map q1a)):=by
  rw [q8X,q0O (ds:=q4V 1 (s.bats.map bat)),j01,e]
  ·rfl
  ·clear e
   generalize s.bkr zs=sb at *
   generalize (s.asked.map (q1z zs)).map ord=oo at *
   generalize s.bats.map bat=bb at *
   generalize rs.map q1b=rr at *
   simp [ft]
 rw [j9u]
 refine q1v _ rfl ?_
 show q9p [.sh (s.bkr zs),.sh (.lst ((s.asked.map (q1z zs)).map ord)),.sh (.lst (rs.map q1b)),.no,.no,.no,.no,.no,.no,.no]=_
 rw [q9p,q1T (v:=[]) rfl,Fl.nx_bind]
 exact k6
noncomputable def q12 (m:Int) (p:Sp):Bool:=decide (p.b<=m) && decide (m < p.u)
structure PsOk (ps:List Sp):Prop where
 len:ps.length<=1000
 want:∀p∈ps,0<=p.sg.2.2.1/\p.sg.2.2.1<=3
 lv:∀p∈ps,0<=p.lv/\p.lv<=1000
theorem PsOk.filter {ps:List Sp} (h:PsOk ps) (f:Sp->Bool):PsOk (ps.filter f):=
 ⟨Nat.le_trans (List.length_filter_le _ _) h.len,λp hp=>h.want p ((List.mem_filter.mp hp).1),λp hp=>h.lv p ((List.mem_filter.mp hp).1)⟩
theorem q7S (ps:List Sp) (hl:ps.length<=1000) (m:Int):w0l [.sh (.lst (ps.map q1a)),.sh (.int m)]=.ok (.fr ((ps.filter (q12 m)).map q1a)):=by
 rw [w0l]
 refine q1v _ rfl ?_
 show q9g [.sh (.lst (ps.map q1a)),.sh (.int m)]=_
 rw [q9g]
 show Out.fl (Out.bind (q1i _ _ _ _ _) _) _ _=_
 rw [q13 (g:=q1a) (k:=q1a) (p:=q12 m) (l:=ps) (by rfl) (by omega)]
 ·rfl
 ·intro p _
  unfold q1a q12
  generalize q2j p.sg=S
  by_cases h1:p.b<=m
  ·by_cases h2:m < p.u<;>simp [q03,q3E,List.lookup,h1,h2]
  ·simp [q03,q3E,List.lookup,h1]
 ·intro p _ _
  rfl
theorem q6O (ps:List Sp) (hl:ps.length<=1000) (wt:Str):j6L [.sh (.lst (ps.map q1a)),.sh (.str wt)]=.ok (.sh (.int (ps.filter λp=>decide (q2B p.sg.2.2.1=wt)).length)):=by
 rw [j6L]
 refine q1v _ rfl ?_
 show q9N [.sh (.lst (ps.map q1a)),.sh (.str wt)]=_
 rw [q9N]
 show Out.fl (Out.bind (q1i _ _ _ _ _) _) _ _=_
 rw [q13 (g:=q1a) (k:=q1a) (p:=λp=>decide (q2B p.sg.2.2.1=wt)) (l:=ps) (by rfl) (by omega)]
 ·simp
 ·intro p _
  unfold q1a q2j
  generalize q2B p.sg.2.2.1=W
  simp [q03,q3E,List.lookup]
 ·intro p _ _
  rfl
theorem q5E (ps:List Sp) (h:PsOk ps) (n:Int):j8g [.sh (.lst (ps.map q1a)),.sh (.int n)]=.ok (.sh (.int (isum ((ps.filter λp=>decide (p.ov=n)).map (·.lv))))):=by
 rw [j8g]
 refine q1v _ rfl ?_
 show j0O [.sh (.lst (ps.map q1a)),.sh (.int n)]=_
 rw [j0O]
 show Out.fl (Out.bind (Out.bind (Out.bind (q1i _ _ _ _ _) _) _) _) _ _=_
 rw [q13 (g:=q1a) (k:=λp=>D.int p.lv) (p:=λp=>decide (p.ov=n)) (l:=ps) (by rfl) (by have:=h.len;omega)]
 ·have e:((ps.filter λp=>decide (p.ov=n)).map λp=>D.int p.lv)=(((ps.filter λp=>decide (p.ov=n)).map (·.lv)).map D.int):=by rw [List.map_map];rfl
  have sm:=q5B (is:=(ps.filter λp=>decide (p.ov=n)).map (·.lv)) (by
   have:=(h.filter λp=>decide (p.ov=n)).len
   simpa using this) (λi hi=>by
   obtain ⟨p,hp,rfl⟩:=List.mem_map.mp hi
   have:=h.lv p ((List.mem_filter.mp hp).1)
   omega)
  rw [e]
  show Out.fl (q8h [.lst _]) _ _=_
  rw [sm]
  rfl
 ·intro p _
  unfold q1a
  generalize q2j p.sg=S
  simp [q03,q3E,List.lookup]
 ·intro p _ _
  unfold q1a
  generalize q2j p.sg=S
  simp [q03,q3E,List.lookup]
noncomputable def q04 (s:Sc) (ps:List Sp):List Int:=(List.range s.kilns.length).map λi:Nat=>isum ((ps.filter λp=>decide (p.ov=1+(i:Int))).map (·.lv))
noncomputable def q1P (wt:Str) (ps:List Sp):Nat:=(ps.filter λp=>decide (q2B p.sg.2.2.1=wt)).length
theorem q5W (s:Sc):∀(l:List ((Int×Int×Int)×Rr)) (n:Int) (p:Sp),p∈s.spA n l->∃q∈l,p.lv=q.1.2.2/\p.o=q.2.2.2/\p.sg∈s.kd (q.1.1-1).toNat
 | [],n,p,h=>by simp [Sc.spA] at h
 | q::l,n,p,h=>by
  rw [Sc.spA] at h
  rcases List.mem_append.mp h with h | h
  ·obtain ⟨_,h2,h3,h4⟩:=q8w _ _ _ _ _ _ p h
   exact ⟨q,by simp,h2,h3,h4⟩
  ·obtain ⟨q',hq,r⟩:=q5W s l (n+1) p h
   exact ⟨q',by simp [hq],r⟩
theorem q5N (s:Sc):∀(l:List ((Int×Int×Int)×Rr)) (n:Int),(∀q∈l,(s.kd (q.1.1-1).toNat).length<=6)->(s.spA n l).length<=6*l.length
 | [],n,_=>by simp [Sc.spA]
 | q::l,n,h=>by
  have h1:=q5N s l (n+1) λq' hq=>h q' (by simp [hq])
  have h2:=q3n n q.1.2.2 q.2.2.2 q.2.1 (s.kd (q.1.1-1).toNat) q.2.2.1
  have h3:=h q (by simp)
  rw [Sc.spA,List.length_append,List.length_cons]
  unfold Sc.sp1
  omega
theorem w0u {s:Sc} (h:ScOk s) (rs:List Rr) (hl:rs.length=s.bs.length) (p:PlOk s rs):PsOk (s.spA 1 (s.bats.zip rs)):=by
 have few:=h.few
 have at_:∀q∈s.bats.zip rs,∃k:Nat,q.1.1=(k:Int)+1/\k < s.asked.length/\RnOk s k q.2:=λq hq=>by
  obtain ⟨i,hi,e⟩:=List.getElem_of_mem hq
  exact q37 h hl p (by rw [<-e];exact List.getElem?_eq_getElem hi)
 refine ⟨?_,λx hx=>?_,λx hx=>?_⟩
 ·have:=q5N s (s.bats.zip rs) 1 λq hq=>by
   obtain ⟨k,e,hk,_⟩:=at_ q hq
   rw [show (q.1.1-1).toNat=k by omega]
   exact (h.kd hk).six
  have:(s.bats.zip rs).length<=s.bats.length:=by simp;omega
  omega
 ·obtain ⟨q,hq,_,_,h4⟩:=q5W s _ _ x hx
  obtain ⟨k,e,hk,_⟩:=at_ q hq
  rw [show (q.1.1-1).toNat=k by omega] at h4
  exact ((h.kd hk).all _ h4).want
 ·obtain ⟨q,hq,h2,_,_⟩:=q5W s _ _ x hx
  obtain ⟨k,e,hk,h5,h6⟩:=h.bat (List.of_mem_zip hq).1
  have:=h.best
  omega
theorem j5B {s:Sc} (h:ScOk s) (zs:List Str) (hz:zs.length=s.kinds.length) (w:∀z∈zs,Wd 12 z) (nd:zs.Nodup) (rs:List Rr) (hl:rs.length=s.bs.length) (p:PlOk s rs) (m:Int) :
 j9w [.sh (s.bkr zs),.sh (.lst ((s.asked.map (q1z zs)).map ord)),.sh (.lst (rs.map q1b)),.sh (.int m)] =
  .ok (.tf true [.int (q1P (Str.ofString "hands") ((s.spA 1 (s.bats.zip rs)).filter (q12 m))),.int (q1P (Str.ofString "bench") ((s.spA 1 (s.bats.zip rs)).filter (q12 m)))] ((q04 s ((s.spA 1 (s.bats.zip rs)).filter (q12 m))).map D.int) []):=by
 have pa:=j16 h zs hz w nd rs hl p
 have po:=w0u h rs hl p
 generalize s.spA 1 (s.bats.zip rs)=ps at *
 have la:=q7S ps po.len m
 have po2:=po.filter (q12 m)
 generalize ps.filter (q12 m)=qs at *
 have c1:=q6O qs po2.len (Str.ofString "hands")
 have c2:=q6O qs po2.len (Str.ofString "bench")
 have li:=q5E qs po2
 have kl:=h.klen
 have fc:∀x:Sl,q00 (q3a (n2 (eC (.int 1)) (e2 q1l (eCB q1Z (q0k (q1M [(14,3)] (q0d 0)) q0E)) (eC (.int 1))))) [4] (rD (q0r (n:=2) j8g [] (gSh (q0d 1) (gSh (q0d 0) gN0)))) [.sh (s.bkr zs),.sh (.lst ((s.asked.map (q1z zs)).map ord)),.sh (.lst (rs.map q1b)),.sh (.int m),.sh (.lst (qs.map q1a)),x]=.ok ((q04 s qs).map D.int):=λx=>by
  have eh:(q04 s qs).map D.int=(List.range s.kilns.length).map λi:Nat=>D.int (isum ((qs.filter λp=>decide (p.ov=1+(i:Int))).map (·.lv))):=by unfold q04;rw [List.map_map];rfl
  rw [eh]
  refine q1o (g:=λi:Nat=>D.int (1+(i:Int))) (l:=List.range s.kilns.length) ?_ (by rw [List.length_range];omega) λi _=>?_
  ·have kl2:(s.kilns.map ovn).length=s.kilns.length:=by simp
   have cc:((s.kilns.length:Int)+1-1).toNat=s.kilns.length:=by omega
   show (Out.bind (n2 _ _ _) _)=_
   have e:n2 (eC (.int 1)) (e2 q1l (eCB q1Z (q0k (q1M [(14,3)] (q0d 0)) q0E)) (eC (.int 1))) [.sh (s.bkr zs),.sh (.lst ((s.asked.map (q1z zs)).map ord)),.sh (.lst (rs.map q1b)),.sh (.int m),.sh (.lst (qs.map q1a)),x]=.ok (1,s.kilns.length):=by
    unfold Sc.bkr Lw.bkr
    generalize s.kilns.map ovn=oo at *
    generalize (s.brs zs).map brd=bb at *
    generalize hK:s.kilns.length=L at *
    have z1:L+1 < 1000000:=by omega
    have z2:(L:Int)+1 < 1000000:=by omega
    have z3:(1:Int)<=(L:Int)+1:=by omega
    simp [n2,List.lookup,kl2,z1,z2,z3,cc]<;>omega
   rw [e]
   rfl
  ·have l1:=li (1+(i:Int))
   unfold q03
   generalize qs.map q1a=qq at *
   simp [q3E,l1]
 have k1:q8o [.sh (s.bkr zs),.sh (.lst ((s.asked.map (q1z zs)).map ord)),.sh (.lst (rs.map q1b)),.sh (.int m),.sh (.lst (qs.map q1a)),.ow ((q04 s qs).map D.int)]=.rt (.tf true [.int (q1P (Str.ofString "hands") qs),.int (q1P (Str.ofString "bench") qs)] ((q04 s qs).map D.int) []):=by
  clear fc la pa li
  unfold q1P
  generalize s.bkr zs=sb at *
  generalize (qs.filter λp=>decide (q2B p.sg.2.2.1=Str.ofString "hands")).length=C1 at *
  generalize (qs.filter λp=>decide (q2B p.sg.2.2.1=Str.ofString "bench")).length=C2 at *
  generalize (q04 s qs).map D.int=hh at *
  generalize qs.map q1a=qq at *
  simp [q8o,c1,c2]
 rw [j9w]
 refine q1v _ rfl ?_
 show j0v [.sh (s.bkr zs),.sh (.lst ((s.asked.map (q1z zs)).map ord)),.sh (.lst (rs.map q1b)),.sh (.int m),.no,.no]=_
 rw [j0v,q1u (v:=.lst (qs.map q1a)),Fl.nx_bind]
 ·show q9C [.sh (s.bkr zs),.sh (.lst ((s.asked.map (q1z zs)).map ord)),.sh (.lst (rs.map q1b)),.sh (.int m),.sh (.lst (qs.map q1a)),.no]=_
  rw [q9C,q1T (v:=(q04 s qs).map D.int) (by rw [fc];rfl),Fl.nx_bind]
  exact k1
 ·clear fc k1 c1 c2 li
  generalize s.bkr zs=sb at *
  generalize (s.asked.map (q1z zs)).map ord=oo at *
  generalize rs.map q1b=rr at *
  generalize ps.map q1a=pp at *
  generalize qs.map q1a=qq at *
  simp [pa,la]
noncomputable def q0v (p:Sp):D:=.tup [.int p.sg.2.2.1,.int p.b,.int p.u,.int p.sg.2.2.2,.int p.lv,.int p.o]
theorem q7q (n lv o:Int):∀(gs:List Sg) (ls:List Int) (b:Int) (g:Sg) (l:Int),gs.length=ls.length->spR n lv o b (gs++[g]) (ls++[l])=spR n lv o b gs ls++[⟨n,g,b+isum ls,b+isum ls+l,lv,o⟩]
 | [],[],b,g,l,_=>by simp [spR,isum]
 | x::gs,y::ls,b,g,l,h=>by
  rw [List.cons_append,List.cons_append,spR,spR,q7q n lv o gs ls (b+y) g l (by simpa using h)]
  simp only [isum,List.cons_append]
  rw [show b+y+isum ls=b+(y+isum ls) by omega]
 | [],_::_,b,g,l,h=>by simp at h
 | _::_,[],b,g,l,h=>by simp at h
theorem q8F (ls:List Int) (l:Int):isum (ls++[l])=isum ls+l:=by rw [j1l];simp [isum]
theorem q81 {s:Sc} (h:ScOk s) {b:Int×Int×Int} {k:Nat} (hb:b.1=(k:Int)+1) (hk:k < s.asked.length) {r:Rr} (hr:RnOk s k r) (n:Int) :
 w0b [.sh s.d,.sh (q07 (toB b)),.sh (q0T r)]=.ok (.fr ((s.sp1 n (b,r)).map q0v)):=by
 have tb:(toB b).1=k:=by unfold toB;dsimp only;omega
 have k6:=(h.kd hk).six
 have e0:s.sp1 n (b,r)=spR n b.2.2 r.2.2 r.1 (s.kd k) r.2.1:=by
  unfold Sc.sp1
  dsimp only
  rw [show (b.1-1).toNat=k by omega]
 rw [e0]
 have lk:e2 ixD (e2 ixD (q0d 0) (eC (.int 4))) (e2 ixD (e2 ixD (e2 ixD (q0d 0) (eC (.int 5))) (e2 ixD (q0d 1) (eC (.int 0)))) (eC (.int 0))) [.sh s.d,.sh (q07 (toB b)),.sh (q0T r),.no,.no,.no,.no,.no]=.ok (q0K (s.kd k)):=by
  have a1:=Sc.at_asked hk
  have a2:=h.at_kind hk
  unfold Sc.d q07
  rw [tb]
  generalize s.asked.getD k (0,0,0)=A at *
  generalize s.asked.map q10=aa at *
  generalize s.kinds.map q0K=kk at *
  generalize q0T r=R at *
  simp [a1,a2,q10,q0M,q3M,q20]
 obtain ⟨ρ',e,x,y,rfl⟩:=q6P (body:=q0x (q1n 6) q7e) (λj ρ=>∃x y:Sl,ρ=[.sh s.d,.sh (q07 (toB b)),.sh (q0T r),.sh (q0K (s.kd k)),.sh (.int (r.1+isum (r.2.1.take j))),.ow ((spR n b.2.2 r.2.2 r.1 ((s.kd k).take j) (r.2.1.take j)).map q0v),x,y]) (s.kd k).length (λj ρ hj ⟨x,y,e⟩=>by
  subst e
  have hl:=hr.len
  have hj2:j < r.2.1.length:=by omega
  have a1:atI ((s.kd k).map q3H) (j:Int)=some (q3H (s.kd k)[j]):=q0C (by simp [hj])
  have a2:atI (r.2.1.map D.int) (j:Int)=some (.int r.2.1[j]):=q0C (by simp [hj2])
  have sl:=q3n n b.2.2 r.2.2 r.1 ((s.kd k).take j) (r.2.1.take j)
  rw [List.take_succ_eq_append_getElem hj,List.take_succ_eq_append_getElem hj2,q7q _ _ _ _ _ _ _ _ (by simp;omega),q8F,List.map_append]
  refine ⟨_,?_,.sh (.int j),.sh (.int (r.1+isum (r.2.1.take j)+r.2.1[j])),rfl⟩
  have hr2:((spR n b.2.2 r.2.2 r.1 ((s.kd k).take j) (r.2.1.take j)).map q0v).length < 1000000:=by simp at sl ⊢; omega
  have ea:r.1+isum (r.2.1.take j)+r.2.1[j]=r.1+(isum (r.2.1.take j)+r.2.1[j]):=by omega
  rw [<-ea]
  unfold q0v
  simp only [List.map_cons,List.map_nil]
  change ((spR n b.2.2 r.2.2 r.1 ((s.kd k).take j) (r.2.1.take j)).map q0v).length < 1000000 at hr2
  change q0x (q1n 6) q7e [.sh s.d,.sh (q07 (toB b)),.sh (q0T r),.sh (q0K (s.kd k)),.sh (.int (r.1+isum (r.2.1.take j))),.ow ((spR n b.2.2 r.2.2 r.1 ((s.kd k).take j) (r.2.1.take j)).map q0v),x,y] (.int j)=.nx [.sh s.d,.sh (q07 (toB b)),.sh (q0T r),.sh (q0K (s.kd k)),.sh (.int (r.1+isum (r.2.1.take j)+r.2.1[j])),.ow ((spR n b.2.2 r.2.2 r.1 ((s.kd k).take j) (r.2.1.take j)).map q0v++[.tup [.int (s.kd k)[j].2.2.1,.int (r.1+isum (r.2.1.take j)),.int (r.1+isum (r.2.1.take j)+r.2.1[j]),.int (s.kd k)[j].2.2.2,.int b.2.2,.int r.2.2]]),.sh (.int j),.sh (.int (r.1+isum (r.2.1.take j)+r.2.1[j]))]
  generalize (spR n b.2.2 r.2.2 r.1 ((s.kd k).take j) (r.2.1.take j)).map q0v=pp at *
  unfold q07 toB q0T q0K
  unfold q3H at a1
  generalize (s.kd k)[j]=S at *
  generalize r.2.1[j]=V at *
  generalize r.1+isum (r.2.1.take j)=B at *
  generalize s.d=sd at *
  generalize r.2.1.map D.int=LL at *
  change atI ((s.kd k).map q3H) _=_ at a1
  generalize hK:(s.kd k).map q3H=KK at *
  simp [q0x,q7e,j3j,j4C,a1,a2,q0M,q0Z,q1s,q2e,hr2]) (ρ:=[.sh s.d,.sh (q07 (toB b)),.sh (q0T r),.sh (q0K (s.kd k)),.sh (.int r.1),.ow [],.no,.no]) ⟨.no,.no,by simp [spR,isum]⟩
 rw [List.take_length,List.take_of_length_le (by rw [hr.len];exact Nat.le_refl _)] at e
 have k5:j0D [.sh s.d,.sh (q07 (toB b)),.sh (q0T r),.sh (q0K (s.kd k)),.sh (.int r.1),.ow [],.no,.no]=.rt (.fr ((spR n b.2.2 r.2.2 r.1 (s.kd k) r.2.1).map q0v)):=by
  rw [j0D,q0O (ds:=rgD 0 (s.kd k).length) (q1E (by unfold q0K;simp) (by omega)),e]
  rfl
 rw [w0b]
 refine q1v _ rfl ?_
 show q9K [.sh s.d,.sh (q07 (toB b)),.sh (q0T r),.no,.no,.no,.no,.no]=_
 rw [q9K,q1u lk,Fl.nx_bind,j4N,q1u (v:=.int r.1) (by unfold q0T;generalize s.d=sd;generalize q07 (toB b)=bb;generalize q0K (s.kd k)=kk;simp [q0M]),Fl.nx_bind,j2X,q1T (v:=[]) rfl,Fl.nx_bind]
 exact k5
theorem q4N {s:Sc} (h:ScOk s) (rs:List Rr) (hl:rs.length=s.bs.length) (p:PlOk s rs) :
 j60 [.sh s.d,.sh (.lst (s.bs.map q07)),.sh (.lst (rs.map q0T))]=.ok (.sh (.lst ((s.spA 1 (s.bats.zip rs)).map q0v))):=by
 have few:=h.few
 have bl:s.bs.length=s.bats.length:=by simp [Sc.bs]
 obtain ⟨ρ',e,x,rfl⟩:=q6P (body:=q0x (q1n 4) q8l) (λj ρ=>∃x:Sl,ρ=[.sh s.d,.sh (.lst (s.bs.map q07)),.sh (.lst (rs.map q0T)),.sh (.lst ((s.spA 1 ((s.bats.zip rs).take j)).map q0v)),x]) s.bs.length (λj ρ hj ⟨x,e⟩=>by
  subst e
  have hj1:j < s.bats.length:=by omega
  have hj2:j < rs.length:=by omega
  have zq:(s.bats.zip rs)[j]?=some (s.bats[j],rs[j]):=by rw [List.getElem?_zip_eq_some];exact ⟨List.getElem?_eq_getElem hj1,List.getElem?_eq_getElem hj2⟩
  obtain ⟨k,e1,hk,hr⟩:=q37 h hl p zq
  dsimp only at e1 hr
  have a1:atI (s.bs.map q07) (j:Int)=some (q07 (toB s.bats[j])):=q0C (by simp [Sc.bs,hj1])
  have a2:atI (rs.map q0T) (j:Int)=some (q0T rs[j]):=q0C (by simp [hj2])
  have tl:((s.bats.zip rs).take j).length=j:=by simp;omega
  have ls:=q81 h e1 hk hr (1+(j:Int))
  have n6:∀q∈s.bats.zip rs,(s.kd (q.1.1-1).toNat).length<=6:=λq hq=>by
   obtain ⟨i,hi,eq⟩:=List.getElem_of_mem hq
   obtain ⟨k,e,hk,_⟩:=q37 h hl p (q:=q) (j:=i) (by rw [<-eq];exact List.getElem?_eq_getElem hi)
   rw [show (q.1.1-1).toNat=k by omega]
   exact (h.kd hk).six
  have z1:=q5N s ((s.bats.zip rs).take j) 1 λq hq=>n6 q (List.mem_of_mem_take hq)
  have z2:=q3n (1+(j:Int)) s.bats[j].2.2 rs[j].2.2 rs[j].1 (s.kd (s.bats[j].1-1).toNat) rs[j].2.1
  have z3:=n6 (s.bats[j],rs[j]) (List.mem_of_getElem? zq)
  rw [q3d zq,q3b,tl,List.map_append]
  refine ⟨_,?_,.sh (.int j),rfl⟩
  have zz:((s.spA 1 ((s.bats.zip rs).take j)).map q0v).length+((s.sp1 (1+(j:Int)) (s.bats[j],rs[j])).map q0v).length<=1000000:=by
   unfold Sc.sp1
   dsimp only at z3 ⊢
   simp only [List.length_map]
   omega
  generalize (s.spA 1 ((s.bats.zip rs).take j)).map q0v=pp at *
  generalize (s.sp1 (1+(j:Int)) (s.bats[j],rs[j])).map q0v=qq at *
  generalize q07 (toB s.bats[j])=bb at *
  generalize q0T rs[j]=rr at *
  generalize s.bs.map q07=b1 at *
  generalize rs.map q0T=r1 at *
  generalize s.d=sd at *
  simp [q0x,q8l,a1,a2,ls,zz]) (ρ:=[.sh s.d,.sh (.lst (s.bs.map q07)),.sh (.lst (rs.map q0T)),.sh (.lst []),.no]) ⟨.no,by simp [Sc.spA]⟩
 rw [List.take_of_length_le (by simp;omega)] at e
 have k3:q9D [.sh s.d,.sh (.lst (s.bs.map q07)),.sh (.lst (rs.map q0T)),.sh (.lst []),.no]=.rt (.sh (.lst ((s.spA 1 (s.bats.zip rs)).map q0v))):=by
  rw [q9D,q0O (ds:=rgD 0 s.bs.length) (q1E (by simp) (by omega)),e]
  rfl
 rw [j60]
 refine q1v _ rfl ?_
 show q9d [.sh s.d,.sh (.lst (s.bs.map q07)),.sh (.lst (rs.map q0T)),.no,.no]=_
 rw [q9d,q1u (v:=.lst []) rfl,Fl.nx_bind]
 exact k3
theorem q9s {w:Int} (h:0<=w/\w<=3):(decide (q2B w=Str.ofString "hands")=decide (w=1))/\(decide (q2B w=Str.ofString "bench")=decide (w=2)):=by
 have:w=0∨w=1∨w=2∨w=3:=by omega
 rcases this with rfl | rfl | rfl | rfl<;>decide +kernel
theorem q3Q {ps:List Sp} {f g:Sp->Bool} (h:∀p∈ps,f p=g p):(ps.filter f).length=(ps.filter g).length:=by
 rw [List.filter_congr h]
theorem j2o {s:Sc} (h:ScOk s) (ps:List Sp) (po:PsOk ps) (m:Int) :
 j9K [.sh (.tup [.int (q1P (Str.ofString "hands") (ps.filter (q12 m))),.int (q1P (Str.ofString "bench") (ps.filter (q12 m))),.lst ((q04 s (ps.filter (q12 m))).map D.int)]),.sh s.d,.sh (.lst (ps.map q0v)),.sh (.int m)]=.ok (.sh (.bl true)):=by
 have kl:=h.klen
 have f11:∀(f:Sl),q1i (q1y (q0d 2)) [3] (q4Q (tB2 (i2 λi j=>.bl (decide (i<=j))) (e2 ixD (q0d 0) (eC (.int 1))) (q0d 1)) (tB2 (i2 λi j=>.bl (decide (i < j))) (q0d 1) (e2 ixD (q0d 0) (eC (.int 2))))) (q0d 0) [f,.sh s.d,.sh (.lst (ps.map q0v)),.sh (.int m),.no,.no,.no]=.ok ((ps.filter (q12 m)).map q0v):=λf=>by
  refine q13 (g:=q0v) (k:=q0v) (p:=q12 m) (by rfl) (by have:=po.len;omega) (λp _=>?_) (λp _ _=>rfl)
  unfold q0v q12
  by_cases h1:p.b<=m
  ·by_cases h2:m < p.u<;>simp [q03,q3E,q0Z,q1s,h1,h2]
  ·simp [q03,q3E,q0Z,q1s,h1]
 have po2:=po.filter (q12 m)
 generalize hqs:ps.filter (q12 m)=qs at *
 have fw:∀(f x y z:Sl) (c:Int),q1i (q1y (q0d 4)) [] (tB2 (λa b=>bD false (eqS a b)) (e2 ixD (q0d 0) (eC (.int 0))) (eC (.int c))) (q0d 0) [f,.sh s.d,.sh (.lst (ps.map q0v)),x,.sh (.lst (qs.map q0v)),y,z]=.ok ((qs.filter λp=>decide (p.sg.2.2.1=c)).map q0v):=λf x y z c=>by
  refine q13 (g:=q0v) (k:=q0v) (p:=λp=>decide (p.sg.2.2.1=c)) (by rfl) (by have:=po2.len;omega) (λp _=>?_) (λp _ _=>rfl)
  unfold q0v
  simp [q03,q0M]
 have c1:(qs.filter λp=>decide (p.sg.2.2.1=1)).length=q1P (Str.ofString "hands") qs:=q3Q λp hp=>((q9s (po2.want p hp)).1).symm
 have c2:(qs.filter λp=>decide (p.sg.2.2.1=2)).length=q1P (Str.ofString "bench") qs:=q3Q λp hp=>((q9s (po2.want p hp)).2).symm
 have i1:=is_ (q1P (Str.ofString "hands") qs) (q1P (Str.ofString "hands") qs)
 have i2:=is_ (q1P (Str.ofString "bench") qs) (q1P (Str.ofString "bench") qs)
 simp only [decide_true] at i1 i2
 have hl:(q04 s qs).length=s.kilns.length:=by simp [q04]
 have ro:=j2T (q04 s qs) (by omega) (.sh (.lst ((q04 s qs).map D.int))) (.inr rfl) (.bo ((q04 s qs).map D.int)) (.inl rfl)
 obtain ⟨ρ',e,a,rfl⟩:=q6P (body:=q0x (q1n 6) q91) (λj ρ=>∃a:Sl,ρ=[.sh (.tup [.int (q1P (Str.ofString "hands") qs),.int (q1P (Str.ofString "bench") qs),.lst ((q04 s qs).map D.int)]),.sh s.d,.sh (.lst (ps.map q0v)),.sh (.int m),.sh (.lst (qs.map q0v)),.ow (((q04 s qs).take j).map D.int),a]) s.kilns.length (λj ρ hj ⟨a,e⟩=>by
  subst e
  have hv:(q04 s qs)[j]?=some (isum ((qs.filter λp=>decide (p.ov=1+(j:Int))).map (·.lv))):=by
   unfold q04
   rw [List.getElem?_map,List.getElem?_range hj]
   rfl
  have ef:(qs.filter λp=>decide (p.ov=1+(j:Int)))=qs.filter λp=>decide (p.sg.2.2.1=3) && decide (p.o=(j:Int)+1):=by
   refine List.filter_congr λp _=>?_
   unfold Sp.ov
   rw [Bool.eq_iff_iff,Bool.and_eq_true,decide_eq_true_eq,decide_eq_true_eq,decide_eq_true_eq]
   by_cases h3:p.sg.2.2.1=3
   ·rw [if_pos h3]
    constructor
    ·intro q;exact ⟨h3,by omega⟩
    ·intro q;have:=q.2;omega
   ·rw [if_neg h3]
    constructor
    ·intro q;omega
    ·intro q;exact absurd q.1 h3
  have sm:=q5B (is:=(qs.filter λp=>decide (p.ov=1+(j:Int))).map (·.lv)) (by
   have:=(po2.filter λp=>decide (p.ov=1+(j:Int))).len
   simpa using this) (λi hi=>by
   obtain ⟨p,hp,rfl⟩:=List.mem_map.mp hi
   have:=po2.lv p (List.mem_filter.mp hp).1
   omega)
  have fc:q1i (q1y (q0d 4)) [6] (q4Q (tB2 (λa b=>bD false (eqS a b)) (e2 ixD (q0d 0) (eC (.int 0))) (eC (.int 3))) (tB2 (λa b=>bD false (eqS a b)) (e2 ixD (q0d 0) (eC (.int 5))) (e2 q1l (q0d 1) (eC (.int 1))))) (e2 ixD (q0d 0) (eC (.int 4))) [.sh (.tup [.int (q1P (Str.ofString "hands") qs),.int (q1P (Str.ofString "bench") qs),.lst ((q04 s qs).map D.int)]),.sh s.d,.sh (.lst (ps.map q0v)),.sh (.int m),.sh (.lst (qs.map q0v)),.ow (((q04 s qs).take j).map D.int),.sh (.int j)]=.ok (((qs.filter λp=>decide (p.ov=1+(j:Int))).map (·.lv)).map D.int):=by
   rw [ef,List.map_map (g:=D.int)]
   refine q13 (g:=q0v) (k:=λp=>D.int p.lv) (p:=λp=>decide (p.sg.2.2.1=3) && decide (p.o=(j:Int)+1)) (by rfl) (by have:=po2.len;omega) (λp _=>?_) (λp _ _=>?_)
   ·unfold q0v
    by_cases h1:p.sg.2.2.1=3
    ·simp [q03,q3E,q0M,q20,h1]
    ·simp [q03,q3E,q0M,q20,h1]
   ·unfold q0v
    simp [q03,q3M]
  rw [q3d hv,List.map_append]
  refine ⟨_,?_,.sh (.int j),rfl⟩
  have lt:(((q04 s qs).take j).map D.int).length < 1000000:=by simp;omega
  have b0:∀g:Ro->Fl,q0x (q1n 6) g [.sh (.tup [.int (q1P (Str.ofString "hands") qs),.int (q1P (Str.ofString "bench") qs),.lst ((q04 s qs).map D.int)]),.sh s.d,.sh (.lst (ps.map q0v)),.sh (.int m),.sh (.lst (qs.map q0v)),.ow (((q04 s qs).take j).map D.int),a] (.int j)=g [.sh (.tup [.int (q1P (Str.ofString "hands") qs),.int (q1P (Str.ofString "bench") qs),.lst ((q04 s qs).map D.int)]),.sh s.d,.sh (.lst (ps.map q0v)),.sh (.int m),.sh (.lst (qs.map q0v)),.ow (((q04 s qs).take j).map D.int),.sh (.int j)]:=λ_=>rfl
  rw [b0,q91,q5y]
  show Out.fl (Out.bind (Out.bind (Out.bind (q1i _ _ _ _ _) _) _) _) _ _=_
  rw [fc]
  show Out.fl (q8h [.lst _]) _ _=_
  rw [sm,Out.ok_fl,if_pos lt]
  rfl) (ρ:=[.sh (.tup [.int (q1P (Str.ofString "hands") qs),.int (q1P (Str.ofString "bench") qs),.lst ((q04 s qs).map D.int)]),.sh s.d,.sh (.lst (ps.map q0v)),.sh (.int m),.sh (.lst (qs.map q0v)),.ow [],.no]) ⟨.no,by simp⟩
 rw [List.take_of_length_le (by omega)] at e
 have k6:q6F [.sh (.tup [.int (q1P (Str.ofString "hands") qs),.int (q1P (Str.ofString "bench") qs),.lst ((q04 s qs).map D.int)]),.sh s.d,.sh (.lst (ps.map q0v)),.sh (.int m),.sh (.lst (qs.map q0v)),.ow [],.no]=.rt (.sh (.bl true)):=by
  rw [q6F,q0O (ds:=rgD 0 s.kilns.length) (q1E (by unfold Sc.d;simp [q2e]) (by omega)),e,Fl.nx_bind]
  clear e f11 fw
  generalize (q04 s qs).map D.int=hh at *
  generalize s.d=sd at *
  simp [j3b,q1s,ro]
 have g3:∀x:Out D,x=.ok (.lst (qs.map q0v))->True:=λ_ _=>trivial
 have k8:q6g [.sh (.tup [.int (q1P (Str.ofString "hands") qs),.int (q1P (Str.ofString "bench") qs),.lst ((q04 s qs).map D.int)]),.sh s.d,.sh (.lst (ps.map q0v)),.sh (.int m),.sh (.lst (qs.map q0v)),.no,.no]=.rt (.sh (.bl true)):=by
  have fw2:=fw (.sh (.tup [.int (q1P (Str.ofString "hands") qs),.int (q1P (Str.ofString "bench") qs),.lst ((q04 s qs).map D.int)])) (.sh (.int m)) .no .no 2
  have ln2:((qs.filter λp=>decide (p.sg.2.2.1=2)).map q0v).length=q1P (Str.ofString "bench") qs:=by rw [List.length_map,c2]
  rw [q6g]
  generalize hC:q1i (q1y (q0d 4)) [] (tB2 (λa b=>bD false (eqS a b)) (e2 ixD (q0d 0) (eC (.int 0))) (eC (.int 2))) (q0d 0)=C at *
  generalize hG:q6F=G at *
  clear e f11 fw
  generalize (qs.filter λp=>decide (p.sg.2.2.1=2)).map q0v=w2 at *
  generalize (q04 s qs).map D.int=hh at *
  generalize q1P (Str.ofString "hands") qs=n1 at *
  generalize q1P (Str.ofString "bench") qs=n2 at *
  generalize qs.map q0v=qq at *
  generalize ps.map q0v=pp at *
  generalize s.d=sd at *
  simp [j2S,q0Z,fw2,ln2,i2,hG,k6]
 have k9:q6U [.sh (.tup [.int (q1P (Str.ofString "hands") qs),.int (q1P (Str.ofString "bench") qs),.lst ((q04 s qs).map D.int)]),.sh s.d,.sh (.lst (ps.map q0v)),.sh (.int m),.sh (.lst (qs.map q0v)),.no,.no]=.rt (.sh (.bl true)):=by
  have fw1:=fw (.sh (.tup [.int (q1P (Str.ofString "hands") qs),.int (q1P (Str.ofString "bench") qs),.lst ((q04 s qs).map D.int)])) (.sh (.int m)) .no .no 1
  have ln1:((qs.filter λp=>decide (p.sg.2.2.1=1)).map q0v).length=q1P (Str.ofString "hands") qs:=by rw [List.length_map,c1]
  rw [q6U]
  generalize hC:q1i (q1y (q0d 4)) [] (tB2 (λa b=>bD false (eqS a b)) (e2 ixD (q0d 0) (eC (.int 0))) (eC (.int 1))) (q0d 0)=C at *
  generalize hG:q6g=G at *
  clear e f11 fw
  generalize (qs.filter λp=>decide (p.sg.2.2.1=1)).map q0v=w2 at *
  generalize (q04 s qs).map D.int=hh at *
  generalize q1P (Str.ofString "hands") qs=n1 at *
  generalize q1P (Str.ofString "bench") qs=n2 at *
  generalize qs.map q0v=qq at *
  generalize ps.map q0v=pp at *
  generalize s.d=sd at *
  simp [q0M,fw1,ln1,i1,hG,k8]
 rw [j9K]
 refine q1v _ rfl ?_
 show q5I [.sh (.tup [.int (q1P (Str.ofString "hands") qs),.int (q1P (Str.ofString "bench") qs),.lst ((q04 s qs).map D.int)]),.sh s.d,.sh (.lst (ps.map q0v)),.sh (.int m),.no,.no,.no]=_
 rw [q5I,q1u (v:=.lst (qs.map q0v)) (by rw [q1I,f11,Out.ok_bind]),Fl.nx_bind]
 clear e f11 fw
 generalize hG:q6U=G at *
 generalize (q04 s qs).map D.int=hh at *
 generalize q1P (Str.ofString "hands") qs=n1 at *
 generalize q1P (Str.ofString "bench") qs=n2 at *
 generalize qs.map q0v=qq at *
 generalize ps.map q0v=pp at *
 generalize s.d=sd at *
 simp [j0S,q3h,hG,k9]
noncomputable abbrev st16 (ns:List Int) (s:Sc) (rs:List Rr) (zs:List Str) (sp:Sl) (far:Int) (ms:List Int) (a b c pl d f:Sl):Ro:=
 [.sh (.lst (ns.map D.int)),.sh s.d,.sh (.lst (s.bs.map q07)),.sh (.lst (rs.map q0T)),.sh (.lst (zs.map D.str)),.sh (s.bkr zs),.sh (.lst ((s.asked.map (q1z zs)).map ord)),sp,.sh (.int far),.sh (.lst (ms.map D.int)),a,b,c,pl,d,f]
theorem j1X (ns:List Int) {s:Sc} (h:ScOk s) (zs:List Str) (hz:zs.length=s.kinds.length) (w:∀z∈zs,Wd 12 z) (nd:zs.Nodup) (rs qs:List Rr) (hl:qs.length=s.bs.length) (p:PlOk s qs) (far:Int) (ms:List Int) (m:Int) (a b c d f:Sl) :
 ∃f',q0x (q1n 14) q7m (st16 ns s rs zs (.sh (.lst ((s.spA 1 (s.bats.zip qs)).map q0v))) far ms a b c (.sh (.lst (qs.map q1b))) d f) (.int m)=.nx (st16 ns s rs zs (.sh (.lst ((s.spA 1 (s.bats.zip qs)).map q0v))) far ms a b c (.sh (.lst (qs.map q1b))) (.sh (.int m)) f'):=by
 have he:=j5B h zs hz w nd qs hl p m
 have po:=w0u h qs hl p
 have ri:=j2o h (s.spA 1 (s.bats.zip qs)) po m
 have kl:=h.klen
 have hl:((q04 s ((s.spA 1 (s.bats.zip qs)).filter (q12 m))).map D.int).length < 1000000:=by simp [q04];omega
 generalize (q04 s ((s.spA 1 (s.bats.zip qs)).filter (q12 m))).map D.int=hh at *
 generalize q1P (Str.ofString "hands") ((s.spA 1 (s.bats.zip qs)).filter (q12 m))=n1 at *
 generalize q1P (Str.ofString "bench") ((s.spA 1 (s.bats.zip qs)).filter (q12 m))=n2 at *
 refine ⟨.ox true [.int n1,.int n2] (hh++[.int 7]) [],?_⟩
 unfold st16
 generalize (s.spA 1 (s.bats.zip qs)).map q0v=pp at *
 generalize qs.map q1b=qr at *
 generalize rs.map q0T=r1 at *
 generalize s.bs.map q07=bb at *
 generalize s.d=dd at *
 generalize s.bkr zs=sb at *
 generalize (s.asked.map (q1z zs)).map ord=oo at *
 generalize zs.map D.str=zz at *
 generalize ns.map D.int=nn at *
 generalize ms.map D.int=mm at *
 simp [q0x,q7m,j2O,j3C,he,ri,hl,mkO]
theorem j4V (ns:List Int) (hn:ns.length<=63) {s:Sc} (h:ScOk s) (zs:List Str) (hz:zs.length=s.kinds.length) (w:∀z∈zs,Wd 12 z) (nd:zs.Nodup) (rs:List Rr) (hl:rs.length=s.bs.length) (p:PlOk s rs) (sp:Sl) (far:Int) (ms:List Int) (a b c pl d f:Sl) :
 q2W (st16 ns s rs zs sp far ms a b c pl d f)=.rt (.sh (.bl true)):=by
 have few:=h.few
 have bl:s.bs.length=s.bats.length:=by simp [Sc.bs]
 obtain ⟨qs,q1,q2,qe⟩:=j1F ns hn h rs hl p
 obtain ⟨ρ',e,sp',a',pl',d',f',rfl⟩:=j9R (body:=q0x (q1n 10) q3z) (λx:List Rr=>D.lst (x.map q0T)) (λj ρ=>∃sp a pl d f:Sl,ρ=st16 ns s rs zs sp far ms a b c pl d f) [rs,qs,rs] (λj x ρ hx ⟨sp,a,pl,d,f,e⟩=>by
  subst e
  have hx2:x.length=s.bs.length/\PlOk s x:=by
   have:x=rs∨x=qs:=by
    have:=List.mem_of_getElem? hx
    simp only [List.mem_cons,List.not_mem_nil,or_false] at this
    rcases this with h | h | h
    ·exact .inl h
    ·exact .inr h
    ·exact .inl h
   rcases this with rfl | rfl
   ·exact ⟨hl,p⟩
   ·exact ⟨q1,q2⟩
  have mr:=j62 x (by have:=hx2.1;omega) (hx2.2.rr h hx2.1)
  have as:=q4N h x hx2.1 hx2.2
  have rso:=j1P x (by have:=hx2.1;omega) (hx2.2.rr h hx2.1)
  obtain ⟨ρ2,e2,d2,f2,rfl⟩:=j9R (body:=q0x (q1n 14) q7m) D.int (λj ρ=>∃d f:Sl,ρ=st16 ns s rs zs (.sh (.lst ((s.spA 1 (s.bats.zip x)).map q0v))) far ms (.sh (.lst (x.map q0T))) b c (.sh (.lst (x.map q1b))) d f) ms (λj m ρ _ ⟨d,f,e⟩=>by
   subst e
   obtain ⟨f',e⟩:=j1X ns h zs hz w nd rs x hx2.1 hx2.2 far ms m (.sh (.lst (x.map q0T))) b c d f
   exact ⟨_,e,_,f',rfl⟩) (ρ:=st16 ns s rs zs (.sh (.lst ((s.spA 1 (s.bats.zip x)).map q0v))) far ms (.sh (.lst (x.map q0T))) b c (.sh (.lst (x.map q1b))) d f) ⟨d,f,rfl⟩
  have k10:q4t (st16 ns s rs zs (.sh (.lst ((s.spA 1 (s.bats.zip x)).map q0v))) far ms (.sh (.lst (x.map q0T))) b c (.sh (.lst (x.map q1b))) d f)=.nx (st16 ns s rs zs (.sh (.lst ((s.spA 1 (s.bats.zip x)).map q0v))) far ms (.sh (.lst (x.map q0T))) b c (.sh (.lst (x.map q1b))) d2 f2):=by
   rw [q4t,q0O (ds:=ms.map D.int) (by rfl),e2,Fl.nx_bind]
   clear e2
   unfold st16
   generalize x.map q1b=x1 at *
   generalize x.map q0T=x2 at *
   generalize s.d=dd at *
   generalize s.bkr zs=sb at *
   simp [j2Z,rso]
  refine ⟨_,?_,.sh (.lst ((s.spA 1 (s.bats.zip x)).map q0v)),.sh (.lst (x.map q0T)),.sh (.lst (x.map q1b)),d2,f2,rfl⟩
  rw [<-k10]
  have b0:q0x (q1n 10) q3z (st16 ns s rs zs sp far ms a b c pl d f) (.lst (x.map q0T))=q3z (st16 ns s rs zs sp far ms (.sh (.lst (x.map q0T))) b c pl d f):=rfl
  rw [b0]
  clear e2 b0 k10
  generalize hG:q4t=G
  unfold st16
  generalize (s.spA 1 (s.bats.zip x)).map q0v=pp at *
  generalize x.map q1b=x1 at *
  generalize x.map q0T=x2 at *
  generalize s.bs.map q07=bb at *
  generalize s.d=dd at *
  generalize s.bkr zs=sb at *
  simp [q3z,j00,mr,as,hG]) (ρ:=st16 ns s rs zs sp far ms a b c pl d f) ⟨sp,a,pl,d,f,rfl⟩
 have it:q1y (q1I (q09 (q0k (q0d 3) (q0k (rD (q0r (n:=2) j6w [] (gSh (q0d 0) (gSh (q0d 3) gN0)))) (q0k (q0d 3) q0E))))) (st16 ns s rs zs sp far ms a b c pl d f)=.ok (([rs,qs,rs]:List (List Rr)).map λx:List Rr=>D.lst (x.map q0T)):=by
  unfold st16
  generalize s.d=dd at *
  generalize s.bkr zs=sb at *
  generalize ns.map D.int=nn at *
  simp [qe]
 rw [q2W,q0O it,e,Fl.nx_bind]
 have so:=j4Y zs s.asked (λa ha=>by have:=h.aix a ha;omega) h.alen
 clear e it qe
 unfold st16
 generalize rs.map q0T=r1 at *
 generalize s.bs.map q07=bb at *
 generalize (s.asked.map (q1z zs)).map ord=oo at *
 unfold Sc.d
 generalize s.asked.map q10=aa at *
 generalize s.kinds.map q0K=dd at *
 generalize s.kilns.map q2x=kk at *
 generalize s.bkr zs=sb at *
 generalize zs.map D.str=zz at *
 generalize ns.map D.int=nn at *
 generalize ms.map D.int=mm at *
 simp [q9M,so,q20]
theorem law_true (ns:List Int) (hn:ns.length<=63):j66 [.sh (.lst (ns.map D.int))]=.ok (.sh (.bl true)):=by
 obtain ⟨s,h,hdue,ds,esd,es⟩:=j2y ns hn
 have few:=h.few
 have bl:s.bs.length=s.bats.length:=by simp [Sc.bs]
 have eb:=j5J h
 obtain ⟨rs,hl,p,ep⟩:=j49 ns hn h
 have p62:=q1F ns hn 62 (by decide) (by decide)
 have p60:=q1F ns hn 60 (by decide) (by decide)
 have p61:=q1F ns hn 61 (by decide) (by decide)
 generalize pk ns (62:Int).toNat=v62 at *
 generalize pk ns (60:Int).toNat=v60 at *
 generalize pk ns (61:Int).toNat=v61 at *
 obtain ⟨zs,hz,nd,w,en⟩:=j1j v62 s.kinds.length (by have:=h.dlen;omega)
 have ebk:=j7N h zs hz w nd
 have eo:=j6K zs s.asked h.alen (λa ha=>by have:=h.aix a ha;omega) (λa ha=>(h.alv a ha).1)
 have eas:=q4N h rs hl p
 have po:=w0u h rs hl p
 obtain ⟨far,hfar⟩:∃far:Int,v60 % 10 ^ 30=far:=⟨_,rfl⟩
 obtain ⟨m2,em2,_⟩:=pick2 (0-far) far v61
 have em2':atI [D.int (-far),D.int far] (v61 % 2)=some (.int m2):=by rw [<-em2,Int.zero_sub]
 generalize s.spA 1 (s.bats.zip rs)=ps at *
 obtain ⟨ms,x,y,e15⟩:∃(ms:List Int) (x y:Sl),q3m (st16 ns s rs zs (.sh (.lst (ps.map q0v))) far [v60 % 1510-9,m2] .no .no .no .no .no .no)=q2W (st16 ns s rs zs (.sh (.lst (ps.map q0v))) far ms .no x y .no .no .no):=by
  by_cases hr:ps.length=0
  ·have:ps=[]:=List.eq_nil_of_length_eq_zero hr
   subst this
   refine ⟨[v60 % 1510-9,m2],.no,.no,?_⟩
   unfold st16
   generalize hG:q2W=G at *
   generalize s.d=sd at *
   generalize s.bkr zs=sb at *
   simp [q3m,j3P,hG]
  ·have n0:0 < (ps.length:Int):=by omega
   have n0':0 < ps.length:=by omega
   have ix:∀v:Int,∃j:Nat,∃hj:j < ps.length,v % (ps.length:Int)=(j:Int):=λv=>by
    have h0:=Int.emod_nonneg v (b:=(ps.length:Int)) (by omega)
    have h1:=Int.emod_lt_of_pos v (b:=(ps.length:Int)) (by omega)
    exact ⟨(v % (ps.length:Int)).toNat,by omega,by omega⟩
   obtain ⟨j,hj,ej⟩:=ix v60
   obtain ⟨i,hi,ei⟩:=ix v61
   have a1:atI (ps.map q0v) (j:Int)=some (q0v ps[j]):=q0C (by simp [hj])
   have a2:atI (ps.map q0v) (i:Int)=some (q0v ps[i]):=q0C (by simp [hi])
   have ne:(ps.map q0v).isEmpty=false:=by
    cases ps with
    | nil=>simp at hr
    | cons a l=>rfl
   have ll:(ps.map q0v).length=ps.length:=by simp
   rw [<-ll] at ej ei n0 n0'
   refine ⟨[v60 % 1510-9,m2,ps[j].b,ps[j].u,ps[i].b-1],.sh (q0v ps[j]),.sh (q0v ps[i]),?_⟩
   clear eas ep p ix
   unfold st16
   generalize hG:q2W=G at *
   generalize s.d=sd at *
   generalize s.bkr zs=sb at *
   generalize ps[j]=pj at *
   generalize ps[i]=pi at *
   generalize ps.map q0v=aa at *
   unfold q0v at *
   generalize ns.map D.int=nn at *
   simp [q3m,j22,j39,j21,j3P,ne,p60,p61,ej,ei,n0,n0',a1,a2,q0M,q0Z,q1s,hG]
 have e14:=j4V ns hn h zs hz w nd rs hl p (.sh (.lst (ps.map q0v))) far ms .no x y .no .no .no
 rw [e14] at e15
 clear e14
 have lk:(s.kinds.map q0K).length=s.kinds.length:=by simp
 have lk8:=h.dlen
 unfold st16 at e15
 have k24:q5K [.sh (.lst (ns.map D.int)),.no,.no,.no,.no,.no,.no,.no,.no,.no,.no,.no,.no,.no,.no,.no]=.rt (.sh (.bl true)):=by
  have pw:(10:Int) ^ 30=1000000000000000000000000000000:=by decide
  have hfar':v60 % 1000000000000000000000000000000=far:=by rw [<-hfar,pw]
  have c5:atI ds 5=some (.lst (s.asked.map q10)):=by
   unfold Sc.d at esd;cases esd;exact q20 _ _ _ _ _ _ _
  have c4:atI ds 4=some (.lst (s.kinds.map q0K)):=by
   unfold Sc.d at esd;cases esd;exact q3M _ _ _ _ _ _
  rw [esd] at *
  clear esd p hdue
  generalize hG:q3m=G at *
  generalize s.kinds.map q0K=dd at *
  generalize (s.asked.map (q1z zs)).map ord=oo at *
  generalize s.asked.map q10=aa at *
  generalize s.bkr zs=sb at *
  generalize s.bs.map q07=bb at *
  generalize rs.map q0T=r1 at *
  generalize ps.map q0v=pp at *
  generalize zs.map D.str=zz at *
  generalize ns.map D.int=nn at *
  simp [List.map_cons,List.map_nil] at e15
  simp [q5K,q89,q8m,q9h,q8p,j0N,q8x,j0A,j0K,es,eb,ep,en,lk,c5,c4,p62,p60,p61,ebk,eo,eas,hfar',em2,em2',hG,e15]
 rw [j66]
 exact q1v _ rfl k24
end Lw
namespace Lw
open PySem PySem.W L2 L3
theorem q1H {K:Frag} {f c:Addr} {q:Str} {a:Option (Option Value)} {d:FuncData} (h:q1B K f c q a=q1C f d):K.lookup f=some (fo d)/\codeIn K (.ref c) q=true/\keepIn K (.ref f)=true/\isFn K (.ref f)=true/\a=some (some (.ref f)):=by
 unfold q1B q1C at h
 simpa only [Prod.mk.injEq] using h
theorem j4c {K:Frag} {C:Addr} {n:Str} {fs:List Str} (h:j1b K C n fs=j1e C fs):nI K n=some (some (.ref C))/\plainGet K C Str.empty=true/\hasDictIn K C=true/\plainOver K C=true/\makesIn K C=true/\keepIn K (.ref C)=true/\findIn K (.ref C) "__setattr__" = some (some (.builtin "object.__setattr__"))/\∀(i:Nat) (x:Str),fs[i]?=some x->findIn K (.ref C) x=some none:=by
 unfold j1b j1e at h
 simp only [Prod.mk.injEq,List.cons.injEq,and_true] at h
 obtain ⟨h1,⟨h2,h3,h4,h5,h6⟩,h7,h8⟩:=h
 refine ⟨h1,h2,h3,h4,h5,h6,h7,λi x e=>?_⟩
 have:=congrArg (·[i]?) h8
 simp only [List.getElem?_map,e,Option.map_some,Option.some.injEq] at this
 exact this
theorem j1d {K:Frag} {C:Addr} {n:Str} (h:q79 K C n=q78 C):nI K n=some (some (.ref C))/\excIn K C [.type "ValueError",.type "Exception",.type "BaseException",.type "object"] "ValueError.__new__" = true:=by
 unfold q79 q78 at h
 simpa only [Prod.mk.injEq] using h
theorem j5h {l:OpenLaw} {w:World} {K:Frag} {h:Heap} {mg:Str->Option Value} {fa:Addr} (X:K.In h) (G:h.Ns mainGlobals mg) (hfa:mg "law" = some (.ref fa)) (e:q5H K=j5g)
 : ∃fd:FuncData,(∀(s:Shared) (v:Value),BindsTo s fd ⟨[v],[]⟩ [("_law_script",v)])/\∃T:Tb,∀base:Heap,K.In base->base.Ns mainGlobals mg->q1j l.prog w K mg base (CXE T l.prog w) 9 fa fd ["_law_script"] (spD T K 1 j66):=by
 obtain ⟨eF,e⟩:=Prod.mk.inj (e:(hLF K,hLG K,hLC K,hLE K,hZ.map (λx=>nI K x),hLI K,hLV K,hLB K,hLO K,hLX K)=(hRF,hRG,hRC,hRE,hZ.map (λ_=>(some none:Option (Option Value))),hRI,hRV,hRB,hRO,hRX))
 obtain ⟨eG,e⟩:=Prod.mk.inj e
 obtain ⟨eC,e⟩:=Prod.mk.inj e
 obtain ⟨eE,e⟩:=Prod.mk.inj e
 obtain ⟨eZ,e⟩:=Prod.mk.inj e
 obtain ⟨eI,e⟩:=Prod.mk.inj e
 obtain ⟨eV,e⟩:=Prod.mk.inj e
 obtain ⟨eB,e⟩:=Prod.mk.inj e
 obtain ⟨eO,e⟩:=Prod.mk.inj e
 obtain ⟨l1,c1,k1,i1,a1⟩:=q1H (Hd.row eF 0 rfl rfl)
 obtain ⟨l2,c2,k2,i2,a2⟩:=q1H (Hd.row eF 1 rfl rfl)
 obtain ⟨l3,c3,k3,i3,a3⟩:=q1H (Hd.row eF 2 rfl rfl)
 obtain ⟨l4,c4,k4,i4,a4⟩:=q1H (Hd.row eF 3 rfl rfl)
 obtain ⟨l5,c5,k5,i5,a5⟩:=q1H (Hd.row eF 4 rfl rfl)
 obtain ⟨l6,c6,k6,i6,a6⟩:=q1H (Hd.row eF 5 rfl rfl)
 obtain ⟨l7,c7,k7,i7,a7⟩:=q1H (Hd.row eF 6 rfl rfl)
 obtain ⟨l8,c8,k8,i8,a8⟩:=q1H (Hd.row eF 7 rfl rfl)
 obtain ⟨l9,c9,k9,i9,a9⟩:=q1H (Hd.row eF 8 rfl rfl)
 obtain ⟨l10,c10,k10,i10,a10⟩:=q1H (Hd.row eF 9 rfl rfl)
 obtain ⟨l11,c11,k11,i11,a11⟩:=q1H (Hd.row eF 10 rfl rfl)
 obtain ⟨l13,c13,k13,i13,a13⟩:=q1H (Hd.row eF 11 rfl rfl)
 obtain ⟨l14,c14,k14,i14,a14⟩:=q1H (Hd.row eF 12 rfl rfl)
 obtain ⟨l15,c15,k15,i15,a15⟩:=q1H (Hd.row eF 13 rfl rfl)
 obtain ⟨l16,c16,k16,i16,a16⟩:=q1H (Hd.row eF 14 rfl rfl)
 obtain ⟨l17,c17,k17,i17,a17⟩:=q1H (Hd.row eF 15 rfl rfl)
 obtain ⟨l18,c18,k18,i18,a18⟩:=q1H (Hd.row eF 16 rfl rfl)
 obtain ⟨l19,c19,k19,i19,a19⟩:=q1H (Hd.row eF 17 rfl rfl)
 obtain ⟨l20,c20,k20,i20,a20⟩:=q1H (Hd.row eF 18 rfl rfl)
 obtain ⟨l21,c21,k21,i21,a21⟩:=q1H (Hd.row eF 19 rfl rfl)
 obtain ⟨l22,c22,k22,i22,a22⟩:=q1H (Hd.row eF 20 rfl rfl)
 obtain ⟨l23,c23,k23,i23,a23⟩:=q1H (Hd.row eF 21 rfl rfl)
 obtain ⟨l24,c24,k24,i24,a24⟩:=q1H (Hd.row eF 22 rfl rfl)
 obtain ⟨l25,c25,k25,i25,a25⟩:=q1H (Hd.row eF 23 rfl rfl)
 obtain ⟨l26,c26,k26,i26,a26⟩:=q1H (Hd.row eG 0 rfl rfl)
 obtain ⟨l27,c27,k27,i27,a27⟩:=q1H (Hd.row eG 1 rfl rfl)
 obtain ⟨l30,c30,k30,i30,a30⟩:=q1H (Hd.row eG 2 rfl rfl)
 obtain ⟨l31,c31,k31,i31,a31⟩:=q1H (Hd.row eG 3 rfl rfl)
 obtain ⟨l32,c32,k32,i32,a32⟩:=q1H (Hd.row eG 4 rfl rfl)
 obtain ⟨l33,c33,k33,i33,a33⟩:=q1H (Hd.row eG 5 rfl rfl)
 obtain ⟨l34,c34,k34,i34,a34⟩:=q1H (Hd.row eG 6 rfl rfl)
 obtain ⟨l35,c35,k35,i35,a35⟩:=q1H (Hd.row eG 7 rfl rfl)
 obtain ⟨l36,c36,k36,i36,a36⟩:=q1H (Hd.row eG 8 rfl rfl)
 obtain ⟨l37,c37,k37,i37,a37⟩:=q1H (Hd.row eG 9 rfl rfl)
 obtain ⟨l38,c38,k38,i38,a38⟩:=q1H (Hd.row eG 10 rfl rfl)
 obtain ⟨l39,c39,k39,i39,a39⟩:=q1H (Hd.row eG 11 rfl rfl)
 obtain ⟨l40,c40,k40,i40,a40⟩:=q1H (Hd.row eG 12 rfl rfl)
 obtain ⟨l41,c41,k41,i41,a41⟩:=q1H (Hd.row eG 13 rfl rfl)
 obtain ⟨l42,c42,k42,i42,a42⟩:=q1H (Hd.row eG 14 rfl rfl)
 obtain ⟨l43,c43,k43,i43,a43⟩:=q1H (Hd.row eG 15 rfl rfl)
 obtain ⟨l44,c44,k44,i44,a44⟩:=q1H (Hd.row eG 16 rfl rfl)
 obtain ⟨l45,c45,k45,i45,a45⟩:=q1H (Hd.row eG 17 rfl rfl)
 obtain ⟨l46,c46,k46,i46,a46⟩:=q1H (Hd.row eG 18 rfl rfl)
 obtain ⟨l47,c47,k47,i47,a47⟩:=q1H (Hd.row eG 19 rfl rfl)
 obtain ⟨l48,c48,k48,i48,a48⟩:=q1H (Hd.row eG 20 rfl rfl)
 obtain ⟨l49,c49,k49,i49,a49⟩:=q1H (Hd.row eG 21 rfl rfl)
 obtain ⟨l50,c50,k50,i50,a50⟩:=q1H (Hd.row eG 22 rfl rfl)
 obtain ⟨l51,c51,k51,i51,a51⟩:=q1H (Hd.row eG 23 rfl rfl)
 obtain ⟨l52,c52,k52,i52,a52⟩:=q1H (Hd.row eG 24 rfl rfl)
 obtain ⟨aC10,pg10,hd10,po10,mk10,kc10,sa10,nf10⟩:=j4c (Hd.row eC 0 rfl rfl)
 have na10_bread:=nf10 0 _ rfl
 have na10_loaves:=nf10 1 _ rfl
 have na10_due:=nf10 2 _ rfl
 obtain ⟨aC11,pg11,hd11,po11,mk11,kc11,sa11,nf11⟩:=j4c (Hd.row eC 1 rfl rfl)
 have na11_order:=nf11 0 _ rfl
 have na11_first:=nf11 1 _ rfl
 have na11_loaves:=nf11 2 _ rfl
 obtain ⟨aC12,pg12,hd12,po12,mk12,kc12,sa12,nf12⟩:=j4c (Hd.row eC 2 rfl rfl)
 have na12_begin:=nf12 0 _ rfl
 have na12_lengths:=nf12 1 _ rfl
 have na12_oven:=nf12 2 _ rfl
 obtain ⟨aC13,pg13,hd13,po13,mk13,kc13,sa13,nf13⟩:=j4c (Hd.row eC 3 rfl rfl)
 have na13_batch:=nf13 0 _ rfl
 have na13_stage:=nf13 1 _ rfl
 have na13_begin:=nf13 2 _ rfl
 have na13_until:=nf13 3 _ rfl
 have na13_loaves:=nf13 4 _ rfl
 have na13_oven:=nf13 5 _ rfl
 obtain ⟨aC14,pg14,hd14,po14,mk14,kc14,sa14,nf14⟩:=j4c (Hd.row eC 4 rfl rfl)
 have na14_night:=nf14 0 _ rfl
 have na14_hands:=nf14 1 _ rfl
 have na14_benches:=nf14 2 _ rfl
 have na14_ovens:=nf14 3 _ rfl
 have na14_breads:=nf14 4 _ rfl
 obtain ⟨aC15,pg15,hd15,po15,mk15,kc15,sa15,nf15⟩:=j4c (Hd.row eC 5 rfl rfl)
 have na15_name:=nf15 0 _ rfl
 have na15_least:=nf15 1 _ rfl
 have na15_most:=nf15 2 _ rfl
 have na15_want:=nf15 3 _ rfl
 have na15_heat:=nf15 4 _ rfl
 obtain ⟨aC16,pg16,hd16,po16,mk16,kc16,sa16,nf16⟩:=j4c (Hd.row eC 6 rfl rfl)
 have na16_name:=nf16 0 _ rfl
 have na16_stages:=nf16 1 _ rfl
 obtain ⟨aC17,pg17,hd17,po17,mk17,kc17,sa17,nf17⟩:=j4c (Hd.row eC 7 rfl rfl)
 have na17_room:=nf17 0 _ rfl
 have na17_rate:=nf17 1 _ rfl
 have na17_heat:=nf17 2 _ rfl
 obtain ⟨aC0,xc0⟩:=j1d (Hd.row eE 0 rfl rfl)
 obtain ⟨aC1,xc1⟩:=j1d (Hd.row eE 1 rfl rfl)
 obtain ⟨aC2,xc2⟩:=j1d (Hd.row eE 2 rfl rfl)
 obtain ⟨aC3,xc3⟩:=j1d (Hd.row eE 3 rfl rfl)
 obtain ⟨aC4,xc4⟩:=j1d (Hd.row eE 4 rfl rfl)
 obtain ⟨aC5,xc5⟩:=j1d (Hd.row eE 5 rfl rfl)
 obtain ⟨aC6,xc6⟩:=j1d (Hd.row eE 6 rfl rfl)
 obtain ⟨aC7,xc7⟩:=j1d (Hd.row eE 7 rfl rfl)
 obtain ⟨aC8,xc8⟩:=j1d (Hd.row eE 8 rfl rfl)
 obtain ⟨aC9,xc9⟩:=j1d (Hd.row eE 9 rfl rfl)
 have z_all:=Hd.row eZ 0 rfl rfl
 have z_any:=Hd.row eZ 1 rfl rfl
 have z_bool:=Hd.row eZ 2 rfl rfl
 have z_enumerate:=Hd.row eZ 3 rfl rfl
 have z_int:=Hd.row eZ 4 rfl rfl
 have z_isinstance:=Hd.row eZ 5 rfl rfl
 have z_len:=Hd.row eZ 6 rfl rfl
 have z_list:=Hd.row eZ 7 rfl rfl
 have z_max:=Hd.row eZ 8 rfl rfl
 have z_min:=Hd.row eZ 9 rfl rfl
 have z_range:=Hd.row eZ 10 rfl rfl
 have z_set:=Hd.row eZ 11 rfl rfl
 have z_sum:=Hd.row eZ 12 rfl rfl
 have z_tuple:=Hd.row eZ 13 rfl rfl
 have z_zip:=Hd.row eZ 14 rfl rfl
 have cc_FASTEST:=Hd.row eV 0 rfl rfl
 have cc_HOTTEST:=Hd.row eV 1 rfl rfl
 have cc_LETTERS:=Hd.row eV 2 rfl rfl
 have cc_LONGEST_NAME:=Hd.row eV 3 rfl rfl
 have cc_MOST_BATCHES:=Hd.row eV 4 rfl rfl
 have cc_MOST_BENCHES:=Hd.row eV 5 rfl rfl
 have cc_MOST_BREADS:=Hd.row eV 6 rfl rfl
 have cc_MOST_HANDS:=Hd.row eV 7 rfl rfl
 have cc_MOST_LOAVES:=Hd.row eV 8 rfl rfl
 have cc_MOST_ORDERS:=Hd.row eV 9 rfl rfl
 have cc_MOST_OVENS:=Hd.row eV 10 rfl rfl
 have cc_MOST_ROOM:=Hd.row eV 11 rfl rfl
 have cc_MOST_STAGES:=Hd.row eV 12 rfl rfl
 have cc_NIGHT:=Hd.row eV 13 rfl rfl
 have cc_WANTS:=Hd.row eV 14 rfl rfl
 have dk11:=Hd.row eO 0 rfl rfl
 have dk26:=Hd.row eO 1 rfl rfl
 have ct_WANTS:=Hd.row eO 2 rfl rfl
 have e:=hfa.symm.trans (mg_of X G a52)
 cases e
 have F1:=q0A (st:=s_1) l1 c1 k1
 have F2:=q0A (st:=s_2) l2 c2 k2
 have F3:=q0A (st:=s_3) l3 c3 k3
 have F4:=q0A (st:=s_4) l4 c4 k4
 have F5:=q0A (st:=s_5) l5 c5 k5
 have F6:=q0A (st:=s_6) l6 c6 k6
 have F7:=q0A (st:=s_7) l7 c7 k7
 have F8:=q0A (st:=s_8) l8 c8 k8
 have F9:=q0A (st:=s_9) l9 c9 k9
 have F10:=q0A (st:=j9p) l10 c10 k10
 have F11:=q8Q (st:=j9x) l11 c11 k11
 have F13:=q0A (st:=j9W) l13 c13 k13
 have F14:=q0A (st:=j9A) l14 c14 k14
 have F15:=q0A (st:=j9V) l15 c15 k15
 have F16:=q0A (st:=j9g) l16 c16 k16
 have F17:=q0A (st:=w0f) l17 c17 k17
 have F18:=q0A (st:=j9X) l18 c18 k18
 have F19:=q0A (st:=j9o) l19 c19 k19
 have F20:=q0A (st:=j9n) l20 c20 k20
 have F21:=q0A (st:=j9l) l21 c21 k21
 have F22:=q0A (st:=j90) l22 c22 k22
 have F23:=q0A (st:=j9k) l23 c23 k23
 have F24:=q0A (st:=j9y) l24 c24 k24
 have F25:=q0A (st:=j9m) l25 c25 k25
 have F26:=q8Q (st:=j9N) l26 c26 k26
 have F27:=q0A (st:=w0a) l27 c27 k27
 have F30:=q0A (st:=j93) l30 c30 k30
 have F31:=q0A (st:=j9q) l31 c31 k31
 have F32:=q0A (st:=j9j) l32 c32 k32
 have F33:=q0A (st:=j9L) l33 c33 k33
 have F34:=q0A (st:=j9c) l34 c34 k34
 have F35:=q0A (st:=j9d) l35 c35 k35
 have F36:=q0A (st:=j98) l36 c36 k36
 have F37:=q0A (st:=j9T) l37 c37 k37
 have F38:=q0A (st:=j9J) l38 c38 k38
 have F39:=q0A (st:=j91) l39 c39 k39
 have F40:=q0A (st:=j9H) l40 c40 k40
 have F41:=q0A (st:=j9S) l41 c41 k41
 have F42:=q0A (st:=j9E) l42 c42 k42
 have F43:=q0A (st:=w0m) l43 c43 k43
 have F44:=q0A (st:=j9P) l44 c44 k44
 have F45:=q0A (st:=j94) l45 c45 k45
 have F46:=q0A (st:=w0d) l46 c46 k46
 have F47:=q0A (st:=j9h) l47 c47 k47
 have F48:=q0A (st:=j9U) l48 c48 k48
 have F49:=q0A (st:=j9I) l49 c49 k49
 have F50:=q0A (st:=w0g) l50 c50 k50
 have F51:=q0A (st:=w0e) l51 c51 k51
 have F52:=q0A (st:=w0j) l52 c52 k52
 refine ⟨j3J,λs v=>.of_eq rfl,⟨λi=>([31,44,56,68,80,92,104,116,128,140,178,199,268,289,363,393,433,454]:List Addr).getD i 0,λa=>if a==178 then (["bread","loaves","due"]:List Str) else if a==199 then (["order","first","loaves"]:List Str) else if a==268 then (["begin","lengths","oven"]:List Str) else if a==289 then (["batch","stage","begin","until","loaves","oven"]:List Str) else if a==363 then (["night","hands","benches","ovens","breads"]:List Str) else if a==393 then (["name","least","most","want","heat"]:List Str) else if a==433 then (["name","stages"]:List Str) else if a==454 then (["room","rate","heat"]:List Str) else [],none,none⟩,λbase _ _=>w1g (fa:=λi=>([589,147,154,161,175,196,208,215,222,229,236,251,589,265,286,300,307,314,321,326,331,336,341,353,360,374,390,411,589,589,430,451,465,472,479,484,491,498,503,508,515,522,527,532,537,542,549,556,563,570,577,582,589]:List Addr).getD i 0) (fd:=λi=>([j3J,d_1,d_2,d_3,d_4,d_5,d_6,d_7,d_8,d_9,w2B,w2E,j3J,w1W,w2e,w2i,w1Y,w2H,w2J,w2d,w2F,w2g,w2q,w2m,w2K,w2L,w2G,w16,j3J,j3J,w2l,w2v,w2D,w12,w2w,w1X,w15,w2z,w1V,w17,w2x,w2C,w2s,w1Z,w2b,w2t,w2p,w10,w18,w2k,w2r,w14,j3J]:List FuncData).getD i j3J) ?_⟩
 exact {
  me:=rfl
  F1:=F1
  c1:=⟨mg_of X G a1,F1.kp,F1.binds λ_ _ _ _ _ _ us hl=>match us,hl with | [_],_=>rfl⟩
  F2:=F2
  c2:=⟨mg_of X G a2,F2.kp,F2.binds λ_ _ _ _ _ _ us hl=>match us,hl with | [_,_,_],_=>rfl⟩
  F3:=F3
  c3:=⟨mg_of X G a3,F3.kp,F3.binds λ_ _ _ _ _ _ us hl=>match us,hl with | [_,_,_],_=>rfl⟩
  F4:=F4
  b4:=F4.binds λ_ _ _ _ _ _ us hl=>match us,hl with | [_,_,_,_],_=>rfl
  F5:=F5
  b5:=F5.binds λ_ _ _ _ _ _ us hl=>match us,hl with | [_,_,_,_],_=>rfl
  F6:=F6
  c6:=⟨mg_of X G a6,F6.kp,F6.binds λ_ _ _ _ _ _ us hl=>match us,hl with | [_],_=>rfl⟩
  F7:=F7
  c7:=⟨mg_of X G a7,F7.kp,F7.binds λ_ _ _ _ _ _ us hl=>match us,hl with | [_,_],_=>rfl⟩
  F8:=F8
  c8:=⟨mg_of X G a8,F8.kp,F8.binds λ_ _ _ _ _ _ us hl=>match us,hl with | [_,_],_=>rfl⟩
  F9:=F9
  c9:=⟨mg_of X G a9,F9.kp,F9.binds λ_ _ _ _ _ _ us hl=>match us,hl with | [_,_],_=>rfl⟩
  F10:=F10
  c10:=⟨mg_of X G a10,F10.kp,F10.binds λ_ _ _ _ _ _ us hl=>match us,hl with | [_,_],_=>rfl⟩
  F11:=F11
  b11:=q34 rfl dk11 4 rfl λus hl=>match us,hl with | [_,_,_,_],_=>⟨_,rfl,rfl⟩
  F13:=F13
  b13:=F13.binds λ_ _ _ _ _ _ us hl=>match us,hl with | [_],_=>rfl
  mt13:=⟨a13,i13,k13⟩
  F14:=F14
  b14:=F14.binds λ_ _ _ _ _ _ us hl=>match us,hl with | [_,_,_,_,_,_,_],_=>rfl
  F15:=F15
  c15:=⟨mg_of X G a15,F15.kp,F15.binds λ_ _ _ _ _ _ us hl=>match us,hl with | [_,_,_],_=>rfl⟩
  F16:=F16
  c16:=⟨mg_of X G a16,F16.kp,F16.binds λ_ _ _ _ _ _ us hl=>match us,hl with | [_,_,_],_=>rfl⟩
  F17:=F17
  c17:=⟨mg_of X G a17,F17.kp,F17.binds λ_ _ _ _ _ _ us hl=>match us,hl with | [_,_,_],_=>rfl⟩
  F18:=F18
  c18:=⟨mg_of X G a18,F18.kp,F18.binds λ_ _ _ _ _ _ us hl=>match us,hl with | [_,_,_],_=>rfl⟩
  F19:=F19
  c19:=⟨mg_of X G a19,F19.kp,F19.binds λ_ _ _ _ _ _ us hl=>match us,hl with | [_,_],_=>rfl⟩
  F20:=F20
  c20:=⟨mg_of X G a20,F20.kp,F20.binds λ_ _ _ _ _ _ us hl=>match us,hl with | [_,_],_=>rfl⟩
  F21:=F21
  c21:=⟨mg_of X G a21,F21.kp,F21.binds λ_ _ _ _ _ _ us hl=>match us,hl with | [_,_],_=>rfl⟩
  F22:=F22
  c22:=⟨mg_of X G a22,F22.kp,F22.binds λ_ _ _ _ _ _ us hl=>match us,hl with | [_,_,_,_],_=>rfl⟩
  F23:=F23
  b23:=F23.binds λ_ _ _ _ _ _ us hl=>match us,hl with | [_,_,_,_,_,_],_=>rfl
  F24:=F24
  b24:=F24.binds λ_ _ _ _ _ _ us hl=>match us,hl with | [_,_],_=>rfl
  mt24:=⟨a24,i24,k24⟩
  F25:=F25
  c25:=⟨mg_of X G a25,F25.kp,F25.binds λ_ _ _ _ _ _ us hl=>match us,hl with | [_],_=>rfl⟩
  F26:=F26
  b26:=q34 rfl dk26 6 rfl λus hl=>match us,hl with | [_,_,_,_,_,_],_=>⟨_,rfl,rfl⟩
  F27:=F27
  b27:=F27.binds λ_ _ _ _ _ _ us hl=>match us,hl with | [_,_,_],_=>rfl
  F30:=F30
  b30:=F30.binds λ_ _ _ _ _ _ us hl=>match us,hl with | [_],_=>rfl
  mt30:=⟨a30,i30,k30⟩
  F31:=F31
  b31:=F31.binds λ_ _ _ _ _ _ us hl=>match us,hl with | [_,_,_,_],_=>rfl
  F32:=F32
  c32:=⟨mg_of X G a32,F32.kp,F32.binds λ_ _ _ _ _ _ us hl=>match us,hl with | [_,_],_=>rfl⟩
  F33:=F33
  c33:=⟨mg_of X G a33,F33.kp,F33.binds λ_ _ _ _ _ _ us hl=>match us,hl with | [_,_],_=>rfl⟩
  F34:=F34
  c34:=⟨mg_of X G a34,F34.kp,F34.binds λ_ _ _ _ _ _ us hl=>match us,hl with | [_,_],_=>rfl⟩
  F35:=F35
  c35:=⟨mg_of X G a35,F35.kp,F35.binds λ_ _ _ _ _ _ us hl=>match us,hl with | [_,_],_=>rfl⟩
  F36:=F36
  c36:=⟨mg_of X G a36,F36.kp,F36.binds λ_ _ _ _ _ _ us hl=>match us,hl with | [_],_=>rfl⟩
  F37:=F37
  c37:=⟨mg_of X G a37,F37.kp,F37.binds λ_ _ _ _ _ _ us hl=>match us,hl with | [_],_=>rfl⟩
  F38:=F38
  c38:=⟨mg_of X G a38,F38.kp,F38.binds λ_ _ _ _ _ _ us hl=>match us,hl with | [_],_=>rfl⟩
  F39:=F39
  c39:=⟨mg_of X G a39,F39.kp,F39.binds λ_ _ _ _ _ _ us hl=>match us,hl with | [_,_,_,_],_=>rfl⟩
  F40:=F40
  c40:=⟨mg_of X G a40,F40.kp,F40.binds λ_ _ _ _ _ _ us hl=>match us,hl with | [_,_,_,_,_],_=>rfl⟩
  F41:=F41
  c41:=⟨mg_of X G a41,F41.kp,F41.binds λ_ _ _ _ _ _ us hl=>match us,hl with | [_,_,_],_=>rfl⟩
  F42:=F42
  c42:=⟨mg_of X G a42,F42.kp,F42.binds λ_ _ _ _ _ _ us hl=>match us,hl with | [_],_=>rfl⟩
  F43:=F43
  c43:=⟨mg_of X G a43,F43.kp,F43.binds λ_ _ _ _ _ _ us hl=>match us,hl with | [_,_],_=>rfl⟩
  F44:=F44
  c44:=⟨mg_of X G a44,F44.kp,F44.binds λ_ _ _ _ _ _ us hl=>match us,hl with | [_,_],_=>rfl⟩
  F45:=F45
  c45:=⟨mg_of X G a45,F45.kp,F45.binds λ_ _ _ _ _ _ us hl=>match us,hl with | [_],_=>rfl⟩
  F46:=F46
  c46:=⟨mg_of X G a46,F46.kp,F46.binds λ_ _ _ _ _ _ us hl=>match us,hl with | [_,_],_=>rfl⟩
  F47:=F47
  c47:=⟨mg_of X G a47,F47.kp,F47.binds λ_ _ _ _ _ _ us hl=>match us,hl with | [_,_,_],_=>rfl⟩
  F48:=F48
  c48:=⟨mg_of X G a48,F48.kp,F48.binds λ_ _ _ _ _ _ us hl=>match us,hl with | [_,_,_],_=>rfl⟩
  F49:=F49
  c49:=⟨mg_of X G a49,F49.kp,F49.binds λ_ _ _ _ _ _ us hl=>match us,hl with | [_,_,_],_=>rfl⟩
  F50:=F50
  c50:=⟨mg_of X G a50,F50.kp,F50.binds λ_ _ _ _ _ _ us hl=>match us,hl with | [_,_],_=>rfl⟩
  F51:=F51
  c51:=⟨mg_of X G a51,F51.kp,F51.binds λ_ _ _ _ _ _ us hl=>match us,hl with | [_,_,_,_],_=>rfl⟩
  F52:=F52
  c52:=⟨mg_of X G a52,F52.kp,F52.binds λ_ _ _ _ _ _ us hl=>match us,hl with | [_],_=>rfl⟩
  mC0:=mg_of X G aC0
  xc0:=xc0
  mC1:=mg_of X G aC1
  xc1:=xc1
  mC2:=mg_of X G aC2
  xc2:=xc2
  mC3:=mg_of X G aC3
  xc3:=xc3
  mC4:=mg_of X G aC4
  xc4:=xc4
  mC5:=mg_of X G aC5
  xc5:=xc5
  mC6:=mg_of X G aC6
  xc6:=xc6
  mC7:=mg_of X G aC7
  xc7:=xc7
  mC8:=mg_of X G aC8
  xc8:=xc8
  mC9:=mg_of X G aC9
  xc9:=xc9
  mC10:=mg_of X G aC10
  cC10:=⟨pg10,hd10,po10,sa10⟩
  mk10:=⟨mk10,a4,i4,kc10⟩
  fl10:=rfl
  na10_bread:=na10_bread
  na10_loaves:=na10_loaves
  na10_due:=na10_due
  mC11:=mg_of X G aC11
  cC11:=⟨pg11,hd11,po11,sa11⟩
  mk11:=⟨mk11,a5,i5,kc11⟩
  fl11:=rfl
  na11_order:=na11_order
  na11_first:=na11_first
  na11_loaves:=na11_loaves
  mC12:=mg_of X G aC12
  cC12:=⟨pg12,hd12,po12,sa12⟩
  mk12:=⟨mk12,a11,i11,kc12⟩
  fl12:=rfl
  na12_begin:=na12_begin
  na12_lengths:=na12_lengths
  na12_oven:=na12_oven
  mC13:=mg_of X G aC13
  cC13:=⟨pg13,hd13,po13,sa13⟩
  mk13:=⟨mk13,a14,i14,kc13⟩
  fl13:=rfl
  na13_batch:=na13_batch
  na13_stage:=na13_stage
  na13_begin:=na13_begin
  na13_until:=na13_until
  na13_loaves:=na13_loaves
  na13_oven:=na13_oven
  mC14:=mg_of X G aC14
  cC14:=⟨pg14,hd14,po14,sa14⟩
  mk14:=⟨mk14,a23,i23,kc14⟩
  fl14:=rfl
  na14_night:=na14_night
  na14_hands:=na14_hands
  na14_benches:=na14_benches
  na14_ovens:=na14_ovens
  na14_breads:=na14_breads
  mC15:=mg_of X G aC15
  cC15:=⟨pg15,hd15,po15,sa15⟩
  mk15:=⟨mk15,a26,i26,kc15⟩
  fl15:=rfl
  na15_name:=na15_name
  na15_least:=na15_least
  na15_most:=na15_most
  na15_want:=na15_want
  na15_heat:=na15_heat
  mC16:=mg_of X G aC16
  cC16:=⟨pg16,hd16,po16,sa16⟩
  mk16:=⟨mk16,a27,i27,kc16⟩
  fl16:=rfl
  na16_name:=na16_name
  na16_stages:=na16_stages
  mC17:=mg_of X G aC17
  cC17:=⟨pg17,hd17,po17,sa17⟩
  mk17:=⟨mk17,a31,i31,kc17⟩
  fl17:=rfl
  na17_room:=na17_room
  na17_rate:=na17_rate
  na17_heat:=na17_heat
  c_FASTEST:=⟨_,mg_of X G cc_FASTEST⟩
  c_HOTTEST:=⟨_,mg_of X G cc_HOTTEST⟩
  c_LETTERS:=⟨_,mg_of X G cc_LETTERS⟩
  c_LONGEST_NAME:=⟨_,mg_of X G cc_LONGEST_NAME⟩
  c_MOST_BATCHES:=⟨_,mg_of X G cc_MOST_BATCHES⟩
  c_MOST_BENCHES:=⟨_,mg_of X G cc_MOST_BENCHES⟩
  c_MOST_BREADS:=⟨_,mg_of X G cc_MOST_BREADS⟩
  c_MOST_HANDS:=⟨_,mg_of X G cc_MOST_HANDS⟩
  c_MOST_LOAVES:=⟨_,mg_of X G cc_MOST_LOAVES⟩
  c_MOST_ORDERS:=⟨_,mg_of X G cc_MOST_ORDERS⟩
  c_MOST_OVENS:=⟨_,mg_of X G cc_MOST_OVENS⟩
  c_MOST_ROOM:=⟨_,mg_of X G cc_MOST_ROOM⟩
  c_MOST_STAGES:=⟨_,mg_of X G cc_MOST_STAGES⟩
  c_NIGHT:=⟨_,mg_of X G cc_NIGHT⟩
  c_WANTS:=j2A (mg_of X G cc_WANTS) ct_WANTS (by show (4:Nat)<=1000000;decide) (vcS (vcS (vcS (vcS .nil)))) rfl
  n_all:=mg_none_of X G z_all
  n_any:=mg_none_of X G z_any
  n_bool:=mg_none_of X G z_bool
  n_enumerate:=mg_none_of X G z_enumerate
  n_int:=mg_none_of X G z_int
  n_isinstance:=mg_none_of X G z_isinstance
  n_len:=mg_none_of X G z_len
  n_list:=mg_none_of X G z_list
  n_max:=mg_none_of X G z_max
  n_min:=mg_none_of X G z_min
  n_range:=mg_none_of X G z_range
  n_set:=mg_none_of X G z_set
  n_sum:=mg_none_of X G z_sum
  n_tuple:=mg_none_of X G z_tuple
  n_zip:=mg_none_of X G z_zip
 }
end Lw
open PySem PySem.W PyProof.Rows
set_option maxRecDepth 100000 in
set_option maxHeartbeats 0 in
theorem PySem.Challenge.cw_doughhours_k16_held_holds : PySem.Challenge.rw_doughhours_k16_held.Holds := by
 w_on;refine holds_law Lw.j63 λsaid=>?_
 refine holds_open (q:=Lw.vw) (loose:=[]) (Xt:=Lw.Xv) (XP:=XL Lw.vw []) (Yf:=λs=>Lw.q5H (L3.Hd.kOf Lw.hAs s.heap)) (Ya:=λ_=>Lw.j5g) (YP:=λ_ h=>L3.Hd.says Lw.q5H Lw.j5g h) (N:=12300) Lw.j0o (λw s e=>L3.Hd.says_of Lw.hAs s e) (λw h h' a b=>L3.Hd.says_keeps a b) (λs e=>xl_of s (Bool.and_eq_true_iff.mp e).1) XL.keeps (by rfl) (by rfl) (by rfl) (λs e=>recFacts_of (Bool.and_eq_true_iff.mp e).2) (by rfl) (by first | assumption | decide +kernel) (by decide +kernel) ⟨rfl,rfl,rfl,rfl,rfl,by decide +kernel⟩ ?hw ?hc
 case hw=>w_witness2
 refine L3.j7a (l:=PySem.Challenge.rw_doughhours_k16_held) (k:=9) (x:="_law_script") (F:=Lw.j66) rfl rfl ⟨rfl,by decide,by decide,rfl⟩ ?F Lw.law_true
 intro w mg fa h Y G hmg
 obtain ⟨K,KX,e⟩:=Y
 exact ⟨K,KX,Lw.j5h KX G hmg e⟩
