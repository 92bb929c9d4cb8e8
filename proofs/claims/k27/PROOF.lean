import PyProof.Rows.All
import Wide.All
import OpenK.KCall
import OpenK.KWalk
import OpenK.KOwn
import Open.Pieces
import KE.KTryMore
import KE.KIsAll
import KE.KItem
import KE.KRevIter
import KE.KRevSl
import KE.KxBytes
import Wide.FinOn
import PyProof.EqAt
import PyProof.EqKinds
import PyProof.TupleCall
import PyProof.ExcArgsOwn
import PyProof.DictRoadsH
import PyProof.TupleKey
import PyProof.AttrMissHeap
import KE.KDictOf
import PySem.Challenge.RW_doughhours_k27_ways
local macro_rules | `(tactic| walk_at "v0") => `(tactic| (first | exact Or.inl rfl | exact Or.inr (Or.inl rfl) | exact Or.inr (Or.inr rfl)))
local macro_rules | `(tactic| walk_at "v1") => `(tactic| (first | exact Or.inr (by decide) | exact Or.inl (by assumption)))
local macro_rules | `(tactic| walk_at "v2") => `(tactic| (first | exact .inl rfl | exact .inr rfl | assumption))
local macro_rules | `(tactic| walk_at "v3") => `(tactic| (first | exact Or.inl rfl | exact Or.inr rfl))
set_option Elab.async false
set_option linter.all false
set_option maxRecDepth 100000
set_option maxHeartbeats 4000000
noncomputable section
namespace L2
open PySem PySem.Spec PyProof.Rows
def jC (s:Stmt) (j:Nat):Stmt:=match s with
 | .ClassDef _ _ _ body _ _ _ _ _ _ _=>body.getD j (.Pass ⟨0,0,0,0⟩)
 | _=>.Pass ⟨0,0,0,0⟩
def iM (s:Stmt):Arguments:=match s with
 | .FunctionDef _ a _ _ _ _ _ _ _ _=>a
 | _=>{ posonlyargs:=[],args:=[],vararg:=none,kwonlyargs:=[],kw_defaults:=[],kwarg:=none,defaults:=[] }
def gU (s:Stmt):List Stmt:=match s with
 | .FunctionDef _ _ b _ _ _ _ _ _ _=>b
 | _=>[]
def aZ (s:Stmt):Scope:=match s with
 | .FunctionDef _ _ _ _ _ _ sc _ _ _=>sc
 | _=>{ kind:=.function,names:=[],isGenerator:=false,isCoroutine:=false }
end L2
set_option autoImplicit false
namespace L3
open PySem
namespace Tp
open PySem.W
structure TS where
 t:BT
 n:Nat
 k:Nat
 md:Value
 ns:List DictEntry
 cl:List Value
def marks (k:Nat):List Str->List Value
 | []=>[]
 | x::l=>.str x k::marks (k+1) l
def kU (l:List Value):Obj:=⟨.type "tuple",none,.seq ⟨l⟩ 0,#[]⟩
def fldO (c:Value) (l:List Value):Obj:=⟨c,none,.fields ⟨l⟩,#[]⟩
def dicO (l:List DictEntry) (e:Nat):Obj:=⟨.type "dict",none,.dict ⟨l⟩ e,#[]⟩
def file:Str:="/claim/cut.py"
def DV (n k:Nat) (name qual:Str) (line argc fl:Nat) (isF:Bool) (tab:List Value) (loc:Option (List Str×List Str)) (tpl:Option FuncData):List Obj×Nat×Nat:=
 let a:=match loc with
  | some (x,y)=>([kU (marks (k+3) x),kU (marks (k+3+x.length) y)],k+3+x.length+y.length,n+4,Value.ref (n+2),Value.ref (n+3))
  | none=>([],k+3,n+2,Value.none,Value.none)
 let b:=match tpl with
  | some f=>([Obj.mk .none none (.func f) #[]],a.2.2.1+1,Value.ref a.2.2.1)
  | none=>([],a.2.2.1,Value.none)
 (kU []::fldO .none tab::a.1++b.1++[fldO (.type "code") [.str name k,.str qual (k+1),.str file (k+2),.int line 0,.int argc 0,.int 0 0,.int 0 0,.int fl 0,.ref n,.bool isF,.int 181 0,.ref (n+1),.none,a.2.2.2.1,a.2.2.2.2,b.2.2,.int a.2.1 0,.int line 0,.str file (a.2.1+1)]],a.2.1+2,b.2.1)
def qJ (k:Nat):Expr->Value
 | .Constant (.int i) _ _=>.int i k
 | .Constant (.str x) _ _=>.str x k
 | .Constant (.bool b) _ _=>.bool b
 | _=>.none
def consts (k:Nat):List Expr->List Value
 | []=>[]
 | e::l=>qJ k e::consts (k+1) l
def DX (n k:Nat) (md:Value) (pre:Str) (name:Str) (p:Arguments) (body:List Stmt) (sc:Scope) (pos:Pos):List Obj×Nat×Nat×List Value:=
 let d:=p.defaults.length
 let n1:=match d with | 0=>n | _=>n+1
 let qual:=pre++name
 let c:=DV n1 (k+d) name qual pos.line p.args.length 3 true [] (localNames p sc (.stmts body)) (some { name,qualname:=qual,params:=p,body:=.stmts body,scope:=sc,globals:=builtinsNs,closure:=[],defaults:=.none,kwdefaults:=.none })
 ((match d with | 0=>[] | _=>[kU (consts k p.defaults)])++c.1++[⟨.type "function",none,.func { name,qualname:=qual,params:=p,body:=.stmts body,scope:=sc,globals:=mainNs,closure:=[],defaults:=match d with | 0=>.none | _=>.ref n,kwdefaults:=.none,pyModule:=md,code:=.ref c.2.2 },#[]⟩],
  c.2.1,c.2.2+2,[.int pos.line 0,.int pos.col 0,.ref c.2.2])
def ent (P:Params) (x:Str) (k:Nat) (v:Value):DictEntry:=⟨PyData.keyHash P x,.str x k,v⟩
def DY (P:Params) (md:Value) (pre:Str):Nat->Nat->List Stmt->List Obj×Nat×Nat×List Value×List DictEntry
 | n,k,.FunctionDef name p body _ _ _ sc _ _ pos::l=>
  let a:=DX n k md pre name p body sc pos
  let r:=DY P md pre a.2.2.1 (a.2.1+1) l
  (a.1++r.1,r.2.1,r.2.2.1,a.2.2.2++r.2.2.2.1,ent P name a.2.1 (.ref (a.2.2.1-1))::r.2.2.2.2)
 | n,k,_=>([],k,n,[],[])
def lookN (x:Str):List DictEntry->Option Value
 | []=>none
 | e::l=>match e.key.isStr x with
  | true=>some e.val
  | false=>lookN x l
def DZ (s:TS):List Expr->Option (Value×Bool×List Value)
 | [.Name x _]=>match lookN x s.ns with
  | some (.ref a)=>match s.t.get a with
   | some ⟨_,_,.cls c,_⟩=>some (.ref a,true,c.mro)
   | _=>none
  | _=>some (.type "ValueError",false,[.type "ValueError",.type "Exception",.type "BaseException",.type "object"])
 | _=>none
def qK:BT->Nat->List Obj->BT
 | t,_,[]=>t
 | t,n,o::l=>qK (t.ins n o) (n+1) l
def ST (P:Params) (s:TS) (name:Str) (bases:List Expr) (body:List Stmt) (st:List Str) (pos:Pos):List Obj×Nat×Value×List Value:=
 let n:=s.n
 let k:=s.k
 let b:=DZ s bases
 let exc:=b.isSome
 let f:=DY P s.md (name++Str.ofString ".") (n+7) (k+12) body
 let k1:=f.2.1
 let n1:=f.2.2.1
 let c:=DV (n+3) (k+2) name name pos.line 0 0 false f.2.2.2.1 none none
 let m:=ent P "__module__" (k+7) s.md
 let line:=ent P "__firstlineno__" (k+11) (.int pos.line (k+10))
 let sa:=ent P "__static_attributes__" (k1+st.length) (.ref n1)
 let k2:=k1+st.length+1
 let T:=n1+2
 let dd:=match exc with
  | true=>(([]:List Obj),([]:List DictEntry),k2,n1+3)
  | false=>([fldO (.type "getset_descriptor") [.str "__dict__" k2,.ref T,.builtin "function.__dict__",.builtin "function.__dict__#set"]],[ent P "__dict__" (k2+1) (.ref (n1+3))],k2+2,n1+4)
 let own:=match b with | some (_,o,_)=>o | none=>false
 let ww:=match own with
  | true=>(([]:List Obj),([]:List DictEntry),dd.2.2.1)
  | false=>([fldO (.type "getset_descriptor") [.str "__weakref__" dd.2.2.1,.ref T,.builtin "ExceptionGroup.__weakref__",.none]],[ent P "__weakref__" (dd.2.2.1+1) (.ref dd.2.2.2)],dd.2.2.1+2)
 let k3:=ww.2.2
 let bv:=match b with | some (v,_,_)=>[v] | none=>[]
 let mro:=match b with | some (_,_,r)=>r | none=>[.type "object"]
 ([kU bv,fldO (.type "builtin_function_or_method") [.builtin "type.__prepare__",.type "type"],dicO ([m,ent P "__qualname__" (k+9) (.str name (k+8)),line]++f.2.2.2.2++[sa]) (4+f.2.2.2.2.length)]++c.1
  ++ [⟨.type "frame",none,.plain,#[some (.ref (n+5)),some (.ref 3),some (.ref (n+2)),none,some s.md,none,some (.ref 0)]⟩]++f.1
  ++ [kU (marks k1 st),dicO ([m,line]++f.2.2.2.2++[sa]++dd.2.1++ww.2.1++[ent P "__doc__" k3 .none]) (2+dd.1.length+ww.1.length),
   ⟨.type "type",none,.cls { name,bases:=(match bv with | []=>[.type "object"] | _=>bv),mro:=.ref T::mro,ns:=n1+1,qualname:=name },#[match bv with | []=>none | _=>some (.ref n),none,some (.str name k),some (.str name (k+8)),some (.builtin (match exc with | true=>"ValueError.__new__" | false=>"object.__new__")),some (.bool true)]⟩]
  ++ dd.1++ww.1++[fldO (.type "super") [.ref T,.ref T,.ref T],fldO (.type "builtin_function_or_method") [.builtin "object.__init_subclass__",.ref T]],
  k3+2,.ref T,[.int pos.line 0,.int pos.col 0,.ref (n+5)])
def SU (v:Value):Obj->Obj
 | ⟨c,d,.cls k,z⟩=>⟨c,d,.cls { k with subclasses:=k.subclasses++[v] },z⟩
 | o=>o
def EA (P:Params) (x:Str) (k:Nat) (v:Value):List DictEntry->List DictEntry
 | []=>[ent P x k v]
 | e::l=>match e.key.isStr x with
  | true=>⟨e.hash,e.key,v⟩::l
  | false=>e::EA P x k v l
def step (P:Params) (s:TS):Stmt->TS
 | .FunctionDef name p body _ _ _ sc _ _ pos=>
  let a:=DX s.n s.k s.md Str.empty name p body sc pos
  { s with t:=qK s.t s.n a.1,n:=a.2.2.1,k:=a.2.1+1,ns:=s.ns++[ent P name a.2.1 (.ref (a.2.2.1-1))],cl:=s.cl++a.2.2.2 }
 | .ClassDef name bases _ body _ _ _ _ _ st pos=>
  let a:=ST P s name bases body st pos
  { s with t:=(match DZ s bases with | some (.ref b,_,_)=>(qK s.t s.n a.1).set b (SU a.2.2.1) | _=>qK s.t s.n a.1),n:=s.n+a.1.length,k:=a.2.1+1,ns:=s.ns++[ent P name a.2.1 a.2.2.1],cl:=s.cl++a.2.2.2 }
 | .Assign [.Name x _] (.Tuple es _ _) _=>{ s with t:=s.t.ins s.n (kU (consts s.k es)),n:=s.n+1,k:=s.k+es.length+1,ns:=s.ns++[ent P x (s.k+es.length) (.ref s.n)] }
 | .Assign [.Name x _] (.UnaryOp _ (.Constant (.int i) _ _) _) _=>{ s with k:=s.k+3,ns:=s.ns++[ent P x (s.k+2) (.int (-i) (s.k+1))] }
 | .Assign [.Name x _] e _=>match x==Str.ofString "__name__" with
  | true=>{ s with k:=s.k+2,md:=qJ s.k e,ns:=EA P x (s.k+1) (qJ s.k e) s.ns }
  | false=>{ s with k:=s.k+2,ns:=s.ns++[ent P x (s.k+1) (qJ s.k e)] }
 | _=>s
end Tp
end L3
namespace L3
open PySem
namespace Hd
open PyProof.Rows
open PySem.W
def EB:List Obj->Nat->BT->BT
 | [],_,t=>t
 | o::l,n,t=>EB l (n+1) (t.ins n o)
def toT (s:Shared):SharedT:=⟨EB s.heap.objs.toList 0 .nil,s.heap.objs.size,s.heap.life,s.gens,s.drawn,s.toks,s.os⟩
def s0 (w:World) (os:OsState):Shared:=⟨boot_heap w.params,Array.mk [],boot_drawn,boot_toks,os⟩
def pre (p:Program) (w:World) (os:OsState) (k0:Nat):Option (Shared×Thread):=topGo treeTable p w 11 (some (.ref 6)) k0 (s0 w os) (topStub p)
def sa (p:Program) (w:World) (os:OsState) (k0:Nat):Shared:=match pre p w os k0 with
 | some (s,_)=>s
 | none=>s0 w os
def env (p:Program):Env:={ scope:=p.main.scope,locals:=mainNs,globals:=mainNs,cells:=[],code:=.ref 13,frame:=some 14 }
def cd (p:Program):Code:=.body (behindTheImports p) (env p)
def z0:Pos:=⟨0,0,0,0⟩
def blk (p:Program) (w:World) (os:OsState) (k0 kb:Nat):Option (Flow×Shared×Code×Pos):=segRun treeTable p w 11 (some (.ref 6)) 1 kb (sa p w os k0) (blockOf (behindTheImports p) (env p) (cd p) z0 [topFrame z0])
def tb (p:Program) (w:World) (os:OsState) (k0 kb:Nat):SharedT:=match blk p w os k0 kb with
 | some (_,s,_,_)=>toT s
 | none=>toT (s0 w os)
def ini (b:SharedT):Tp.TS:=
 let ns:=match b.tree.get 3 with
  | some ⟨_,_,.dict es _,_⟩=>es.toList
  | _=>[]
 ⟨b.tree,b.n,b.toks,match Tp.lookN "__name__" ns with | some v=>v | none=>.none,ns,[]⟩
def sh (os:OsState) (b:SharedT) (s:Tp.TS):SharedT:=⟨(s.t.ins 3 (Tp.dicO s.ns s.ns.length)).ins 12 (Tp.fldO .none s.cl),s.n,b.life,b.gens,b.drawn,s.k,os⟩
def stt (p:Program) (w:World) (os:OsState) (k0 kb j:Nat):SharedT:=sh os (tb p w os k0 kb) (((behindTheImports p).take j).foldl (Tp.step w.params) (ini (tb p w os k0 kb)))
def run1 (p:Program) (w:World) (n:Nat) (s:SharedT) (l:List Stmt) (pos:Pos):Option (Flow×SharedT×Code×Pos):=PySem.W.Fast.tw10110043849684766642 PySem.W.Fast.tw14364793385576792824 p w 11 (some (.ref 6)) 1 n s (piecesOf l (env p) (cd p) pos [topFrame z0])
def Ch (p:Program) (k0 kb j m n:Nat) (pa pz:Pos):Prop:=∀(w:World) (os:OsState),run1 p w n (stt p w os k0 kb j) (((behindTheImports p).drop j).take m) pa=some (.next,stt p w os k0 kb (j+m),cd p,pz)
theorem SV {p:Program} {w:World} {n:Nat} {s:SharedT} {l:List Stmt} {pos:Pos}:segRunT treeTable p w 11 (some (.ref 6)) 1 n s (piecesOf l (env p) (cd p) pos [topFrame z0])=run1 p w n s l pos:=by
 unfold run1;rw [PySem.W.Fast.te10110043849684766642,PySem.W.Fast.te14364793385576792824]
def To (p:Program) (k0 kb j N:Nat) (pa:Pos) (J:Nat):Prop:=∀(w:World) (os:OsState),topRun treeTable p w 11 (some (.ref 6)) N (stt p w os k0 kb j).abs (restOf ((behindTheImports p).drop j) (env p) (cd p) pa [topFrame z0])=some (stt p w os k0 kb J).abs
theorem To.of {p:Program} {k0 kb j m n N J:Nat} {pa pz:Pos} (h:Ch p k0 kb j m n pa pz) (t:To p k0 kb (j+m) N pz J):To p k0 kb j (n+N) pa J:=λw os=>by
 have h3:=segRun_of (SV.trans (h w os));have:=piece_app (rest:=(behindTheImports p).drop (j+m)) h3 (t w os)
 rwa [<-List.drop_drop,List.take_append_drop] at this
theorem To.fin {p:Program} {k0 kb J:Nat} {pz:Pos} (h:(behindTheImports p).drop J=[]):To p k0 kb J 4 pz J:=λw os=>by
 rw [h];exact piece_nil rfl
def E1 (p:Program) (k0:Nat):Prop:=∀(w:World) (os:OsState),(pre p w os k0).map Prod.snd=some ⟨denote treeTable (cd p),cd p,z0,[topFrame z0]⟩
def E2 (p:Program) (k0 kb:Nat):Prop:=∀(w:World) (os:OsState),blk p w os k0 kb=some (.next,(tb p w os k0 kb).abs,cd p,z0)
def lkA (p q:Program) (Xt:Shared->Bool) (w:World) (s:Shared):List Bool:=
 [staticsOk (importedModules p.main.body) (boot_heap w.params) s.heap,namesBound p s.heap,gensDone s,laidKept (boot_heap w.params) s.heap,s.heap.isNs mainGlobals && s.heap.isNs builtinsNs && tablesOk q s.heap,Xt s && (s.gens.size==0)]
def lk3 (p q:Program) (loose:List Str) (s:Shared):Bool:=s.heap.keysOk (looseW q loose) ((PyProof.Rows.recsOf q).map (·.name)) ((litsOf q).map (·.1)) ((clssOf q (looseW q loose)).map (·.name)) && s.heap.accountedOkI (importedModules p.main.body)
def sfn (p:Program) (w:World) (os:OsState) (k0 kb J:Nat):Shared:=(stt p w os k0 kb J).abs
def E3 (p q:Program) (Xt:Shared->Bool) (k0 kb J:Nat):Prop:=∀(w:World) (os:OsState),lkA p q Xt w (sfn p w os k0 kb J)=[true,true,true,true,true,true]
def E4 {α:Type} (p:Program) (Yf:World->Shared->α) (Ya:World->α) (k0 kb J:Nat):Prop:=∀(w:World) (os:OsState),Yf w (sfn p w os k0 kb J)=Ya w
theorem left_whole {p q:Program} {loose:List Str} {Xt:Shared->Bool} {α β γ:Type} {Yf:Shared->α×β×γ} {Ya:World->α×β×γ} {N k0 kb kp J:Nat}
 (e:opening p=plainProg p.main.scope.names) (hN:Nat.ble 600 N=true) (f:∀s,fenceModules? p s=some s) (le:Nat.ble (k0+(kb+kp)) N=true)
 (size:∀w:World,((boot_heap w.params).isNs mainGlobals && (Array.mk []:Array GenState).size==0,(boot_heap w.params).objs.size,(boot_heap w.params).nsMap mainGlobals "__annotations__")=(true,11,some (.ref 6)))
 (e1:E1 p k0) (e2:E2 p k0 kb) (ei:∀(w:World) (os:OsState),stt p w os k0 kb 0=tb p w os k0 kb) (et:To p k0 kb 0 kp z0 J) (e3:E3 p q Xt k0 kb J)
 (e5:E4 p (λ_ s=>PyProof.Rows.seen ((PyProof.Rows.recsOf q).map (·.name)) (ownsOf q) [] { s with gens:=#[] }) (λ_=>PyProof.Rows.expectedOf q) k0 kb J)
 (e6:E4 p (λ_ s=>(s.heap.bltView,tabsOk q s,pinSeenD q (drecsOf q) s)) (λ_=>(bltViewBooted,true,pinGoodD (drecsOf q))) k0 kb J)
 (e7:E4 p (λ_ s=>lk3 p q loose s) (λ_=>true) k0 kb J)
 (e8:E4 p (λ_ s=>(plainSeenE q (looseW q loose) s,plainSeenD q loose s,wideSeen q s,clsSeenW q loose s)) (λ_=>(plainGoodE q (looseW q loose),plainGoodD q loose,wideGood q,clsGoodW q loose)) k0 kb J)
 (e4:E4 p (λ_ s=>(Yf s).1) (λw=>(Ya w).1) k0 kb J) (e9:E4 p (λ_ s=>(Yf s).2.1) (λw=>(Ya w).2.1) k0 kb J) (e10:E4 p (λ_ s=>(Yf s).2.2) (λw=>(Ya w).2.2) k0 kb J):LeftO p q loose Xt Yf Ya N:=λw=>by
 obtain ⟨⟨h,gs,d,k,os⟩,ho,e'⟩:=Option.map_eq_some_iff.mp (boot_open (N:=N) e hN f w);obtain ⟨rfl,rfl,rfl,rfl⟩:h=boot_heap w.params/\gs=Array.mk []/\d=boot_drawn/\k=boot_toks:=by simpa using e'
 obtain ⟨z1,z2,z3⟩:_/\_/\_:=by simpa only [Prod.mk.injEq] using size w
 have hA:=e3 w os;generalize hsf:sfn p w os k0 kb J=sf at hA;simp only [lkA,List.cons.injEq,and_true] at hA;obtain ⟨a1,a2,a3,a4,a5,a6⟩:=hA;have one:∀{β:Type} {Y:World->Shared->β} {v:World->β},E4 p Y v k0 kb J->Y w sf=v w:=λ{β Y v} h4=>by
  have h4:=h4 w os;rw [hsf] at h4;exact h4
 have l1:(staticsOk (importedModules p.main.body) (boot_heap w.params) sf.heap && namesBound p sf.heap && gensDone sf && laidKept (boot_heap w.params) sf.heap)=true:=by
  rw [a1,a2,a3,a4];rfl
 have b5:=one e5;have b6:(sf.heap.bltView,tabsOk q sf,pinSeenD q (drecsOf q) sf)=(bltViewBooted,true,pinGoodD (drecsOf q)):=one e6;have b7:lk3 p q loose sf=true:=one e7;have b8:(plainSeenE q (looseW q loose) sf,plainSeenD q loose sf,wideSeen q sf,clsSeenW q loose sf)=(plainGoodE q (looseW q loose),plainGoodD q loose,wideGood q,clsGoodW q loose):=one e8;have l2:openSeen q loose (importedModules p.main.body) Xt true sf=openGood q loose:=by
  obtain ⟨b61,b62⟩:=Prod.mk.inj b6;obtain ⟨b62,b63⟩:=Prod.mk.inj b62;obtain ⟨b81,b82⟩:=Prod.mk.inj b8;obtain ⟨b82,b83⟩:=Prod.mk.inj b82;obtain ⟨b83,b84⟩:=Prod.mk.inj b83;obtain ⟨b71,b72⟩:=Bool.and_eq_true_iff.mp b7;obtain ⟨a5,a53⟩:=Bool.and_eq_true_iff.mp a5;obtain ⟨a51,a52⟩:=Bool.and_eq_true_iff.mp a5;obtain ⟨a61,a62⟩:=Bool.and_eq_true_iff.mp a6;unfold openSeen openGood;rw [b71,b72,a51,a52,a53,a61,b61,b62,b63,b81,b82,b83,b84];refine Prod.ext b5 (Prod.ext rfl (Prod.ext ?_ rfl));simpa using a62
 have l3:Yf sf=Ya w:=Prod.ext (one e4) (Prod.ext (one e9) (one e10));obtain ⟨⟨s1,t1⟩,h1,ht⟩:=Option.map_eq_some_iff.mp (e1 w os);have ht':t1=_:=ht;subst ht';have hsa:sa p w os k0=s1:=by unfold sa;rw [h1]
 have h2:=e2 w os;unfold blk at h2;rw [hsa] at h2;have r1:topRun treeTable p w 11 (some (.ref 6)) kp (tb p w os k0 kb).abs (restOf (behindTheImports p) (env p) (cd p) z0 [topFrame z0])=some sf:=by
  have:=et w os;rw [ei w os] at this;exact this.trans (congrArg some hsf)
 have r:topRun treeTable p w 11 (some (.ref 6)) (k0+(kb+kp)) ⟨boot_heap w.params,Array.mk [],boot_drawn,boot_toks,os⟩ (topStub p)=some sf:=
  go_top h1 (piece_block h2 r1)
 have r:=topRun_mono (N-(k0+(kb+kp))) _ _ _ _ r;rw [show k0+(kb+kp)+(N-(k0+(kb+kp)))=N by have:=Nat.le_of_ble_eq_true le;omega] at r;have t:topFrom treeTable p w N ⟨boot_heap w.params,Array.mk [],boot_drawn,boot_toks,os⟩=some sf:=by
  unfold topFrom;dsimp only;rw [z1,z2,z3,r];show (match staticsOk (importedModules p.main.body) (boot_heap w.params) sf.heap && namesBound p sf.heap && gensDone sf && laidKept (boot_heap w.params) sf.heap with | true=>_ | false=>_)=_;rw [l1]
 unfold openEnds;rw [ho];show (topFrom treeTable p w N _).map _=_;rw [t];exact congrArg some (Prod.ext l2 l3)
def kOf (as:List Addr) (h:Heap):Frag:=as.filterMap λa=>(h.get? a).map λo=>(a,o)
theorem SW (as:List Addr) (h:Heap):(kOf as h).In h:=by
 intro a o e
 induction as with
 | nil=>cases e
 | cons b l ih=>
  unfold kOf at e;rw [List.filterMap_cons] at e;cases hb:h.get? b with
  | none=>rw [hb] at e;exact ih e
  | some ob=>
   rw [hb] at e;dsimp only [Option.map_some] at e;rw [List.lookup_cons] at e;by_cases q:(a==b)=true
   ·rw [q] at e;cases e;rw [beq_iff_eq.mp q];exact hb
   ·rw [Bool.eq_false_iff.mpr q] at e;exact ih e
def says {α:Type} (look:Frag->α) (v:α) (h:Heap):Prop:=∃K:Frag,K.In h/\look K=v
theorem says_of {α:Type} {look:Frag->α} {v:α} (as:List Addr) (s:Shared) (e:look (kOf as s.heap)=v):says look v s.heap:=⟨_,SW as s.heap,e⟩
theorem says_keeps {α:Type} {look:Frag->α} {v:α} {h h':Heap} (e:says look v h) (k:∀b o,h.get? b=some o->h'.get? b=some o):says look v h':=by
 obtain ⟨K,i,e⟩:=e;exact ⟨K,λa o q=>k _ _ (i a o q),e⟩
theorem row {α:Type} {l m:List α} (h:l=m) (i:Nat) {a b:α} (ha:l[i]?=some a) (hb:m[i]?=some b):a=b:=by
 subst h;rw [ha] at hb;exact Option.some.inj hb
end Hd
end L3
namespace Lw
open PySem L2
def top (i:Nat):Stmt:=PySem.Challenge.pw_doughhours_k27_ways.main.body.getD i (.Pass ⟨0,0,0,0⟩)
abbrev s_1:Stmt:=top 17
abbrev s_2:Stmt:=top 18
abbrev s_3:Stmt:=top 19
abbrev s_4:Stmt:=top 20
abbrev s_5:Stmt:=jC (top 24) 0
abbrev s_6:Stmt:=jC (top 29) 0
abbrev s_7:Stmt:=jC (top 30) 0
abbrev s_8:Stmt:=top 31
abbrev s_9:Stmt:=top 32
abbrev qL:Stmt:=top 33
abbrev qM:Stmt:=top 34
abbrev qN:Stmt:=top 35
abbrev qO:Stmt:=jC (top 37) 0
abbrev qP:Stmt:=top 38
abbrev qQ:Stmt:=top 45
abbrev qR:Stmt:=top 46
abbrev qS:Stmt:=top 47
abbrev qT:Stmt:=top 48
abbrev qU:Stmt:=top 49
abbrev qV:Stmt:=top 50
abbrev qW:Stmt:=jC (top 56) 0
abbrev qX:Stmt:=jC (top 56) 1
abbrev qY:Stmt:=top 57
abbrev qZ:Stmt:=jC (top 61) 0
abbrev rA:Stmt:=jC (top 62) 0
abbrev rB:Stmt:=jC (top 62) 3
abbrev rE:Stmt:=top 64
abbrev rF:Stmt:=top 65
abbrev rG:Stmt:=top 66
abbrev rH:Stmt:=top 67
abbrev rJ:Stmt:=top 68
abbrev rK:Stmt:=top 69
abbrev rL:Stmt:=top 70
abbrev rM:Stmt:=top 71
abbrev rN:Stmt:=top 72
abbrev rO:Stmt:=top 73
abbrev rP:Stmt:=top 74
abbrev rQ:Stmt:=top 75
abbrev rR:Stmt:=top 76
abbrev rS:Stmt:=top 77
abbrev rT:Stmt:=top 78
abbrev rV:Stmt:=top 79
abbrev rW:Stmt:=top 80
abbrev rX:Stmt:=top 81
end Lw
namespace Lw
open PySem PySem.W PyProof.Rows L2 L3
def hAs:List Addr:=[2,3,15,17,18,20,21,22,29,30,31,32,35,42,43,44,47,54,55,56,59,66,67,68,71,78,79,80,83,90,91,92,95,102,103,104,107,114,115,116,119,126,127,128,131,138,139,140,143,150,151,152,155,158,159,160,162,163,165,166,167,169,170,172,173,174,176,177,179,180,188,190,191,193,194,195,196,197,198,199,209,211,212,214,215,216,217,218,219,220,230,232,233,235,236,237,238,239,240,241,244,247,248,249,251,252,254,255,256,258,259,261,262,263,265,266,268,269,270,272,273,275,276,284,285,287,288,290,291,292,294,295,297,298,299,301,302,304,305,306,307,308,309,310,313,315,316,318,319,320,323,324,325,327,328,330,331,332,335,336,337,340,341,342,345,346,347,349,350,352,353,361,364,365,366,368,369,371,372,373,374,375,376,377,380,382,383,385,386,387,395,396,398,399,401,402,403,404,405,406,407,417,419,420,422,423,424,426,427,429,430,431,433,434,436,437,438,441,442,443,444,445,446,447,450,452,453,455,456,457,459,460,462,463,464,466,467,469,470,471,474,475,476,478,479,481,482,483,485,486,488,489,490,492,493,495,496,497,500,501,502,505,506,507,510,511,512,515,516,517,519,520,522,523,524,527,528,529,531,532,534,535,536,539,540,541,543,544,546,547,548,551,552,553,555,556,558,559]
abbrev nI (K:Frag) (x:Str):=nsIn K mainGlobals x
abbrev mFd (n q:Str) (s:Stmt) (d m:Value) (c:Addr):FuncData:=fnOf n q (iM s) (gU s) (aZ s) d .none .none m none (.ref c) .none
abbrev fo (d:FuncData):Obj:=⟨.type "function",none,.func d,#[]⟩
def bQ (K:Frag) (f c:Addr) (q:Str) (a:Option (Option Value)):=(K.lookup f,codeIn K (.ref c) q,keepIn K (.ref f),isFn K (.ref f),a)
def bR (f:Addr) (d:FuncData):Option Obj×Bool×Bool×Bool×Option (Option Value):=(some (fo d),true,true,true,some (some (.ref f)))
abbrev p_0:Value:=Value.str "doughhours.checks" 374
abbrev p_1:Value:=Value.str "doughhours.ovens" 414
abbrev p_2:Value:=Value.str "doughhours.orders" 453
abbrev p_3:Value:=Value.str "doughhours.plans" 572
abbrev p_4:Value:=Value.str "doughhours.planner" 637
abbrev p_5:Value:=Value.str "doughhours.bakery" 686
abbrev p_6:Value:=Value.str "doughhours.breads" 743
abbrev p_7:Value:=Value.str "law_doughhours_k27_ways" 841
abbrev d_1:FuncData:=mFd "check_name" "check_name" s_1 .none p_0 158
abbrev d_2:FuncData:=mFd "check_number" "check_number" s_2 .none p_0 165
abbrev d_3:FuncData:=mFd "check_count" "check_count" s_3 .none p_0 172
abbrev d_4:FuncData:=mFd "check_batch" "check_batch" s_4 .none p_0 179
abbrev d_5:FuncData:=mFd "__init__" "Oven.__init__" s_5 .none p_1 193
abbrev d_6:FuncData:=mFd "__init__" "Order.__init__" s_6 .none p_2 214
abbrev d_7:FuncData:=mFd "__init__" "Batch.__init__" s_7 .none p_2 235
abbrev d_8:FuncData:=mFd "greatest" "greatest" s_8 .none p_2 247
abbrev d_9:FuncData:=mFd "check_due" "check_due" s_9 .none p_2 254
abbrev EC:FuncData:=mFd "accept" "accept" qL .none p_2 261
abbrev ED:FuncData:=mFd "batches_of" "batches_of" qM .none p_2 268
abbrev EE:FuncData:=mFd "cut" "cut" qN .none p_2 275
abbrev EF:FuncData:=mFd "__init__" "Run.__init__" qO (.ref 284) p_3 290
abbrev EG:FuncData:=mFd "bread_in" "bread_in" qP .none p_3 318
abbrev EH:FuncData:=mFd "narrow" "narrow" qQ .none p_4 323
abbrev EI:FuncData:=mFd "steps" "steps" qR .none p_4 330
abbrev EJ:FuncData:=mFd "lengths_within" "lengths_within" qS .none p_4 335
abbrev EK:FuncData:=mFd "ovens_for" "ovens_for" qT .none p_4 340
abbrev EL:FuncData:=mFd "ways_of" "ways_of" qU .none p_4 345
abbrev EM:FuncData:=mFd "ways" "ways" qV .none p_4 352
abbrev EN:FuncData:=mFd "__init__" "Bakery.__init__" qW .none p_5 364
abbrev EO:FuncData:=mFd "bread_of" "Bakery.bread_of" qX .none p_5 371
abbrev EQ:FuncData:=mFd "check_names_apart" "check_names_apart" qY .none p_5 385
abbrev ER:FuncData:=mFd "__init__" "Stage.__init__" qZ (.ref 395) p_6 401
abbrev ES:FuncData:=mFd "__init__" "Bread.__init__" rA .none p_6 422
abbrev ET:FuncData:=mFd "bakes" "Bread.bakes" rB .none p_6 441
abbrev EU:FuncData:=mFd "_law_at" "_law_at" rE .none p_7 455
abbrev EV:FuncData:=mFd "_law_whole" "_law_whole" rF .none p_7 462
abbrev EW:FuncData:=mFd "_law_is" "_law_is" rG .none p_7 469
abbrev EY:FuncData:=mFd "_law_names" "_law_names" rH .none p_7 474
abbrev EZ:FuncData:=mFd "_law_kilns" "_law_kilns" rJ .none p_7 481
abbrev FA:FuncData:=mFd "_law_stages" "_law_stages" rK .none p_7 488
abbrev FB:FuncData:=mFd "_law_free" "_law_free" rL .none p_7 495
abbrev FC:FuncData:=mFd "_law_wishes" "_law_wishes" rM .none p_7 500
abbrev FD:FuncData:=mFd "_law_scene" "_law_scene" rN .none p_7 505
abbrev FE:FuncData:=mFd "_law_bakery" "_law_bakery" rO .none p_7 510
abbrev FG:FuncData:=mFd "_law_orders" "_law_orders" rP .none p_7 515
abbrev FH:FuncData:=mFd "_law_stayed" "_law_stayed" rQ .none p_7 522
abbrev FI:FuncData:=mFd "_law_batches" "_law_batches" rR .none p_7 527
abbrev FJ:FuncData:=mFd "_law_lengths" "_law_lengths" rS .none p_7 534
abbrev FK:FuncData:=mFd "_law_ways" "_law_ways" rT .none p_7 539
abbrev FL:FuncData:=mFd "_law_asked" "_law_asked" rV .none p_7 546
abbrev FM:FuncData:=mFd "_law_right" "_law_right" rW .none p_7 551
abbrev jD:FuncData:=mFd "law" "law" rX .none p_7 558
def jE (K:Frag) (C:Addr) (n:Str) (fs:List Str):=(nI K n,[plainGet K C Str.empty,hasDictIn K C,plainOver K C,makesIn K C,keepIn K (.ref C)],findIn K (.ref C) "__setattr__",fs.map λx=>findIn K (.ref C) x)
def jF (C:Addr) (fs:List Str):Option (Option Value)×List Bool×Option (Option Value)×List (Option (Option Value)):=(some (some (.ref C)),[true,true,true,true,true],some (some (.builtin "object.__setattr__")),fs.map λ_=>some none)
def gG (K:Frag) (C:Addr) (n:Str):=(nI K n,excIn K C [.type "ValueError",.type "Exception",.type "BaseException",.type "object"] "ValueError.__new__")
def gH (C:Addr):Option (Option Value)×Bool:=(some (some (.ref C)),true)
def hLF (K:Frag):=
 [bQ K 159 158 "check_name" (nI K "check_name"),
 bQ K 166 165 "check_number" (nI K "check_number"),
 bQ K 173 172 "check_count" (nI K "check_count"),
 bQ K 180 179 "check_batch" (nI K "check_batch"),
 bQ K 194 193 "Oven.__init__" (findIn K (.ref 197) "__init__"),
 bQ K 215 214 "Order.__init__" (findIn K (.ref 218) "__init__"),
 bQ K 236 235 "Batch.__init__" (findIn K (.ref 239) "__init__"),
 bQ K 248 247 "greatest" (nI K "greatest"),
 bQ K 255 254 "check_due" (nI K "check_due"),
 bQ K 262 261 "accept" (nI K "accept"),
 bQ K 269 268 "batches_of" (nI K "batches_of"),
 bQ K 276 275 "cut" (nI K "cut"),
 bQ K 291 290 "Run.__init__" (findIn K (.ref 308) "__init__"),
 bQ K 319 318 "bread_in" (nI K "bread_in"),
 bQ K 324 323 "narrow" (nI K "narrow"),
 bQ K 331 330 "steps" (nI K "steps"),
 bQ K 336 335 "lengths_within" (nI K "lengths_within"),
 bQ K 341 340 "ovens_for" (nI K "ovens_for"),
 bQ K 346 345 "ways_of" (nI K "ways_of"),
 bQ K 353 352 "ways" (nI K "ways"),
 bQ K 365 364 "Bakery.__init__" (findIn K (.ref 375) "__init__"),
 bQ K 372 371 "Bakery.bread_of" (findIn K (.ref 375) "bread_of")]
def hRF:=
 [bR 159 d_1,
 bR 166 d_2,
 bR 173 d_3,
 bR 180 d_4,
 bR 194 d_5,
 bR 215 d_6,
 bR 236 d_7,
 bR 248 d_8,
 bR 255 d_9,
 bR 262 EC,
 bR 269 ED,
 bR 276 EE,
 bR 291 EF,
 bR 319 EG,
 bR 324 EH,
 bR 331 EI,
 bR 336 EJ,
 bR 341 EK,
 bR 346 EL,
 bR 353 EM,
 bR 365 EN,
 bR 372 EO]
def hLG (K:Frag):=
 [bQ K 386 385 "check_names_apart" (nI K "check_names_apart"),
 bQ K 402 401 "Stage.__init__" (findIn K (.ref 405) "__init__"),
 bQ K 423 422 "Bread.__init__" (findIn K (.ref 445) "__init__"),
 bQ K 442 441 "Bread.bakes" (findIn K (.ref 445) "bakes"),
 bQ K 456 455 "_law_at" (nI K "_law_at"),
 bQ K 463 462 "_law_whole" (nI K "_law_whole"),
 bQ K 470 469 "_law_is" (nI K "_law_is"),
 bQ K 475 474 "_law_names" (nI K "_law_names"),
 bQ K 482 481 "_law_kilns" (nI K "_law_kilns"),
 bQ K 489 488 "_law_stages" (nI K "_law_stages"),
 bQ K 496 495 "_law_free" (nI K "_law_free"),
 bQ K 501 500 "_law_wishes" (nI K "_law_wishes"),
 bQ K 506 505 "_law_scene" (nI K "_law_scene"),
 bQ K 511 510 "_law_bakery" (nI K "_law_bakery"),
 bQ K 516 515 "_law_orders" (nI K "_law_orders"),
 bQ K 523 522 "_law_stayed" (nI K "_law_stayed"),
 bQ K 528 527 "_law_batches" (nI K "_law_batches"),
 bQ K 535 534 "_law_lengths" (nI K "_law_lengths"),
 bQ K 540 539 "_law_ways" (nI K "_law_ways"),
 bQ K 547 546 "_law_asked" (nI K "_law_asked"),
 bQ K 552 551 "_law_right" (nI K "_law_right"),
 bQ K 559 558 "law" (nI K "law")]
def hRG:=
 [bR 386 EQ,
 bR 402 ER,
 bR 423 ES,
 bR 442 ET,
 bR 456 EU,
 bR 463 EV,
 bR 470 EW,
 bR 475 EY,
 bR 482 EZ,
 bR 489 FA,
 bR 496 FB,
 bR 501 FC,
 bR 506 FD,
 bR 511 FE,
 bR 516 FG,
 bR 523 FH,
 bR 528 FI,
 bR 535 FJ,
 bR 540 FK,
 bR 547 FL,
 bR 552 FM,
 bR 559 jD]
def hLC (K:Frag):=
 [jE K 197 "Oven" ["room","rate","heat"],
 jE K 218 "Order" ["bread","loaves","due"],
 jE K 239 "Batch" ["order","first","loaves"],
 jE K 308 "Run" ["begin","lengths","oven"],
 jE K 375 "Bakery" ["night","hands","benches","ovens","breads"],
 jE K 405 "Stage" ["name","least","most","want","heat"],
 jE K 445 "Bread" ["name","stages"]]
def hRC:=
 [jF 197 ["room","rate","heat"],
 jF 218 ["bread","loaves","due"],
 jF 239 ["order","first","loaves"],
 jF 308 ["begin","lengths","oven"],
 jF 375 ["night","hands","benches","ovens","breads"],
 jF 405 ["name","least","most","want","heat"],
 jF 445 ["name","stages"]]
def hLE (K:Frag):=
 [gG K 31 "DoughError",
 gG K 44 "BadName",
 gG K 56 "BadWant",
 gG K 68 "BadNumber",
 gG K 80 "BadCount",
 gG K 92 "TwiceNamed",
 gG K 104 "NoBread",
 gG K 116 "BeyondNight",
 gG K 128 "TooMany",
 gG K 140 "NoBatch",
 gG K 152 "TooWide"]
def hRE:=
 [gH 31,
 gH 44,
 gH 56,
 gH 68,
 gH 80,
 gH 92,
 gH 104,
 gH 116,
 gH 128,
 gH 140,
 gH 152]
def hZ:List Str:=["all","any","bool","dict","enumerate","int","isinstance","len","list","max","min","range","set","sum","tuple"]
def hLV (K:Frag):List (Option (Option Value)):=
 [findIn K (.ref 308) "__class__",
 specialIn K (.builtin "object.__class__") "__get__",
 nsIn K mainGlobals "FASTEST",
 nsIn K mainGlobals "HOTTEST",
 nsIn K mainGlobals "LETTERS",
 nsIn K mainGlobals "LONGEST_NAME",
 nsIn K mainGlobals "MOST_BATCHES",
 nsIn K mainGlobals "MOST_BENCHES",
 nsIn K mainGlobals "MOST_BREADS",
 nsIn K mainGlobals "MOST_HANDS",
 nsIn K mainGlobals "MOST_LOAVES",
 nsIn K mainGlobals "MOST_ORDERS",
 nsIn K mainGlobals "MOST_OVENS",
 nsIn K mainGlobals "MOST_PLANNED",
 nsIn K mainGlobals "MOST_ROOM",
 nsIn K mainGlobals "MOST_STAGES",
 nsIn K mainGlobals "MOST_STEPPED",
 nsIn K mainGlobals "NIGHT",
 nsIn K mainGlobals "STEP",
 nsIn K mainGlobals "WANTS",
 nsIn K mainGlobals "WIDEST"]
def hRV:List (Option (Option Value)):=
 [some (some (.builtin "object.__class__")),some (some (.builtin "getset_descriptor.__get__")),some (some (.int 300 418)),some (some (.int 300 380)),some (some (.str "abcdefghijklmnopqrstuvwxyz" 376)),some (some (.int 12 378)),some (some (.int 24 459)),some (some (.int 6 690)),some (some (.int 8 694)),some (some (.int 6 688)),some (some (.int 60 455)),some (some (.int 12 457)),some (some (.int 3 692)),some (some (.int 3 639)),some (some (.int 30 416)),some (some (.int 6 750)),some (some (.int 4 641)),some (some (.int 720 631)),some (some (.int 5 633)),some (some (.ref 387)),some (some (.int 120 635))]
def hLB (K:Frag):List Bool:=
 []
def hRB:List Bool:=
 []
def hLO (K:Frag):List (Option Obj):=
 [K.lookup 284,
 K.lookup 395,
 K.lookup 387]
def hRO:List (Option Obj):=
 [some ⟨(Value.type "tuple"),(none),.seq #[.int 0 586] 0,(#[])⟩,some ⟨(Value.type "tuple"),(none),.seq #[.int 0 764] 0,(#[])⟩,some ⟨.type "tuple",(none),.seq #[(.str "nothing" 745),(.str "hands" 746),(.str "bench" 747),(.str "oven" 748)] 0,(#[])⟩]
def hLX (K:Frag):List (Option Bool):=
 [takesIn K (.builtin "object.__class__"),
 mroIn K 308 (.type "object"),
 exmOne K (.ref 31) (.ref 140),
 exmOne K (.ref 44) (.ref 140),
 exmOne K (.ref 56) (.ref 140),
 exmOne K (.ref 68) (.ref 140),
 exmOne K (.ref 80) (.ref 140),
 exmOne K (.ref 92) (.ref 140),
 exmOne K (.ref 104) (.ref 140),
 exmOne K (.ref 116) (.ref 140),
 exmOne K (.ref 128) (.ref 140),
 exmOne K (.ref 140) (.ref 140),
 exmOne K (.ref 152) (.ref 140)]
def hRX:List (Option Bool):=
 [some true,some true,some false,some false,some false,some false,some false,some false,some false,some false,some false,some true,some false]
def hLI (K:Frag):List Bool:=[]
def hRI:List Bool:=[]
def kW (K:Frag):=(hLF K,hLG K,hLC K,hLE K,hZ.map (λx=>nI K x),hLI K,hLV K,hLB K,hLO K,hLX K)
def kX:=(hRF,hRG,hRC,hRE,hZ.map (λ_=>(some none:Option (Option Value))),hRI,hRV,hRB,hRO,hRX)
def vw:Program:={ PySem.Challenge.pw_doughhours_k27_ways with main:={ (PySem.Challenge.pw_doughhours_k27_ways).main with body:=[0,2,3,4,5,6,7,8,9,10,11,12,14,15,16,17,18,19,20,22,23,24,26,27,28,29,30,31,32,33,34,35,37,38,39,40,41,43,44,45,46,47,48,49,50,52,53,54,55,56,57,59,60,61,62,64,65,66,67,68,69,70,71,72,73,74,75,76,77,78,79,80,81].map top } }
abbrev Xv (s:Shared):Bool:=xlAt vw [] s && recOk (RowW.records (OpenRow.toRowW (OpenLaw.row PySem.Challenge.rw_doughhours_k27_ways))) s
theorem SX:PySem.Challenge.rw_doughhours_k27_ways.wellSaid=true:=by kernel_rfl
theorem SY:Hd.E1 PySem.Challenge.pw_doughhours_k27_ways 12:=λw os=>by kernel_rfl
theorem SZ:Hd.E2 PySem.Challenge.pw_doughhours_k27_ways 12 2:=λw os=>by kernel_rfl
theorem TB:Hd.Ch PySem.Challenge.pw_doughhours_k27_ways 12 2 0 8 1307 ⟨0,0,0,0⟩ ⟨15,0,16,8⟩:=λw os=>by kernel_rfl
theorem TC:Hd.Ch PySem.Challenge.pw_doughhours_k27_ways 12 2 8 16 1272 ⟨15,0,16,8⟩ ⟨45,0,45,7⟩:=λw os=>by kernel_rfl
theorem TD:Hd.Ch PySem.Challenge.pw_doughhours_k27_ways 12 2 24 26 1422 ⟨45,0,45,7⟩ ⟨140,0,148,14⟩:=λw os=>by kernel_rfl
theorem TF:Hd.Ch PySem.Challenge.pw_doughhours_k27_ways 12 2 50 29 1439 ⟨140,0,148,14⟩ ⟨335,0,346,20⟩:=λw os=>by kernel_rfl
theorem TH:Hd.Ch PySem.Challenge.pw_doughhours_k27_ways 12 2 79 3 113 ⟨335,0,346,20⟩ ⟨366,0,389,77⟩:=λw os=>by kernel_rfl
theorem TJ:Hd.E3 PySem.Challenge.pw_doughhours_k27_ways vw Xv 12 2 82:=λw os=>by kernel_rfl
theorem TK:Hd.E4 PySem.Challenge.pw_doughhours_k27_ways (λ_ s=>PyProof.Rows.seen ((PyProof.Rows.recsOf vw).map (·.name)) (ownsOf vw) [] { s with gens:=#[] }) (λ_=>PyProof.Rows.expectedOf vw) 12 2 82:=λw os=>by kernel_rfl
theorem TM:Hd.E4 PySem.Challenge.pw_doughhours_k27_ways (λ_ s=>(s.heap.bltView,tabsOk vw s,pinSeenD vw (drecsOf vw) s)) (λ_=>(bltViewBooted,true,pinGoodD (drecsOf vw))) 12 2 82:=λw os=>by kernel_rfl
theorem TN:Hd.E4 PySem.Challenge.pw_doughhours_k27_ways (λ_ s=>Hd.lk3 PySem.Challenge.pw_doughhours_k27_ways vw [] s) (λ_=>true) 12 2 82:=λw os=>by kernel_rfl
theorem TQ:Hd.E4 PySem.Challenge.pw_doughhours_k27_ways (λ_ s=>(plainSeenE vw (looseW vw []) s,plainSeenD vw [] s,wideSeen vw s,clsSeenW vw [] s)) (λ_=>(plainGoodE vw (looseW vw []),plainGoodD vw [],wideGood vw,clsGoodW vw [])) 12 2 82:=λw os=>by kernel_rfl
theorem TR:Hd.E4 PySem.Challenge.pw_doughhours_k27_ways (λ_ s=>(kW (Hd.kOf hAs s.heap)).1) (λ_=>kX.1) 12 2 82:=λw os=>by kernel_rfl
theorem TU:Hd.E4 PySem.Challenge.pw_doughhours_k27_ways (λ_ s=>(kW (Hd.kOf hAs s.heap)).2.1) (λ_=>kX.2.1) 12 2 82:=λw os=>by kernel_rfl
theorem TV:Hd.E4 PySem.Challenge.pw_doughhours_k27_ways (λ_ s=>(kW (Hd.kOf hAs s.heap)).2.2) (λ_=>kX.2.2) 12 2 82:=λw os=>by kernel_rfl
theorem TW:Hd.To PySem.Challenge.pw_doughhours_k27_ways 12 2 82 4 ⟨366,0,389,77⟩ 82:=Hd.To.fin (by kernel_rfl)
theorem TX:Hd.To PySem.Challenge.pw_doughhours_k27_ways 12 2 79 117 ⟨335,0,346,20⟩ 82:=Hd.To.of (j:=79) (m:=3) (n:=113) (N:=4) TH TW
theorem TY:Hd.To PySem.Challenge.pw_doughhours_k27_ways 12 2 50 1556 ⟨140,0,148,14⟩ 82:=Hd.To.of (j:=50) (m:=29) (n:=1439) (N:=117) TF TX
theorem TZ:Hd.To PySem.Challenge.pw_doughhours_k27_ways 12 2 24 2978 ⟨45,0,45,7⟩ 82:=Hd.To.of (j:=24) (m:=26) (n:=1422) (N:=1556) TD TY
theorem UA:Hd.To PySem.Challenge.pw_doughhours_k27_ways 12 2 8 4250 ⟨15,0,16,8⟩ 82:=Hd.To.of (j:=8) (m:=16) (n:=1272) (N:=2978) TC TZ
theorem UB:Hd.To PySem.Challenge.pw_doughhours_k27_ways 12 2 0 5557 ⟨0,0,0,0⟩ 82:=Hd.To.of (j:=0) (m:=8) (n:=1307) (N:=4250) TB UA
theorem UC:LeftO (OpenLaw.row PySem.Challenge.rw_doughhours_k27_ways).prog vw [] Xv (λs=>kW (Hd.kOf hAs s.heap)) (λ_=>kX) 12114:=
 Hd.left_whole (p:=PySem.Challenge.pw_doughhours_k27_ways) (kp:=5557) (by kernel_rfl) (by decide) (λs=>by kernel_rfl) (by decide) (λw=>by kernel_rfl) SY SZ (λw os=>by kernel_rfl) UB TJ TK TM TN TQ TR TU TV
end Lw
namespace L2
open PySem PySem.Spec PyProof.Rows
abbrev Key:=Sum Int Str
def FN:Key->Value->Bool
 | .inl k,v=>Value.isInt k v
 | .inr x,v=>Value.isStrOf x v
def UD (w:World):Key->Int
 | .inl k=>hashInt k
 | .inr x=>hashStr w x
theorem jG:∀{k:Key} {v:Value},FN k v=true->(∃i t,k=Sum.inl i/\v=Value.int i t)∨(∃x t,k=Sum.inr x/\v=Value.str x t)
 | .inl i,v,h=>by
  obtain ⟨t,e⟩:=Value.isInt_shape (k:=i) (v:=v) h;exact .inl ⟨i,t,rfl,e⟩
 | .inr x,v,h=>by
  obtain ⟨t,e⟩:=Value.isStrOf_shape (x:=x) (v:=v) h;exact .inr ⟨x,t,rfl,e⟩
theorem UE (a b:Int):decide ((Sum.inl a:Key)=Sum.inl b)=(a==b):=by
 by_cases e:a=b
 ·subst e;simp
 ·have h:¬(Sum.inl a:Key)=Sum.inl b:=λq=>e (Sum.inl.inj q)
  rw [decide_eq_false h];exact (beq_eq_false_iff_ne.mpr e).symm
theorem UF (a b:Str):decide ((Sum.inr a:Key)=Sum.inr b)=decide (a=b):=by
 by_cases e:a=b
 ·subst e;simp
 ·have h:¬(Sum.inr a:Key)=Sum.inr b:=λq=>e (Sum.inr.inj q)
  rw [decide_eq_false h,decide_eq_false e]
theorem UG (a:Int) (b:Str):decide ((Sum.inl a:Key)=Sum.inr b)=false:=decide_eq_false (λq=>nomatch q)
theorem UH (a:Str) (b:Int):decide ((Sum.inr a:Key)=Sum.inl b)=false:=decide_eq_false (λq=>nomatch q)
def xA (prog:Program) (w:World):PySem.KeyKind prog w Key where
 is:=FN
 hash:=UD w
 inj:=λv a b ha hb=>by
  rcases jG ha with ⟨i,t,rfl,rfl⟩ | ⟨x,t,rfl,rfl⟩
  ·rcases jG hb with ⟨j,u,rfl,e⟩ | ⟨y,u,rfl,e⟩
   ·injection e with e1 _;rw [e1]
   ·exact nomatch e
  ·rcases jG hb with ⟨j,u,rfl,e⟩ | ⟨y,u,rfl,e⟩
   ·exact nomatch e
   ·injection e with e1 _;rw [e1]
 byValue:=λk v h=>by
  rcases jG h with ⟨i,t,rfl,rfl⟩ | ⟨x,t,rfl,rfl⟩<;>rfl
 pyHash:=λhv h=>by
  rcases jG hv with ⟨i,t,rfl,rfl⟩ | ⟨x,t,rfl,rfl⟩
  ·exact wpAny_pyHash_int h
  ·exact wpAny_pyHash_str h
 eqBool:=λhu hv h=>by
  rcases jG hu with ⟨i,t,rfl,rfl⟩ | ⟨x,t,rfl,rfl⟩
  ·rcases jG hv with ⟨j,u,rfl,rfl⟩ | ⟨y,u,rfl,rfl⟩
   ·rw [UE] at h;exact wpAny_eqBool_int h
   ·rw [UG] at h;exact SeqAt.EqAt.int_str i t y u _ _ _ _ h
  ·rcases jG hv with ⟨j,u,rfl,rfl⟩ | ⟨y,u,rfl,rfl⟩
   ·rw [UH] at h;exact SeqAt.EqAt.str_int x t j u _ _ _ _ h
   ·rw [UF] at h;exact wpAny_eqBool_str h
 «strs»:=λk x t v h=>by
  rcases jG h with ⟨i,u,rfl,e⟩ | ⟨y,u,rfl,e⟩
  ·exact nomatch e
  ·injection e with e1 _
   subst e1;cases v<;>rfl
inductive V where
 | non | bl (b:Bool) | int (i:Int) | str (x:Str) | byt (b:Array UInt8) | flt (b:UInt64) | ref (a:Addr) | ty (n:String)
 deriving DecidableEq
def RelV:V->Value->Prop
 | .non,u=>u=Value.none
 | .bl b,u=>u=Value.bool b
 | .int i,u=>∃t,u=Value.int i t
 | .str x,u=>∃t,u=Value.str x t
 | .byt b,u=>∃t,u=Value.bytes b t
 | .flt b,u=>∃t,u=Value.float b t
 | .ref a,u=>u=Value.ref a
 | .ty n,u=>u=Value.type n
abbrev Vals:List V->List Value->Prop:=Paired RelV
theorem Vals.length {xs:List V} {us:List Value} (r:Vals xs us):xs.length=us.length:=Paired.length r
theorem Vals.get:∀{xs:List V} {us:List Value} {i:Nat} {x:V},Vals xs us->xs[i]?=some x->∃u,us[i]?=some u/\RelV x u
 | _,_,_,_,.nil,e=>by simp at e
 | _,_,0,_,.cons r _,e=>by simp at e;subst e;exact ⟨_,rfl,r⟩
 | _,_,i+1,x,.cons _ t,e=>by
  obtain ⟨u,h1,h2⟩:=Vals.get (i:=i) (x:=x) t (by simpa using e);exact ⟨u,by simpa using h1,h2⟩
theorem Vals.set {x:V} {u:Value} (r:RelV x u):∀{xs:List V} {us:List Value} (i:Nat),Vals xs us->Vals (xs.set i x) (us.set i u)
 | _,_,_,.nil=>.nil
 | _,_,0,.cons _ t=>.cons r t
 | _,_,i+1,.cons q t=>.cons q (Vals.set r i t)
theorem Vals.append:∀{xs ys:List V} {us ws:List Value},Vals xs us->Vals ys ws->Vals (xs++ys) (us++ws)
 | _,_,_,_,.nil,s=>s
 | _,_,_,_,.cons r t,s=>.cons r (Vals.append t s)
theorem Vals.take:∀{xs:List V} {us:List Value} (n:Nat),Vals xs us->Vals (xs.take n) (us.take n)
 | _,_,0,_=>.nil
 | _,_,_+1,.nil=>.nil
 | _,_,n+1,.cons r t=>.cons r (Vals.take n t)
theorem Vals.drop:∀{xs:List V} {us:List Value} (n:Nat),Vals xs us->Vals (xs.drop n) (us.drop n)
 | _,_,0,r=>r
 | _,_,_+1,.nil=>.nil
 | _,_,n+1,.cons _ t=>Vals.drop n t
def RelO:Option V->Option Value->Prop
 | some v,some u=>RelV v u
 | none,none=>True
 | _,_=>False
def KV {κ:Type}:List (κ×V)->List (κ×Value)->Prop:=Paired λ(p:κ×V) (q:κ×Value)=>p.1=q.1/\RelV p.2 q.2
def kV:Key->V
 | .inl i=>.int i
 | .inr x=>.str x
inductive HO where
 | lst (xs:List V)
 | tup (xs:List V)
 | dK (kvs:List (Key×V)) | dT (kvs:List (List Key×V))
 | set (S:Int->Bool) (n:Nat)
 | ins (C dx:Addr) (fs:List (Str×V))
 | own (x:Addr)
 | xd (fs:List (Str×V))
 | met (f x:Addr)
 | rng (lo hi:Int)
 | frz (o:Obj) (u:HO)
 | tbl (ps:Array Value)
 | ext (φ:Heap->Prop)
abbrev Hp:=Addr->Option HO
def upd (H:Hp) (a:Addr) (o:HO):Hp:=λb=>if b=a then some o else H b
theorem cR {H:Hp} {a:Addr} {o:HO}:upd H a o a=some o:=by unfold upd;rw [if_pos rfl]
theorem aM {H:Hp} {a b:Addr} {o:HO} (h:b≠a):upd H a o b=H b:=by unfold upd;rw [if_neg h]
theorem oC {H:Hp} {a b:Addr} {o:HO} (h:H a=some o) (h':H b=none):a≠b:=by
 intro e;subst e;rw [h] at h';cases h'
section
variable (P:Program) (w:World)
def ObjOk (H:Hp) (h:Heap) (a:Addr):HO->Prop
 | .lst xs=>xs.length<=sizeLine/\∃(its:List Value) (n:Nat),Vals xs its/\h.get? a=some { cls:=.type "list",data:=.seq its.toArray n }
 | .tup xs=>xs.length<=sizeLine/\∃its:List Value,Vals xs its/\IsTup h a its.toArray
 | .dK kvs=>kvs.length<=sizeLine/\(a==sysModules)=false/\∃vs,KV kvs vs/\h.DictOf (xA P w) a vs
 | .dT kvs=>kvs.length<=sizeLine/\(a==sysModules)=false/\∃xs:List (List Key×Addr×Value),
  Paired (λ(p:List Key×V) (q:List Key×Addr×Value)=>p.1=q.1/\H q.2.1=some (.tup (p.1.map kV))/\RelV p.2 q.2.2) kvs xs /\
  ∃o es ep,h.get? a=some o/\o.ExactDict/\o.data=.dict es ep/\es.toList=xs.map (entryOfKey (tupleKind (xA P w)))/\(xs.map (·.1)).Nodup
 | .set S n=>h.SetOf (intKind P w) a S n
 | .ins C dx fs=>H dx=some (.own a)/\fs.length<=1000/\dx≠a/\h.get? a=some (PySem.W.instObj C dx) /\
  ∃mA,h.Ns1 dx mA/\(∀f,RelO (fs.lookup f) (mA f))/\PySem.Within mA (fs.map (·.1))
 | .own _=>∃o,h.get? a=some o
 | .xd fs=>∃mA,h.Ns1 a mA/\∀f,RelO (fs.lookup f) (mA f)
 | .rng lo hi=>∃t u v,h.get? a=some { cls:=.type "range",data:=.fields #[.int lo t,.int hi u,.int 1 v] }
 | .frz o u=>h.get? a=some o/\ObjOk H h a u
 | .tbl ps=>h.get? a=some { cls:=.none,data:=.fields ps }
 | .met f x=>h.get? a=some (PySem.W.methodObj (.ref f) (.ref x))
 | .ext φ=>φ h/\(∃o,h.get? a=some o)/\∀h1 h2:Heap,φ h1->(∀o,h1.get? a=some o->h2.get? a=some o)->φ h2
def HOk (H:Hp) (h:Heap):Prop:=∀a o,H a=some o->ObjOk P w H h a o
end
section
variable {P:Program} {w:World} {H H':Hp} {h h':Heap} {a:Addr} {o:HO}
theorem ObjOk.lt (x:ObjOk P w H h a o):a < h.objs.size:=by
 cases o with
 | lst xs=>obtain ⟨_,_,_,_,e⟩:=x;exact Heap.lt_size e
 | tup xs=>obtain ⟨_,_,_,p⟩:=x;exact p.lt
 | dK kvs=>obtain ⟨_,_,_,_,o,_,_,e,_⟩:=x;exact Heap.lt_size e
 | dT kvs=>obtain ⟨_,_,_,_,o,_,_,e,_⟩:=x;exact Heap.lt_size e
 | set S n=>obtain ⟨o,_,_,_,e,_⟩:=x;exact Heap.lt_size e
 | ins C dx fs=>obtain ⟨_,_,_,e,_⟩:=x;exact Heap.lt_size e
 | own y=>obtain ⟨_,e⟩:=x;exact Heap.lt_size e
 | xd fs=>obtain ⟨_,⟨_,_,_,e,_⟩,_⟩:=x;exact Heap.lt_size e
 | rng lo hi=>obtain ⟨_,_,_,e⟩:=x;exact Heap.lt_size e
 | frz ob u=>obtain ⟨e,_⟩:=x;exact Heap.lt_size e
 | tbl ps=>exact Heap.lt_size (show h.get? a=some _ from x)
 | met f y=>exact Heap.lt_size (show h.get? a=some _ from x)
 | ext φ=>obtain ⟨_,⟨_,e⟩,_⟩:=x;exact Heap.lt_size e
theorem Paired.mapP {α β:Type} {F G:α->β->Prop}:∀{l₁:List α} {l₂:List β},Paired F l₁ l₂->(∀a b,F a b->G a b)->Paired G l₁ l₂
 | _,_,.nil,_=>.nil
 | _,_,.cons r t,f=>.cons (f _ _ r) (Paired.mapP t f)
theorem ObjOk.stay (x:ObjOk P w H h a o) (k:∀b u,(b=a∨H b=some (.own a))->h.get? b=some u->h'.get? b=some u)
 (ho:∀b,H b=some (.own a)->H' b=some (.own a)) (ht:∀b xs,H b=some (.tup xs)->H' b=some (.tup xs)):ObjOk P w H' h' a o:=by
 induction o with
 | lst xs=>obtain ⟨z,its,n,r,e⟩:=x;exact ⟨z,its,n,r,k _ _ (.inl rfl) e⟩
 | tup xs=>obtain ⟨z,its,r,ob,e,c⟩:=x;exact ⟨z,its,r,ob,k _ _ (.inl rfl) e,c⟩
 | dK kvs=>obtain ⟨z,y,vs,r,ob,es,ep,e,c⟩:=x;exact ⟨z,y,vs,r,ob,es,ep,k _ _ (.inl rfl) e,c⟩
 | dT kvs=>
  obtain ⟨z,y,xs,r,ob,es,ep,e,c⟩:=x;exact ⟨z,y,xs,Paired.mapP r λp q z=>⟨z.1,ht _ _ z.2.1,z.2.2⟩,ob,es,ep,k _ _ (.inl rfl) e,c⟩
 | set S n=>obtain ⟨ob,es,ep,t,e,c⟩:=x;exact ⟨ob,es,ep,t,k _ _ (.inl rfl) e,c⟩
 | ins C dx fs=>
  obtain ⟨d,z,ne,e,mA,⟨od,es,ep,e2,c⟩,r⟩:=x;exact ⟨ho _ d,z,ne,k _ _ (.inl rfl) e,mA,⟨od,es,ep,k _ _ (.inr d) e2,c⟩,r⟩
 | own y=>obtain ⟨ob,e⟩:=x;exact ⟨ob,k _ _ (.inl rfl) e⟩
 | xd fs=>obtain ⟨mA,⟨od,es,ep,e,c⟩,r⟩:=x;exact ⟨mA,⟨od,es,ep,k _ _ (.inl rfl) e,c⟩,r⟩
 | rng lo hi=>obtain ⟨t,u,v,e⟩:=x;exact ⟨t,u,v,k _ _ (.inl rfl) e⟩
 | frz ob u ih=>obtain ⟨e,q⟩:=x;exact ⟨k _ _ (.inl rfl) e,ih q⟩
 | tbl ps=>
  have e:h.get? a=some { cls:=.none,data:=.fields ps }:=x;show h'.get? a=some { cls:=.none,data:=.fields ps };exact k a _ (.inl rfl) e
 | met f y=>
  have e:h.get? a=some (PySem.W.methodObj (.ref f) (.ref y)):=x;show h'.get? a=some (PySem.W.methodObj (.ref f) (.ref y));exact k a _ (.inl rfl) e
 | ext φ=>obtain ⟨p,⟨o,e⟩,st⟩:=x;exact ⟨st _ _ p λo q=>k _ _ (.inl rfl) q,⟨o,k _ _ (.inl rfl) e⟩,st⟩
theorem HOk.lt (x:HOk P w H h) (e:H a=some o):a < h.objs.size:=(x a o e).lt
theorem HOk.fresh (x:HOk P w H h) (e:h.objs.size<=a):H a=none:=by
 cases q:H a with
 | none=>rfl
 | some u=>exact absurd (Nat.lt_of_lt_of_le (x.lt q) e) (Nat.lt_irrefl _)
theorem HOk.kept (x:HOk P w H h) (k:∀b u,h.get? b=some u->h'.get? b=some u):HOk P w H h':=λa o e=>
 (x a o e).stay (λb u _ q=>k b u q) (λ_ q=>q) λ_ _ q=>q
theorem HOk.laid (x:HOk P w H h) (k:∀b u,h.get? b=some u->h'.get? b=some u) (hp:h.objs.size<=a) (new:ObjOk P w (upd H a o) h' a o):HOk P w (upd H a o) h':=λb u e=>by
 have hn:=x.fresh hp;by_cases hb:b=a
 ·subst hb;rw [cR] at e;cases e;exact new
 ·rw [aM hb] at e;exact (x b u e).stay (λc v _ q=>k c v q) (λc q=>by rw [aM (oC q hn)];exact q) λc xs q=>by rw [aM (oC q hn)];exact q
end
def Rd (H:Hp) (a:Addr) (u:HO):Prop:=H a=some u∨∃o,H a=some (.frz o u)
theorem Rd.ok {P:Program} {w:World} {H:Hp} {h:Heap} {a:Addr} {u:HO} (r:Rd H a u) (x:HOk P w H h):ObjOk P w H h a u:=by
 rcases r with r | ⟨o,r⟩
 ·exact x a u r
 ·obtain ⟨_,q⟩:=x a _ r;exact q
def Mut:Option HO->Prop
 | some (.lst _)=>True
 | some (.dK _)=>True
 | some (.dT _)=>True
 | some (.set _ _)=>True
 | some (.ins _ _ _)=>True
 | some (.ext _)=>True
 | _=>False
section
variable {P:Program} {w:World} {H:Hp} {h h':Heap} {x e:Addr} {o':HO}
theorem HOk.write (ok:HOk P w H h) (mu:Mut (H x)) (he:e=x∨H e=some (.own x)) (k:∀b u,b≠e->h.get? b=some u->h'.get? b=some u) (heo:∃u,h'.get? e=some u)
 (new:ObjOk P w (upd H x o') h' x o'):HOk P w (upd H x o') h':=λb u q=>by
 have nown:∀c y,H c=some (.own y)->c≠x:=λc y r z=>by subst z;rw [r] at mu;exact mu
 have ntup:∀c xs,H c=some (.tup xs)->c≠x:=λc xs r z=>by subst z;rw [r] at mu;exact mu
 by_cases hb:b=x
 ·subst hb;rw [cR] at q;cases q;exact new
 ·rw [aM hb] at q;by_cases hbe:b=e
  ·have q':H b=some (.own x):=by
    rcases he with z | z
    ·exact absurd (hbe.trans z) hb
    ·rw [hbe];exact z
   rw [q] at q';cases q';obtain ⟨v,hv⟩:=heo;exact ⟨v,by rw [hbe];exact hv⟩
  ·refine (ok b u q).stay (λc v hc r=>k c v ?_ r) (λc r=>by rw [aM (nown c b r)];exact r) λc xs r=>by rw [aM (ntup c xs r)];exact r
   rcases hc with rfl | hc
   ·exact hbe
   ·rintro rfl;rcases he with z | z
    ·exact nown c b hc z
    ·rw [hc] at z;cases z;exact hb rfl
end
structure Un (fs ex:List Addr) (H H':Hp) (h h':Heap):Prop where
 keep:∀b o,h.get? b=some o->H b=none->b∉fs->b∉ex->h'.get? b=some o
 slot:∀b o,h.get? b=some o->H b=none->b∈fs->b∉ex->∃sl,h'.get? b=some { o with slots:=sl }
 free:∀b o,h.get? b=some o->H b=none->b∉ex->H' b=none
 there:∀b o,h.get? b=some o->b∉ex->∃o',h'.get? b=some o'
 tups:∀b xs,H b=some (.tup xs)->H' b=some (.tup xs)
 frzs:∀b o u,H b=some (.frz o u)->H' b=some (.frz o u)
 tbls:∀b ps,H b=some (.tbl ps)->∃more,H' b=some (.tbl (ps++more))
section
variable {fs fs' ex ex':List Addr} {H H1 H2:Hp} {h h1 h2 h':Heap} {a x e:Addr} {o:HO}
theorem Un.any (u:Un fs ex H H1 h h1) {b:Addr} {ob:Obj} (q:h.get? b=some ob) (n:H b=none) (hx:b∉ex):∃sl,h1.get? b=some { ob with slots:=sl }:=by
 by_cases hb:b∈fs
 ·exact u.slot b ob q n hb hx
 ·exact ⟨ob.slots,u.keep b ob q n hb hx⟩
theorem Un.kept (k:∀b u,h.get? b=some u->h'.get? b=some u):Un fs ex H H h h':=
 ⟨λb ob q _ _ _=>k b ob q,λb ob q _ _ _=>⟨ob.slots,k b ob q⟩,λ_ _ _ n _=>n,λb ob q _=>⟨ob,k b ob q⟩,λ_ _ q=>q,λ_ _ _ q=>q,λ_ ps q=>⟨#[],by rw [q];simp⟩⟩
theorem Un.refl:Un fs ex H H h h:=Un.kept λ_ _ q=>q
theorem Un.laid (k:∀b u,h.get? b=some u->h'.get? b=some u) (hp:h.objs.size<=a) (hn:H a=none):Un fs ex H (upd H a o) h h' where
 keep:=λb u q _ _ _=>k b u q
 slot:=λb u q _ _ _=>⟨u.slots,k b u q⟩
 free:=λb u q n _=>by rw [aM (Nat.ne_of_lt (Nat.lt_of_lt_of_le (Heap.lt_size q) hp))];exact n
 there:=λb u q _=>⟨u,k b u q⟩
 tups:=λb xs q=>by rw [aM (oC q hn)];exact q
 frzs:=λb u xs q=>by rw [aM (oC q hn)];exact q
 tbls:=λb ps q=>⟨#[],by rw [aM (oC q hn),q];simp⟩
theorem Un.write (mu:Mut (H x)) (he:e=x∨H e=some (.own x)) (k:∀b u,b≠e->h.get? b=some u->h'.get? b=some u) (heo:∃u,h'.get? e=some u):Un fs ex H (upd H x o) h h':=by
 have hx:∀b,H b=none->b≠x:=λb n z=>by subst z;rw [n] at mu;exact mu
 have hb:∀b,H b=none->b≠e:=λb n z=>by
  subst z;rcases he with r | r
  ·exact hx b n r
  ·rw [n] at r;cases r
 have hm:∀b u,H b=some u->¬Mut (some u)->b≠x:=λb u q nm z=>by subst z;rw [q] at mu;exact nm mu
 refine ⟨λb u q n _ _=>k b u (hb b n) q,λb u q n _ _=>⟨u.slots,k b u (hb b n) q⟩,λb u q n _=>by rw [aM (hx b n)];exact n,λb u q _=>?_,
  λb xs q=>by rw [aM (hm b _ q λz=>z)];exact q,λb u xs q=>by rw [aM (hm b _ q λz=>z)];exact q,λb ps q=>⟨#[],by rw [aM (hm b _ q λz=>z),q];simp⟩⟩
 by_cases hbe:b=e
 ·subst hbe;exact heo
 ·exact ⟨u,k b u hbe q⟩
end
def trk (h:Heap) (H:Hp):List Addr:=(List.range h.objs.size).filter λa=>(H a).isSome
def jH (h:Heap) (H:Hp):Heap:=PySem.W.hideAll h (trk h H)
theorem UI (h:Heap) (H:Hp):(jH h H).objs.size=h.objs.size:=PySem.W.hideAll_size _ _
theorem UJ {h:Heap} {H:Hp} {b:Addr} {o:Obj} (e:h.get? b=some o) (n:H b=none):(jH h H).get? b=some o:=
 PySem.W.hideAll_get _ e λhm=>by
  have q:(H b).isSome=true:=(List.mem_filter.mp hm).2;rw [n] at q;simp at q
theorem UK {h:Heap} {H:Hp} {b:Addr} {o:Obj} (e:(jH h H).get? b=some o):h.get? b=some o/\H b=none:=by
 have e':h.get? b=some o:=PySem.W.of_hideAll (trk h H) e;refine ⟨e',?_⟩;cases q:H b with
 | none=>rfl
 | some x=>
  have hm:b∈trk h H:=List.mem_filter.mpr ⟨List.mem_range.mpr (Heap.lt_size e'),by simp [q]⟩;have z:(jH h H).get? b=none:=PySem.W.hideAll_none (trk h H) hm;rw [z] at e;cases e
structure Mod (K:PySem.W.Frag) (mg:Str->Option Value) (base:Heap):Prop where
 kin:K.In base
 glob:base.Ns mainGlobals mg
 blt:∃mb,base.Ns builtinsNs mb/\∀x:Str,x≠"__name__"->mb x=bootBuiltins x
 nolimit:base.NoLimit
structure Cx where
 prog:Program
 w:World
 K:PySem.W.Frag
 mg:Str->Option Value
 base:Heap
 A:Around
 N:List Str
 s₀:Shared
 H₀:Hp
 env:Env
 outer:List Env
 stack:List Env
 ex:List Addr
 fn:Str->Bool
 calm:Bool
 pn:List (Addr×Obj)
 xe:Value->Shared->Prop
def frs (l:List Env):List Addr:=l.filterMap (·.frame)
abbrev Cx.fs (X:Cx):List Addr:=frs X.outer
def Vis (sc:Scope) (x:Str):Prop:=sc.names.lookup x=some .local∨sc.names.lookup x=some .cell∨sc.names.lookup x=some .free
def Loc (sc:Scope) (x:Str):Prop:=sc.names.lookup x=some .local∨sc.names.lookup x=some .cell
def Look (env:Env) (h:Heap) (m:Str->Option Value) (x:Str) (u:Value):Prop:=
 (env.kindOf x=some .local/\m x=some u)∨((env.kindOf x=some .cell∨env.kindOf x=some .free)/\∃c,env.cells.lookup x=some c/\h.IsCell c (some u))
structure Cx.Ok (X:Cx):Prop where
 mod:Mod X.K X.mg X.base
 kind:X.env.scope.kind=.function
 glob:X.env.globals=mainGlobals
 blt:X.env.builtins=builtinsNs
 above:X.s₀.heap.objs.size<=X.env.locals
 inj:∀x y c,X.env.cells.lookup x=some c->X.env.cells.lookup y=some c->x=y
 has:∀x,(X.env.kindOf x=some .cell∨X.env.kindOf x=some .free)->∃c,X.env.cells.lookup x=some c
 cab:∀x c,X.fn x=true->X.env.cells.lookup x=some c->X.s₀.heap.objs.size<=c
 hd:X.calm=true->X.A.handled=none
 frames:X.A.frames=some X.stack
 stk:X.stack=X.outer∨(X.stack=X.env::X.outer/\X.env.frame=some X.env.locals)
 exf:∀b∈X.ex,b≠X.env.locals/\∀x c,X.env.cells.lookup x=some c->c≠b
 bs:∀b o,X.base.get? b=some o->X.s₀.heap.get? b=some o/\X.H₀ b=none
 bsz:X.base.objs.size<=X.s₀.heap.objs.size
 noex:∀b o,X.base.get? b=some o->b∉X.ex
 exfs:∀b∈X.ex,b∉X.fs
 funs:X.s₀.heap.FunFrames X.base X.outer
 frf:∀b∈X.fs,X.H₀ b=none
structure Inv (X:Cx) (vA:List (Addr×Obj)) (σ:List (Option V)) (H:Hp) (s:Shared):Prop where
 ok:X.Ok
 os:s.os=X.s₀.os
 bare:AllBare s.gens
 base:Un X.fs X.ex X.H₀ H X.s₀.heap s.heap
 loc:∃m,s.heap.Ns X.env.locals m/\∀(i:Nat) (x:Str) (v:V),X.N[i]?=some x->σ[i]?=some (some v)->Vis X.env.scope x->∃u,RelV v u/\Look X.env s.heap m x u
 cell:∀x c,X.env.cells.lookup x=some c->∃v,s.heap.IsCell c v
 free:H X.env.locals=none
 freeC:∀x c,X.env.cells.lookup x=some c->H c=none
 pin:∀p∈X.pn++vA,s.heap.get? p.1=some p.2/\H p.1=none/\p.1≠X.env.locals/\p.1∉X.fs/\∀v,p.2.data≠.cell v
 hok:HOk X.prog X.w H s.heap
 len:σ.length=X.N.length
section
variable {X:Cx} {vA:List (Addr×Obj)} {σ:List (Option V)} {H H':Hp} {s:Shared} {h':Heap}
theorem Cx.Ok.nofr (ok:X.Ok) {b:Addr} {o:Obj} (e:X.base.get? b=some o):b∉X.fs:=λhb=>by
 have:=(ok.funs.mem hb).1;rw [e] at this;cases this
theorem Inv.bs (I:Inv X vA σ H s):∀b o,X.base.get? b=some o->s.heap.get? b=some o/\H b=none:=λb o e=>
 ⟨I.base.keep b o (I.ok.bs b o e).1 (I.ok.bs b o e).2 (I.ok.nofr e) (I.ok.noex b o e),I.base.free b o (I.ok.bs b o e).1 (I.ok.bs b o e).2 (I.ok.noex b o e)⟩
theorem Inv.bk (I:Inv X vA σ H s):∀b o,X.base.get? b=some o->s.heap.get? b=some o:=λb o e=>(I.bs b o e).1
theorem Inv.mod (I:Inv X vA σ H s):Mod X.K X.mg X.base:=I.ok.mod
theorem Inv.kIn (I:Inv X vA σ H s):X.K.In s.heap:=I.ok.mod.kin.keeps I.bk
theorem Inv.lt (I:Inv X vA σ H s):X.env.locals < s.heap.objs.size:=let ⟨_,hn,_⟩:=I.loc;hn.lt
theorem Inv.sz (I:Inv X vA σ H s):X.s₀.heap.objs.size<=s.heap.objs.size:=Nat.le_trans I.ok.above (Nat.le_of_lt I.lt)
theorem Inv.nofs (I:Inv X vA σ H s) {a:Addr} (h:s.heap.objs.size<=a):a∉X.fs:=λhb=>by
 obtain ⟨_,o,ho,_⟩:=I.ok.funs.mem hb;exact absurd (Nat.lt_of_lt_of_le (Heap.lt_size ho) (Nat.le_trans I.sz h)) (Nat.lt_irrefl _)
theorem Inv.cne (I:Inv X vA σ H s):∀x c,X.env.cells.lookup x=some c->c≠X.env.locals:=λx c e z=>by
 obtain ⟨v,o,ho,hd⟩:=I.cell x c e;obtain ⟨m,⟨o',es,ep,ho',hd',_⟩,_⟩:=I.loc;rw [z,ho'] at ho;cases ho;rw [hd'] at hd;cases hd
theorem Inv.funs (I:Inv X vA σ H s):s.heap.FunFrames X.base X.outer:=by
 have all:∀(l:List Env),(∀b∈frs l,b∈X.fs)->X.s₀.heap.FunFrames X.base l->s.heap.FunFrames X.base l:=by
  intro l
  induction l with
  | nil=>intro _ _;trivial
  | cons env r ih=>
   intro hs hl;obtain ⟨hk,⟨L,o,hf,hn,ho,hd⟩,hr⟩:=hl;have hL:L∈X.fs:=hs L (by unfold frs;rw [List.filterMap_cons,hf];exact List.mem_cons_self);obtain ⟨sl,e⟩:=I.base.slot L o ho (I.ok.frf L hL) hL λz=>I.ok.exfs L z hL
   exact ⟨hk,⟨L,_,hf,hn,e,hd⟩,ih (λb hb=>hs b (by unfold frs;rw [List.filterMap_cons,hf];exact List.mem_cons_of_mem _ hb)) hr⟩
 exact all X.outer (λ_ hb=>hb) I.ok.funs
theorem Inv.stack (I:Inv X vA σ H s):s.heap.FunFrames X.base X.stack:=by
 rcases I.ok.stk with e | ⟨e,hf⟩
 ·rw [e];exact I.funs
 ·rw [e];obtain ⟨m,hn,_⟩:=I.loc;refine .cons (by rw [I.ok.kind];decide) hf hn ?_ I.funs;exact Heap.get?_none_of_le (Nat.le_trans I.ok.bsz I.ok.above)
theorem Inv.stkSub (I:Inv X vA σ H s):∀b∈frs X.stack,b∈X.env.locals::X.fs:=λb hb=>by
 rcases I.ok.stk with e | ⟨e,hf⟩
 ·rw [e] at hb;exact List.mem_cons_of_mem _ hb
 ·rw [e] at hb;unfold frs at hb;rw [List.filterMap_cons,hf] at hb;exact hb
theorem Inv.stkFree (I:Inv X vA σ H s):∀b∈frs X.stack,H b=none:=λb hb=>by
 rcases List.mem_cons.mp (I.stkSub b hb) with e | hb
 ·rw [e];exact I.free
 ·obtain ⟨_,o,ho,_⟩:=I.ok.funs.mem hb;exact I.base.free b o ho (I.ok.frf b hb) λz=>I.ok.exfs b z hb
theorem Inv.step {g':Array GenState} {t':Nat} {d':Drawn} {ch:List Addr} (I:Inv X vA σ H s)
 (hch:∀b∈ch,(b∈X.ex∨X.s₀.heap.objs.size<=b)/\b≠X.env.locals/\(∀x c,X.env.cells.lookup x=some c->c≠b)/\∀p∈X.pn++vA,p.1≠b)
 (keep:∀b o,b≠X.env.locals->b∉X.fs->b∉ch->s.heap.get? b=some o->H b=none->h'.get? b=some o)
 (slot:∀b o,b≠X.env.locals->b∈X.fs->b∉ch->s.heap.get? b=some o->H b=none->∃sl,h'.get? b=some { o with slots:=sl }) (free:∀b o,b∉ch->s.heap.get? b=some o->H b=none->H' b=none)
 (there:∀b o,b∉ch->s.heap.get? b=some o->∃o',h'.get? b=some o')
 (tups:∀b xs,H b=some (.tup xs)->H' b=some (.tup xs)) (frzs:∀b o u,H b=some (.frz o u)->H' b=some (.frz o u)) (tbls:∀b ps,H b=some (.tbl ps)->∃more,H' b=some (.tbl (ps++more)))
 (ns:∀m,s.heap.Ns X.env.locals m->h'.Ns X.env.locals m) (hok:HOk X.prog X.w H' h') (hg:AllBare g') :
 Inv X vA σ H' { s with heap:=h',gens:=g',drawn:=d',toks:=t' }:=by
 have neL:∀b o,X.s₀.heap.get? b=some o->b≠X.env.locals:=λb o e=>Nat.ne_of_lt (Nat.lt_of_lt_of_le (Heap.lt_size e) I.ok.above)
 have neC:∀b o,X.s₀.heap.get? b=some o->b∉X.ex->b∉ch:=λb o e hx hb=>by
  rcases (hch b hb).1 with z | z
  ·exact hx z
  ·exact absurd (Nat.lt_of_lt_of_le (Heap.lt_size e) z) (Nat.lt_irrefl _)
 have cellK:∀x c,X.env.cells.lookup x=some c->∀v,s.heap.IsCell c v->h'.IsCell c v:=λx c e v ⟨o,ho,hd⟩=>by
  have nch:c∉ch:=λz=>(hch c z).2.2.1 x c e rfl
  by_cases hc:c∈X.fs
  ·obtain ⟨sl,q⟩:=slot c o (I.cne x c e) hc nch ho (I.freeC x c e);exact ⟨_,q,hd⟩
  ·exact ⟨o,keep c o (I.cne x c e) hc nch ho (I.freeC x c e),hd⟩
 refine ⟨I.ok,I.os,hg,⟨λb o e n hb hx=>?_,λb o e n hb hx=>?_,λb o e n hx=>?_,λb o e hx=>?_,λb xs e=>tups b xs (I.base.tups b xs e),λb o xs e=>frzs b o xs (I.base.frzs b o xs e),λb ps e=>?_⟩,?_,λx c e=>?_,?_,λx c e=>?_,λp hp=>?_,hok,I.len⟩
 ·exact keep b o (neL b o e) hb (neC b o e hx) (I.base.keep b o e n hb hx) (I.base.free b o e n hx)
 ·obtain ⟨sl,e1⟩:=I.base.slot b o e n hb hx;obtain ⟨sl',e2⟩:=slot b _ (neL b o e) hb (neC b o e hx) e1 (I.base.free b o e n hx);exact ⟨sl',e2⟩
 ·obtain ⟨o',e1⟩:=I.base.there b o e hx;exact free b o' (neC b o e hx) e1 (I.base.free b o e n hx)
 ·obtain ⟨o',e1⟩:=I.base.there b o e hx;exact there b o' (neC b o e hx) e1
 ·obtain ⟨m1,e1⟩:=I.base.tbls b ps e;obtain ⟨m2,e2⟩:=tbls b _ e1;exact ⟨m1++m2,by rw [e2,Array.append_assoc]⟩
 ·obtain ⟨m,hn,hl⟩:=I.loc;refine ⟨m,ns m hn,λi x v e1 e2 e3=>?_⟩;obtain ⟨u,r,l⟩:=hl i x v e1 e2 e3;refine ⟨u,r,?_⟩;rcases l with l | ⟨k,c,e,z⟩
  ·exact .inl l
  ·exact .inr ⟨k,c,e,cellK x c e _ z⟩
 ·obtain ⟨v,z⟩:=I.cell x c e;exact ⟨v,cellK x c e v z⟩
 ·obtain ⟨m,⟨o,_,_,ho,_⟩,_⟩:=I.loc;exact free _ o (λz=>(hch _ z).2.1 rfl) ho I.free
 ·obtain ⟨v,o,ho,hd⟩:=I.cell x c e;exact free c o (λz=>(hch c z).2.2.1 x c e rfl) ho (I.freeC x c e)
 ·obtain ⟨e,n,ne,nf,d⟩:=I.pin p hp;have nch:p.1∉ch:=λz=>(hch p.1 z).2.2.2 p hp rfl
  exact ⟨keep p.1 p.2 ne nf nch e n,free p.1 p.2 nch e n,ne,nf,d⟩
theorem Inv.un {t':Nat} (I:Inv X vA σ H s) (u:Un X.fs [] H H' s.heap h') (hok:HOk X.prog X.w H' h'):Inv X vA σ H' { s with heap:=h',toks:=t' }:=by
 obtain ⟨m,⟨o,es,ep,ho,r⟩,_⟩:=id I.loc;obtain ⟨sl,hL⟩:=u.any ho I.free (by simp);exact I.step (g':=s.gens) (d':=s.drawn) (ch:=[]) (λ_ z=>nomatch z) (λb o _ hb _ e n=>u.keep b o e n hb (by simp)) (λb o _ hb _ e n=>u.slot b o e n hb (by simp)) (λb o _ e n=>u.free b o e n (by simp)) (λb o _ e=>u.there b o e (by simp)) u.tups u.frzs u.tbls (λm' hm=>by
  obtain ⟨o',es',ep',ho',r'⟩:=hm;rw [ho] at ho';cases ho';exact ⟨_,es',ep',hL,r'⟩) hok I.bare
theorem Inv.call {g':Array GenState} {t':Nat} {d':Drawn} {ch:List Addr} (I:Inv X vA σ H s) (u:Un (frs X.stack) ch H H' s.heap h') (hok:HOk X.prog X.w H' h') (hg:AllBare g')
 (hch:∀b∈ch,(b∈X.ex∨X.s₀.heap.objs.size<=b)/\b≠X.env.locals/\(∀x c,X.env.cells.lookup x=some c->c≠b)/\∀p∈X.pn++vA,p.1≠b) :
 Inv X vA σ H' { s with heap:=h',gens:=g',drawn:=d',toks:=t' }:=by
 obtain ⟨m,⟨o,es,ep,ho,r⟩,_⟩:=id I.loc;obtain ⟨sl,hL⟩:=u.any ho I.free λz=>(hch _ z).2.1 rfl
 exact I.step (ch:=ch) hch (λb o hL hb hc e n=>u.keep b o e n (λz=>(List.mem_cons.mp (I.stkSub b z)).elim hL hb) hc) (λb o _ _ hc e n=>u.any e n hc) (λb o hc e n=>u.free b o e n hc) (λb o hc e=>u.there b o e hc) u.tups u.frzs u.tbls (λm' hm=>by
  obtain ⟨o',es',ep',ho',r'⟩:=hm;rw [ho] at ho';cases ho';exact ⟨_,es',ep',hL,r'⟩) hok hg
theorem Inv.turned {t':Nat} {it:Addr} (I:Inv X vA σ H s) (k:∀b o,b≠it->s.heap.get? b=some o->h'.get? b=some o) (hn:H it=none) (hL:it≠X.env.locals)
 (h1:it∈X.ex∨X.s₀.heap.objs.size<=it) (h2:∀x c,X.env.cells.lookup x=some c->c≠it) (h3:∀p∈X.pn++vA,p.1≠it):Inv X vA σ H { s with heap:=h',toks:=t' }:=by
 have nit:∀b u,H b=some u->b≠it:=λb u e z=>by rw [z,hn] at e;cases e
 refine I.step (g':=s.gens) (d':=s.drawn) (ch:=[it]) (λb hb=>?_) (λb o _ _ hc e _=>k b o (λz=>hc (by simp [z])) e) (λb o _ _ hc e _=>⟨o.slots,k b o (λz=>hc (by simp [z])) e⟩) (λ_ _ _ _ n=>n)
  (λb o hc e=>⟨o,k b o (λz=>hc (by simp [z])) e⟩) (λ_ _ e=>e) (λ_ _ _ e=>e) (λb ps e=>⟨#[],by rw [e];simp⟩) (λm hm=>?_) (λb u e=>?_) I.bare
 ·have e:b=it:=by simpa using hb
  subst e;exact ⟨h1,hL,h2,h3⟩
 ·obtain ⟨o,es,ep,ho,r⟩:=hm;exact ⟨o,es,ep,k _ o (Ne.symm hL) ho,r⟩
 ·refine (I.hok b u e).stay (λc v hc q=>k c v ?_ q) (λ_ q=>q) λ_ _ q=>q
  rcases hc with z | z
  ·rw [z];exact nit b u e
  ·exact nit c _ z
theorem Inv.tok (I:Inv X vA σ H s) (t:Nat):Inv X vA σ H { s with toks:=t }:=I.un (h':=s.heap) (t':=t) Un.refl I.hok
theorem Inv.kept {t':Nat} (I:Inv X vA σ H s) (k:∀b u,s.heap.get? b=some u->h'.get? b=some u):Inv X vA σ H { s with heap:=h',toks:=t' }:=I.un (Un.kept k) (I.hok.kept k)
theorem Inv.laid {a:Addr} {o:HO} {t':Nat} (I:Inv X vA σ H s) (k:∀b u,s.heap.get? b=some u->h'.get? b=some u) (hp:s.heap.objs.size<=a) (new:ObjOk X.prog X.w (upd H a o) h' a o) :
 Inv X vA σ (upd H a o) { s with heap:=h',toks:=t' }:=I.un (Un.laid k hp (I.hok.fresh hp)) (I.hok.laid k hp new)
theorem Inv.write {x e:Addr} {o:HO} {t':Nat} (I:Inv X vA σ H s) (mu:Mut (H x)) (he:e=x∨H e=some (.own x)) (k:∀b u,b≠e->s.heap.get? b=some u->h'.get? b=some u) (heo:∃u,h'.get? e=some u)
 (new:ObjOk X.prog X.w (upd H x o) h' x o):Inv X vA σ (upd H x o) { s with heap:=h',toks:=t' }:=I.un (Un.write mu he k heo) (I.hok.write mu he k heo new)
theorem Inv.pins_of {pins':List (Addr×Obj)} (I:Inv X vA σ H s) (h:∀p∈pins',s.heap.get? p.1=some p.2/\H p.1=none/\p.1≠X.env.locals/\p.1∉X.fs/\∀v,p.2.data≠.cell v):Inv X pins' σ H s:=
 ⟨I.ok,I.os,I.bare,I.base,I.loc,I.cell,I.free,I.freeC,λp hp=>(List.mem_append.mp hp).elim (λz=>I.pin p (List.mem_append_left _ z)) (h p),I.hok,I.len⟩
theorem xB {N:List Str} (hN:N.Nodup) {i j:Nat} {x:Str} (a:N[i]?=some x) (b:N[j]?=some x):i=j:=by
 obtain ⟨h1,e1⟩:=List.getElem?_eq_some_iff.mp a;obtain ⟨h2,e2⟩:=List.getElem?_eq_some_iff.mp b;exact (List.getElem_inj hN).mp (e1.trans e2.symm)
theorem UL {M:Model} {A:Around} {E:Value->Shared->Prop} {i:Nat} {x:Str} {v:V} {u:Value} {Q:Unit->Shared->Prop} (I:Inv X vA σ H s) (hN:X.N.Nodup) (hi:X.N[i]?=some x) (hx:Loc X.env.scope x) (r:RelV v u)
 (h:∀s',Inv X vA (σ.set i (some v)) H s'->(∃a,Heap.SameBut a s.heap s'.heap/\(a=X.env.locals∨X.env.cells.lookup x=some a))->Q () s') (hf:X.fn x=true∨X.env.scope.names.lookup x=some .local:=by walk_at "v2"):wpAny M A (storeName X.env x u) Q E s:=by
 obtain ⟨m,hn,hl⟩:=id I.loc;have hcls:(X.env.scope.kind==.class || (X.env.scope.kind==.module && X.env.locals != X.env.globals))=false:=by rw [I.ok.kind];rfl
 have hiσ:i < σ.length:=by rw [I.len];exact (List.getElem?_eq_some_iff.mp hi).1
 have cne:=I.cne;have tracked:∀{a:Addr} {h':Heap},(∃o,s.heap.get? a=some o/\H a=none)->Heap.SameBut a s.heap h'->HOk X.prog X.w H h':=λ{a h'} ha hs b ob e=>by
  obtain ⟨_,_,hfree⟩:=ha;refine (I.hok b ob e).stay (λc w' hc q=>(hs.2 c ?_).trans q) (λ_ q=>q) λ_ _ q=>q
  rintro rfl;rcases hc with rfl | hc
  ·rw [hfree] at e;cases e
  ·rw [hfree] at hc;cases hc
 rcases hx with hk | hk
 ·refine wpAny_storeName_local hk hn (λh' hn' hs=>?_) hcls;obtain ⟨oL,_,_,hoL,_⟩:=id hn;refine h _ ⟨I.ok,I.os,I.bare,⟨λb o e n hb hx=>?_,λb o e n hb hx=>?_,I.base.free,λb o e hx=>?_,I.base.tups,I.base.frzs,I.base.tbls⟩,⟨_,hn',λj y v' e1 e2 e3=>?_⟩,λy c e=>?_,I.free,I.freeC,λp hp=>?_,tracked ⟨oL,hoL,I.free⟩ hs,by simpa using I.len⟩ ⟨_,hs,.inl rfl⟩
  ·exact (hs.2 b (Nat.ne_of_lt (Nat.lt_of_lt_of_le (Heap.lt_size e) I.ok.above))).trans (I.base.keep b o e n hb hx)
  ·obtain ⟨sl,e1⟩:=I.base.slot b o e n hb hx;exact ⟨sl,(hs.2 b (Nat.ne_of_lt (Nat.lt_of_lt_of_le (Heap.lt_size e) I.ok.above))).trans e1⟩
  ·obtain ⟨o',e1⟩:=I.base.there b o e hx;exact ⟨o',(hs.2 b (Nat.ne_of_lt (Nat.lt_of_lt_of_le (Heap.lt_size e) I.ok.above))).trans e1⟩
  ·by_cases hj:j=i
   ·subst hj;rw [hi] at e1;cases e1;rw [List.getElem?_set_self hiσ] at e2;cases e2;exact ⟨u,r,.inl ⟨hk,by simp⟩⟩
   ·rw [List.getElem?_set_ne (Ne.symm hj)] at e2;obtain ⟨u',r',q⟩:=hl j y v' e1 e2 e3;refine ⟨u',r',?_⟩;rcases q with ⟨k,e⟩ | ⟨k,c,e,z⟩
    ·refine .inl ⟨k,?_⟩;have:y≠x:=λe=>hj (xB hN e1 (e ▸ hi))
     simp [this,e]
    ·exact .inr ⟨k,c,e,z.sameBut hs (cne y c e)⟩
  ·obtain ⟨w',z⟩:=I.cell y c e;exact ⟨w',z.sameBut hs (cne y c e)⟩
  ·obtain ⟨e,n,ne,nf,d⟩:=I.pin p hp;exact ⟨(hs.2 p.1 ne).trans e,n,ne,nf,d⟩
 ·have hfn:X.fn x=true:=by
   rcases hf with z | z
   ·exact z
   ·rw [z] at hk;cases hk
  obtain ⟨c,hc⟩:=I.ok.has x (.inl hk);obtain ⟨w',z⟩:=I.cell x c hc;refine wpAny_storeName_cell I.ok.kind hk hc z (λh' hc' hs=>?_);obtain ⟨oc,hoc,hocd⟩:=id z;refine h { s with heap:=h' } ⟨I.ok,I.os,I.bare,⟨λb o e n hb hx=>?_,λb o e n hb hx=>?_,I.base.free,λb o e hx=>?_,I.base.tups,I.base.frzs,I.base.tbls⟩,⟨m,hn.sameBut hs (Ne.symm (cne x c hc)),λj y v' e1 e2 e3=>?_⟩,λy c' e=>?_,I.free,I.freeC,λp hp=>?_,tracked ⟨oc,hoc,I.freeC x c hc⟩ hs,by simpa using I.len⟩ ⟨c,hs,.inr hc⟩
  ·exact (hs.2 b (Nat.ne_of_lt (Nat.lt_of_lt_of_le (Heap.lt_size e) (I.ok.cab x c hfn hc)))).trans (I.base.keep b o e n hb hx)
  ·obtain ⟨sl,e1⟩:=I.base.slot b o e n hb hx;exact ⟨sl,(hs.2 b (Nat.ne_of_lt (Nat.lt_of_lt_of_le (Heap.lt_size e) (I.ok.cab x c hfn hc)))).trans e1⟩
  ·obtain ⟨o',e1⟩:=I.base.there b o e hx;exact ⟨o',(hs.2 b (Nat.ne_of_lt (Nat.lt_of_lt_of_le (Heap.lt_size e) (I.ok.cab x c hfn hc)))).trans e1⟩
  ·by_cases hj:j=i
   ·subst hj;rw [hi] at e1;cases e1;rw [List.getElem?_set_self hiσ] at e2;cases e2;exact ⟨u,r,.inr ⟨.inl hk,c,hc,hc'⟩⟩
   ·rw [List.getElem?_set_ne (Ne.symm hj)] at e2;obtain ⟨u',r',q⟩:=hl j y v' e1 e2 e3;refine ⟨u',r',?_⟩;rcases q with q | ⟨k,c',e,z'⟩
    ·exact .inl q
    ·refine .inr ⟨k,c',e,z'.sameBut hs ?_⟩;rintro rfl;exact hj (xB hN e1 (I.ok.inj _ _ _ e hc ▸ hi))
  ·by_cases hcc:c'=c
   ·subst hcc;exact ⟨_,hc'⟩
   ·obtain ⟨w2,z2⟩:=I.cell y c' e;exact ⟨w2,z2.sameBut hs hcc⟩
  ·obtain ⟨e,n,ne,nf,d⟩:=I.pin p hp;refine ⟨(hs.2 p.1 ?_).trans e,n,ne,nf,d⟩;intro q;rw [q,hoc] at e;have q':oc=p.2:=Option.some.inj e;exact d w' (by rw [<-q'];exact hocd)
theorem xC {M:Model} {A:Around} {E:Value->Shared->Prop} {i:Nat} {x:Str} {v:V} {u:Value} {Q:Unit->Shared->Prop} (I:Inv X vA σ H s) (hN:X.N.Nodup) (hi:X.N[i]?=some x) (hx:Loc X.env.scope x) (r:RelV v u)
 (h:∀s',Inv X vA (σ.set i (some v)) H s'->Q () s') (hf:X.fn x=true∨X.env.scope.names.lookup x=some .local:=by walk_at "v2"):wpAny M A (storeName X.env x u) Q E s:=
 UL I hN hi hx r (λs' I' _=>h s' I') hf
theorem Inv.call' {s':Shared} {ch:List Addr} (I:Inv X vA σ H s) (ho:s'.os=s.os) (u:Un (frs X.stack) ch H H' s.heap s'.heap) (hok:HOk X.prog X.w H' s'.heap) (hg:AllBare s'.gens)
 (hch:∀b∈ch,(b∈X.ex∨X.s₀.heap.objs.size<=b)/\b≠X.env.locals/\(∀x c,X.env.cells.lookup x=some c->c≠b)/\∀p∈X.pn++vA,p.1≠b):Inv X vA σ H' s':=by
 obtain ⟨h',g',d',t',o'⟩:=s';have e:o'=s.os:=ho;subst e;exact I.call (g':=g') (t':=t') (d':=d') u hok hg hch
end
abbrev XK:=Value->Option Addr->Hp->Prop
abbrev St:=List (Option V)
abbrev VK:=V->Hp->Prop
abbrev TE:=St->Hp->VK->Prop
abbrev TT:=St->Hp->(Bool->Hp->Prop)->Prop
abbrev TA:=St->Hp->(List V->Hp->Prop)->Prop
structure Ends where
 nx:St->Hp->Prop
 rt:VK
 bk:St->Hp->Prop:=λ_ _=>False
 ct:St->Hp->Prop:=λ_ _=>False
abbrev TS:=Ends->St->Hp->Prop
def EP (X:Cx) (vA:List (Addr×Obj)) (σ:St) (Q:VK) (u:Value) (s':Shared):Prop:=∃v H',Inv X vA σ H' s'/\RelV v u/\Q v H'
def TP (X:Cx) (vA:List (Addr×Obj)) (σ:St) (Q:Bool->Hp->Prop) (b:Bool) (s':Shared):Prop:=∃H',Inv X vA σ H' s'/\Q b H'
def AP (X:Cx) (vA:List (Addr×Obj)) (σ:St) (Q:List V->Hp->Prop) (us:List Value) (s':Shared):Prop:=∃vs H',Inv X vA σ H' s'/\Vals vs us/\Q vs H'
def SP (X:Cx) (vA:List (Addr×Obj)) (D:Ends) (f:Flow) (s':Shared):Prop:=
 match f with
 | .next=>∃σ' H',Inv X vA σ' H' s'/\D.nx σ' H'
 | .brk=>∃σ' H',Inv X vA σ' H' s'/\D.bk σ' H'
 | .cont=>∃σ' H',Inv X vA σ' H' s'/\D.ct σ' H'
 | .ret u=>∃v σ' H',Inv X vA σ' H' s'/\RelV v u/\D.rt v H'
def PE (X:Cx) (e:Expr) (t:TE):Prop:=
 ∀(vA:List (Addr×Obj)) (s:Shared) (σ:St) (H:Hp) (Q:VK),Inv X vA σ H s->t σ H Q->wpAny (model X.prog X.w) X.A (eval e X.env) (EP X vA σ Q) X.xe s
def PT (X:Cx) (e:Expr) (t:TT):Prop:=
 ∀(vA:List (Addr×Obj)) (s:Shared) (σ:St) (H:Hp) (Q:Bool->Hp->Prop),Inv X vA σ H s->t σ H Q->wpAny (model X.prog X.w) X.A (isTrue e X.env (eval e X.env)) (TP X vA σ Q) X.xe s
def PW (X:Cx) (e:Expr) (t:TT):Prop:=
 ∀(whole:Sem Value) (vA:List (Addr×Obj)) (s:Shared) (σ:St) (H:Hp) (Q:Bool->Hp->Prop),Inv X vA σ H s->t σ H Q->wpAny (model X.prog X.w) X.A (isTrue e X.env whole) (TP X vA σ Q) X.xe s
theorem PW.pt {X:Cx} {e:Expr} {t:TT} (h:PW X e t):PT X e t:=h _
def PA (X:Cx) (es:List Expr) (t:TA):Prop:=
 ∀(pos:Pos) (vA:List (Addr×Obj)) (s:Shared) (σ:St) (H:Hp) (Q:List V->Hp->Prop),Inv X vA σ H s->t σ H Q->wpAny (model X.prog X.w) X.A (spliced (backTo pos (starEach es X.env))) (AP X vA σ Q) X.xe s
def PS (X:Cx) (st:Stmt) (t:TS):Prop:=
 ∀(vA:List (Addr×Obj)) (s:Shared) (σ:St) (H:Hp) (D:Ends),Inv X vA σ H s->t D σ H->wpAny (model X.prog X.w) X.A (exec st X.env) (SP X vA D) X.xe s
def PSs (X:Cx) (st:List Stmt) (t:TS):Prop:=
 ∀(vA:List (Addr×Obj)) (s:Shared) (σ:St) (H:Hp) (D:Ends),Inv X vA σ H s->t D σ H->wpAny (model X.prog X.w) X.A (execs st X.env) (SP X vA D) X.xe s
theorem thn {α:Type} {t:Sem α} {Q Q':α->Shared->Prop} {M:Model} {A:Around} {E:Value->Shared->Prop} {s:Shared} (h:wpAny M A t Q E s) (hQ:∀a s,Q a s->Q' a s):wpAny M A t Q' E s:=wpAny_mono h hQ λ_ _ x=>x
section
variable {X:Cx}
def UM (i:Nat):TE:=fun σ H Q=>∃v,σ[i]?=some (some v)/\Q v H
def tC (v:V):TE:=λ_ H Q=>Q v H
theorem gW {i:Nat} {x:Str} {pos:Pos} (hN:X.N[i]?=some x) (hv:Vis X.env.scope x) (hd:(x==("__debug__" : Str))=false:=by decide) (hcd:(x==("__classdict__" : Str))=false:=by decide):PE X (.Name x pos) (UM i):=by
 intro vA s σ H Q I h;obtain ⟨v,e,h⟩:=h;obtain ⟨m,hn,hl⟩:=I.loc;obtain ⟨u,r,l⟩:=hl i x v hN e hv;have fin:EP X vA σ Q u s:=⟨v,H,I,r,h⟩
 rcases l with ⟨hk,hm⟩ | ⟨hk,c,hc,hcell⟩
 ·exact wpAny_Name (wpAny_loadName_local I.ok.kind hk hn hm fin) hd
 ·rcases hk with hk | hk
  ·exact wpAny_Name (wpAny_loadName_cell I.ok.kind hk hc hcell fin) hd
  ·exact wpAny_Name (wpAny_loadName_free I.ok.kind hk hc hcell fin hcd) hd
theorem UN {i j pos}:PE X (.Constant (.int i) j pos) (tC (.int i)):=λ_ _ _ H _ I h=>wpAny_Constant_int ⟨.int i,H,I.tok _,⟨_,rfl⟩,h⟩
theorem UO {b j pos}:PE X (.Constant (.bool b) j pos) (tC (.bl b)):=λ_ _ _ H _ I h=>Constant_bool ⟨.bl b,H,I,rfl,h⟩
theorem UP {j pos}:PE X (.Constant .none j pos) (tC .non):=λ_ _ _ H _ I h=>Constant_none ⟨.non,H,I,rfl,h⟩
theorem UQ {x j pos}:PE X (.Constant (.str x) j pos) (tC (.str x)):=λ_ _ _ H _ I h=>Calls.Constant_str ⟨.str x,H,I.tok _,⟨_,rfl⟩,h⟩
def Gl (X:Cx) (x:Str):Prop:=X.env.kindOf x=some .globalImplicit
theorem oE {E:Value->Shared->Prop} {vA:List (Addr×Obj)} {s:Shared} {σ:St} {H:Hp} {x:Str} {u:Value} {pos:Pos} {Q:Value->Shared->Prop} (I:Inv X vA σ H s) (hg:Gl X x) (hm:X.mg x=some u) (h:Q u s)
 (hd:(x==("__debug__" : Str))=false:=by decide):wpAny (model X.prog X.w) X.A (eval (.Name x pos) X.env) Q E s:=
 Calls.Name_function_global I.ok.kind hg (Calls.loadGlobal_global (by rw [I.ok.glob];exact I.mod.glob.keeps I.bk) hm h) hd
theorem gX {E:Value->Shared->Prop} {vA:List (Addr×Obj)} {s:Shared} {σ:St} {H:Hp} {x:Str} {u:Value} {pos:Pos} {Q:Value->Shared->Prop} (I:Inv X vA σ H s) (hg:Gl X x) (hm:X.mg x=none) (hv:bootBuiltins x=some u) (h:Q u s)
 (hn:x≠"__name__":=by decide) (hd:(x==("__debug__" : Str))=false:=by decide):wpAny (model X.prog X.w) X.A (eval (.Name x pos) X.env) Q E s:=by
 obtain ⟨mb,h1,h2⟩:=I.mod.blt;exact Calls.Name_function_global I.ok.kind hg (Calls.loadGlobal_builtin (by rw [I.ok.glob];exact I.mod.glob.keeps I.bk) hm (by rw [I.ok.blt];exact h1.keeps I.bk) ((h2 x hn).trans hv) h) hd
theorem FP {x:Str} {v:V} {u:Value} {pos:Pos} (hg:Gl X x) (hm:X.mg x=some u) (r:RelV v u) (hd:(x==("__debug__" : Str))=false:=by decide):PE X (.Name x pos) (tC v):=
 λ_ _ _ H _ I h=>oE I hg hm ⟨v,H,I,r,h⟩ hd
theorem FQ {x:Str} {v:V} {u:Value} {pos:Pos} (hg:Gl X x) (hm:X.mg x=none) (hv:bootBuiltins x=some u) (r:RelV v u) (hn:x≠"__name__":=by decide) (hd:(x==("__debug__" : Str))=false:=by decide):PE X (.Name x pos) (tC v):=
 λ_ _ _ H _ I h=>gX I hg hm hv ⟨v,H,I,r,h⟩ hn hd
variable {a b:Expr} {ta tb:TE} {pos:Pos}
variable {tA tB':TT} {rest:List Expr}
def tOr (t u:TT):TT:=fun σ H Q=>t σ H λc H1=>if c=true then Q true H1 else u σ H1 Q
def UR (t:TT):TT:=fun σ H Q=>t σ H λc H1=>Q (!c) H1
theorem US (ha:PT X a tA):PW X (.BoolOp .Or [a] pos) tA:=by
 intro wh vA s σ H Q I h;refine isTrue_or (thn (ha vA s σ H Q I h) λc s1 e=>?_);cases c with
 | false=>exact isTrue_or_nil e
 | true=>exact e
theorem UT (ha:PT X a tA) (hb:PW X (.BoolOp .Or (b::rest) pos) tB'):PW X (.BoolOp .Or (a::b::rest) pos) (tOr tA tB'):=by
 intro wh vA s σ H Q I h;refine isTrue_or (thn (ha vA s σ H _ I h) λc s1 ⟨H1,I1,q1⟩=>?_);cases c with
 | true=>exact ⟨H1,I1,q1⟩
 | false=>exact hb wh vA s1 σ H1 Q I1 q1
theorem UU (ha:PT X a tA):PT X (.UnaryOp .Not a pos) (UR tA):=by
 intro vA s σ H Q I h;exact isTrue_not (ha vA s σ H (λc H1=>Q (!c) H1) I h)
def UV (ta tb:TE):TE:=fun σ H Q=>ta σ H λx H1=>∃c,x=.bl c/\if c=true then tb σ H1 Q else Q (.bl false) H1
def UW (ta:TE):TE:=fun σ H Q=>ta σ H λx H1=>∃c,x=.bl c/\Q (.bl (!c)) H1
theorem UX {op} {t:TE} (h:PE X a t):PE X (.BoolOp op [a] pos) t:=λvA s σ H Q I hw=>BoolOp_one (h vA s σ H Q I hw)
theorem UY (ha:PE X a ta) (hb:PE X (.BoolOp .And (b::rest) pos) tb):PE X (.BoolOp .And (a::b::rest) pos) (UV ta tb):=by
 intro vA s σ H Q I h;refine BoolOp_and (thn (ha vA s σ H _ I h) λv s1 ⟨x,H1,I1,r1,q1⟩=>?_);obtain ⟨c,rfl,q1⟩:=q1;cases r1;refine wpAny_truthy_bool ?_;cases c with
 | true=>exact hb vA s1 σ H1 Q I1 q1
 | false=>exact ⟨.bl false,H1,I1,rfl,q1⟩
theorem UZ (ha:PE X a ta):PE X (.UnaryOp .Not a pos) (UW ta):=by
 intro vA s σ H Q I h;refine UnaryOp_ (thn (ha vA s σ H _ I h) λv s1 ⟨x,H1,I1,r1,q1⟩=>?_);obtain ⟨c,rfl,q1⟩:=q1;cases r1;exact not_of (wpAny_truthy_bool ⟨.bl (!c),H1,I1,rfl,q1⟩)
end
def SqL (K:PySem.W.Frag) (H:Hp) (a:Addr) (xs:List V):Prop:=
 Rd H a (.lst xs) ∨
  ∃(o:Obj) (its:Array Value) (n:Nat),K.lookup a=some o/\o.cls=.type "list"/\o.dict=none/\o.data=.seq its n/\its.size<=sizeLine/\Vals xs its.toList
def SqT (K:PySem.W.Frag) (H:Hp) (a:Addr) (xs:List V):Prop:=
 Rd H a (.tup xs) ∨
  ∃(o:Obj) (its:Array Value) (n:Nat),K.lookup a=some o/\o.cls=.type "tuple"/\o.data=.seq its n/\its.size<=sizeLine/\Vals xs its.toList
def VA:Value->Option V
 | .none=>some .non
 | .bool b=>some (.bl b)
 | .int i _=>some (.int i)
 | .str x _=>some (.str x)
 | .bytes b _=>some (.byt b)
 | .float b _=>some (.flt b)
 | .ref a=>some (.ref a)
 | .type n=>some (.ty n)
 | _=>none
theorem RelV.abs {x:V} {u:Value} (r:RelV x u):VA u=some x:=by
 cases x with
 | non=>cases r;rfl
 | bl _=>cases r;rfl
 | int _=>obtain ⟨t,rfl⟩:=r;rfl
 | str _=>obtain ⟨t,rfl⟩:=r;rfl
 | byt _=>obtain ⟨t,rfl⟩:=r;rfl
 | flt _=>obtain ⟨t,rfl⟩:=r;rfl
 | ref _=>cases r;rfl
 | ty _=>cases r;rfl
theorem RelV.inj {x y:V} {u:Value} (r:RelV x u) (q:RelV y u):x=y:=Option.some.inj (r.abs.symm.trans q.abs)
theorem Vals.inj:∀{xs ys:List V} {us:List Value},Vals xs us->Vals ys us->xs=ys
 | _,_,_,.nil,.nil=>rfl
 | _,_,_,.cons r t,.cons r' t'=>by rw [r.inj r',Vals.inj t t']
section
variable {X:Cx} {vA:List (Addr×Obj)} {σ:St} {H:Hp} {s:Shared} {a:Addr} {xs ys:List V}
theorem SqL.of {K:PySem.W.Frag} (h:H a=some (.lst xs)):SqL K H a xs:=.inl (.inl h)
theorem SqT.of {K:PySem.W.Frag} (h:H a=some (.tup xs)):SqT K H a xs:=.inl (.inl h)
theorem Inv.list (I:Inv X vA σ H s) (h:SqL X.K H a xs):∃its:List Value,Vals xs its/\PlainL s.heap a its.toArray/\xs.length<=sizeLine:=by
 rcases h with h | ⟨o,its,n,hk,hc,hd,hs,hz,r⟩
 ·obtain ⟨z,its,n,r,e⟩:=h.ok I.hok;exact ⟨its,r,⟨_,n,e,rfl,rfl,rfl⟩,z⟩
 ·refine ⟨its.toList,r,⟨o,n,I.kIn a o hk,hc,hd,by simpa using hs⟩,?_⟩;have e:=r.length;simp only [Array.length_toList] at e;omega
theorem Inv.tuple (I:Inv X vA σ H s) (h:SqT X.K H a xs):∃its:List Value,Vals xs its/\IsTup s.heap a its.toArray/\xs.length<=sizeLine:=by
 rcases h with h | ⟨o,its,n,hk,hc,hs,hz,r⟩
 ·obtain ⟨z,its,r,p⟩:=h.ok I.hok;exact ⟨its,r,p,z⟩
 ·refine ⟨its.toList,r,⟨o,I.kIn a o hk,hc,n,by simpa using hs⟩,?_⟩;have e:=r.length;simp only [Array.length_toList] at e;omega
theorem Inv.list_inj (I:Inv X vA σ H s) (h:SqL X.K H a xs) (h':SqL X.K H a ys):xs=ys:=by
 obtain ⟨its,r,⟨o,n,e,_,_,d⟩,_⟩:=I.list h;obtain ⟨its',r',⟨o',n',e',_,_,d'⟩,_⟩:=I.list h';rw [e] at e';cases e';rw [d] at d'
 injection d' with d1 _
 have:its=its':=by simpa using congrArg Array.toList d1
 subst this;exact r.inj r'
theorem Inv.tuple_inj (I:Inv X vA σ H s) (h:SqT X.K H a xs) (h':SqT X.K H a ys):xs=ys:=by
 obtain ⟨its,r,⟨o,e,_,n,d⟩,_⟩:=I.tuple h;obtain ⟨its',r',⟨o',e',_,n',d'⟩,_⟩:=I.tuple h';rw [e] at e';cases e';rw [d] at d'
 injection d' with d1 _
 have:its=its':=by simpa using congrArg Array.toList d1
 subst this;exact r.inj r'
end
abbrev Cx.wish (X:Cx) (E:Value->Shared->Prop):Cx:={ X with xe:=E }
theorem Cx.Ok.wish {X:Cx} (ok:X.Ok) (E:Value->Shared->Prop):(X.wish E).Ok:=
 ⟨ok.mod,ok.kind,ok.glob,ok.blt,ok.above,ok.inj,ok.has,ok.cab,ok.hd,ok.frames,ok.stk,ok.exf,ok.bs,ok.bsz,ok.noex,ok.exfs,ok.funs,ok.frf⟩
theorem Cx.Ok.unwish {X:Cx} {E:Value->Shared->Prop} (ok:(X.wish E).Ok):X.Ok:=
 ⟨ok.mod,ok.kind,ok.glob,ok.blt,ok.above,ok.inj,ok.has,ok.cab,ok.hd,ok.frames,ok.stk,ok.exf,ok.bs,ok.bsz,ok.noex,ok.exfs,ok.funs,ok.frf⟩
section
variable {X:Cx} {vA:List (Addr×Obj)} {σ:St} {H:Hp} {s:Shared} {E:Value->Shared->Prop}
theorem Inv.wish (I:Inv X vA σ H s) (E:Value->Shared->Prop):Inv (X.wish E) vA σ H s:=⟨I.ok.wish E,I.os,I.bare,I.base,I.loc,I.cell,I.free,I.freeC,I.pin,I.hok,I.len⟩
theorem Inv.unwish (I:Inv (X.wish E) vA σ H s):Inv X vA σ H s:=⟨I.ok.unwish,I.os,I.bare,I.base,I.loc,I.cell,I.free,I.freeC,I.pin,I.hok,I.len⟩
variable {st:Stmt} {rest:List Stmt} {t u:TS} {e:Expr} {te:TE} {pos:Pos}
def VB:TS:=λD σ H=>D.nx σ H
def VC (t u:TS):TS:=λD σ H=>t { D with nx:=u D } σ H
theorem VD:PSs X [] VB:=λ_ _ σ H _ I h=>wpAny_execs_nil ⟨σ,H,I,h⟩
theorem VE (h1:PS X st t) (h2:PSs X rest u):PSs X (st::rest) (VC t u):=by
 intro vA s σ H D I h;refine wpAny_execs_cons (thn (h1 vA s σ H { D with nx:=u D } I h) λf s1 q=>?_);cases f with
 | next=>
  obtain ⟨σ',H',I',q⟩:=q;exact h2 vA s1 σ' H' D I' q
 | ret v=>exact q
 | brk=>exact q
 | cont=>exact q
theorem VF (h1:PS X st t):PSs X [st] t:=by
 intro vA s σ H D I h;refine wpAny_execs_cons (thn (h1 vA s σ H D I h) λf s1 q=>?_);cases f with
 | next=>exact wpAny_execs_nil q
 | ret v=>exact q
 | brk=>exact q
 | cont=>exact q
theorem Inv.quiet {vA:List (Addr×Obj)} {σ:St} {H:Hp} {s:Shared} (I:Inv X vA σ H s):interactive X.env=false:=by simp [interactive,I.ok.kind]
def VG (te:TE):TS:=λD σ H=>te σ H λ_ H1=>D.nx σ H1
theorem xD (he:PE X e te) (hs:swapsWith e none pos.line X.env=pure false:=by rfl):PS X (.Expr e pos) (VG te):=by
 intro vA s σ H D I h;exact wpAny_Expr_any (thn (he vA s σ H _ I h) λv s1 ⟨x,H1,I1,r1,q1⟩=>⟨σ,H1,I1,q1⟩) I.quiet hs
def VH (te:TE):TS:=λD σ H=>te σ H D.rt
theorem xE (he:PE X e te):PS X (.Return (some e) pos) (VH te):=by
 intro vA s σ H D I h;exact wpAny_Return_some (thn (he vA s σ H _ I h) λv s1 ⟨x,H1,I1,r1,q1⟩=>⟨x,σ,H1,I1,r1,q1⟩)
def VI (c:TT) (t u:TS):TS:=λD σ H=>c σ H λb H1=>if b=true then t D σ H1 else u D σ H1
theorem VJ {c:Expr} {a b:List Stmt} {tc:TT} (hc:PT X c tc) (ha:PSs X a t) (hb:PSs X b u):PS X (.If c a b pos) (VI tc t u):=by
 intro vA s σ H D I h;refine wpAny_If (thn (hc vA s σ H _ I h) λd s1 ⟨H1,I1,q1⟩=>?_);cases d with
 | true=>exact ha vA s1 σ H1 D I1 q1
 | false=>exact hb vA s1 σ H1 D I1 q1
end
abbrev TG:=V->St->Hp->(St->Hp->Prop)->Prop
abbrev TGs:=List V->St->Hp->(St->Hp->Prop)->Prop
def PG (X:Cx) (target:Expr) (t:TG):Prop:=
 ∀(vA:List (Addr×Obj)) (s:Shared) (σ:St) (H:Hp) (v:V) (u:Value) (Q:St->Hp->Prop),Inv X vA σ H s->RelV v u->t v σ H Q ->
  wpAny (model X.prog X.w) X.A (assign target X.env u) (λ_ s'=>∃σ' H',Inv X vA σ' H' s'/\Q σ' H') X.xe s
def PGs (X:Cx) (ts:List Expr) (t:TGs):Prop:=
 ∀(vA:List (Addr×Obj)) (s:Shared) (σ:St) (H:Hp) (vs:List V) (us:List Value) (Q:St->Hp->Prop),Inv X vA σ H s->Vals vs us->t vs σ H Q ->
  wpAny (model X.prog X.w) X.A (assignInOrder ((assignEach ts X.env).map (·.2)) us) (λ_ s'=>∃σ' H',Inv X vA σ' H' s'/\Q σ' H') X.xe s
abbrev xF:=V->V->V->Hp->(Hp->Prop)->Prop
def xG (X:Cx) (t:xF):Prop:=
 ∀(vA:List (Addr×Obj)) (s:Shared) (σ:St) (H:Hp) (o i v:V) (ov iv u:Value) (Q:Hp->Prop),Inv X vA σ H s->RelV o ov->RelV i iv->RelV v u->t o i v H Q ->
  wpAny (model X.prog X.w) X.A (setItem ov iv u) (λ_ s'=>∃H',Inv X vA σ H' s'/\Q H') X.xe s
abbrev TIp:=V->V->Hp->VK->Prop
def PIp (X:Cx) (op:Operator) (t:TIp):Prop:=
 ∀(vA:List (Addr×Obj)) (s:Shared) (σ:St) (H:Hp) (x y:V) (v u:Value) (Q:VK),Inv X vA σ H s->RelV x v->RelV y u->t x y H Q ->
  wpAny (model X.prog X.w) X.A (inplaceOp op v u) (EP X vA σ Q) X.xe s
section
variable {X:Cx} {pos:Pos}
def xH (i:Nat):TG:=λv σ H Q=>Q (σ.set i (some v)) H
theorem lZ {i:Nat} {x:Str} (hN:X.N.Nodup) (hi:X.N[i]?=some x) (hx:Loc X.env.scope x) (hf:X.fn x=true∨X.env.scope.names.lookup x=some .local:=by walk_at "v2"):PG X (.Name x pos) (xH i):=by
 intro vA s σ H v u Q I r h;exact wpAny_assign_Name (xC I hN hi hx r (λs' I'=>⟨_,H,I',h⟩) hf)
def VL:TGs:=λvs σ H Q=>vs=[]/\Q σ H
def VM (t:TG) (u:TGs):TGs:=λvs σ H Q=>∃v r,vs=v::r/\t v σ H fun σ' H'=>u r σ' H' Q
theorem FS:PGs X [] VL:=by
 intro vA s σ H vs us Q I r h;obtain ⟨e,h⟩:=h;subst e;cases r;exact assignInOrder_nil ⟨σ,H,I,h⟩
theorem xI {e:Expr} {es:List Expr} {t:TG} {u:TGs} (h1:PG X e t) (h2:PGs X es u)
 (hs:(assignEach (e::es) X.env).map (·.2)=assign e X.env::(assignEach es X.env).map (·.2):=by rfl):PGs X (e::es) (VM t u):=by
 intro vA s σ H vs us Q I r h;obtain ⟨v,vr,e1,h⟩:=h;subst e1;cases r with
 | cons r rr=>
  rw [hs];refine assignInOrder_cons (thn (h1 vA s σ H _ _ _ I r h) λ_ s1 ⟨σ1,H1,I1,q1⟩=>?_);exact h2 vA s1 σ1 H1 _ _ Q I1 rr q1
def VN (K:PySem.W.Frag) (n:Nat) (t:TGs):TG:=λv σ H Q=>∃a xs,v=.ref a/\SqT K H a xs/\xs.length=n/\t xs σ H Q
theorem FT {es:List Expr} {k:Nat} {t:TGs} {n:Nat} (hc:X.calm=true) (h:PGs X es t)
 (hn:(assignEach es X.env).length=n:=by rfl) (hst:(assignEach es X.env).findIdx? (·.1)=none:=by rfl):PG X (.Tuple es k pos) (VN X.K n t):=by
 intro vA s σ H v u Q I r hw;obtain ⟨a,xs,e1,hq,hl,hw⟩:=hw;subst e1;cases r;obtain ⟨its,rv,ht,hz⟩:=I.tuple hq;refine assign_Tuple_tuple (I.ok.hd hc) ht (by simp [hn,<-hl,rv.length]) hst λh' hx=>?_
 have I1:Inv X vA σ H { s with heap:=h' }:=I.kept (t':=s.toks) λb o e=>hx b o (Nat.ne_of_lt (Heap.lt_size e)) e
 exact h vA _ σ H xs _ Q I1 (by simpa using rv) hw
def VO (to ti:TE) (t:xF):TG:=λv σ H Q=>to σ H λo H1=>ti σ H1 λi H2=>t o i v H2 λH3=>Q σ H3
theorem FU {o i:Expr} {to ti:TE} {t:xF} (ho:PE X o to) (hi:PE X i ti) (hs:xG X t)
 (ha:∀v,assign (.Subscript o i pos) X.env v=(do
  let ov <-holding [v] (eval o X.env)
  let iv <-holding [v,ov] (eval i X.env)
  standAt pos
  holding [v,ov,iv] (setItem ov iv v)
  release [v,ov,iv] []):=by intro _;rfl):PG X (.Subscript o i pos) (VO to ti t):=by
 intro vA s σ H v u Q I r h;rw [ha];refine wpAny_bind (wpAny_holding (thn (ho vA s σ H _ I h) λov s1 ⟨x,H1,I1,r1,q1⟩=>?_));refine wpAny_bind (wpAny_holding (thn (hi vA s1 σ H1 _ I1 q1) λiv s2 ⟨y,H2,I2,r2,q2⟩=>?_));refine wpAny_bind (wpAny_standAt (wpAny_bind (wpAny_holding (thn (hs vA s2 σ H2 x y v ov iv u _ I2 r1 r2 r q2) λ_ s3 ⟨H3,I3,q3⟩=>?_))));exact wpAny_release ⟨σ,H3,I3,q3⟩
def xJ (te:TE) (g:TG):TS:=λD σ H=>te σ H λx H1=>g x σ H1 D.nx
theorem xK {tg e:Expr} {te:TE} {g:TG} (he:PE X e te) (hg:PG X tg g) (hs:swapsWithSole [tg] e pos.line X.env=pure false:=by rfl) (hw:swappedStores [tg] e X.env=pure none:=by rfl)
 (h1:(assignEach [tg] X.env).map (·.2)=[assign tg X.env]:=by rfl):PS X (.Assign [tg] e pos) (xJ te g):=by
 intro vA s σ H D I h;refine wpAny_Assign_stores (thn (he vA s σ H _ I h) λv s1 ⟨x,H1,I1,r1,q1⟩=>?_) hs hw;rw [h1];exact thn (hg vA s1 σ H1 x v _ I1 r1 q1) λ_ s2 q=>q
theorem xL {i:Nat} {x:Str} {e:Expr} {te:TE} {pos':Pos} (hN:X.N.Nodup) (hi:X.N[i]?=some x) (hx:Loc X.env.scope x) (he:PE X e te) (hs:swapsWith e (some (.Name x pos')) pos.line X.env=pure false:=by rfl) (hf:X.fn x=true∨X.env.scope.names.lookup x=some .local:=by walk_at "v2") :
 PS X (.Assign [.Name x pos'] e pos) (xJ te (xH i)):=by
 intro vA s σ H D I h;refine wpAny_Assign_Name (thn (he vA s σ H _ I h) λv s1 ⟨y,H1,I1,r1,q1⟩=>?_) hs;exact xC I1 hN hi hx r1 (λs2 I2=>⟨_,H1,I2,q1⟩) hf
def VP (i:Nat) (te:TE) (ti:TIp):TS:=λD σ H=>∃x,σ[i]?=some (some x)/\te σ H λy H1=>ti x y H1 λz H2=>D.nx (σ.set i (some z)) H2
theorem VQ {i:Nat} {x:Str} {e:Expr} {te:TE} {op:Operator} {ti:TIp} {pos':Pos} (hN:X.N.Nodup) (hi:X.N[i]?=some x) (hx:Loc X.env.scope x) (he:PE X e te) (ho:PIp X op ti) (hf:X.fn x=true∨X.env.scope.names.lookup x=some .local:=by walk_at "v2") :
 PS X (.AugAssign (.Name x pos') op e pos) (VP i te ti):=by
 intro vA s σ H D I h;obtain ⟨v,e1,h⟩:=h;obtain ⟨m,hn,hl⟩:=I.loc;have vis:Vis X.env.scope x:=by rcases hx with k | k;exact .inl k;exact .inr (.inl k)
 obtain ⟨u,r,l⟩:=hl i x v hi e1 vis;refine wpAny_AugAssign_Name ?_;have go:wpAny (model X.prog X.w) X.A (eval e X.env) (λw s₂=>wpAny (model X.prog X.w) X.A (inplaceOp op u w) (λr s₃=>wpAny (model X.prog X.w) X.A (storeName X.env x r) (λ_=>SP X vA D .next) X.xe s₃) X.xe s₂) X.xe s:=by
  refine thn (he vA s σ H _ I h) λw s1 ⟨y,H1,I1,r1,q1⟩=>?_
  refine thn (ho vA s1 σ H1 v y u w _ I1 r r1 q1) λz s2 ⟨zv,H2,I2,r2,q2⟩=>?_
  exact xC I2 hN hi hx r2 (λs3 I3=>⟨_,H2,I3,q2⟩) hf
 rcases l with ⟨hk,hm⟩ | ⟨hk,c,hc,hcell⟩
 ·exact wpAny_loadName_local I.ok.kind hk hn hm go
 ·rcases hk with hk | hk
  ·exact wpAny_loadName_cell I.ok.kind hk hc hcell go
  ·rcases hx with k | k
   ·have:X.env.scope.names.lookup x=some .free:=hk;rw [k] at this;cases this
   ·have:X.env.scope.names.lookup x=some .free:=hk;rw [k] at this;cases this
def VR (c:TT) (tb:TS):TS:=λD σ H=>∃W:Nat->St->Hp->Prop,(∃m,W m σ H)/\∀m σ H,W m σ H ->
 c σ H λb H1=>if b=true then ∃N:St->Hp->Prop,(∀σ' H',N σ' H'->∃m',m' < m/\W m' σ' H')/\tb { D with nx:=N,ct:=N,bk:=D.nx } σ H1 else D.nx σ H1
theorem VS {c:Expr} {body:List Stmt} {tc:TT} {tb:TS} (hp:PassesOwn (model X.prog X.w) X.A X.env X.xe) (hc:PT X c tc) (hb:PSs X body tb):PS X (.While c body [] pos) (VR tc tb):=by
 intro vA s σ H D I h;obtain ⟨W,⟨m0,w0⟩,turn⟩:=h;refine wpAny_While (codeAny_whileLoop (λn s'=>∃σ' H',Inv X vA σ' H' s'/\W n σ' H') ?_ m0 ⟨σ,H,I,w0⟩);rintro n s1 ⟨σ1,H1,I1,w1⟩;refine wpAny_passesOwn hp (thn (hc vA s1 σ1 H1 _ I1 (turn n σ1 H1 w1)) λb s2 ⟨H2,I2,q2⟩=>?_);cases b with
 | true=>
  obtain ⟨N,hN,q2⟩:=q2;rw [if_pos rfl];refine wpAny_passesOwn hp (thn (hb vA s2 σ1 H2 _ I2 q2) λf s3 q3=>?_);cases f with
  | next=>
   obtain ⟨σ3,H3,I3,n3⟩:=q3;obtain ⟨m',hm,w3⟩:=hN σ3 H3 n3;exact ⟨m',hm,σ3,H3,I3,w3⟩
  | cont=>
   obtain ⟨σ3,H3,I3,n3⟩:=q3;obtain ⟨m',hm,w3⟩:=hN σ3 H3 n3;exact ⟨m',hm,σ3,H3,I3,w3⟩
  | brk=>exact q3
  | ret v=>exact q3
 | false=>
  rw [if_neg Bool.false_ne_true];exact wpAny_execs_nil ⟨σ1,H2,I2,q2⟩
end
structure It where
 go:Nat->Hp->Prop
 yld:Nat->Hp->V->Hp->Prop
 stop:Nat->Hp->Prop
def eX (X:Cx) (vA:List (Addr×Obj)) (H:Hp) (b:Addr):Prop:=
 H b=none/\b≠X.env.locals/\b∉X.fs/\(b∈X.ex∨X.s₀.heap.objs.size<=b)/\(∀x c,X.env.cells.lookup x=some c->c≠b)/\∀p∈X.pn++vA,p.1≠b
theorem Inv.fpOk {X:Cx} {vA:List (Addr×Obj)} {σ:St} {H H':Hp} {s:Shared} {b:Addr} (I:Inv X vA σ H s) (hb:s.heap.objs.size<=b) (hn:H' b=none):eX X vA H' b:=by
 refine ⟨hn,Nat.ne_of_gt (Nat.lt_of_lt_of_le I.lt hb),I.nofs hb,.inr (Nat.le_trans I.sz hb),λx c e z=>?_,λp hp z=>?_⟩
 ·obtain ⟨v,q⟩:=I.cell x c e;exact absurd (Nat.lt_of_lt_of_le q.lt (by rw [z];exact hb)) (Nat.lt_irrefl _)
 ·exact absurd (Nat.lt_of_lt_of_le (Heap.lt_size (I.pin p hp).1) (by rw [z];exact hb)) (Nat.lt_irrefl _)
structure VT (Cp:Cx->Prop) (P:Program) (w:World) (K:PySem.W.Frag) (tg:Expr) (J:It) (fp:List Addr) (it:Addr) (tn:Nat->Heap->Prop):Prop where
 mem:it∈fp
 obj:∀i h,tn i h->∀b∈fp,∃o,h.get? b=some o/\∀v,o.data≠.cell v
 keep:∀i h h',tn i h->(∀b∈fp,∀o,h.get? b=some o->h'.get? b=some o)->tn i h'
 item:∀(X:Cx),X.prog=P->X.w=w->X.K=K->Cp X->∀(i:Nat) (vA:List (Addr×Obj)) (s:Shared) (σ:St) (H:Hp) (E:Value->Shared->Prop),Inv X vA σ H s->(∀b∈fp,eX X vA H b)->tn i s.heap->J.go i H ->
  wpAny (model P w) X.A (pyNext (.ref it)) (λr s1=>∃u,r=some u /\
   wpAny (model P w) X.A (letOwnedTupleGo tg (.ref it) u) (λ_ s2=>∃x H',Inv X vA σ H' s2/\RelV x u/\J.yld i H x H'/\tn (i+1) s2.heap/\∀b∈fp,H' b=none) E s1) E s
 done:∀(X:Cx),X.prog=P->X.w=w->X.K=K->Cp X->∀(i:Nat) (vA:List (Addr×Obj)) (s:Shared) (σ:St) (H:Hp) (E:Value->Shared->Prop),Inv X vA σ H s->(∀b∈fp,eX X vA H b)->tn i s.heap->J.stop i H ->
  wpAny (model P w) X.A (pyNext (.ref it)) (λr s1=>r=none/\Inv X vA σ H s1) E s
 self:∀(A:Around) (i:Nat) (s:Shared) (Q:Value->Shared->Prop) (E:Value->Shared->Prop),tn i s.heap->Q (.ref it) s->wpAny (model P w) A (pyIter (.ref it)) Q E s
abbrev Turn (P:Program) (w:World) (K:PySem.W.Frag) (tg:Expr) (J:It) (fp:List Addr) (it:Addr) (tn:Nat->Heap->Prop):Prop:=VT (λX=>X.calm=true) P w K tg J fp it tn
abbrev TI:=St->Hp->(It->Hp->Prop)->Prop
def PIE (X:Cx) (vA:List (Addr×Obj)) (σ:St) (tg:Expr) (R:It->Hp->Prop) (itv:Value) (s2:Shared):Prop:=
 ∃(it:Addr) (fp:List Addr) (tn:Nat->Heap->Prop) (J:It) (H':Hp),itv=.ref it/\Inv X vA σ H' s2/\Turn X.prog X.w X.K tg J fp it tn/\tn 0 s2.heap/\(∀b∈fp,eX X vA H' b)/\R J H'
def PI (X:Cx) (tg iter:Expr) (wi:TI):Prop:=
 ∀(vA:List (Addr×Obj)) (s:Shared) (σ:St) (H:Hp) (R:It->Hp->Prop),Inv X vA σ H s->wi σ H R ->
  wpAny (model X.prog X.w) X.A (eval iter X.env) (λv s1=>wpAny (model X.prog X.w) X.A (pyIter v) (PIE X vA σ tg R) X.xe s1) X.xe s
theorem oF {M:Model} {A:Around} {E:Value->Shared->Prop} {s:Shared} {tg:Expr} {it:Addr} {u:Value} {o:Obj} {n:String} {vs:Array Value} {Q:Unit->Shared->Prop} (ho:s.heap.get? it=some o) (hc:o.cls=.type n) (hd:o.data=.fields vs)
 (hn:["enumerate","zip","dict_itemiterator","dict_reverseitemiterator","odict_iterator","itertools.zip_longest","itertools.pairwise"].contains n=false) (hQ:Q () s):wpAny M A (letOwnedTupleGo tg (.ref it) u) Q E s:=by
 unfold letOwnedTupleGo;cases tg<;>first
  | exact wpAny_pure hQ
  | (cases u<;>first
   | exact wpAny_pure hQ
   | (refine wpAny_bind (wpAny_load ho ?_)
      rw [hc,hd];show wpAny M A (if (["enumerate","zip","dict_itemiterator","dict_reverseitemiterator","odict_iterator","itertools.zip_longest","itertools.pairwise"].contains n && vs[0]?==some (rawInt _))=true then _ else _) Q E s;rw [if_neg (by intro h;rw [hn,Bool.false_and] at h;cases h)];exact wpAny_pure hQ))
def Itl (K:PySem.W.Frag) (a:Addr):It:=
 ⟨λi H=>∃xs x,SqL K H a xs/\xs[i]?=some x,λi H x H'=>H'=H/\∀xs,SqL K H a xs->xs[i]?=some x,λi H=>∃xs,SqL K H a xs/\xs.length<=i⟩
def Itt (K:PySem.W.Frag) (a:Addr):It:=
 ⟨λi H=>∃xs x,SqT K H a xs/\xs[i]?=some x,λi H x H'=>H'=H/\∀xs,SqT K H a xs->xs[i]?=some x,λi H=>∃xs,SqT K H a xs/\xs.length<=i⟩
def Itr (lo:Int) (n:Nat):It:=⟨λi _=>i < n,λi H x H'=>H'=H/\x=.int (lo+i),λi _=>n<=i⟩
theorem VU {P:Program} {w:World} {K:PySem.W.Frag} {tg:Expr} (a it:Addr):Turn P w K tg (Itl K a) [it] it (λi h=>h.IsListIter it a i) where
 mem:=by simp
 obj:=λi h st b hb=>by
  have e:b=it:=by simpa using hb
  subst e;obtain ⟨o,e,c,d⟩:=st;exact ⟨o,e,λv z=>by rw [d] at z;cases z⟩
 keep:=λi h h' st k=>st.at λo e=>k it (by simp) o e
 item:=by
  intro X hP hw hK hc i vA s σ H E I hf st hg;subst hP hw hK;obtain ⟨xs,x,hq,hx⟩:=hg;obtain ⟨its,rv,p,hz⟩:=I.list hq;obtain ⟨u,hu,ru⟩:=rv.get hx;obtain ⟨f0,f1,f2,f3,f4,f5⟩:=hf it (by simp);refine wpAny_pyNext_list_item st p.isList (x:=u) (by simpa using hu) λh' st' sb=>?_
  have I1:Inv X vA σ H { s with heap:=h' }:=I.turned (t':=s.toks) (λb o hb e=>(sb.2 b hb).trans e) f0 f1 f3 f4 f5;obtain ⟨o,e,c,d⟩:=id st';exact ⟨u,rfl,oF (s:={ s with heap:=h' }) e c d (by decide) ⟨x,H,I1,ru,⟨rfl,λys hy=>by rw [I.list_inj hy hq];exact hx⟩,st',λb hb=>(hf b hb).1⟩⟩
 done:=by
  intro X hP hw hK hc i vA s σ H E I hf st hg;subst hP hw hK;obtain ⟨xs,hq,hx⟩:=hg;obtain ⟨its,rv,p,hz⟩:=I.list hq;obtain ⟨f0,f1,f2,f3,f4,f5⟩:=hf it (by simp);have hl:=rv.length;exact wpAny_pyNext_list_end (I.ok.hd hc) st p.isList (by simp;omega) λh' eb=>⟨rfl,I.turned (t':=s.toks) (λb o hb e=>eb b o hb e) f0 f1 f3 f4 f5⟩
 self:=λ_ _ _ _ _ st h=>wpAny_pyIter_listiter st h
theorem VV {P:Program} {w:World} {K:PySem.W.Frag} {tg:Expr} (a it:Addr):Turn P w K tg (Itt K a) [it] it (λi h=>h.IsTupleIter it a i) where
 mem:=by simp
 obj:=λi h st b hb=>by
  have e:b=it:=by simpa using hb
  subst e;obtain ⟨o,e,c,d⟩:=st;exact ⟨o,e,λv z=>by rw [d] at z;cases z⟩
 keep:=λi h h' st k=>st.at λo e=>k it (by simp) o e
 item:=by
  intro X hP hw hK hc i vA s σ H E I hf st hg;subst hP hw hK;obtain ⟨xs,x,hq,hx⟩:=hg;obtain ⟨its,rv,p,hz⟩:=I.tuple hq;obtain ⟨u,hu,ru⟩:=rv.get hx;obtain ⟨f0,f1,f2,f3,f4,f5⟩:=hf it (by simp);refine wpAny_pyNext_tuple_item st (show s.heap.IsTuple a its.toArray from p) (x:=u) (by simpa using hu) λh' st' sb=>?_
  have I1:Inv X vA σ H { s with heap:=h' }:=I.turned (t':=s.toks) (λb o hb e=>(sb.2 b hb).trans e) f0 f1 f3 f4 f5;obtain ⟨o,e,c,d⟩:=id st';exact ⟨u,rfl,oF (s:={ s with heap:=h' }) e c d (by decide) ⟨x,H,I1,ru,⟨rfl,λys hy=>by rw [I.tuple_inj hy hq];exact hx⟩,st',λb hb=>(hf b hb).1⟩⟩
 done:=by
  intro X hP hw hK hc i vA s σ H E I hf st hg;subst hP hw hK;obtain ⟨xs,hq,hx⟩:=hg;obtain ⟨its,rv,p,hz⟩:=I.tuple hq;obtain ⟨f0,f1,f2,f3,f4,f5⟩:=hf it (by simp);have hl:=rv.length;exact wpAny_pyNext_tuple_end (I.ok.hd hc) st (show s.heap.IsTuple a its.toArray from p) (by simp;omega) λh' eb=>⟨rfl,I.turned (t':=s.toks) (λb o hb e=>eb b o hb e) f0 f1 f3 f4 f5⟩
 self:=λ_ _ _ _ _ st h=>wpAny_pyIter_tupleiter st h
theorem VW {P:Program} {w:World} {K:PySem.W.Frag} {tg:Expr} (it:Addr) (lo:Int) (n:Nat):Turn P w K tg (Itr lo n) [it] it (λi h=>IsRangeIter h it (lo+(i:Nat)*1) ((n:Int)-(i:Nat)) 1) where
 mem:=by simp
 obj:=λi h st b hb=>by
  have e:b=it:=by simpa using hb
  subst e;exact ⟨_,st,λv z=>by
   have z':Data.fields _=Data.cell v:=z;cases z'⟩
 keep:=λi h h' st k=>k it (by simp) _ st
 item:=by
  intro X hP hw hK hc i vA s σ H E I hf st hg;subst hP hw hK;obtain ⟨f0,f1,f2,f3,f4,f5⟩:=hf it (by simp);have W:=Walks.range (prog:=X.prog) (w:=X.w) (I.ok.hd hc) it lo 1 n;refine W.item i s _ _ hg st λv h' tk hv st' kk=>?_
  obtain ⟨t,rfl⟩:=hv;have I1:Inv X vA σ H { s with heap:=h',toks:=tk }:=I.turned (λb o hb e=>kk b o (by simpa using hb) e) f0 f1 f3 f4 f5;refine ⟨_,rfl,oF (s:={ s with heap:=h',toks:=tk }) (n:="range_iterator") st' rfl rfl (by decide) ⟨.int (lo+i),H,I1,⟨t,?_⟩,⟨rfl,rfl⟩,st',λb hb=>(hf b hb).1⟩⟩;rw [Int.mul_one]
 done:=by
  intro X hP hw hK hc i vA s σ H E I hf st hg;subst hP hw hK;obtain ⟨f0,f1,f2,f3,f4,f5⟩:=hf it (by simp);exact wpAny_pyNext_range_end (I.ok.hd hc) st (by have:n<=i:=hg;omega) λh' eb=>⟨rfl,I.turned (t':=s.toks) (λb o hb e=>eb b o hb e) f0 f1 f3 f4 f5⟩
 self:=λ_ _ _ _ _ st h=>wpAny_pyIter_rangeiter st h
section
variable {X:Cx} {tg:Expr}
def VX (K:PySem.W.Frag) (tl:TE):TI:=fun σ H R=>tl σ H λx H1=>∃a,x=.ref a/\(∃xs,SqL K H1 a xs)/\R (Itl K a) H1
def VY (K:PySem.W.Frag) (tl:TE):TI:=fun σ H R=>tl σ H λx H1=>∃a,x=.ref a/\(∃xs,SqT K H1 a xs)/\R (Itt K a) H1
theorem VZ {l:Expr} {tl:TE} (hl:PE X l tl):PI X tg l (VX X.K tl):=by
 intro vA s σ H R I h;refine thn (hl vA s σ H _ I h) λv s1 ⟨x,H1,I1,r1,q1⟩=>?_
 obtain ⟨a,e,⟨xs,hq⟩,q⟩:=q1;subst e;cases r1;obtain ⟨its,rv,p,hz⟩:=I1.list hq;refine wpAny_pyIter_list p.isList ?_;refine ⟨s1.heap.objs.size,[s1.heap.objs.size],_,_,H1,rfl,I1.kept (t':=s1.toks) λb o e=>Heap.get?_push_of_some _ e,VU a _,⟨_,Heap.get?_push_size _ rfl,rfl,rfl⟩,λb hb=>?_,q⟩;have e:b=s1.heap.objs.size:=by simpa using hb
 subst e;exact I1.fpOk (Nat.le_refl _) (I1.hok.fresh (Nat.le_refl _))
theorem WA {l:Expr} {tl:TE} (hl:PE X l tl):PI X tg l (VY X.K tl):=by
 intro vA s σ H R I h;refine thn (hl vA s σ H _ I h) λv s1 ⟨x,H1,I1,r1,q1⟩=>?_
 obtain ⟨a,e,⟨xs,hq⟩,q⟩:=q1;subst e;cases r1;obtain ⟨its,rv,p,hz⟩:=I1.tuple hq;refine wpAny_pyIter_tuple (show s1.heap.IsTuple a its.toArray from p) ?_;refine ⟨s1.heap.objs.size,[s1.heap.objs.size],_,_,H1,rfl,I1.kept (t':=s1.toks) λb o e=>Heap.get?_push_of_some _ e,VV a _,⟨_,Heap.get?_push_size _ rfl,rfl,rfl⟩,λb hb=>?_,q⟩;have e:b=s1.heap.objs.size:=by simpa using hb
 subst e;exact I1.fpOk (Nat.le_refl _) (I1.hok.fresh (Nat.le_refl _))
theorem WB {vA:List (Addr×Obj)} {σ:St} {H:Hp} {s:Shared} {R:It->Hp->Prop} {E:Value->Shared->Prop} {lo hi:Int} {t u v:Tok} {tk:Nat} (I:Inv X vA σ H s) (h1:-(2 ^ 62)<=lo) (h2:lo < 2 ^ 62) (h3:-(2 ^ 62)<=hi) (h4:hi < 2 ^ 62)
 (q:R (Itr lo (hi-lo).toNat) H):wpAny (model X.prog X.w) X.A (pyIter (.ref s.heap.objs.size)) (PIE X vA σ tg R) E { s with heap:=s.heap.push { cls:=.type "range",data:=.fields #[.int lo t,.int hi u,.int 1 v] },toks:=tk }:=by
 refine wpAny_pyIter_range (IsRange.new ..) (small_one h1 h2 h3 h4) ?_;have I1:Inv X vA σ H { s with heap:=s.heap.push { cls:=.type "range",data:=.fields #[.int lo t,.int hi u,.int 1 v] },toks:=tk }:=I.kept λb o e=>Heap.get?_push_of_some _ e
 refine ⟨(s.heap.push { cls:=.type "range",data:=.fields #[.int lo t,.int hi u,.int 1 v] }).objs.size,[(s.heap.push { cls:=.type "range",data:=.fields #[.int lo t,.int hi u,.int 1 v] }).objs.size],_,_,H,rfl,
  I1.kept (t':=tk) λb o e=>Heap.get?_push_of_some _ e,VW _ lo (hi-lo).toNat,?_,λb hb=>?_,q⟩
 ·have e1:lo+((0:Nat):Int)*1=lo:=by simp
  have e2:(((hi-lo).toNat:Nat):Int)-((0:Nat):Int)=Builtin.Range.rangeSize lo hi 1:=by rw [rangeSize_one];split<;>omega
  show IsRangeIter _ _ (lo+((0:Nat):Int)*1) ((((hi-lo).toNat:Nat):Int)-((0:Nat):Int)) 1;rw [e1,e2];exact Heap.get?_push_size _ rfl
 ·have e:b=(s.heap.push { cls:=.type "range",data:=.fields #[.int lo t,.int hi u,.int 1 v] }).objs.size:=by simpa using hb
  subst e;exact I1.fpOk (Nat.le_refl _) (I1.hok.fresh (Nat.le_refl _))
def WC (ta:TA):TI:=fun σ H R=>ta σ H λvs H1=>∃j:Int,vs=[.int j]/\-(2 ^ 62)<=j/\j < 2 ^ 62/\R (Itr 0 j.toNat) H1
theorem WD {a:Expr} {ta:TA} {p pos:Pos} (hg:Gl X "range") (hm:X.mg "range" = none) (ha:PA X [a] ta) (hs:starEach [a] X.env=[(false,eval a X.env)]:=by rfl):PI X tg (.Call (.Name "range" p) [a] [] pos) (WC ta):=by
 intro vA s σ H R I h;refine Call_ (gX I hg hm boot_range (PyProof.Rows.callWith_type1 (thn (ha pos vA s σ H _ I h) λus s1 ⟨vs,H1,I1,r1,q1⟩=>?_) hs rfl));obtain ⟨j,e,q1,q2,q⟩:=q1;subst e;cases r1 with
 | cons r rr=>
  cases rr;obtain ⟨t,rfl⟩:=r;exact call_range_1 (WB I1 (by omega) (by omega) q1 q2 (by simpa using q))
def WF (wi:TI) (g:TG) (tb:TS):TS:=λD σ H=>wi σ H λJ H1=>∃W:Nat->Nat->St->Hp->Prop,(∃m,W 0 m σ H1)/\∀i m σ H,W i m σ H ->
 (J.stop i H/\D.nx σ H)∨(J.go i H/\∃N:St->Hp->Prop,(∀σ' H',N σ' H'->∃m',m' < m/\W (i+1) m' σ' H')/\∀x H',J.yld i H x H'->g x σ H' fun σ2 H2=>tb { D with nx:=N,ct:=N,bk:=D.nx } σ2 H2)
def rY (fp:List Addr) (h:Heap):List (Addr×Obj):=fp.filterMap λb=>(h.get? b).map λo=>(b,o)
theorem mB {fp:List Addr} {h:Heap} {b:Addr} {o:Obj} (hb:b∈fp) (e:h.get? b=some o):(b,o)∈rY fp h:=List.mem_filterMap.mpr ⟨b,hb,by rw [e];rfl⟩
theorem WG {fp:List Addr} {h:Heap} {p:Addr×Obj} (hp:p∈rY fp h):p.1∈fp/\h.get? p.1=some p.2:=by
 obtain ⟨b,hb,e⟩:=List.mem_filterMap.mp hp;cases q:h.get? b with
 | none=>rw [q] at e;cases e
 | some o=>
  rw [q] at e;have e':(b,o)=p:=Option.some.inj e;subst e';exact ⟨hb,q⟩
theorem Inv.pinned {vA:List (Addr×Obj)} {σ:St} {H:Hp} {s:Shared} {fp:List Addr} (I:Inv X vA σ H s) (hf:∀b∈fp,eX X vA H b) (ho:∀b∈fp,∃o,s.heap.get? b=some o/\∀v,o.data≠.cell v):Inv X (vA++rY fp s.heap) σ H s:=
 I.pins_of λp hp=>(List.mem_append.mp hp).elim (λz=>I.pin p (List.mem_append_right _ z)) λz=>by
  obtain ⟨hb,e⟩:=WG z;obtain ⟨f0,f1,f2,_⟩:=hf p.1 hb;obtain ⟨o,e',d⟩:=ho p.1 hb;rw [e] at e';cases e';exact ⟨e,f0,f1,f2,d⟩
theorem Inv.unpinned {vA pl:List (Addr×Obj)} {σ:St} {H:Hp} {s:Shared} (I:Inv X (vA++pl) σ H s):Inv X vA σ H s:=I.pins_of λp hp=>I.pin p (List.mem_append_right _ (List.mem_append_left _ hp))
theorem WH {iter:Expr} {body:List Stmt} {wi:TI} {g:TG} {tb:TS} {pos:Pos} (hp:PassesOwn (model X.prog X.w) X.A X.env X.xe) (hc:X.calm=true) (hi:PI X tg iter wi) (hg:PG X tg g) (hb:PSs X body tb)
 (hs:∀x,foldedSetIterable iter X.env x=pure x:=by intro _;rfl):PS X (.For tg iter body [] pos) (WF wi g tb):=by
 intro vA s σ H D I h;refine wpAny_For (thn (hi vA s σ H _ I h) λv s1 h1=>thn h1 λitv s2 h2=>?_) hs;obtain ⟨it,fp,tn,J,H2,e,I2,T,st2,f2,W,⟨m0,w0⟩,turn⟩:=h2;subst e;have stat:∀{H':Hp},(∀b∈fp,H' b=none)->∀b∈fp,eX X vA H' b:=λhn b hb=>⟨hn b hb,(f2 b hb).2⟩
 refine codeAny_forLoop_any (λn s'=>∃i σ' H',Inv X vA σ' H' s'/\tn i s'.heap/\(∀b∈fp,H' b=none)/\W i n σ' H') ?_ m0 ⟨0,σ,H2,I2,st2,λb hb=>(f2 b hb).1,w0⟩;rintro n s3 ⟨i,σ3,H3,I3,st3,fr3,w3⟩;rcases turn i n σ3 H3 w3 with ⟨stop,qn⟩ | ⟨go,N,hN,step⟩
 ·refine wpAny_passesOwn hp (thn (T.done X rfl rfl rfl hc i vA s3 σ3 H3 X.xe I3 (stat fr3) st3 stop) λr s4 ⟨hr,I4⟩=>?_);subst hr;exact wpAny_execs_nil ⟨σ3,H3,I4,qn⟩
 ·refine wpAny_passesOwn hp (thn (T.item X rfl rfl rfl hc i vA s3 σ3 H3 X.xe I3 (stat fr3) st3 go) λr s4 ⟨u,hr,h4⟩=>?_);subst hr;refine wpAny_passesOwn hp (thn h4 λ_ s5 ⟨x,H5,I5,r5,y5,st5,fr5⟩=>?_);have I5':=I5.pinned (stat fr5) (T.obj _ _ st5);refine wpAny_passesOwn hp (thn (hg _ s5 σ3 H5 x u _ I5' r5 (step x H5 y5)) λ_ s6 ⟨σ6,H6,I6,q6⟩=>?_);refine wpAny_passesOwn hp (thn (hb _ s6 σ6 H6 _ I6 q6) λf s7 q7=>?_);have again:∀{σ7:St} {H7:Hp},Inv X (vA++rY fp s5.heap) σ7 H7 s7->N σ7 H7->∃m,m < n/\∃i σ' H',Inv X vA σ' H' s7/\tn i s7.heap/\(∀b∈fp,H' b=none)/\W i m σ' H':=λ{σ7 H7} I7 n7=>by
   obtain ⟨m',hm,w7⟩:=hN σ7 H7 n7;refine ⟨m',hm,i+1,σ7,H7,I7.unpinned,T.keep _ _ _ st5 λb hb o e=>(I7.pin (b,o) (List.mem_append_right _ (List.mem_append_right _ (mB hb e)))).1,λb hb=>?_,w7⟩;obtain ⟨o,e,d⟩:=T.obj _ _ st5 b hb;exact (I7.pin (b,o) (List.mem_append_right _ (List.mem_append_right _ (mB hb e)))).2.1
  cases f with
  | next=>obtain ⟨σ7,H7,I7,n7⟩:=q7;exact again I7 n7
  | cont=>obtain ⟨σ7,H7,I7,n7⟩:=q7;exact again I7 n7
  | brk=>obtain ⟨σ7,H7,I7,q7⟩:=q7;exact ⟨σ7,H7,I7.unpinned,q7⟩
  | ret v=>obtain ⟨x7,σ7,H7,I7,r7,q7⟩:=q7;exact ⟨x7,σ7,H7,I7.unpinned,r7,q7⟩
end
abbrev R2:=V->V->Hp->VK->Prop
def OpR (X:Cx) (f:Value->Value->Sem Value) (r:R2):Prop:=
 ∀(vA:List (Addr×Obj)) (s:Shared) (σ:St) (H:Hp) (x y:V) (v u:Value) (Q:VK),Inv X vA σ H s->RelV x v->RelV y u->r x y H Q ->
  wpAny (model X.prog X.w) X.A (f v u) (EP X vA σ Q) X.xe s
def UnR (X:Cx) (f:Value->Sem Value) (r:V->Hp->VK->Prop):Prop:=
 ∀(vA:List (Addr×Obj)) (s:Shared) (σ:St) (H:Hp) (x:V) (v:Value) (Q:VK),Inv X vA σ H s->RelV x v->r x H Q ->
  wpAny (model X.prog X.w) X.A (f v) (EP X vA σ Q) X.xe s
def eY (X:Cx) (f:Value) (r:List V->Hp->VK->Prop):Prop:=
 ∀(vA:List (Addr×Obj)) (s:Shared) (σ:St) (H:Hp) (xs:List V) (us:List Value) (Q:VK),Inv X vA σ H s->Vals xs us->r xs H Q ->
  wpAny (model X.prog X.w) X.A (call f us) (EP X vA σ Q) X.xe s
def WI (X:Cx) (r:V->Hp->(Bool->Hp->Prop)->Prop):Prop:=
 ∀(vA:List (Addr×Obj)) (s:Shared) (σ:St) (H:Hp) (x:V) (v:Value) (Q:Bool->Hp->Prop),Inv X vA σ H s->RelV x v->r x H Q ->
  wpAny (model X.prog X.w) X.A (truthy v) (TP X vA σ Q) X.xe s
def tOp (r:R2) (ta tb:TE):TE:=fun σ H Q=>ta σ H λx H1=>tb σ H1 λy H2=>r x y H2 Q
def tUn (r:V->Hp->VK->Prop) (ta:TE):TE:=fun σ H Q=>ta σ H λx H1=>r x H1 Q
def rI (C:Int->Int->Prop) (g:Int->Int->V):R2:=λx y H Q=>∃i j,x=.int i/\y=.int j/\C i j/\Q (g i j) H
def rI0 (g:Int->Int->V):R2:=λx y H Q=>∃i j,x=.int i/\y=.int j/\Q (g i j) H
def rU (g:Int->V):V->Hp->VK->Prop:=λx H Q=>∃i,x=.int i/\Q (g i) H
section
variable {X:Cx} {a b c:Expr} {ta tb tc:TE} {pos:Pos}
theorem xM (ha:PE X a ta) (hb:PE X b tb) {vA:List (Addr×Obj)} {s:Shared} {σ:St} {H:Hp} {R:V->V->Hp->Prop} (I:Inv X vA σ H s)
 (h:ta σ H λx H1=>tb σ H1 λy H2=>R x y H2) {Q:Value->Shared->Prop} {f:Value->Value->Sem Value}
 (hf:∀v u s2 x y H2,Inv X vA σ H2 s2->RelV x v->RelV y u->R x y H2->wpAny (model X.prog X.w) X.A (f v u) Q X.xe s2) :
 wpAny (model X.prog X.w) X.A (eval a X.env) (λv s₁=>wpAny (model X.prog X.w) X.A (eval b X.env) (λu s₂=>wpAny (model X.prog X.w) X.A (f v u) Q X.xe s₂) X.xe s₁) X.xe s:=by
 refine thn (ha vA s σ H _ I h) λv s1 ⟨x,H1,I1,r1,q1⟩=>?_
 refine thn (hb vA s1 σ H1 _ I1 q1) λu s2 ⟨y,H2,I2,r2,q2⟩=>?_
 exact hf v u s2 x y H2 I2 r1 r2 q2
theorem FV {op:Operator} {r:R2} (ho:OpR X (binaryOp op) r) (ha:PE X a ta) (hb:PE X b tb):PE X (.BinOp a op b pos) (tOp r ta tb):=by
 intro vA s σ H Q I h;exact wpAny_BinOp (xM ha hb I h λv u s2 x y H2 I2 rx ry q=>ho vA s2 σ H2 x y v u Q I2 rx ry q)
theorem WJ {op:UnaryOp} {r:V->Hp->VK->Prop} (ho:UnR X (unaryOp op) r) (ha:PE X a ta):PE X (.UnaryOp op a pos) (tUn r ta):=by
 intro vA s σ H Q I h;exact UnaryOp_ (thn (ha vA s σ H _ I h) λv s1 ⟨x,H1,I1,r1,q1⟩=>ho vA s1 σ H1 x v Q I1 r1 q1)
theorem opI {f:Value->Value->Sem Value} {C:Int->Int->Prop} {g:Int->Int->Int}
 (rule:∀(i j:Int) (t u:Tok) (s:Shared) (Q:Value->Shared->Prop) (E:Value->Shared->Prop),C i j->Q (.int (g i j) s.toks) { s with toks:=s.toks+1 }->wpAny (model X.prog X.w) X.A (f (.int i t) (.int j u)) Q E s) :
 OpR X f (rI C λi j=>.int (g i j)):=by
 intro vA s σ H x y v u Q I rx ry h;obtain ⟨i,j,rfl,rfl,hc,q⟩:=h;obtain ⟨t,rfl⟩:=rx;obtain ⟨t',rfl⟩:=ry;exact rule i j t t' s _ _ hc ⟨.int (g i j),H,I.tok _,⟨_,rfl⟩,q⟩
theorem FW {f:Value->Value->Sem Value} {g:Int->Int->Int}
 (rule:∀(i j:Int) (t u:Tok) (s:Shared) (Q:Value->Shared->Prop) (E:Value->Shared->Prop),Q (.int (g i j) s.toks) { s with toks:=s.toks+1 }->wpAny (model X.prog X.w) X.A (f (.int i t) (.int j u)) Q E s) :
 OpR X f (rI0 λi j=>.int (g i j)):=by
 intro vA s σ H x y v u Q I rx ry h;obtain ⟨i,j,rfl,rfl,q⟩:=h;obtain ⟨t,rfl⟩:=rx;obtain ⟨t',rfl⟩:=ry;exact rule i j t t' s _ _ ⟨.int (g i j),H,I.tok _,⟨_,rfl⟩,q⟩
theorem rZ {f:Value->Value->Sem Value} {g:Int->Int->Bool}
 (rule:∀(i j:Int) (t u:Tok) (s:Shared) (Q:Value->Shared->Prop) (E:Value->Shared->Prop),Q (.bool (g i j)) s->wpAny (model X.prog X.w) X.A (f (.int i t) (.int j u)) Q E s) :
 OpR X f (rI0 λi j=>.bl (g i j)):=by
 intro vA s σ H x y v u Q I rx ry h;obtain ⟨i,j,rfl,rfl,q⟩:=h;obtain ⟨t,rfl⟩:=rx;obtain ⟨t',rfl⟩:=ry;exact rule i j t t' s _ _ ⟨.bl (g i j),H,I,rfl,q⟩
def WL (i j:Int):Prop:=0 < j/\j < 1073741824
def WM (i j:Int):Prop:=0<=j/\j<=1000000/\i.natAbs < 2 ^ 64
def CMul (i j:Int):Prop:=(-(2 ^ 64) < i/\i < 2 ^ 64)∨(-(2 ^ 64) < j/\j < 2 ^ 64)
theorem CMul.ok {i j:Int} (h:CMul i j):IntMulOk i j:=by
 rcases h with ⟨h1,h2⟩ | ⟨h1,h2⟩
 ·exact .of_left (intBits_le_64 h1 h2)
 ·exact .of_right (intBits_le_64 h1 h2)
theorem WN:OpR X (binaryOp .Add) (rI0 λi j=>.int (i+j)):=FW λ_ _ _ _ _ _ _ q=>add_int q
theorem WO:OpR X (binaryOp .Sub) (rI0 λi j=>.int (i-j)):=FW λ_ _ _ _ _ _ _ q=>sub_int q
theorem WP:OpR X (binaryOp .Mult) (rI CMul λi j=>.int (i*j)):=opI λ_ _ _ _ _ _ _ hc q=>mul_int q hc.ok
theorem WQ:OpR X (binaryOp .FloorDiv) (rI WL λi j=>.int (i / j)):=opI λi j _ _ _ _ _ hc q=>by
 have h1:(0:Int) < j:=hc.1;have h2:j < 1073741824:=hc.2;exact floordiv_int (by omega) (by rw [Int.fdiv_eq_ediv_of_nonneg i (by omega)];exact q) (.inl (PyProof.noPylong_small (by omega)))
theorem WR:OpR X (binaryOp .Mod) (rI (λ_ j=>0 < j) λi j=>.int (i % j)):=opI λi j _ _ _ _ _ hc q=>by
 have h1:(0:Int) < j:=hc;exact mod_int' (by omega) (by rw [Int.fmod_eq_emod_of_nonneg i (by omega)];exact q)
theorem WS:OpR X (binaryOp .Pow) (rI WM λi j=>.int (i ^ j.toNat)):=opI λ_ _ _ _ _ _ _ hc q=>pow_int_small hc.1 hc.2.1 hc.2.2 q
theorem unI {f:Value->Sem Value} {g:Int->Int}
 (rule:∀(i:Int) (t:Tok) (s:Shared) (Q:Value->Shared->Prop) (E:Value->Shared->Prop),Q (.int (g i) s.toks) { s with toks:=s.toks+1 }->wpAny (model X.prog X.w) X.A (f (.int i t)) Q E s) :
 UnR X f (rU λi=>.int (g i)):=by
 intro vA s σ H x v Q I rx h;obtain ⟨i,rfl,q⟩:=h;obtain ⟨t,rfl⟩:=rx;exact rule i t s _ _ ⟨.int (g i),H,I.tok _,⟨_,rfl⟩,q⟩
theorem WT:UnR X (unaryOp .USub) (rU λi=>.int (-i)):=unI λ_ _ _ _ _ q=>neg_int q
end
def scal:V->V->Bool
 | .non,.non=>true | .non,.int _=>true | .int _,.non=>true | .non,.bl _=>true | .bl _,.non=>true | .non,.str _=>true | .str _,.non=>true
 | .int _,.int _=>true | .bl _,.bl _=>true | .str _,.str _=>true | .byt _,.byt _=>true
 | .int _,.str _=>true | .str _,.int _=>true | .bl _,.str _=>true | .str _,.bl _=>true
 | _,_=>false
def rEq:R2:=λx y H Q=>scal x y=true/\Q (.bl (decide (x=y))) H
def rNe:R2:=λx y H Q=>scal x y=true/\Q (.bl (!decide (x=y))) H
theorem FX {i j:Int}:decide (V.int i=V.int j)=(i==j):=by
 rw [Bool.eq_iff_iff];simp
theorem FY {i j:Bool}:decide (V.bl i=V.bl j)=(i==j):=by
 rw [Bool.eq_iff_iff];simp
theorem FZ {i j:Str}:decide (V.str i=V.str j)=(i==j):=by
 rw [Bool.eq_iff_iff];simp
theorem GA {i j:Array UInt8}:decide (V.byt i=V.byt j)=(i.toList==j.toList):=by
 rw [Bool.eq_iff_iff];cases i;cases j;simp
section
variable {X:Cx} {a b c:Expr} {ta tb tc:TE} {pos:Pos}
theorem cJ {vA:List (Addr×Obj)} {σ:St} {H:Hp} {s:Shared} {Q:VK} {k k':Bool} (I:Inv X vA σ H s) (q:Q (.bl k) H) (e:k=k'):EP X vA σ Q (.bool k') s:=by
 subst e;exact ⟨.bl k,H,I,rfl,q⟩
theorem WU:OpR X (compareOp .Eq) rEq:=by
 intro vA s σ H x y v u Q I rx ry h;obtain ⟨hs,q⟩:=h;cases x with
 | non=>
  cases rx;cases y with
  | non=>cases ry;exact PySem.EqNone.eq_none_none (cJ I q (by simp))
  | bl j=>cases ry;exact PySem.EqNone.eq_none_bool (cJ I q (by simp))
  | int j=>obtain ⟨t',rfl⟩:=ry;exact PySem.EqNone.eq_none_int (cJ I q (by simp))
  | str j=>obtain ⟨t',rfl⟩:=ry;exact PySem.EqNone.eq_none_str (cJ I q (by simp))
  | _=>exact absurd (show false=true from hs) Bool.false_ne_true
 | bl i=>
  cases rx;cases y with
  | non=>cases ry;exact PySem.EqNone.eq_bool_none (cJ I q (by simp))
  | bl j=>cases ry;exact eq_bool (cJ I q FY)
  | str j=>obtain ⟨t',rfl⟩:=ry;exact PySem.EqMixed.eq_bool_str (cJ I q (by simp))
  | _=>exact absurd (show false=true from hs) Bool.false_ne_true
 | int i=>
  obtain ⟨t,rfl⟩:=rx;cases y with
  | non=>cases ry;exact PySem.EqNone.eq_int_none (cJ I q (by simp))
  | int j=>obtain ⟨t',rfl⟩:=ry;exact eq_int (cJ I q FX)
  | str j=>obtain ⟨t',rfl⟩:=ry;exact PySem.EqMixed.eq_int_str (cJ I q (by simp))
  | _=>exact absurd (show false=true from hs) Bool.false_ne_true
 | str i=>
  obtain ⟨t,rfl⟩:=rx;cases y with
  | non=>cases ry;exact PySem.EqNone.eq_str_none (cJ I q (by simp))
  | bl j=>cases ry;exact PySem.EqMixed.eq_str_bool (cJ I q (by simp))
  | int j=>obtain ⟨t',rfl⟩:=ry;exact PySem.EqMixed.eq_str_int (cJ I q (by simp))
  | str j=>obtain ⟨t',rfl⟩:=ry;exact eq_str (cJ I q FZ)
  | _=>exact absurd (show false=true from hs) Bool.false_ne_true
 | byt i=>
  obtain ⟨t,rfl⟩:=rx;cases y with
  | byt j=>obtain ⟨t',rfl⟩:=ry;exact PySem.W.eq_bytes (cJ I q GA)
  | _=>exact absurd (show false=true from hs) Bool.false_ne_true
 | _=>cases y<;>exact absurd (show false=true from hs) Bool.false_ne_true
theorem WV:OpR X (compareOp .NotEq) rNe:=by
 intro vA s σ H x y v u Q I rx ry h;obtain ⟨hs,q⟩:=h;cases x with
 | non=>
  cases rx;cases y with
  | non=>cases ry;exact PySem.EqNone.ne_none_none (cJ I q (by simp))
  | bl j=>cases ry;exact PySem.EqNone.ne_none_bool (cJ I q (by simp))
  | int j=>obtain ⟨t',rfl⟩:=ry;exact PySem.EqNone.ne_none_int (cJ I q (by simp))
  | str j=>obtain ⟨t',rfl⟩:=ry;exact PySem.EqNone.ne_none_str (cJ I q (by simp))
  | _=>exact absurd (show false=true from hs) Bool.false_ne_true
 | bl i=>
  cases rx;cases y with
  | non=>cases ry;exact PySem.EqNone.ne_bool_none (cJ I q (by simp))
  | bl j=>cases ry;exact ne_bool (cJ I q (congrArg not FY))
  | str j=>obtain ⟨t',rfl⟩:=ry;exact PySem.EqMixed.ne_bool_str (cJ I q (by simp))
  | _=>exact absurd (show false=true from hs) Bool.false_ne_true
 | int i=>
  obtain ⟨t,rfl⟩:=rx;cases y with
  | non=>cases ry;exact PySem.EqNone.ne_int_none (cJ I q (by simp))
  | int j=>obtain ⟨t',rfl⟩:=ry;exact ne_int (cJ I q (congrArg not FX))
  | str j=>obtain ⟨t',rfl⟩:=ry;exact PySem.EqMixed.ne_int_str (cJ I q (by simp))
  | _=>exact absurd (show false=true from hs) Bool.false_ne_true
 | str i=>
  obtain ⟨t,rfl⟩:=rx;cases y with
  | non=>cases ry;exact PySem.EqNone.ne_str_none (cJ I q (by simp))
  | bl j=>cases ry;exact PySem.EqMixed.ne_str_bool (cJ I q (by simp))
  | int j=>obtain ⟨t',rfl⟩:=ry;exact PySem.EqMixed.ne_str_int (cJ I q (by simp))
  | str j=>obtain ⟨t',rfl⟩:=ry;exact ne_str (cJ I q (congrArg not FZ))
  | _=>exact absurd (show false=true from hs) Bool.false_ne_true
 | byt i=>
  obtain ⟨t,rfl⟩:=rx;cases y with
  | byt j=>obtain ⟨t',rfl⟩:=ry;exact PySem.W.ne_bytes (cJ I q (congrArg not GA))
  | _=>exact absurd (show false=true from hs) Bool.false_ne_true
 | _=>cases y<;>exact absurd (show false=true from hs) Bool.false_ne_true
theorem WW:OpR X (compareOp .Lt) (rI0 λi j=>.bl (decide (i < j))):=rZ λ_ _ _ _ _ _ _ q=>lt_int q
theorem WX:OpR X (compareOp .LtE) (rI0 λi j=>.bl (decide (i<=j))):=rZ λ_ _ _ _ _ _ _ q=>le_int q
theorem WY:OpR X (compareOp .Gt) (rI0 λi j=>.bl (decide (j < i))):=rZ λ_ _ _ _ _ _ _ q=>gt_int q
theorem WZ:OpR X (compareOp .GtE) (rI0 λi j=>.bl (decide (j<=i))):=rZ λ_ _ _ _ _ _ _ q=>ge_int q
theorem XA:OpR X (compareOp .In) (λx y H Q=>∃i j,x=.str i/\y=.str j/\Q (.bl (!(Builtin.Str.occurrences j i 0 j.length 1).isEmpty)) H):=by
 intro vA s σ H x y v u Q I rx ry h;obtain ⟨i,j,rfl,rfl,q⟩:=h;obtain ⟨t,rfl⟩:=rx;obtain ⟨t',rfl⟩:=ry;exact in_str (cJ I q rfl)
theorem XB:OpR X (compareOp .IsNot) (λx y H Q=>y=.non/\Q (.bl (!decide (x=.non))) H):=by
 intro vA s σ H x y v u Q I rx ry h;obtain ⟨rfl,q⟩:=h;cases ry;refine isnot_none_gen (cJ I q ?_);cases x<;>first
  | (cases rx;rfl)
  | (obtain ⟨t,rfl⟩:=rx;rfl)
theorem XC:OpR X (compareOp .NotIn) (λx y H Q=>∃i j,x=.str i/\y=.str j/\Q (.bl (!(!(Builtin.Str.occurrences j i 0 j.length 1).isEmpty))) H):=by
 intro vA s σ H x y v u Q I rx ry h;obtain ⟨i,j,rfl,rfl,q⟩:=h;obtain ⟨t,rfl⟩:=rx;obtain ⟨t',rfl⟩:=ry;exact notIn_str (cJ I q rfl)
theorem OpR.or {f:Value->Value->Sem Value} {r r':R2} (h:OpR X f r) (h':OpR X f r'):OpR X f (λx y H Q=>r x y H Q∨r' x y H Q):=by
 intro vA s σ H x y v u Q I rx ry q;rcases q with q | q
 ·exact h vA s σ H x y v u Q I rx ry q
 ·exact h' vA s σ H x y v u Q I rx ry q
theorem nomark (b:Expr) {op:CmpOp} (h:op≠.In:=by decide) (h2:op≠.NotIn:=by decide):behindInMarks op b=false:=by
 have e1:(op==CmpOp.In)=false:=by cases op<;>first | rfl | exact absurd rfl h
 have e2:(op==CmpOp.NotIn)=false:=by cases op<;>first | rfl | exact absurd rfl h2
 cases b<;>simp [behindInMarks,e1,e2]
theorem XD {op:CmpOp} {r:R2} (ho:OpR X (compareOp op) r) (ha:PE X a ta) (hb:PE X b tb) (hm:behindInMarks op b=false):PE X (.Compare a [op] [b] pos) (tOp r ta tb):=by
 intro vA s σ H Q I h;exact wpAny_Compare1 (xM ha hb I h λv u s2 x y H2 I2 rx ry q=>ho vA s2 σ H2 x y v u Q I2 rx ry q) hm
def GB (t:TE):TT:=fun σ H Q=>t σ H λx H'=>∃k,x=.bl k/\Q k H'
theorem XE {op:CmpOp} {r:R2} (ho:OpR X (compareOp op) r) (ha:PE X a ta) (hb:PE X b tb) (hm:behindInMarks op b=false):PT X (.Compare a [op] [b] pos) (GB (tOp r ta tb)):=by
 intro vA s σ H Q I h;refine wpAny_isTrue_Compare1 (thn (ha vA s σ H _ I h) λv s1 ⟨x,H1,I1,r1,q1⟩=>thn (hb vA s1 σ H1 _ I1 q1) λu s2 ⟨y,H2,I2,r2,q2⟩=>
  thn (ho vA s2 σ H2 x y v u _ I2 r1 r2 q2) λc s3 ⟨z,H3,I3,r3,k,e,q3⟩=>?_) hm
 subst e;cases r3;exact wpAny_truthy_bool ⟨H3,I3,q3⟩
def GC (r r':R2) (ta tb tc:TE):TE:=fun σ H Q=>ta σ H λx H1=>tb σ H1 λy H2=>r x y H2 λz H3=>∃k,z=.bl k /\
 (if k=true then tc σ H3 λw' H4=>r' y w' H4 Q else Q (.bl false) H3)
theorem XF {op op':CmpOp} {r r':R2} (ho:OpR X (compareOp op) r) (ho':OpR X (compareOp op') r') (ha:PE X a ta) (hb:PE X b tb) (hc:PE X c tc)
 (hm:lastMarks [op,op'] [b,c]=false:=by with_unfolding_all rfl):PT X (.Compare a [op,op'] [b,c] pos) (GB (GC r r' ta tb tc)):=by
 intro vA s σ H Q I h;refine isTrue_chain (thn (ha vA s σ H _ I h) λv s1 ⟨x,H1,I1,r1,q1⟩=>test_link (thn (hb vA s1 σ H1 _ I1 q1) λu s2 ⟨y,H2,I2,r2,q2⟩=>
  thn (ho vA s2 σ H2 x y v u _ I2 r1 r2 q2) λd s3 ⟨z,H3,I3,r3,k,e,q3⟩=>?_)) hm
 subst e;cases r3;refine wpAny_truthy_bool ?_;cases k with
 | false=>
  obtain ⟨k',e',q'⟩:=q3;cases e';exact ite_ff ⟨H3,I3,q'⟩
 | true=>
  refine ite_tt (test_last (thn (hc vA s3 σ H3 _ I3 q3) λw' s4 ⟨z',H4,I4,r4,q4⟩=>thn (ho' vA s4 σ H4 y z' u w' _ I4 r2 r4 q4) λd' s5 ⟨z2,H5,I5,r5,k2,e2,q5⟩=>?_));subst e2;cases r5;exact wpAny_truthy_bool ⟨H5,I5,q5⟩
def xN (K:PySem.W.Frag) (x:V) (H:Hp) (k:Bool):Prop:=
 match x with
 | .non=>k=false
 | .bl b=>k=b
 | .int i=>k=(i != 0)
 | .str y=>y.length<=sizeLine/\k=((y.length:Int) != 0)
 | .byt y=>y.size<=sizeLine/\k=((y.size:Int) != 0)
 | .ref p=>(∃xs,SqL K H p xs/\k=!xs.isEmpty)∨(∃xs,SqT K H p xs/\k=!xs.isEmpty)∨∃kvs,H p=some (.dK kvs)/\k=!kvs.isEmpty
 | _=>False
theorem XG {κ:Type} {kvs:List (κ×V)} {vs:List (κ×Value)} (r:KV kvs vs):(!vs.isEmpty)=!kvs.isEmpty:=by
 cases r<;>rfl
theorem GD {xs:List V} {its:List Value} (r:Vals xs its):(!its.toArray.isEmpty)=!xs.isEmpty:=by
 cases r<;>simp
theorem line63:(sizeLine:Nat) < 2 ^ 63:=by rw [sizeLine_eq];decide
theorem XH:WI X (λx H Q=>∃k,xN X.K x H k/\Q k H):=by
 intro vA s σ H x v Q I rx h;obtain ⟨k,e,q⟩:=h;have hl:=line63;have hs:sizeLine=16777216:=sizeLine_eq;cases x with
 | non=>
  cases rx;have e':k=false:=e;subst e';exact truthy_none ⟨H,I,q⟩
 | bl b=>
  cases rx;have e':k=b:=e;subst e';exact wpAny_truthy_bool ⟨H,I,q⟩
 | int i=>
  obtain ⟨t,rfl⟩:=rx;have e':k=(i != 0):=e;subst e';exact PySem.P.truthy_int ⟨H,I,q⟩
 | str y=>
  obtain ⟨t,rfl⟩:=rx;obtain ⟨hy,e'⟩:y.length<=sizeLine/\k=((y.length:Int) != 0):=e;subst e';exact PySem.P.truthy_str (by omega) ⟨H,I.tok _,q⟩
 | byt y=>
  obtain ⟨t,rfl⟩:=rx;obtain ⟨hy,e'⟩:y.size<=sizeLine/\k=((y.size:Int) != 0):=e;subst e';exact PySem.W.truthy_bytes (by omega) ⟨H,I.tok _,q⟩
 | ref p=>
  cases rx;have e':(∃xs,SqL X.K H p xs/\k=!xs.isEmpty)∨(∃xs,SqT X.K H p xs/\k=!xs.isEmpty)∨∃kvs,H p=some (.dK kvs)/\k=!kvs.isEmpty:=e;rcases e' with ⟨xs,hx,e'⟩ | ⟨xs,hx,e'⟩ | ⟨kvs,hx,e'⟩
  ·subst e';obtain ⟨its,r,pl,hz⟩:=I.list hx;have hlen:=r.length;exact wpAny_truthy_list pl.isList (by simp only [List.size_toArray];omega) ⟨H,I.tok _,by rw [GD r];exact q⟩
  ·subst e';obtain ⟨its,r,pl,hz⟩:=I.tuple hx;have hlen:=r.length;exact truthy_tuple pl (by simp only [List.size_toArray];omega) ⟨H,I.tok _,by rw [GD r];exact q⟩
  ·subst e';obtain ⟨hz,hS,vs,r,m⟩:kvs.length<=sizeLine/\(p==sysModules)=false/\∃vs,KV kvs vs/\s.heap.DictOf (xA X.prog X.w) p vs:=I.hok p _ hx;have hlen:kvs.length=vs.length:=Paired.length r;exact wpAny_truthy_dict hS m (by omega) ⟨H,I.tok _,by rw [XG r];exact q⟩
 | _=>exact (show False from e).elim
theorem XI (ha:PE X a ta) (he:∀whole,isTrue a X.env whole=(do let v <-whole;standAt a.pos;holding [v] (truthy v))) :
 PT X a (fun σ H Q=>ta σ H λx H'=>∃k,xN X.K x H' k/\Q k H'):=by
 intro vA s σ H Q I h;exact isTrue_plain (thn (ha vA s σ H _ I h) λv s1 ⟨x,H1,I1,r1,q1⟩=>XH vA s1 σ H1 x v Q I1 r1 q1) (he _)
theorem XJ:OpR X (binaryOp .Add) (λx y H Q=>∃i j,x=.str i/\y=.str j/\i.length+j.length<=sizeLine/\Q (.str (i++j)) H):=by
 intro vA s σ H x y v u Q I rx ry h;obtain ⟨i,j,rfl,rfl,hz,q⟩:=h;obtain ⟨t,rfl⟩:=rx;obtain ⟨t',rfl⟩:=ry;exact add_str (λt' tk=>⟨.str (i++j),H,I.tok _,⟨_,rfl⟩,q⟩) hz
theorem vals1 {x:V} {us:List Value} (r:Vals [x] us):∃u,us=[u]/\RelV x u:=by
 cases r with
 | cons r1 r2=>cases r2;exact ⟨_,rfl,r1⟩
theorem vals2 {x y:V} {us:List Value} (r:Vals [x,y] us):∃u w',us=[u,w']/\RelV x u/\RelV y w':=by
 cases r with
 | cons r1 r2=>
  cases r2 with
  | cons r3 r4=>cases r4;exact ⟨_,_,rfl,r1,r3⟩
theorem XM (hc:X.calm=true):eY X (.builtin "min") (λxs H Q=>∃i j,xs=[.int i,.int j]/\Q (.int (if j < i then j else i)) H):=by
 intro vA s σ H xs us Q I r h;obtain ⟨i,j,rfl,q⟩:=h;obtain ⟨u,w',rfl,⟨t,rfl⟩,⟨t',rfl⟩⟩:=vals2 r;refine min_two_ints (I.ok.hd hc) λh' tk k=>⟨_,H,I.kept k,?_,q⟩
 by_cases hj:j < i
 ·rw [if_pos hj,if_pos hj];exact ⟨_,rfl⟩
 ·rw [if_neg hj,if_neg hj];exact ⟨_,rfl⟩
theorem XN:eY X (.type "int") (λxs H Q=>(∃i,xs=[.int i]/\Q (.int i) H)∨∃k,xs=[.bl k]/\Q (.int (if k then 1 else 0)) H):=by
 intro vA s σ H xs us Q I r h;rcases h with ⟨i,rfl,q⟩ | ⟨k,rfl,q⟩
 ·obtain ⟨u,rfl,t,rfl⟩:=vals1 r;exact call_int_int ⟨.int i,H,I,⟨_,rfl⟩,q⟩
 ·obtain ⟨u,rfl,r1⟩:=vals1 r;cases r1;exact call_int_bool ⟨.int (if k then 1 else 0),H,I.tok _,⟨_,rfl⟩,q⟩
def XO (K:PySem.W.Frag) (x:V) (H:Hp) (n:Nat):Prop:=
 match x with
 | .str y=>y.length<=sizeLine/\n=y.length
 | .byt y=>y.size<=sizeLine/\n=y.size
 | .ref p=>(∃xs,SqL K H p xs/\n=xs.length)∨∃xs,SqT K H p xs/\n=xs.length
 | _=>False
theorem GE:eY X (.builtin "len") (λxs H Q=>∃x n,xs=[x]/\XO X.K x H n/\Q (.int n) H):=by
 intro vA s σ H xs us Q I r h;obtain ⟨x,n,rfl,e,q⟩:=h;obtain ⟨u,rfl,rx⟩:=vals1 r;have hl:=line63;have hs:sizeLine=16777216:=sizeLine_eq;cases x with
 | str y=>
  obtain ⟨t,rfl⟩:=rx;obtain ⟨hy,e'⟩:y.length<=sizeLine/\n=y.length:=e;subst e';exact len_str (by omega) ⟨.int _,H,I.tok _,⟨_,rfl⟩,q⟩
 | byt y=>
  obtain ⟨t,rfl⟩:=rx;obtain ⟨hy,e'⟩:y.size<=sizeLine/\n=y.size:=e;subst e';exact PySem.W.len_bytes (by omega) ⟨.int _,H,I.tok _,⟨_,rfl⟩,q⟩
 | ref p=>
  cases rx;have e':(∃xs,SqL X.K H p xs/\n=xs.length)∨∃xs,SqT X.K H p xs/\n=xs.length:=e;rcases e' with ⟨xs,hx,e'⟩ | ⟨xs,hx,e'⟩
  ·subst e';obtain ⟨its,r',pl,hz⟩:=I.list hx;have hlen:=r'.length;exact Calls.call_len_list pl.isList (by simp only [List.size_toArray];omega) ⟨.int xs.length,H,I.tok _,⟨_,by simp only [List.size_toArray];rw [hlen]⟩,q⟩
  ·subst e';obtain ⟨its,r',pl,hz⟩:=I.tuple hx;have hlen:=r'.length;exact len_tuple pl (by simp only [List.size_toArray];omega) ⟨.int xs.length,H,I.tok _,⟨_,by simp only [List.size_toArray];rw [hlen]⟩,q⟩
 | _=>exact (show False from e).elim
end
structure ObjM (h:Heap) (x dx C:Addr) (mA:Str->Option Value):Prop where
 obj:h.get? x=some (PySem.W.instObj C dx)
 ns:h.Ns1 dx mA
 ne:dx≠x
theorem XQ {h:Heap} {dx:Addr} {mA:Str->Option Value} (n:h.Ns1 dx mA):∃od,h.get? dx=some od/\∀name,PySem.W.lookIn name od=some (mA name):=by
 obtain ⟨o,es,ep,ho,hd,hk,_,hm⟩:=n;refine ⟨o,ho,λname=>?_⟩;have e:=hm name;unfold nsFind findBy at e;rw [<-Array.find?_toList] at e;unfold PySem.W.lookIn;rw [hd];dsimp only
 split
 ·rename_i y q
  rw [q] at e;exact congrArg some e
 ·rename_i q
  rw [q] at e;have a:es.toList.any (·.refKey)=false:=by
   rw [List.any_eq_false];intro y hy;obtain ⟨z,t,hkey⟩:=hk y (Array.mem_toList_iff.mp hy);simp [DictEntry.refKey,hkey]
  have a':¬es.toList.any (·.refKey)=true:=by rw [a];exact Bool.false_ne_true
  rw [if_neg a'];exact congrArg some e
theorem ObjM.look {h:Heap} {x dx C:Addr} {mA:Str->Option Value} (I:ObjM h x dx C mA):∃od,PySem.W.InstAt h x (PySem.W.instObj C dx) C (some od)/\∀name,PySem.W.lookIn name od=some (mA name):=
 let ⟨od,ho,hl⟩:=XQ I.ns
 ⟨od,⟨I.obj,rfl,rfl,ho⟩,hl⟩
section
variable {prog:Program} {w:World} {A:Around} {E:Value->Shared->Prop} {s:Shared} {K:PySem.W.Frag} {x dx C f:Addr} {mA:Str->Option Value} {name:Str} {v:Value}
theorem XR {expr:Bool} {Q:Value->Shared->Prop} (X:K.In s.heap) (I:ObjM s.heap x dx C mA) (hg:PySem.W.plainGet K C name=true) (hh:PySem.W.hasDictIn K C=true)
 (ha:PySem.W.findIn K (.ref C) name=some none) (hv:mA name=some v) (hv':PySem.W.handedIn v=true) (h:Q v { s with toks:=s.toks+1 }) :
 wpAny (model prog w) A (getAttr (.ref x) name expr) Q E s:=by
 obtain ⟨od,J,hl⟩:=I.look;exact PySem.W.get_value X J (PySem.W.plainGet_of hg).1 (PySem.W.findObj_own hh ha rfl (by rw [hl,hv])) hv' h
theorem XS {pl:Sem Bool} {Q:Value×List Value->Shared->Prop} (X:K.In s.heap) (I:ObjM s.heap x dx C mA) (hg:PySem.W.plainGet K C name=true)
 (hf:PySem.W.findIn K (.ref C) name=some (some (.ref f))) (ht:PySem.W.isFn K (.ref f)=true) (hv:mA name=none) (h:Q (.ref f,[.ref x]) s) :
 wpAny (model prog w) A (getMethod (.ref x) name pl) Q E s:=by
 obtain ⟨od,J,hl⟩:=I.look;exact PySem.W.method_fn X J (PySem.W.plainGet_of hg).1 (PySem.W.plainGet_of hg).2 hf (beq_iff_eq.mp ht) (by show (PySem.W.lookIn name od).map (·.isSome)=some false;rw [hl,hv];rfl) h
theorem XT {ns:List Str} {Q:Unit->Shared->Prop} (X:K.In s.heap) (I:ObjM s.heap x dx C mA)
 (hs:PySem.W.findIn K (.ref C) "__setattr__" = some (some (.builtin "object.__setattr__"))) (hp:PySem.W.plainOver K C=true) (ht:PySem.W.takerIn K C name=some none) (hh:PySem.W.hasDictIn K C=true)
 (hw:PySem.Within mA ns) (hsz:ns.length<=sizeLine)
 (h:∀h',ObjM h' x dx C (λy=>if y=name then some v else mA y)->Heap.SameBut dx s.heap h'->Q () { s with heap:=h',toks:=s.toks+2 }) :
 wpAny (model prog w) A (setAttr (.ref x) name v) Q E s:=by
 obtain ⟨od,J,hl⟩:=I.look;refine PySem.W.set_plain X J hs (PySem.W.osa_open (s:={ s with toks:=s.toks+1 }) (r:=none) X J hp ht λb=>?_);obtain ⟨cd,hc,hd'⟩:=PySem.W.any_some hh;have hx:s.heap.get? x=some ⟨.ref C,some dx,.plain,#[]⟩:=I.obj;refine wpAny_bind (wpAny_pure (wpAny_bind (wpAny_bind (wpAny_loadPart hx (wpAny_bind (PySem.W.Looks.here (s:={ s with toks:=s.toks+1 }) (PySem.W.looks_clsIn X hc) ?_))))));rw [hd'];refine wpAny_pure (a:=some dx) (wpAny_bind (wpAny_pure (wpAny_bind ?_)));refine wpAny_nsSet1 (s:={ s with toks:=s.toks+1 }) I.ns λh' hn2 hs2=>?_
 obtain ⟨oD,esD,epD,hoD,hdD,hcD⟩:=hn2.count (PySem.Within.cons name v hw);refine wpAny_bind (wpAny_lookBehind hoD (by rw [hdD];exact pastItsLine_dict (Nat.le_trans hcD (by rw [List.length_cons];omega))) ?_);exact wpAny_pure (h _ ⟨(hs2.2 _ (Ne.symm I.ne)).trans I.obj,hn2,I.ne⟩ hs2)
theorem XU {R:Result->Shared->Prop} {vs:List Value} {kw:List (Str×Value)} (X:K.In s.heap) (hm:PySem.W.makesIn K C=true)
 (hi:PySem.W.findIn K (.ref C) "__init__" = some (some (.ref f))) (hf:PySem.W.typeIn K (.ref f)=some (.type "function"))
 (h:codeAny (model prog w) (A.under (.builtin "type.__call__" ⟨.ref C::vs,kw⟩)) (.call (.ref f) ⟨.ref (s.heap.objs.size+1)::vs,kw⟩) (PySem.W.InitBack (s.heap.objs.size+1) R)
  { s with heap:=(s.heap.push PySem.W.emptyDict).push (PySem.W.instObj C s.heap.objs.size) }) :
 codeAny (model prog w) A (.call (.ref C) ⟨vs,kw⟩) R s:=by
 obtain ⟨hh,g,d,t,os⟩:=s;exact PySem.W.make_core (PySem.W.makes_of X hm) (PySem.W.looks_findIn X hi) (λself=>PySem.W.bind_fn X self hf) (.inl rfl) h
end
def dZ (f:Str) (v:V):List (Str×V)->List (Str×V)
 | []=>[(f,v)]
 | (g,x)::r=>if g=f then (g,v)::r else (g,x)::dZ f v r
theorem GF (f g:Str) (v:V):∀fs:List (Str×V),(dZ f v fs).lookup g=if g=f then some v else fs.lookup g
 | []=>by
  show List.lookup g [(f,v)]=_;by_cases h:g=f
  ·have hb:(g==f)=true:=beq_iff_eq.mpr h;simp only [List.lookup,hb,if_pos h]
  ·have hb:(g==f)=false:=beq_eq_false_iff_ne.mpr h;simp only [List.lookup,hb,if_neg h]
 | (k,x)::r=>by
  have ih:=GF f g v r;rw [show dZ f v ((k,x)::r)=(if k=f then (k,v)::r else (k,x)::dZ f v r) from rfl];by_cases hk:k=f
  ·rw [if_pos hk];by_cases h:g=k
   ·have hb:(g==k)=true:=beq_iff_eq.mpr h;simp only [List.lookup,hb,if_pos (h.trans hk)]
   ·have hb:(g==k)=false:=beq_eq_false_iff_ne.mpr h;simp only [List.lookup,hb,if_neg (λe:g=f=>h (e.trans hk.symm))]
  ·rw [if_neg hk];by_cases h:g=k
   ·have hb:(g==k)=true:=beq_iff_eq.mpr h;simp only [List.lookup,hb,if_neg (λe:g=f=>hk (h.symm.trans e))]
   ·have hb:(g==k)=false:=beq_eq_false_iff_ne.mpr h;simp only [List.lookup,hb];exact ih
theorem xO (f:Str) (v:V):∀fs:List (Str×V),f∈(dZ f v fs).map (·.1)/\∀g,g∈fs.map (·.1)->g∈(dZ f v fs).map (·.1)
 | []=>⟨by simp [dZ],λg h=>by simp at h⟩
 | (k,x)::r=>by
  obtain ⟨i1,i2⟩:=xO f v r;rw [show dZ f v ((k,x)::r)=(if k=f then (k,v)::r else (k,x)::dZ f v r) from rfl];by_cases hk:k=f
  ·rw [if_pos hk];subst hk;exact ⟨by simp,λg h=>by simpa using h⟩
  ·rw [if_neg hk];refine ⟨?_,λg h=>?_⟩
   ·rw [List.map_cons];exact List.mem_cons_of_mem _ i1
   ·rw [List.map_cons] at h ⊢;rcases List.mem_cons.mp h with e | e
    ·exact List.mem_cons.mpr (.inl e)
    ·exact List.mem_cons_of_mem _ (i2 g e)
theorem GG (f:Str) (v:V):∀fs:List (Str×V),(dZ f v fs).length<=fs.length+1
 | []=>by simp [dZ]
 | (k,x)::r=>by
  have ih:=GG f v r;rw [show dZ f v ((k,x)::r)=(if k=f then (k,v)::r else (k,x)::dZ f v r) from rfl];by_cases hk:k=f
  ·rw [if_pos hk,List.length_cons,List.length_cons];omega
  ·rw [if_neg hk,List.length_cons,List.length_cons];omega
theorem RelO.some_of {v:V} {o:Option Value} (r:RelO (some v) o):∃u,o=some u/\RelV v u:=by
 cases o with
 | none=>exact (show False from r).elim
 | some u=>exact ⟨u,rfl,r⟩
theorem RelO.none_of {o:Option Value} (r:RelO none o):o=none:=by
 cases o with
 | none=>rfl
 | some u=>exact (show False from r).elim
theorem XV {v:V} {u:Value} (r:RelV v u):PySem.W.handedIn u=true:=by
 cases v with
 | non=>cases (show u=Value.none from r);rfl
 | bl b=>cases (show u=Value.bool b from r);rfl
 | int i=>obtain ⟨t,e⟩:=(show ∃t,u=Value.int i t from r);cases e;rfl
 | str x=>obtain ⟨t,e⟩:=(show ∃t,u=Value.str x t from r);cases e;rfl
 | byt b=>obtain ⟨t,e⟩:=(show ∃t,u=Value.bytes b t from r);cases e;rfl
 | flt b=>obtain ⟨t,e⟩:=(show ∃t,u=Value.float b t from r);cases e;rfl
 | ref a=>cases (show u=Value.ref a from r);rfl
 | ty n=>cases (show u=Value.type n from r);rfl
section
variable {P:Program} {w:World} {H H':Hp} {h h':Heap} {a C dx:Addr} {fs fs':List (Str×V)}
theorem sA (hok:HOk P w H h) (e:H a=some (.ins C dx fs)):∃mA,ObjM h a dx C mA/\(∀f,RelO (fs.lookup f) (mA f))/\PySem.Within mA (fs.map (·.1))/\fs.length<=1000/\H dx=some (.own a):=by
 obtain ⟨d,z,ne,ob,mA,n,r,q⟩:=(show ObjOk P w H h a (.ins C dx fs) from hok a _ e)
 exact ⟨mA,⟨ob,n,ne⟩,r,q,z,d⟩
end
structure Cls (K:PySem.W.Frag) (C:Addr):Prop where
 pg:PySem.W.plainGet K C Str.empty=true
 hd:PySem.W.hasDictIn K C=true
 po:PySem.W.plainOver K C=true
 sa:PySem.W.findIn K (.ref C) "__setattr__" = some (some (.builtin "object.__setattr__"))
theorem Cls.get {K:PySem.W.Frag} {C:Addr} (c:Cls K C) (f:Str):PySem.W.plainGet K C f=true:=c.pg
def NoAttr (K:PySem.W.Frag) (C:Addr) (f:Str):Prop:=PySem.W.findIn K (.ref C) f=some none
theorem NoAttr.taker {K:PySem.W.Frag} {C:Addr} {f:Str} (n:NoAttr K C f):PySem.W.takerIn K C f=some none:=by
 unfold PySem.W.takerIn;rw [show PySem.W.findIn K (.ref C) f=some none from n]
 rfl
structure Meth (K:PySem.W.Frag) (C:Addr) (m:Str) (f:Addr):Prop where
 at_:PySem.W.findIn K (.ref C) m=some (some (.ref f))
 fn:PySem.W.isFn K (.ref f)=true
 kp:PySem.W.keepIn K (.ref f)=true
section
variable {X:Cx} {vA:List (Addr×Obj)} {σ:St} {H:Hp} {s:Shared} {a C dx:Addr} {fs:List (Str×V)} {f:Str} {v:V} {A:Around} {E:Value->Shared->Prop}
theorem XX {b:Bool} {Q:Value->Shared->Prop} (I:Inv X vA σ H s) (e:H a=some (.ins C dx fs)) (c:Cls X.K C) (n:NoAttr X.K C f) (l:fs.lookup f=some v)
 (h:∀u s',Inv X vA σ H s'->RelV v u->Q u s'):wpAny (model X.prog X.w) A (getAttr (.ref a) f b) Q E s:=by
 obtain ⟨mA,O,r,_,_,_⟩:=sA I.hok e;obtain ⟨u,hu,ru⟩:=RelO.some_of (v:=v) (o:=mA f) (by rw [<-l];exact r f);exact XR I.kIn O (c.get f) c.hd n hu (XV ru) (h u _ (I.tok _) ru)
theorem GH {m:Str} {g:Addr} {pl:Sem Bool} {Q:Value×List Value->Shared->Prop} (I:Inv X vA σ H s) (e:H a=some (.ins C dx fs)) (c:Cls X.K C) (k:Meth X.K C m g) (l:fs.lookup m=none)
 (h:Q (.ref g,[.ref a]) s):wpAny (model X.prog X.w) A (getMethod (.ref a) m pl) Q E s:=by
 obtain ⟨mA,O,r,_,_,_⟩:=sA I.hok e;have hn:mA m=none:=RelO.none_of (by rw [<-l];exact r m);exact XS I.kIn O (c.get m) k.at_ k.fn hn h
theorem XY {y:V} {u:Value} {Q:Unit->Shared->Prop} (I:Inv X vA σ H s) (e:H a=some (.ins C dx fs)) (c:Cls X.K C) (n:NoAttr X.K C f) (hl:fs.length < 1000) (ry:RelV y u)
 (h:∀s',Inv X vA σ (upd H a (.ins C dx (dZ f y fs))) s'->Q () s'):wpAny (model X.prog X.w) A (setAttr (.ref a) f u) Q E s:=by
 obtain ⟨mA,O,r,wi,_,ho⟩:=sA I.hok e;have hz:(fs.map (·.1)).length<=sizeLine:=by rw [List.length_map,sizeLine_eq];omega
 refine XT I.kIn O c.sa c.po n.taker c.hd wi hz λh' O' sb=>h _ ?_
 have hd:∃o,h'.get? dx=some o:=let ⟨o,_,_,e',_⟩:=O'.ns;⟨o,e'⟩;refine I.write (x:=a) (e:=dx) (by rw [e];exact True.intro) (.inr ho) (λb q hb z=>(sb.2 b hb).trans z) hd ?_;refine ⟨by rw [aM O.ne];exact ho,?_,O.ne,O'.obj,_,O'.ns,λg=>?_,λg hg=>?_⟩
 ·have:=GG f y fs;omega
 ·show RelO ((dZ f y fs).lookup g) (if g=f then some u else mA g);rw [GF];by_cases q:g=f
  ·rw [if_pos q,if_pos q];exact ry
  ·rw [if_neg q,if_neg q];exact r g
 ·by_cases q:g=f
  ·rw [q];exact (xO f y fs).1
  ·refine (xO f y fs).2 g (wi g λz=>hg ?_);show (if g=f then some u else mA g)=none;rw [if_neg q];exact z
theorem Inv.made (I:Inv X vA σ H s):Inv X vA σ (upd (upd H s.heap.objs.size (.own (s.heap.objs.size+1))) (s.heap.objs.size+1) (.ins C s.heap.objs.size []))
 { s with heap:=(s.heap.push PySem.W.emptyDict).push (PySem.W.instObj C s.heap.objs.size) }:=by
 have e1:(s.heap.push PySem.W.emptyDict).get? s.heap.objs.size=some PySem.W.emptyDict:=Heap.get?_push_size s.heap rfl;have e2:((s.heap.push PySem.W.emptyDict).push (PySem.W.instObj C s.heap.objs.size)).get? (s.heap.objs.size+1)=some (PySem.W.instObj C s.heap.objs.size):=by
  have:=Heap.get?_push_size (s.heap.push PySem.W.emptyDict) (o:=PySem.W.instObj C s.heap.objs.size) rfl
  rwa [Heap.size_push] at this
 have e3:(s.heap.push PySem.W.emptyDict).Ns s.heap.objs.size (λ_=>none):=⟨PySem.W.emptyDict,#[],_,e1,rfl,(λe he=>absurd he (by simp)),λ_=>rfl⟩
 have I1:=I.laid (a:=s.heap.objs.size) (o:=.own (s.heap.objs.size+1)) (h':=s.heap.push PySem.W.emptyDict) (t':=s.toks) (λb u q=>Heap.get?_push_of_some _ q) (Nat.le_refl _) ⟨_,e1⟩;refine I1.laid (a:=s.heap.objs.size+1) (o:=.ins C s.heap.objs.size []) (t':=s.toks) (λb u q=>Heap.get?_push_of_some _ q) (Nat.le_of_eq (Heap.size_push _ _)) ?_;have ne:s.heap.objs.size≠s.heap.objs.size+1:=Nat.ne_of_lt (Nat.lt_succ_self _);refine ⟨by rw [aM ne,cR],Nat.zero_le _,ne,e2,λ_=>none,(Heap.Ns1.of_empty e3).at λo q=>Heap.get?_push_of_some _ q,λ_=>True.intro,λy hy=>absurd rfl hy⟩
theorem XZ {prog:Program} {w:World} {env:Env} {e:Expr} {f:Str} {pos:Pos} {s:Shared} {Q:Value->Shared->Prop} (hb:attributeBase e f env (eval e env)=eval e env)
 (h:wpAny (model prog w) A (eval e env) (λo s₁=>wpAny (model prog w) A (getAttr o f true) Q E s₁) E s):wpAny (model prog w) A (eval (.Attribute e f pos) env) Q E s:=
 Attribute_any_ h (by rw [arm_eval_Attribute,hb])
end
def YA (K:PySem.W.Frag) (ta:TE) (f:Str):TE:=fun σ H Q=>ta σ H λx H1=>∃a C dx fs v,x=.ref a/\H1 a=some (.ins C dx fs)/\Cls K C/\NoAttr K C f/\fs.lookup f=some v/\Q v H1
def YB (K:PySem.W.Frag) (ta tv:TE) (f:Str):TS:=λD σ H=>tv σ H λy H1=>ta σ H1 λx H2=>∃a C dx fs,x=.ref a/\H2 a=some (.ins C dx fs)/\Cls K C/\NoAttr K C f/\fs.length < 1000 /\
 D.nx σ (upd H2 a (.ins C dx (dZ f y fs)))
section
variable {X:Cx} {o e value:Expr} {f:Str} {pos pos' tpos:Pos} {ta tv:TE}
theorem YC (he:PE X e ta) (hb:attributeBase e f X.env (eval e X.env)=eval e X.env):PE X (.Attribute e f pos) (YA X.K ta f):=by
 intro vA s σ H Q I h;refine XZ hb (thn (he vA s σ H _ I h) λu s1 ⟨x,H1,I1,rx,a,C,dx,fs,v,ex,ea,c,n,l,q⟩=>?_);subst ex;obtain rfl:u=Value.ref a:=rx;exact XX I1 ea c n l λu' s2 I2 ru=>⟨v,H1,I2,ru,q⟩
theorem YD (ha:PE X o ta) (hv:PE X value tv) (hs:swapsWith value (some (.Attribute o f pos')) pos.line X.env=pure false):PS X (.Assign [.Attribute o f pos'] value pos) (YB X.K ta tv f):=by
 intro vA s σ H D I h;refine plainObj_wpAny_Assign_Attribute (thn (hv vA s σ H _ I h) λu s1 ⟨y,H1,I1,ry,q⟩=>thn (ha vA s1 σ H1 _ I1 q) λov s2 ⟨x,H2,I2,rx,a,C,dx,fs,ex,ea,c,n,l,q2⟩=>?_) hs;subst ex;obtain rfl:ov=Value.ref a:=rx;exact XY I2 ea c n l ry λs3 I3=>⟨σ,_,I3,q2⟩
variable {vA:List (Addr×Obj)} {σ:St} {H:Hp} {s:Shared} {A:Around} {E Q:Value->Shared->Prop} {c:Value} {b:Bool}
inductive gY (K:PySem.W.Frag) (H:Hp):V->Value->Prop where
 | non:gY K H .non (.type "NoneType")
 | bl (x:Bool):gY K H (.bl x) (.type "bool")
 | int (i:Int):gY K H (.int i) (.type "int")
 | str (x:Str):gY K H (.str x) (.type "str")
 | flt (x:UInt64):gY K H (.flt x) (.type "float")
 | lst {a:Addr} {xs:List V} (e:H a=some (.lst xs)):gY K H (.ref a) (.type "list")
 | frz {a:Addr} {o:Obj} {xs:List V} (e:H a=some (.frz o (.lst xs))):gY K H (.ref a) (.type "list")
 | tup {a:Addr} {xs:List V} (e:H a=some (.tup xs)):gY K H (.ref a) (.type "tuple")
 | dK {a:Addr} {kvs:List (Key×V)} (e:H a=some (.dK kvs)):gY K H (.ref a) (.type "dict")
 | dT {a:Addr} {kvs:List (List Key×V)} (e:H a=some (.dT kvs)):gY K H (.ref a) (.type "dict")
 | ins {a C dx:Addr} {fs:List (Str×V)} (e:H a=some (.ins C dx fs)) (cl:Cls K C) (ha:PySem.W.findIn K (.ref C) "__class__" = some (some (.builtin "object.__class__")))
  (hn:PySem.W.specialIn K (.builtin "object.__class__") "__get__" = some (some (.builtin "getset_descriptor.__get__"))) (htk:PySem.W.takesIn K (.builtin "object.__class__")=some true)
  (hm:PySem.W.mroIn K C (.type "object")=some true):gY K H (.ref a) (.ref C)
theorem oG {x:V} {u t:Value} (I:Inv X vA σ H s) (rx:RelV x u) (ty:gY X.K H x t) (e:PySem.W.kitOne X.K t c=some b) (h:∀tk,Q (.bool b) { s with toks:=tk }) :
 wpAny (model X.prog X.w) A (call (.builtin "isinstance") [u,c]) Q E s:=by
 cases ty with
 | non=>cases (show u=Value.none from rx);exact PySem.W.kia_one PySem.W.kitx_none I.kIn True.intro e (λz=>nomatch z) h
 | bl y=>cases (show u=Value.bool y from rx);exact PySem.W.kia_one PySem.W.kitx_bool I.kIn True.intro e (λz=>nomatch z) h
 | int i=>obtain ⟨t,q⟩:=(show ∃t,u=Value.int i t from rx);cases q;exact PySem.W.kia_one PySem.W.kitx_int I.kIn True.intro e (λz=>nomatch z) h
 | str y=>obtain ⟨t,q⟩:=(show ∃t,u=Value.str y t from rx);cases q;exact PySem.W.kia_one PySem.W.kitx_str I.kIn True.intro e (λz=>nomatch z) h
 | flt y=>obtain ⟨t,q⟩:=(show ∃t,u=Value.float y t from rx);cases q;exact PySem.W.kia_one PySem.W.kitx_float I.kIn True.intro e (λz=>nomatch z) h
 | @lst a xs ea=>
  cases (show u=Value.ref a from rx);obtain ⟨_,_,n,_,h1⟩:=(show ObjOk X.prog X.w H s.heap a (.lst xs) from I.hok a _ ea)
  exact PySem.W.kia_one PySem.W.kitx_list I.kIn ⟨_,h1,rfl⟩ e (λz=>nomatch z) h
 | @frz a ob xs ea=>
  cases (show u=Value.ref a from rx);obtain ⟨_,_,_,n,_,h1⟩:=(show ObjOk X.prog X.w H s.heap a (.frz ob (.lst xs)) from I.hok a _ ea)
  exact PySem.W.kia_one PySem.W.kitx_list I.kIn ⟨_,h1,rfl⟩ e (λz=>nomatch z) h
 | @tup a xs ea=>
  cases (show u=Value.ref a from rx);obtain ⟨_,_,_,p⟩:=(show ObjOk X.prog X.w H s.heap a (.tup xs) from I.hok a _ ea)
  obtain ⟨o,h1,h2,_⟩:=p;exact PySem.W.kia_one PySem.W.kitx_tuple I.kIn ⟨o,h1,h2⟩ e (λz=>nomatch z) h
 | @dK a kvs ea=>
  cases (show u=Value.ref a from rx);obtain ⟨_,_,vs,_,p⟩:=(show ObjOk X.prog X.w H s.heap a (.dK kvs) from I.hok a _ ea)
  obtain ⟨o,es,ep,h1,h2,_⟩:=p;exact PySem.W.kia_one PySem.W.kitx_dict I.kIn ⟨o,h1,h2.1⟩ e (λz=>nomatch z) h
 | @dT a kvs ea=>
  cases (show u=Value.ref a from rx);obtain ⟨_,_,xs,_,o,es,ep,h1,h2,_⟩:=(show ObjOk X.prog X.w H s.heap a (.dT kvs) from I.hok a _ ea)
  exact PySem.W.kia_one PySem.W.kitx_dict I.kIn ⟨o,h1,h2.1⟩ e (λz=>nomatch z) h
 | @ins a C dx fs ea cl ha hn htk hm=>
  cases (show u=Value.ref a from rx);obtain ⟨mA,O,_⟩:=sA I.hok ea;obtain ⟨od,J,_⟩:=O.look;exact PySem.W.kia_one (PySem.W.kitx_own (cl.get _) cl.hd ha hn htk hm) I.kIn J e (λz=>nomatch z) h
end
structure Room (k:Nat) (A:Around):Prop where
 hd:A.handled=none
 dp:A.depth+3*k+5 < recursionLimit
 un:A.units+16*k+200 < cLine
 gd:A.guards=some []
theorem Room.mono {j k:Nat} {A:Around} (r:Room k A) (h:j<=k):Room j A:=⟨r.hd,by have:=r.dp;omega,by have:=r.un;omega,r.gd⟩
theorem Room.deeper {k:Nat} {A:Around} (r:Room (k+1) A) (env:Env):Room k (A.deeper env):=
 ⟨r.hd,by have:=r.dp;show A.depth+1+3*k+5 < _;omega,by have:=r.un;show A.units+3+16*k+200 < _;omega,r.gd⟩
theorem YE {A:Around} {C:Addr} {us:List Value} {kw:List (Str×Value)}:(A.under (.builtin "type.__call__" ⟨.ref C::us,kw⟩)).depth=A.depth+1:=by
 first | rfl | simp [Around.under,Code.weight,Code.isCreation,Code.isGuard,Code.isCaller,Code.frames,Code.isFrame,guardIds]
theorem YF {A:Around} {C:Addr} {us:List Value} {kw:List (Str×Value)}:(A.under (.builtin "type.__call__" ⟨.ref C::us,kw⟩)).units=A.units+1:=by
 first | rfl | simp [Around.under,Code.cUnits,Code.frames,Code.isFrame]
theorem YG {A:Around} {C:Addr} {us:List Value} {kw:List (Str×Value)}:(A.under (.builtin "type.__call__" ⟨.ref C::us,kw⟩)).guards=A.guards:=by
 first | rfl | simp [Around.under,Code.guards,Code.isGuard,guardIds,pushGuards]
theorem Room.make {k:Nat} {A:Around} (r:Room (k+1) A) (C:Addr) (us:List Value) (kw:List (Str×Value)):Room k (A.under (.builtin "type.__call__" ⟨.ref C::us,kw⟩)):=
 ⟨r.hd,by have:=r.dp;rw [YE];omega,by have:=r.un;rw [YF];omega,by rw [YG];exact r.gd⟩
theorem Room.depth {k:Nat} {A:Around} (r:Room k A):A.depth < recursionLimit:=by have:=r.dp;omega
theorem Room.units {k:Nat} {A:Around} (r:Room k A):A.units+64 < cLine:=by have:=r.un;omega
def YH:TA:=λ_ H Q=>Q [] H
def YI (ta:TE) (tr:TA):TA:=fun σ H Q=>ta σ H λx H1=>tr σ H1 λxs H2=>Q (x::xs) H2
section
variable {X:Cx} {e:Expr} {es:List Expr} {te:TE} {t:TA} {pos:Pos}
theorem eP:PA X [] YH:=λ_ _ _ _ H Q I h=>Calls.spliced_nil ⟨[],H,I,.nil,h⟩
theorem cZ (ha:PE X e te) (hr:PA X es t) (hs:starEach (e::es) X.env=(false,eval e X.env)::starEach es X.env:=by rfl):PA X (e::es) (YI te t):=by
 intro pos vA s σ H Q I h;rw [hs];show wpAny _ _ (spliced ((false,eval e X.env)::backTo pos (starEach es X.env))) _ _ s;refine Calls.spliced_cons (thn (ha vA s σ H _ I h) λu s1 ⟨x,H1,I1,r1,q1⟩=>?_);exact thn (hr pos vA s1 σ H1 _ I1 q1) λus s2 ⟨xs,H2,I2,r2,q2⟩=>⟨x::xs,H2,I2,.cons r1 r2,q2⟩
def YJ (t:TA):TE:=fun σ H Q=>t σ H λxs H1=>xs.length<=sizeLine/\∀p,H1 p=none->Q (.ref p) (upd H1 p (.tup xs))
def YK (t:TA):TE:=fun σ H Q=>t σ H λxs H1=>xs.length<=sizeLine/\∀p,H1 p=none->Q (.ref p) (upd H1 p (.lst xs))
theorem YL {x1} (h:PA X es t):PE X (.Tuple es x1 pos) (YJ t):=by
 intro vA s σ H Q I hq;refine wpAny_Tuple_spliced (thn (h pos vA s σ H _ I hq) λus s1 ⟨xs,H1,I1,r,z,q⟩=>⟨by rw [<-r.length];exact z,?_⟩);have hf:H1 s1.heap.objs.size=none:=I1.hok.fresh (Nat.le_refl _);refine ⟨.ref s1.heap.objs.size,upd H1 s1.heap.objs.size (.tup xs),I1.laid (t':=s1.toks) (λb u e=>Heap.get?_push_of_some _ e) (Nat.le_refl _) ?_,rfl,q _ hf⟩;exact ⟨z,us,r,⟨_,Heap.get?_push_size _ rfl,rfl,_,rfl⟩⟩
theorem YM (h:PA X es t):PE X (.List es pos) (YK t):=by
 intro vA s σ H Q I hq;refine wpAny_List_spliced (thn (h pos vA s σ H _ I hq) λus s1 ⟨xs,H1,I1,r,z,q⟩=>⟨by rw [<-r.length];exact z,?_⟩);have hf:H1 s1.heap.objs.size=none:=I1.hok.fresh (Nat.le_refl _);refine ⟨.ref s1.heap.objs.size,upd H1 s1.heap.objs.size (.lst xs),I1.laid (t':=s1.toks) (λb u e=>Heap.get?_push_of_some _ e) (Nat.le_refl _) ?_,rfl,q _ hf⟩;exact ⟨z,us,0,r,Heap.get?_push_size _ rfl⟩
end
abbrev Sp:=List V->Hp->VK->XK->Prop
abbrev CXT:=List Env->Hp->Shared->XK->Value->Shared->Prop
structure Env0 (P:Program) (w:World) (K:PySem.W.Frag) (mg:Str->Option Value) (base:Heap) (A:Around) (outer:List Env) (s:Shared) (H:Hp):Prop where
 frames:A.frames=some outer
 mod:Mod K mg base
 bs:∀b o,base.get? b=some o->s.heap.get? b=some o/\H b=none
 bsz:base.objs.size<=s.heap.objs.size
 funs:s.heap.FunFrames base outer
 frf:∀b∈frs outer,H b=none
 hok:HOk P w H s.heap
 bare:AllBare s.gens
def CE (outer:List Env) (P:Program) (w:World) (H:Hp) (s:Shared) (Q:VK) (u:Value) (s':Shared):Prop:=
 ∃v H',s'.os=s.os/\AllBare s'.gens/\Un (frs outer) [] H H' s.heap s'.heap/\HOk P w H' s'.heap/\RelV v u/\Q v H'
def CR (CX:CXT) (outer:List Env) (P:Program) (w:World) (H:Hp) (s:Shared) (Q:VK) (E:XK) (r:Result) (s':Shared):Prop:=
 match r with
 | .ok (.ret u)=>CE outer P w H s Q u s'
 | .ok _=>False
 | .error e=>CX outer H s E e s'
structure bB (P:Program) (w:World) (K:PySem.W.Frag) (mg:Str->Option Value) (base:Heap) (CX:CXT) (k:Nat) (f:Addr) (fd:FuncData) (ps:List Str) (sp:Sp):Prop where
 len:∀vs H Q E,sp vs H Q E->vs.length=ps.length
 run:∀(A:Around) (outer:List Env) (s:Shared) (H:Hp) (args:Args) (us:List Value) (vs:List V) (Q:VK) (E:XK),Room k A->Env0 P w K mg base A outer s H->BindsTo s fd args (ps.zip us)->Vals vs us->sp vs H Q E ->
  codeAny (model P w) A (.call (.ref f) args) (CR CX outer P w H s Q E) s
theorem Env0.make {P:Program} {w:World} {K:PySem.W.Frag} {mg:Str->Option Value} {base:Heap} {A:Around} {outer:List Env} {s:Shared} {H:Hp} (e:Env0 P w K mg base A outer s H) (C:Addr) (us:List Value) (kw:List (Str×Value)) :
 Env0 P w K mg base (A.under (.builtin "type.__call__" ⟨.ref C::us,kw⟩)) outer s H:=⟨by first | exact e.frames | (simpa [Around.under,Code.envs,Code.isFrame,pushEnvs] using e.frames),e.mod,e.bs,e.bsz,e.funs,e.frf,e.hok,e.bare⟩
section
variable {X:Cx} {vA:List (Addr×Obj)} {σ:St} {H:Hp} {s s':Shared}
theorem Inv.env0 (I:Inv X vA σ H s):Env0 X.prog X.w X.K X.mg X.base X.A X.stack s H:=
 ⟨I.ok.frames,I.ok.mod,I.bs,Nat.le_trans I.ok.bsz I.sz,I.stack,I.stkFree,I.hok,I.bare⟩
theorem Inv.after {Q:VK} {u:Value} (I:Inv X vA σ H s) (h:CE X.stack X.prog X.w H s Q u s'):EP X vA σ Q u s':=by
 obtain ⟨v,H',os,bare,un,hok,r,q⟩:=h;obtain ⟨hh,g,d,t,os'⟩:=s';obtain rfl:os'=s.os:=os;exact ⟨v,H',I.call (h':=hh) (g':=g) (d':=d) (t':=t) (ch:=[]) un hok bare (λb z=>absurd z (by simp)),r,q⟩
end
def Binds (K:PySem.W.Frag) (fd:FuncData) (ps:List Str) (ds:List Value):Prop:=
 ∀(s:Shared) (us:List Value),K.In s.heap->(us++ds).length=ps.length->BindsTo s fd ⟨us,[]⟩ (ps.zip (us++ds))
theorem Binds.all {K:PySem.W.Frag} {fd:FuncData} {ps:List Str} (h:∀us:List Value,us.length=ps.length->bindArgs fd ⟨us,[]⟩=pure (ps.zip us)):Binds K fd ps []:=λs us _ hl=>by
 rw [List.append_nil] at hl ⊢;exact .of_eq (h us hl)
section
variable {X:Cx} {CX:CXT} {k:Nat} {f C:Addr} {fd:FuncData} {ps:List Str} {sp:Sp} {dvs:List V} {ds:List Value} {E:XK} {x m:Str} {p pos apos:Pos} {e o:Expr} {es:List Expr} {ta:TE} {t:TA}
structure Mk (K:PySem.W.Frag) (C f:Addr):Prop where
 makes:PySem.W.makesIn K C=true
 init:PySem.W.findIn K (.ref C) "__init__" = some (some (.ref f))
 fn:PySem.W.isFn K (.ref f)=true
 kp:PySem.W.keepIn K (.ref C)=true
variable {ks:List Str} {kpos:Pos} {kws:List Keyword} {te:TE} {tk:TA} {nm:Option Str} {g:List Value->List Value->List Value} {gV:List V->List V->List V}
end
structure bO (N P:List Str) (sc:Scope):Prop where
 kind:sc.kind=.function
 co:sc.isCoroutine=false
 gen:sc.isGenerator=false
 nd:N.Nodup
 pre:N.take P.length=P
 par:∀x∈P,sc.names.lookup x=some .local∨sc.names.lookup x=some .cell
 nofree:∀y∈sc.names,y.2≠.free
theorem GI {kindOf:Str->Option NameKind} {x:Str}:∀{binds:List (Str×Value)} {m:Str->Option Value},(∀v,(x,v)∉binds)->bindL kindOf binds m x=m x
 | [],_,_=>rfl
 | (n,v)::r,m,h=>by
  unfold bindL;rw [GI λw hw=>h w (List.mem_cons_of_mem _ hw)]
  split
  ·have:x≠n:=by rintro rfl;exact h v List.mem_cons_self
   simp [this]
  ·rfl
theorem GJ {kindOf:Str->Option NameKind} {x:Str}:∀{binds:List (Str×Value)} {m:Str->Option Value},(∀v,(x,v)∉binds)->bindC kindOf binds m x=m x
 | [],_,_=>rfl
 | (n,v)::r,m,h=>by
  unfold bindC;rw [GJ λw hw=>h w (List.mem_cons_of_mem _ hw)]
  split
  ·rfl
  ·have:x≠n:=by rintro rfl;exact h v List.mem_cons_self
   simp [this]
theorem GK {kindOf:Str->Option NameKind} {x:Str} {v:Value}:∀{P:List Str} {vs:List Value} {i:Nat} {m:Str->Option Value},P.Nodup->P[i]?=some x->vs[i]?=some v->kindOf x=some .local ->
 bindL kindOf (P.zip vs) m x=some v
 | [],_,_,_,_,h,_,_=>by simp at h
 | _::_,[],_,_,_,_,h,_=>by simp at h
 | p::P,w::vs,0,m,nd,h1,h2,hk=>by
  simp at h1 h2;subst h1;subst h2;show bindL kindOf ((p,w)::P.zip vs) m p=_;unfold bindL;rw [GI λv hv=>(List.nodup_cons.mp nd).1 (List.of_mem_zip hv).1,if_pos hk];simp
 | p::P,w::vs,i+1,m,nd,h1,h2,hk=>by
  show bindL kindOf ((p,w)::P.zip vs) m x=_;unfold bindL;exact GK (i:=i) (List.nodup_cons.mp nd).2 (by simpa using h1) (by simpa using h2) hk
theorem GL {kindOf:Str->Option NameKind} {x:Str} {v:Value}:∀{P:List Str} {vs:List Value} {i:Nat} {m:Str->Option Value},P.Nodup->P[i]?=some x->vs[i]?=some v->kindOf x≠some .local ->
 bindC kindOf (P.zip vs) m x=some v
 | [],_,_,_,_,h,_,_=>by simp at h
 | _::_,[],_,_,_,_,h,_=>by simp at h
 | p::P,w::vs,0,m,nd,h1,h2,hk=>by
  simp at h1 h2;subst h1;subst h2;show bindC kindOf ((p,w)::P.zip vs) m p=_;unfold bindC;rw [GJ λv hv=>(List.nodup_cons.mp nd).1 (List.of_mem_zip hv).1,if_neg hk];simp
 | p::P,w::vs,i+1,m,nd,h1,h2,hk=>by
  show bindC kindOf ((p,w)::P.zip vs) m x=_;unfold bindC;exact GL (i:=i) (List.nodup_cons.mp nd).2 (by simpa using h1) (by simpa using h2) hk
def start (N:List Str) (vs:List V):St:=vs.map some++List.replicate (N.length-vs.length) none
def mC (CX:CXT) (P:Program) (w:World) (K:PySem.W.Frag) (mg:Str->Option Value) (base:Heap) (N:List Str) (qual:Str) (scope:Scope) (f:Addr) (cd:Value) (A:Around) (outer:List Env) (s:Shared) (H:Hp) (E:XK):Cx where
 prog:=P
 w:=w
 K:=K
 mg:=mg
 base:=base
 A:=A.deeper (envOfC qual scope s.heap.objs.size f cd)
 N:=N
 s₀:=s
 H₀:=H
 env:=envOfC qual scope s.heap.objs.size f cd
 outer:=outer
 stack:=envOfC qual scope s.heap.objs.size f cd::outer
 ex:=[]
 calm:=true
 fn:=λ_=>true
 pn:=[]
 xe:=λe s'=>wpAny (model P w) (A.deeper (envOfC qual scope s.heap.objs.size f cd)) (leaving (envOfC qual scope s.heap.objs.size f cd) e) (λ_ s''=>CX outer H s E e s'') (λe' s''=>CX outer H s E e' s'') s'
theorem GM {sc:Scope} {n:Nat} {x:Str} (h:sc.names.lookup x=some .cell):∃c,(cellsFrom n sc.names []).lookup x=some c:=by
 have q:=PySem.W.cellsFrom_some sc.names n [] (.inl h);exact Option.isSome_iff_exists.mp q
theorem YN (ca:Bool) {CX:CXT} {P:Program} {w:World} {K:PySem.W.Frag} {mg:Str->Option Value} {base:Heap} {N ps:List Str} {qual:Str} {scope:Scope} {f:Addr} {cd:Value} {A:Around} {outer:List Env} {s s1:Shared} {H:Hp} {E:XK} {us:List Value} {vs:List V}
 (S:bO N ps scope) (hd:ca=true->A.handled=none) (e0:Env0 P w K mg base A outer s H) (hl:vs.length=ps.length) (r:Vals vs us)
 (x:InCallC s s.heap.objs.size (bindL (envOfC qual scope s.heap.objs.size f cd).kindOf (ps.zip us) λ_=>none) (cellsFrom (s.heap.objs.size+1) scope.names []) (bindC (envOfC qual scope s.heap.objs.size f cd).kindOf (ps.zip us) λ_=>none) s1) :
 Inv ({ mC CX P w K mg base N qual scope f cd A outer s H E with calm:=ca }:Cx) [] (start N vs) H s1:=by
 have hpl:ps.length<=N.length:=by have:=congrArg List.length S.pre;rw [List.length_take] at this;omega
 obtain ⟨h1,tk,rfl,hk⟩:=x.done;have noA:∀b:Addr,b∉({ mC CX P w K mg base N qual scope f cd A outer s H E with calm:=ca }:Cx).ex:=λb z=>absurd (show b∈([]:List Addr) from z) (by simp)
 refine ⟨⟨e0.mod,S.kind,rfl,rfl,Nat.le_refl _,λy z c h1 h2=>?_,λy hy=>?_,λy c _ h=>?_,hd,Around.frames_deeper e0.frames,.inr ⟨rfl,rfl⟩,λb z=>absurd z (noA b),e0.bs,e0.bsz,λb _ _=>noA b,λb z=>absurd z (noA b),e0.funs,e0.frf⟩,
  rfl,e0.bare,Un.kept hk,⟨_,x.toInCall.ns,λi y v h1 h2 h3=>?_⟩,λy c h=>⟨_,x.cell y c h⟩,e0.hok.fresh (Nat.le_refl _),λy c h=>?_,λp hp=>absurd (show p∈([]:List (Addr×Obj)) from hp) (by simp),e0.hok.kept hk,?_⟩
 ·exact name_of_addr x.apart (PySem.mem_of_lookup h1) (PySem.mem_of_lookup h2)
 ·have hy:scope.names.lookup y=some .cell∨scope.names.lookup y=some .free:=hy;rcases hy with hy | hy
  ·exact GM hy
  ·exact absurd rfl (S.nofree _ (PySem.mem_of_lookup hy))
 ·exact Nat.le_of_lt (x.above y c (PySem.mem_of_lookup h))
 ·have hi:i < vs.length:=by
   unfold start at h2;by_cases hi:i < vs.length
   ·exact hi
   ·rw [List.getElem?_append_right (by simpa using hi)] at h2;rw [List.getElem?_replicate] at h2
    split at h2<;>cases h2
  have ha:vs[i]?=some v:=by
   unfold start at h2;rw [List.getElem?_append_left (by simpa using hi),List.getElem?_map] at h2;cases e:vs[i]? with
   | none=>rw [e] at h2;cases h2
   | some a=>rw [e] at h2;cases h2;rfl
  obtain ⟨u,hu,rv⟩:=r.get ha;have hp:ps[i]?=some y:=by
   rw [<-S.pre,List.getElem?_take_of_lt (by omega)];exact h1
  have ndP:ps.Nodup:=by rw [<-S.pre];exact S.nd.sublist (List.take_sublist _ _)
  refine ⟨u,rv,?_⟩;rcases S.par y (List.mem_of_getElem? hp) with k | k
  ·exact .inl ⟨k,GK ndP hp hu k⟩
  ·obtain ⟨c,e⟩:=GM (n:=s.heap.objs.size+1) k;refine .inr ⟨.inl k,c,e,?_⟩;have q:=x.cell y c e;rw [GL ndP hp hu (by show scope.names.lookup y≠_;rw [k];decide)] at q;exact q
 ·exact e0.hok.fresh (Nat.le_of_lt (x.above y c (PySem.mem_of_lookup h)))
 ·unfold start;show _=N.length;rw [List.length_append,List.length_map,List.length_replicate];omega
theorem GN {CX:CXT} {P:Program} {w:World} {K:PySem.W.Frag} {mg:Str->Option Value} {base:Heap} {k:Nat} {f:Addr} {name qual:Str} {params:Arguments} {body:List Stmt} {scope:Scope} {dV kV doc pm vK ct oc:Value} {an od:Option Addr}
 {osl:Array (Option Value)} {N ps:List Str} {sp:Sp} (lk:K.lookup f=some ⟨oc,od,.func (PySem.W.fnOf name qual params body scope dV kV doc pm an vK ct),osl⟩) (hcd:PySem.W.codeIn K vK qual=true) (S:bO N ps scope)
 (len:∀vs H Q E,sp vs H Q E->vs.length=ps.length)
 (hbody:∀(A:Around) (outer:List Env) (s:Shared) (H:Hp) (vs:List V) (Q:VK) (E:XK),Room k (A.deeper (envOfC qual scope s.heap.objs.size f vK))->sp vs H Q E ->
  ∃t,PSs (mC CX P w K mg base N qual scope f vK A outer s H E) body t/\t { nx:=λ_ H'=>Q .non H',rt:=Q } (start N vs) H) :
 bB P w K mg base CX (k+1) f (PySem.W.fnOf name qual params body scope dV kV doc pm an vK ct) ps sp:=by
 refine ⟨len,λA outer s H args us vs Q E hr e0 hb r hsp=>?_⟩;have hl:=len _ _ _ _ hsp;have KX:K.In s.heap:=e0.mod.kin.keeps λb o e=>(e0.bs b o e).1
 have lim:s.heap.NoLimit:=e0.mod.nolimit.keeps λb o e=>(e0.bs b o e).1
 have hkind:∀y∈ps.zip us,scope.names.lookup y.1=some .local∨(scope.names.lookup y.1=some .cell/\((cellsFrom (s.heap.objs.size+1) scope.names []).lookup y.1).isSome=true):=λ⟨n,v⟩ hy=>by
  rcases S.par n (List.of_mem_zip hy).1 with q | q
  ·exact .inl q
  ·exact .inr ⟨q,PySem.W.cellsFrom_some _ _ _ (.inl q)⟩
 refine codeAny_call_function hr.depth (KX _ _ lk) rfl S.co S.gen rfl (PySem.W.codeRec_of KX hcd) (hb _ _ _ _ ?_);refine wpAny_newFunctionEnv_cells S.kind hkind λenv he s1 x=>?_
 subst he;refine ⟨lim.keeps x.toInCall.keep,codeAny_func ?_⟩;obtain ⟨t,ht,hq⟩:=hbody A outer s H vs Q E (hr.deeper _) hsp;have I:Inv (mC CX P w K mg base N qual scope f vK A outer s H E) [] (start N vs) H s1:=YN true S (λ_=>hr.hd) e0 hl r x;refine wpAny_mono (ht [] s1 (start N vs) H _ I hq) (λfl s' hs=>?_) λe s' hs=>hs
 have fin:∀{σ':St} {H':Hp} {v:V} {u:Value},Inv (mC CX P w K mg base N qual scope f vK A outer s H E) [] σ' H' s'->RelV v u->Q v H'->CE outer P w H s Q u s':=
  λ{σ' H' v u} J rv q=>⟨v,H',J.os,J.bare,J.base,J.hok,rv,q⟩
 cases fl with
 | ret u=>
  obtain ⟨v,σ',H',J,rv,q⟩:=hs;exact fin J rv q
 | next=>
  obtain ⟨σ',H',J,q⟩:=hs;exact fin (v:=V.non) (u:=Value.none) J rfl q
 | brk=>
  obtain ⟨_,_,_,q⟩:=hs;exact False.elim q
 | cont=>
  obtain ⟨_,_,_,q⟩:=hs;exact False.elim q
section
variable {X:Cx} {x:Str} {p pos:Pos} {e:Expr} {es:List Expr} {t:TA} {id T:String} {r:List V->Hp->VK->Prop}
def tCB (r:List V->Hp->VK->Prop) (t:TA):TE:=fun σ H Q=>t σ H λvs H1=>r vs H1 Q
theorem xP (hc:eY X (.builtin id) r) (hg:Gl X x) (hm:X.mg x=none) (hv:bootBuiltins x=some (.builtin id)) (ha:PA X (e::es) t) (hn:x≠"__name__":=by decide) (hdb:(x==("__debug__" : Str))=false:=by decide)
 (he:starEach (e::es) X.env=(false,eval e X.env)::starEach es X.env:=by rfl) (hpl:(backTo pos (starEach es X.env)).any (·.1)=false:=by rfl):PE X (.Call (.Name x p) (e::es) [] pos) (tCB r t):=by
 intro vA s σ H Q I h;refine wpAny_Call_Name_kw (gX I hg hm hv ?_ hn hdb);exact PyProof.Rows.callWith_builtin1 (thn (ha pos vA s σ H _ I h) λus s1 ⟨vs,H1,I1,r1,q1⟩=>hc vA s1 σ H1 vs us Q I1 r1 q1) he hpl
theorem mD (hc:eY X (.type T) r) (hg:Gl X x) (hm:X.mg x=none) (hv:bootBuiltins x=some (.type T)) (ha:PA X (e::es) t) (hn:x≠"__name__":=by decide) (hdb:(x==("__debug__" : Str))=false:=by decide)
 (he:starEach (e::es) X.env=(false,eval e X.env)::starEach es X.env:=by rfl) (hpl:(backTo pos (starEach es X.env)).any (·.1)=false:=by rfl):PE X (.Call (.Name x p) (e::es) [] pos) (tCB r t):=by
 intro vA s σ H Q I h;refine wpAny_Call_Name_kw (gX I hg hm hv ?_ hn hdb);exact PyProof.Rows.callWith_type1 (thn (ha pos vA s σ H _ I h) λus s1 ⟨vs,H1,I1,r1,q1⟩=>hc vA s1 σ H1 vs us Q I1 r1 q1) he hpl
end
end L2
namespace HT
open PySem PyProof.Rows
section
open PySem.SeqAt
open PySem.AutoSeq1 (wpAny_loadPart')
open PySem.MeetsSeq PySem.MeetsSeq2 PySem.MeetsSeq3
end
section
variable {prog:Program} {w:World} {A:Around} {E:Value->Shared->Prop} {s:Shared}
def sIx (n d:Nat):Option Int->Nat
 | none=>d
 | some v=>if v < 0 then (v+(n:Int)).toNat else min v.toNat n
theorem sIx_nat (n d k:Nat):sIx n d (some (k:Int))=min k n:=by
 show (if (k:Int) < 0 then ((k:Int)+(n:Int)).toNat else min (k:Int).toNat n)=min k n;rw [if_neg (by omega),Int.toNat_natCast]
end
end HT
namespace L2
open PySem PySem.Spec PyProof.Rows
abbrev TO:=St->Hp->(Option Int->Hp->Prop)->Prop
def PO (X:Cx) (e:Option Expr) (t:TO):Prop:=
 ∀(vA:List (Addr×Obj)) (s:Shared) (σ:St) (H:Hp) (Q:Option Int->Hp->Prop),Inv X vA σ H s->t σ H Q ->
  wpAny (model X.prog X.w) X.A (evalPart e X.env) (λu s'=>∃o H',Inv X vA σ H' s'/\IsPart u o/\Q o H') X.xe s
def YO:TO:=λ_ H Q=>Q none H
def YQ (t:TE):TO:=fun σ H Q=>t σ H λx H1=>∃i,x=.int i/\Q (some i) H1
section
variable {X:Cx} {e:Expr} {te:TE} {lo hi:Option Expr} {tl th:TO} {pos p2:Pos}
theorem YR:PO X none YO:=by
 intro vA s σ H Q I h;rw [evalPart_none];exact wpAny_pure ⟨none,H,I,.none,h⟩
theorem YS (h:PE X e te):PO X (some e) (YQ te):=by
 intro vA s σ H Q I hw;rw [evalPart_some];refine thn (h vA s σ H _ I hw) λu s1 ⟨x,H1,I1,r1,q1⟩=>?_
 obtain ⟨i,rfl,q⟩:=q1;obtain ⟨t,rfl⟩:=r1;exact ⟨some i,H1,I1,.int i t,q⟩
def SlR (X:Cx) (r:V->Option Int->Option Int->Hp->VK->Prop):Prop:=
 ∀(vA:List (Addr×Obj)) (s:Shared) (σ:St) (H:Hp) (x:V) (v vl vu:Value) (lo hi:Option Int) (sl:Addr) (Q:VK),Inv X vA σ H s->RelV x v->s.heap.IsSliceOf sl vl vu .none->IsPart vl lo->IsPart vu hi->r x lo hi H Q ->
  ∃T id,typeLookup (.type T) "__getitem__" = pure (some (.builtin id))/\s.TypeIs v T/\wpAny (model X.prog X.w) X.A (getItem v (.ref sl)) (EP X vA σ Q) X.xe s
def tSl (r:V->Option Int->Option Int->Hp->VK->Prop) (te:TE) (tl th:TO):TE:=fun σ H Q=>te σ H λx H1=>tl σ H1 λl H2=>th σ H2 λu H3=>r x l u H3 Q
theorem GO {r:V->Option Int->Option Int->Hp->VK->Prop} (hr:SlR X r) (he:PE X e te) (hl:PO X lo tl) (hu:PO X hi th):PE X (.Subscript e (.Slice lo hi none p2) pos) (tSl r te tl th):=by
 intro vA s σ H Q I h;refine Subscript_ (thn (he vA s σ H _ I h) λv s1 ⟨x,H1,I1,r1,q1⟩=>?_);refine wpAny_Slice (thn (hl vA s1 σ H1 _ I1 q1) λvl s2 ⟨l,H2,I2,pl,q2⟩=>thn (hu vA s2 σ H2 _ I2 q2) λvu s3 ⟨u,H3,I3,pu,q3⟩=>?_);rw [evalPart_none];refine wpAny_pure ?_;have I4:Inv X vA σ H3 { s3 with heap:=s3.heap.push { cls:=.type "slice",data:=.fields #[vl,vu,.none] } }:=I3.kept (t':=s3.toks) λb ob q=>Heap.get?_push_of_some _ q
 obtain ⟨T,id,hT,ht,hg⟩:=hr vA { s3 with heap:=s3.heap.push { cls:=.type "slice",data:=.fields #[vl,vu,.none] } } σ H3 x v vl vu l u s3.heap.objs.size Q I4 r1 (Heap.IsSliceOf.new ..) pl pu q3;show wpAny (model X.prog X.w) X.A (subscriptTail e (.Slice lo hi none p2) v (.ref s3.heap.objs.size)) (EP X vA σ Q) X.xe { s3 with heap:=s3.heap.push { cls:=.type "slice",data:=.fields #[vl,vu,.none] } };exact tail_any (ops:=[.ref s3.heap.objs.size,v]) ht hT hg (by with_unfolding_all rfl)
def mE (xs:List V) (lo hi:Option Int):List V:=(xs.drop (HT.sIx xs.length 0 lo)).take (HT.sIx xs.length xs.length hi-HT.sIx xs.length 0 lo)
theorem YT (xs:List V) (lo hi:Option Int):(mE xs lo hi).length<=xs.length:=by
 unfold mE;rw [List.length_take,List.length_drop];omega
end
def ixN (n:Nat) (i:Int):Option Nat:=if 0<=i then (if i < n then some i.toNat else none) else if -(n:Int)<=i then some (i+n).toNat else none
def atI {α:Type} (xs:List α) (i:Int):Option α:=(ixN xs.length i).bind λj=>xs[j]?
theorem xQ {n:Nat} {i:Int} {j:Nat} (h:ixN n i=some j):seqIndex? i n=some j/\j < n/\-(n:Int)<=i/\i < n:=by
 unfold ixN at h;by_cases h0:0<=i
 ·rw [if_pos h0] at h;by_cases h1:i < n
  ·rw [if_pos h1] at h;have e:i.toNat=j:=Option.some.inj h;exact ⟨by rw [seqIndex_of h0 h1,e],by omega,by omega,h1⟩
  ·rw [if_neg h1] at h;cases h
 ·rw [if_neg h0] at h;by_cases h1:-(n:Int)<=i
  ·rw [if_pos h1] at h;have e:(i+n).toNat=j:=Option.some.inj h;exact ⟨by rw [seqIndex_neg (by omega) h1,e],by omega,h1,by omega⟩
  ·rw [if_neg h1] at h;cases h
theorem sB {α:Type} {xs:List α} {i:Int} {v:α} (h:atI xs i=some v):∃j,seqIndex? i xs.length=some j/\xs[j]?=some v/\j < xs.length/\-(xs.length:Int)<=i/\i < xs.length:=by
 unfold atI at h;cases e:ixN xs.length i with
 | none=>rw [e] at h;cases h
 | some j=>
  rw [e] at h;obtain ⟨h1,h2,h3,h4⟩:=xQ e;exact ⟨j,h1,h,h2,h3,h4⟩
theorem dC {α:Type} {xs:List α} {j:Nat} {v:α} (h:xs[j]?=some v):atI xs (j:Int)=some v:=by
 have hj:j < xs.length:=(List.getElem?_eq_some_iff.mp h).1;have e:ixN xs.length (j:Int)=some j:=by
  unfold ixN;rw [if_pos (by omega),if_pos (by omega)];simp
 unfold atI;rw [e];exact h
def xR (b:Expr):Prop:=∀o i,subscripted b false o i=operate [o,i] (getItem o i)
def IxR (X:Cx) (r:R2):Prop:=
 ∀(value slice:Expr) (vA:List (Addr×Obj)) (s:Shared) (σ:St) (H:Hp) (x y:V) (v u:Value) (Q:VK),Inv X vA σ H s->RelV x v->RelV y u->r x y H Q ->
  subscripted slice false v u=operate [v,u] (getItem v u)->wpAny (model X.prog X.w) X.A (subscriptTail value slice v u) (EP X vA σ Q) X.xe s
def MtR (X:Cx) (id:String) (r:V->List V->Hp->VK->Prop):Prop:=
 ∀(vA:List (Addr×Obj)) (s:Shared) (σ:St) (H:Hp) (x:V) (xs:List V) (v:Value) (us:List Value) (Q:VK),Inv X vA σ H s->RelV x v->Vals xs us->r x xs H Q ->
  wpAny (model X.prog X.w) X.A (call (.builtin id) (v::us)) (EP X vA σ Q) X.xe s
section
variable {X:Cx} {a b:Expr} {ta tb:TE} {pos:Pos}
theorem IxR.or {r r':R2} (h:IxR X r) (h':IxR X r'):IxR X (λx y H Q=>r x y H Q∨r' x y H Q):=by
 intro value slice vA s σ H x y v u Q I rx ry q hs;rcases q with q | q
 ·exact h value slice vA s σ H x y v u Q I rx ry q hs
 ·exact h' value slice vA s σ H x y v u Q I rx ry q hs
theorem GP {r:R2} (hr:IxR X r) (ha:PE X a ta) (hb:PE X b tb) (hs:xR b):PE X (.Subscript a b pos) (tOp r ta tb):=by
 intro vA s σ H Q I h;exact Subscript_ (xM ha hb I h λv u s2 x y H2 I2 rx ry q=>hr a b vA s2 σ H2 x y v u Q I2 rx ry q (hs _ _))
def YU (K:PySem.W.Frag):R2:=λx y H Q=>∃p xs i v,x=.ref p/\y=.int i/\SqL K H p xs/\atI xs i=some v/\Q v H
def YV (K:PySem.W.Frag):R2:=λx y H Q=>∃p xs i v,x=.ref p/\y=.int i/\SqT K H p xs/\atI xs i=some v/\Q v H
def YW:R2:=λx y H Q=>∃z i c,x=.str z/\y=.int i/\z.length<=sizeLine/\atI z.cps.toList i=some c/\Q (.str ⟨#[c]⟩) H
theorem GQ:IxR X (YU X.K):=by
 intro value slice vA s σ H x y v u Q I rx ry h hs;obtain ⟨p,xs,i,z,rfl,rfl,hq,he,q⟩:=h;cases rx;obtain ⟨t,rfl⟩:=ry;obtain ⟨its,r,pl,hz⟩:=I.list hq;obtain ⟨j,h1,h2,h3,h4,h5⟩:=sB he;obtain ⟨w,ew,rw'⟩:=r.get h2;have hl:=r.length;have hn:=line63;have fin:EP X vA σ Q w s:=⟨z,H,I,rw',q⟩
 by_cases h0:0<=i
 ·have hj:i.toNat=j:=by
   rw [seqIndex_of h0 h5] at h1;exact Option.some.inj h1
  exact item_listR pl.isList h0 (by omega) (by rw [hj];simpa using ew) fin hs
 ·have hj:(i+(its.toArray.size:Int)).toNat=j:=by
   rw [seqIndex_neg (by omega) h4] at h1;rw [List.size_toArray,<-hl];exact Option.some.inj h1
  exact subscriptTail_builtinR (x:=w) pl.isList.typeIs slot_list_getitem.lookup
   (wpAny_getItem_list_neg (Q:=λr s'=>r=w/\EP X vA σ Q r s') pl.isList (by omega) (by rw [List.size_toArray]<;>omega) (by omega) (by rw [hj];simpa using ew) ⟨rfl,fin⟩) hs
theorem YX:IxR X (YV X.K):=by
 intro value slice vA s σ H x y v u Q I rx ry h hs;obtain ⟨p,xs,i,z,rfl,rfl,hq,he,q⟩:=h;cases rx;obtain ⟨t,rfl⟩:=ry;obtain ⟨its,r,pl,hz⟩:=I.tuple hq;obtain ⟨j,h1,h2,h3,h4,h5⟩:=sB he;obtain ⟨w,ew,rw'⟩:=r.get h2;have hl:=r.length;have hn:=line63;have fin:EP X vA σ Q w s:=⟨z,H,I,rw',q⟩
 exact subscriptTail_builtinR (x:=w) pl.typeIs slot_tuple_getitem.lookup
  (getItem_tuple (j:=j) (Q:=λr s'=>r=w/\EP X vA σ Q r s') pl (by omega) (by omega) (by rw [List.size_toArray,<-hl];exact h1) (by simpa using ew) ⟨rfl,fin⟩) hs
theorem YY:IxR X YW:=by
 intro value slice vA s σ H x y v u Q I rx ry h hs;obtain ⟨z,i,c,rfl,rfl,hz,he,q⟩:=h;obtain ⟨t,rfl⟩:=rx;obtain ⟨t',rfl⟩:=ry;obtain ⟨j,h1,h2,h3,h4,h5⟩:=sB he;have hl:z.cps.toList.length=z.length:=by simp [Str.length]
 rw [hl] at h1 h4 h5;have hn:=line63;exact tail_any (typeIs_str s z t) slot_str_getitem.lookup (getItem_str (c:=c) (by
  have e1:decide (i < -(2 ^ 63:Int))=false:=decide_eq_false (by omega);have e2:decide (i ≥ 2 ^ 63)=false:=decide_eq_false (by omega);rw [e1,e2,Bool.or_false]) (by rw [h1];simpa using h2) ⟨.str ⟨#[c]⟩,H,I.tok _,⟨_,rfl⟩,q⟩) hs
theorem YZ (its:List Value) (n j:Nat) (u:Value):Obj.mapSeq (·.setIfInBounds j u) { cls:=.type "list",data:=.seq its.toArray n }={ cls:=.type "list",data:=.seq (its.set j u).toArray n }:=by
 simp [Obj.mapSeq]
theorem Inv.lst {vA:List (Addr×Obj)} {σ:St} {H:Hp} {s:Shared} {p:Addr} {xs:List V} (I:Inv X vA σ H s) (h:H p=some (.lst xs)) :
 ∃(its:List Value) (n:Nat),Vals xs its/\s.heap.get? p=some { cls:=.type "list",data:=.seq its.toArray n }/\xs.length<=sizeLine:=by
 obtain ⟨z,its,n,r,e⟩:=I.hok p _ h;exact ⟨its,n,r,e,z⟩
theorem Inv.lstUpd {vA:List (Addr×Obj)} {σ:St} {H:Hp} {s:Shared} {p:Addr} {xs ys:List V} {its its':List Value} {n n':Nat} {f:Obj->Obj} (I:Inv X vA σ H s) (h:H p=some (.lst xs))
 (ho:s.heap.get? p=some { cls:=.type "list",data:=.seq its.toArray n }) (hf:f { cls:=.type "list",data:=.seq its.toArray n }={ cls:=.type "list",data:=.seq its'.toArray n' }) (r:Vals ys its') (hz:ys.length<=sizeLine) (t:Nat) :
 Inv X vA σ (upd H p (.lst ys)) { s with heap:=s.heap.update p f,toks:=t }:=by
 have e:(s.heap.update p f).get? p=some { cls:=.type "list",data:=.seq its'.toArray n' }:=by
  rw [Heap.get?_update_self f ho (by rw [hf]<;>rfl),hf]
 refine I.write (x:=p) (e:=p) (by rw [h];trivial) (.inl rfl) (λb u hb q=>(Heap.get?_update_other _ _ (Ne.symm hb)).trans q) ⟨_,e⟩ ?_;exact ⟨hz,its',n',r,e⟩
def ZA:V->V->V->Hp->(Hp->Prop)->Prop:=λo i v H Q=>∃p xs k j,o=.ref p/\i=.int k/\H p=some (.lst xs)/\ixN xs.length k=some j/\Q (upd H p (.lst (xs.set j v)))
theorem ZB:xG X ZA:=by
 intro vA s σ H o i v ov iv u Q I ro ri rv h;obtain ⟨p,xs,k,j,rfl,rfl,hp,hj,q⟩:=h;cases ro;obtain ⟨t,rfl⟩:=ri;obtain ⟨its,n,r,ho,hz⟩:=I.lst hp;obtain ⟨h1,h2,h3,h4⟩:=xQ hj;have hl:=r.length;have hn:=line63;have I':Inv X vA σ (upd H p (.lst (xs.set j v))) { s with heap:=s.heap.update p (Obj.mapSeq (·.setIfInBounds j u)) }:=
  I.lstUpd hp ho (YZ its n j u) (r.set rv j) (by rw [List.length_set];exact hz) s.toks
 by_cases h0:0<=k
 ·have hk:k.toNat=j:=by
   rw [seqIndex_of h0 h4] at h1;exact Option.some.inj h1
  exact PySem.W.ki_setAt ho h0 (by omega) (by rw [List.size_toArray,<-hl];exact h4) (by rw [hk];exact ⟨_,I',q⟩)
 ·have hk:(k+(its.toArray.size:Int)).toNat=j:=by
   rw [seqIndex_neg (by omega) h3] at h1;rw [List.size_toArray,<-hl];exact Option.some.inj h1
  exact PySem.W.ki_setBack ho (by omega) (by rw [List.size_toArray,<-hl];exact h3) (by omega) (by rw [hk];exact ⟨_,I',q⟩)
theorem ZC (lo hi:Option Int) (n:Nat):(sliceBounds lo hi none n).1=((HT.sIx n 0 lo:Nat):Int)/\(sliceBounds lo hi none n).2.1=((HT.sIx n n hi:Nat):Int)/\(sliceBounds lo hi none n).2.2=1:=by
 refine ⟨?_,?_,rfl⟩
 ·cases lo with
  | none=>simp [sliceBounds,HT.sIx]
  | some i=>
   simp only [sliceBounds,HT.sIx,Option.getD_none,show (1:Int) > 0 by decide,if_true];by_cases h:i < 0
   ·simp only [h,if_true]<;>omega
   ·simp only [h,if_false]<;>omega
 ·cases hi with
  | none=>simp [sliceBounds,HT.sIx]
  | some i=>
   simp only [sliceBounds,HT.sIx,Option.getD_none,show (1:Int) > 0 by decide,if_true];by_cases h:i < 0
   ·simp only [h,if_true]<;>omega
   ·simp only [h,if_false]<;>omega
theorem ZD (its:List Value) (lo hi:Option Int):slicePick its.toArray lo hi none=((its.drop (HT.sIx its.length 0 lo)).take (HT.sIx its.length its.length hi-HT.sIx its.length 0 lo)).toArray:=by
 obtain ⟨h1,h2,h3⟩:=ZC lo hi its.toArray.size;unfold slicePick;rw [h1,h2,h3];simp only [sliceRange_one,pick_run,List.size_toArray]<;>rfl
def ZE (K:PySem.W.Frag):V->Option Int->Option Int->Hp->VK->Prop:=λx lo hi H Q=>∃a xs,x=.ref a/\SqL K H a xs/\∀p,H p=none->Q (.ref p) (upd H p (.lst (mE xs lo hi)))
theorem ZF:SlR X (ZE X.K):=by
 intro vA s σ H x v vl vu lo hi sl Q I rx hs pl pu h;obtain ⟨a,xs,rfl,hx,q⟩:=h;cases rx;obtain ⟨its,r,ht,hz⟩:=I.list hx;have hlen:=r.length;refine ⟨"list",_,slot_list_getitem.lookup,ht.isList.typeIs,?_⟩;refine wpAny_getItem_list_slice ht.isList hs pl pu .none (by simp) ?_ (by rw [List.size_toArray]<;>omega);rw [ZD,<-hlen];refine ⟨.ref s.heap.objs.size,_,I.laid (t':=s.toks) (o:=.lst (mE xs lo hi)) (λb ob q=>Heap.get?_push_of_some _ q) (Nat.le_refl _) ?_,rfl,q _ (I.hok.fresh (Nat.le_refl _))⟩;exact ⟨Nat.le_trans (YT xs lo hi) hz,_,0,(r.drop (HT.sIx xs.length 0 lo)).take (HT.sIx xs.length xs.length hi-HT.sIx xs.length 0 lo),Heap.get?_push_size _ rfl⟩
def iN:V->Bool
 | .non=>true
 | .bl _=>true
 | .int _=>true
 | .str _=>true
 | _=>false
def eqV:V->V->Bool
 | .non,.non=>true
 | .bl a,.bl b=>a==b
 | .bl a,.int b=>(if a then 1 else 0)==b
 | .int a,.bl b=>a==(if b then 1 else 0)
 | .int a,.int b=>a==b
 | .str a,.str b=>a==b
 | _,_=>false
theorem ZG {A:Around} {s:Shared} {y x:V} {u v:Value} (ry:RelV y u) (rx:RelV x v) (fy:iN y=true) (fx:iN x=true):SeqAt.EqAt A s u v (eqV y x):=by
 cases y with
 | non=>
  cases ry;cases x with
  | non=>cases rx;exact SeqAt.EqAt.same _
  | bl b=>cases rx;exact SeqAt.EqAt.none_bool b
  | int b=>obtain ⟨t,rfl⟩:=rx;exact SeqAt.EqAt.none_int b t
  | str b=>obtain ⟨t,rfl⟩:=rx;exact SeqAt.EqAt.none_str b t
  | _=>exact absurd (show false=true from fx) Bool.false_ne_true
 | bl a=>
  cases ry;cases x with
  | non=>cases rx;exact SeqAt.EqAt.bool_none a
  | bl b=>cases rx;exact SeqAt.EqAt.bool_bool a b
  | int b=>obtain ⟨t,rfl⟩:=rx;exact SeqAt.EqAt.bool_int a b t
  | str b=>obtain ⟨t,rfl⟩:=rx;exact SeqAt.EqAt.bool_str a b t
  | _=>exact absurd (show false=true from fx) Bool.false_ne_true
 | int a=>
  obtain ⟨t',rfl⟩:=ry;cases x with
  | non=>cases rx;exact SeqAt.EqAt.int_none a t'
  | bl b=>cases rx;exact SeqAt.EqAt.int_bool a t' b
  | int b=>obtain ⟨t,rfl⟩:=rx;exact SeqAt.EqAt.int_int a t' b t
  | str b=>obtain ⟨t,rfl⟩:=rx;exact SeqAt.EqAt.int_str a t' b t
  | _=>exact absurd (show false=true from fx) Bool.false_ne_true
 | str a=>
  obtain ⟨t',rfl⟩:=ry;cases x with
  | non=>cases rx;exact SeqAt.EqAt.str_none a t'
  | bl b=>cases rx;exact SeqAt.EqAt.str_bool a t' b
  | int b=>obtain ⟨t,rfl⟩:=rx;exact SeqAt.EqAt.str_int a t' b t
  | str b=>obtain ⟨t,rfl⟩:=rx;exact SeqAt.EqAt.str_str a t' b t
  | _=>exact absurd (show false=true from fx) Bool.false_ne_true
 | _=>exact absurd (show false=true from fy) Bool.false_ne_true
def eqU (x:V) (u:Value):Bool:=match u with
 | .none=>eqV .non x
 | .bool b=>eqV (.bl b) x
 | .int i _=>eqV (.int i) x
 | .str z _=>eqV (.str z) x
 | _=>false
theorem GR {x y:V} {u:Value} (r:RelV y u) (f:iN y=true):eqU x u=eqV y x:=by
 cases y with
 | non=>cases r;rfl
 | bl b=>cases r;rfl
 | int i=>obtain ⟨t,rfl⟩:=r;rfl
 | str z=>obtain ⟨t,rfl⟩:=r;rfl
 | _=>exact absurd (show false=true from f) Bool.false_ne_true
theorem oH {x:V}:∀{xs:List V} {us:List Value},Vals xs us->xs.all iN=true->us.any (eqU x)=xs.any λy=>eqV y x
 | _,_,.nil,_=>rfl
 | y::xs,u::us,.cons r t,f=>by
  rw [List.all_cons,Bool.and_eq_true] at f;rw [List.any_cons,List.any_cons,GR r f.1,oH t f.2]
theorem oI {A:Around} {s:Shared} {x:V} {v:Value} (rx:RelV x v) (fx:iN x=true):∀{xs:List V} {us:List Value},Vals xs us->xs.all iN=true->∀u∈us,SeqAt.EqAt A s u v (eqU x u)
 | _,_,.nil,_=>λu hu=>by cases hu
 | y::xs,u::us,.cons r t,f=>λu' hu=>by
  rw [List.all_cons,Bool.and_eq_true] at f;rcases List.mem_cons.mp hu with rfl | hu
  ·rw [GR r f.1];exact ZG r rx f.1 fx
  ·exact oI rx fx t f.2 u' hu
def inV (x:V) (xs:List V):Bool:=xs.any λy=>eqV y x
def rIn (K:PySem.W.Frag) (neg:Bool):R2:=λx y H Q=>∃p xs,y=.ref p/\(SqL K H p xs∨SqT K H p xs)/\iN x=true/\xs.all iN=true/\Q (.bl (if neg then !inV x xs else inV x xs)) H
theorem ZH:OpR X (compareOp .In) (rIn X.K false):=by
 intro vA s σ H x y v u Q I rx ry h;obtain ⟨p,xs,rfl,hq,fx,fs,q⟩:=h;cases ry;rcases hq with hq | hq
 ·obtain ⟨its,r,pl,hz⟩:=I.list hq;refine SeqAt.in_listAt (eqU x) pl.isList (λw hw=>oI rx fx r fs w (by simpa using hw)) ⟨.bl _,H,I,rfl,?_⟩;rw [show its.toArray.any (eqU x)=its.any (eqU x) by simp,oH r fs];exact q
 ·obtain ⟨its,r,pl,hz⟩:=I.tuple hq;refine SeqAt.in_tupleAt (eqU x) pl (λw hw=>oI rx fx r fs w (by simpa using hw)) ⟨.bl _,H,I,rfl,?_⟩;rw [show its.toArray.any (eqU x)=its.any (eqU x) by simp,oH r fs];exact q
theorem ZI:OpR X (compareOp .NotIn) (rIn X.K true):=by
 intro vA s σ H x y v u Q I rx ry h;obtain ⟨p,xs,rfl,hq,fx,fs,q⟩:=h;cases ry;rcases hq with hq | hq
 ·obtain ⟨its,r,pl,hz⟩:=I.list hq;refine SeqAt.notIn_listAt (eqU x) pl.isList (λw hw=>oI rx fx r fs w (by simpa using hw)) ⟨.bl _,H,I,rfl,?_⟩;rw [show its.toArray.any (eqU x)=its.any (eqU x) by simp,oH r fs];exact q
 ·obtain ⟨its,r,pl,hz⟩:=I.tuple hq;refine SeqAt.notIn_tupleAt (eqU x) pl (λw hw=>oI rx fx r fs w (by simpa using hw)) ⟨.bl _,H,I,rfl,?_⟩;rw [show its.toArray.any (eqU x)=its.any (eqU x) by simp,oH r fs];exact q
theorem GS:eY X (.type "list") (λxs H Q=>∃p ys,xs=[.ref p]/\(SqL X.K H p ys∨SqT X.K H p ys)/\∀l,H l=none->Q (.ref l) (upd H l (.lst ys))):=by
 intro vA s σ H xs us Q I r h;obtain ⟨p,ys,rfl,hq,q⟩:=h;obtain ⟨u,rfl,rx⟩:=vals1 r;cases rx;have fin:∀(its:List Value),Vals ys its->ys.length<=sizeLine->∀(h':Heap) (c':Nat),(∀b o',s.heap.get? b=some o'->h'.get? b=some o') ->
  h'.get? s.heap.objs.size=some { cls:=.type "list",dict:=none,data:=.seq its.toArray c',slots:=#[] }->EP X vA σ Q (.ref s.heap.objs.size) { s with heap:=h' }:=λits r' hz h' c' kp e=>
  ⟨.ref s.heap.objs.size,_,I.laid (t':=s.toks) kp (Nat.le_refl _) (show ObjOk X.prog X.w _ h' _ (.lst ys) from ⟨hz,its,c',r',e⟩),rfl,q _ (I.hok.fresh (Nat.le_refl _))⟩
 rcases hq with hq | hq
 ·obtain ⟨its,r',pl,hz⟩:=I.list hq;have hlen:=r'.length;obtain ⟨o,ho,hc,n,hd⟩:=pl.isList;exact call_list_seq p (.inl rfl) ho hc hd (λh' c' kp e=>fin its r' hz h' c' kp e) (by simp only [List.size_toArray]<;>omega)
 ·obtain ⟨its,r',pl,hz⟩:=I.tuple hq;have hlen:=r'.length;obtain ⟨o,ho,hc,n,hd⟩:=pl;exact call_list_seq p (.inr rfl) ho hc hd (λh' c' kp e=>fin its r' hz h' c' kp e) (by simp only [List.size_toArray]<;>omega)
theorem ZJ:eY X (.type "tuple") (λxs H Q=>∃p ys,xs=[.ref p]/\((SqL X.K H p ys/\∀l,H l=none->Q (.ref l) (upd H l (.tup ys)))∨(SqT X.K H p ys/\Q (.ref p) H))):=by
 intro vA s σ H xs us Q I r h;obtain ⟨p,ys,rfl,h⟩:=h;obtain ⟨u,rfl,rx⟩:=vals1 r;cases rx;rcases h with ⟨hq,q⟩ | ⟨hq,q⟩
 ·obtain ⟨its,r',pl,hz⟩:=I.list hq;have hlen:=r'.length;refine call_tuple_list pl.isList (λh' kp=>?_) (by simp only [List.size_toArray]<;>omega);have I1:Inv X vA σ H { s with heap:=h' }:=I.kept (t':=s.toks) kp;have I2:Inv X vA σ (upd H h'.objs.size (.tup ys)) { s with heap:=h'.push { cls:=.type "tuple",data:=.seq its.toArray } }:=
   I1.laid (t':=s.toks) (λb o e=>Heap.get?_push_of_some _ e) (Nat.le_refl _) (show ObjOk X.prog X.w _ _ _ (.tup ys) from ⟨hz,its,r',IsTup.new _ _⟩)
  exact ⟨.ref h'.objs.size,_,I2,rfl,q _ (I1.hok.fresh (Nat.le_refl _))⟩
 ·obtain ⟨its,r',pl,hz⟩:=I.tuple hq;exact call_tuple_same pl ⟨.ref p,H,I,rfl,q⟩
def tyV (K:PySem.W.Frag) (T:String) (x:V) (H:Hp):Prop:=match x with
 | .str _=>T="str"
 | .int _=>T="int"
 | .ref p=>(T="list"/\∃xs,SqL K H p xs)∨(T="tuple"/\∃o,K.lookup p=some o/\o.cls=.type "tuple"/\o.dict=none) ∨
  (T="dict"/\((∃kvs,H p=some (.dK kvs))∨∃kvs,H p=some (.dT kvs)))∨(T="set"/\∃S n,H p=some (.set S n))
 | _=>False
theorem GT {vA:List (Addr×Obj)} {σ:St} {H:Hp} {s:Shared} {T:String} {x:V} {v:Value} (I:Inv X vA σ H s) (r:RelV x v) (ty:tyV X.K T x H) :
 s.TypeIs v T/\∀a,v=.ref a->∃ob,s.heap.get? a=some ob/\ob.dict=none:=by
 cases x with
 | str z=>
  obtain ⟨t,rfl⟩:=r;cases (show T="str" from ty);exact ⟨typeIs_str s z t,λ_ e=>nomatch e⟩
 | int i=>
  obtain ⟨t,rfl⟩:=r;cases (show T="int" from ty);exact ⟨typeIs_int s i t,λ_ e=>nomatch e⟩
 | ref p=>
  cases r;rcases ty with ⟨rfl,xs,hq⟩ | ⟨rfl,o,hk,hc,hd⟩ | ⟨rfl,hk⟩ | ⟨rfl,S,n,hk⟩
  ·obtain ⟨its,_,pl,_⟩:=I.list hq;refine ⟨pl.isList.typeIs,λa e=>?_⟩;cases e;obtain ⟨o,n,e,c,hd,_⟩:=pl;exact ⟨o,e,hd⟩
  ·refine ⟨⟨o,I.kIn p o hk,hc⟩,λa e=>?_⟩;cases e;exact ⟨o,I.kIn _ o hk,hd⟩
  ·have z:∃o,s.heap.get? p=some o/\o.ExactDict:=by
    rcases hk with ⟨kvs,hk⟩ | ⟨kvs,hk⟩
    ·obtain ⟨_,_,_,_,o,_,_,e,ex,_⟩:=I.hok p _ hk;exact ⟨o,e,ex⟩
    ·obtain ⟨_,_,_,_,o,_,_,e,ex,_⟩:=I.hok p _ hk;exact ⟨o,e,ex⟩
   obtain ⟨o,e,ex⟩:=z;refine ⟨⟨o,e,ex.1⟩,λa e2=>?_⟩;cases e2;exact ⟨o,e,ex.2.1⟩
  ·obtain ⟨o,_,_,_,e,ex,_⟩:=I.hok p _ hk;refine ⟨⟨o,e,ex.1⟩,λa e2=>?_⟩;cases e2;exact ⟨o,e,ex.2.1⟩
 | _=>exact False.elim ty
def ZK (K:PySem.W.Frag) (T:String) (r:V->List V->Hp->VK->Prop) (to:TE):TE:=fun σ H Q=>to σ H λx H1=>tyV K T x H1/\r x [] H1 Q
def tBM (K:PySem.W.Frag) (T:String) (r:V->List V->Hp->VK->Prop) (to:TE) (t:TA):TE:=fun σ H Q=>to σ H λx H1=>tyV K T x H1/\t σ H1 λxs H2=>r x xs H2 Q
variable {o e:Expr} {es:List Expr} {to:TE} {t:TA} {name:Str} {apos cpos:Pos} {T id:String} {r:V->List V->Hp->VK->Prop}
theorem ZL (pa:PlainAttrs T) (slot:Slot T name id) (hty:typeOf (.builtin id)=pure (.type "method_descriptor")) (hm:MtR X id r) (ho:PE X o to)
 (hbase:attributeBase o name X.env (eval o X.env)=eval o X.env:=by rfl) (hline:(apos.endLine==cpos.line)=true:=by rfl):PE X (.Call (.Attribute o name apos) [] [] cpos) (ZK X.K T r to):=by
 intro vA s σ H Q I h;refine wpAny_Call_method0_late hbase hline (thn (ho vA s σ H _ I h) λv s1 ⟨x,H1,I1,r1,ty,q1⟩=>?_);obtain ⟨h1,h2⟩:=GT I1 r1 ty;exact ⟨T,id,pa,slot,hty,h1,h2,Calls.callWith_builtin rfl (PySem.evalArgs_none (hm vA s1 σ H1 x [] v [] Q I1 r1 .nil q1))⟩
theorem GU (pa:PlainAttrs T) (slot:Slot T name id) (hty:typeOf (.builtin id)=pure (.type "method_descriptor")) (hm:MtR X id r) (ho:PE X o to) (ha:PA X (e::es) t)
 (hbase:attributeBase o name X.env (eval o X.env)=eval o X.env:=by rfl)
 (hfew:((backTo cpos (starEach (e::es) X.env)).all (λx=>!x.1) && (backToKw cpos (keywordEach [] X.env)).all (λx=>x.1.isSome)
  && decide ((e::es).length+([]:List Keyword).length+(if ([]:List Keyword).isEmpty then 0 else 1) < 30))=true:=by rfl)
 (hline:(apos.endLine==cpos.line)=true:=by rfl) (hs:starEach (e::es) X.env=(false,eval e X.env)::starEach es X.env:=by rfl) (hplain:(backTo cpos (starEach es X.env)).any (·.1)=false:=by rfl) :
 PE X (.Call (.Attribute o name apos) (e::es) [] cpos) (tBM X.K T r to t):=by
 intro vA s σ H Q I h;refine wpAny_Call_method_late hbase hfew hline rfl (thn (ho vA s σ H _ I h) λv s1 ⟨x,H1,I1,r1,ty,q1⟩=>?_);obtain ⟨h1,h2⟩:=GT I1 r1 ty;refine ⟨T,id,pa,slot,hty,h1,h2,?_⟩;have hA:=ha cpos vA s1 σ H1 _ I1 q1;rw [hs] at hA ⊢;refine Calls.callWith_builtin (by show (false || (backTo cpos (starEach es X.env)).any (·.1))=false;rw [hplain]<;>rfl) (Calls.evalArgs_plain ?_);exact thn hA λus s2 ⟨vs,H2,I2,r2,q2⟩=>hm vA s2 σ H2 x vs v us Q I2 r1 r2 q2
end
def MtM (X:Cx) (id:String) (r:V->List V->Hp->VK->Prop):Prop:=
 ∀(vA:List (Addr×Obj)) (s:Shared) (σ:St) (H:Hp) (x:V) (xs:List V) (v:Value) (us:List Value) (Q:VK),Inv X vA σ H s->RelV x v->Vals xs us->r x xs H Q ->
  wpAny (model X.prog X.w) X.A (call (.builtin id) (v::us)) (EP X vA σ Q) X.xe s
theorem Vals.one:∀{x:V} {us:List Value},Vals [x] us->∃u,us=[u]/\RelV x u
 | _,_,.cons r .nil=>⟨_,rfl,r⟩
theorem Vals.two:∀{x y:V} {us:List Value},Vals [x,y] us->∃u v,us=[u,v]/\RelV x u/\RelV y v
 | _,_,_,.cons r (.cons q .nil)=>⟨_,_,rfl,r,q⟩
theorem Vals.zero:∀{us:List Value},Vals [] us->us=[]
 | _,.nil=>rfl
theorem Vals.reverse {xs:List V} {us:List Value} (h:Vals xs us):Vals xs.reverse us.reverse:=by
 induction h with
 | nil=>exact .nil
 | cons r t ih=>rw [List.reverse_cons,List.reverse_cons];exact Vals.append ih (.cons r .nil)
section
variable {X:Cx} {vA:List (Addr×Obj)} {σ:St} {H:Hp} {s:Shared} {l b:Addr} {xs ys zs:List V}
theorem Inv.lset {its its':List Value} {n:Nat} {f:Array Value->Array Value} {t':Nat} (I:Inv X vA σ H s) (hH:H l=some (.lst xs))
 (e:s.heap.get? l=some { cls:=.type "list",data:=.seq its.toArray n }) (hf:f its.toArray=its'.toArray) (hv:Vals ys its') (hz:ys.length<=sizeLine) :
 Inv X vA σ (upd H l (.lst ys)) { s with heap:=s.heap.update l (Obj.mapSeq f),toks:=t' }:=by
 have q:=PySem.IsL.update e f;rw [hf] at q;refine I.write (x:=l) (e:=l) (by rw [hH];exact trivial) (.inl rfl) (λb' u hb hu=>(Heap.get?_update_other s.heap (Obj.mapSeq f) (Ne.symm hb)).trans hu) ⟨_,q⟩ ?_;exact ⟨hz,its',_,hv,q⟩
theorem Inv.lnew {its:List Value} {t':Nat} (I:Inv X vA σ H s) (hv:Vals ys its) (hz:ys.length<=sizeLine) :
 Inv X vA σ (upd H s.heap.objs.size (.lst ys)) { s with heap:=s.heap.push { cls:=.type "list",data:=.seq its.toArray },toks:=t' }:=
 I.laid (λ_ _ q=>Heap.get?_push_of_some _ q) (Nat.le_refl _) ⟨hz,its,0,hv,Heap.get?_push_size _ rfl⟩
theorem Inv.fresh (I:Inv X vA σ H s):H s.heap.objs.size=none:=I.hok.fresh (Nat.le_refl _)
theorem Inv.lstM (I:Inv X vA σ H s) (hH:H l=some (.lst xs)):xs.length<=sizeLine/\∃(its:List Value) (n:Nat),Vals xs its/\xs.length=its.length/\s.heap.get? l=some { cls:=.type "list",data:=.seq its.toArray n }:=by
 obtain ⟨z,its,n,r,e⟩:=I.hok l _ hH;exact ⟨z,its,n,r,r.length,e⟩
theorem ZM {n:Nat} (h:n<=sizeLine):Builtin.List.listTooLong n=false:=by
 unfold Builtin.List.listTooLong;exact decide_eq_false (by omega)
def ZN:V->List V->Hp->VK->Prop:=λx vs H Q=>∃l xs y,x=.ref l/\vs=[y]/\H l=some (.lst xs)/\xs.length < sizeLine/\Q .non (upd H l (.lst (xs++[y])))
theorem GV:MtM X "list.append" ZN:=by
 intro vA s σ H x vs v us Q I rx rv h;obtain ⟨l,xs,y,rfl,rfl,hH,hz,q⟩:=h;cases rx;obtain ⟨u,rfl,ru⟩:=rv.one;obtain ⟨z,its,n,r,hl,e⟩:=I.lstM hH;refine call_meets F.slot_list_append ⟨_,e,rfl⟩ F.entry_list_append (F.args_list_append_2 _ _) (PySem.list_append l its.toArray n u (by rw [List.size_toArray];omega)) ⟨e,?_⟩;refine ⟨.non,_,I.lset (its':=its++[u]) hH e (by simp) (r.append (.cons ru .nil)) ?_,rfl,q⟩;rw [List.length_append,List.length_singleton];omega
def ZO:V->List V->Hp->VK->Prop:=λx vs H Q=>∃l xs,x=.ref l/\vs=[]/\H l=some (.lst xs)/\Q .non (upd H l (.lst []))
theorem ZP:MtM X "list.clear" ZO:=by
 intro vA s σ H x vs v us Q I rx rv h;obtain ⟨l,xs,rfl,rfl,hH,q⟩:=h;cases rx;have hus:=rv.zero;subst hus;obtain ⟨z,its,n,r,hl,e⟩:=I.lstM hH;refine call_meets F.slot_list_clear ⟨_,e,rfl⟩ F.entry_list_clear (F.args_list_clear_1 _) (AutoSeq1.list_clear_list_0 l its.toArray n (by rw [List.size_toArray];omega)) ⟨e,?_⟩;exact ⟨.non,_,I.lset (its':=[]) (ys:=[]) hH e rfl .nil (Nat.zero_le _),rfl,q⟩
variable {prog:Program} {w:World} {A:Around} {E:Value->Shared->Prop}
end
end L2
namespace Att
open PySem PySem.W PySem.Calls PyProof.Rows
theorem ZQ {P:Params} {h:Heap}:∀(ns:List Int) (vs:List Value),WellAll P h vs (ns.map WData.int)->IntsAre vs ns:=by
 intro ns
 induction ns with
 | nil=>
  intro vs w;rw [List.map_nil] at w;cases w;exact .nil
 | cons n ns ih=>
  intro vs w;rw [List.map_cons] at w;cases w with
  | cons a b=>
   cases a;exact .cons _ _ (ih _ b)
theorem ZR {l:OpenLaw} {n:Nat} (hn:l.most=some n) {P:Params} {h:Heap} {args:List WData} {vals:List Value}
 (hpre:l.row.toRowW.claim.pre args=true) (hwl:WellAll P h vals args) :
 ∃a vs ns,vals=[Value.ref a]/\args=[WData.list (ns.map WData.int)]/\h.get? a=some { cls:=.type "list",data:=.seq vs.toArray }/\IntsAre vs ns/\ns.length<=n:=by
 have hsh:WShape.hasAll [] args [.list .int]=true:=(pre_splitW hpre).1;have hc:l.pre.holds [] { args:=args }=true:=(pre_splitW hpre).2;obtain ⟨d,r,rfl,h1,h2⟩:=hasAllW_cons hsh;obtain rfl:=hasAllW_nil h2;obtain ⟨xs,rfl,h3⟩:=hasW_list h1;obtain ⟨ns,rfl⟩:=items_int h3;have hlen:ns.length<=n:=by
  unfold OpenLaw.pre at hc;have h4:(WTm.not (.lt (.lit (.int (n:Int))) (.len (.arg 0)))).holds [] { args:=[.list (ns.map .int)] }=true:=by
   have h4:=(holds_andW hc).1;rw [hn] at h4;exact h4
  have h5:=condW_of h4 (w_not (w_lt w_lit (w_len_list (w_arg rfl))));rw [List.length_map] at h5;refine Nat.le_of_not_lt λq=>?_
  have q':(n:Int) < ((ns.length:Nat):Int):=by omega
  first
   | (rw [decide_eq_true q'] at h5;exact absurd h5 (by decide))
   | (simp at h5;omega)
 cases hwl with
 | cons w1 w2=>
  cases w2;cases w1 with
  | list ho hall=>exact ⟨_,_,ns,rfl,rfl,ho,ZQ ns _ hall,hlen⟩
theorem ZS (l:OpenLaw) (args:List WData):l.row.toRowW.claim.post args (.bool true) args=true:=
 postW_of (r:=l.row.toRowW) (X:=(true==true))
  (show WShape.has [] (.bool true) .bool=true by first | rfl | decide | simp [WShape.has,WShape.arms,WShape.armsAll])
  (show (WTm.eq .res (.lit (.bool true))).value [] { args:=args,res:=some (.bool true),after:=args }=some (.bool (true==true)) from w_eq_bool (w_res rfl) w_lit) rfl
theorem attach_call {l:OpenLaw} {n:Nat} {q:Program} {loose:List Str} {XP:(Str->Option Value)->Heap->Prop} {YP:World->Heap->Prop} {d:DefRec}
 (hn:l.most=some n) (hdf:d.params.defaults=[])
 (call:∀(w:World) (s₀ s₁:Shared) (mg mb:Str->Option Value) (fa:Addr) (o:Obj) (pm cd doc:Value) (a:Addr) (vs:List Value) (ns:List Int),
  Ground q loose [] XP w s₀ mg mb s₁.heap->YP w s₁.heap ->
  s₁.heap.get? fa=some o->o.data=.func (docDef d.name d.params d.body d.scope pm cd doc)->s₁.heap.CodeRec cd d.name->mg d.name=some (.ref fa) ->
  s₁.heap.get? a=some { cls:=.type "list",data:=.seq vs.toArray }->IntsAre vs ns->ns.length<=n->s₁.gens=#[] ->
  codeAny (model l.prog w) callerA (.call (.ref fa) ⟨[.ref a],[]⟩) (λr s'=>r=.ok (.ret (.bool true))/\OldK s₁.heap s'.heap/\s'.os=s₁.os/\AllBare s'.gens) s₁) :
 WalkO q loose XP YP l.row.toRowW d [] (λf vs=>PySem.call f vs):=by
 intro w s₀ s₁ mg mb G Y fa o pm cd doc dV kV ho hd hcd hD hmg hg args vals as hpre hlay hrd hwl hlo;obtain rfl:dV=.none:=Dflts.none hD hdf;obtain rfl:kV=.none:=Dflts.noKw hD;obtain ⟨a,vs,ns,rfl,rfl,hobj,hints,hlen⟩:=ZR hn hpre hwl;refine enter_call (codeAny_mono (call w s₀ s₁ mg mb fa o pm cd doc a vs ns G Y ho (fd_plain hd) hcd hmg hobj hints hlen hg) λr s' hq=>?_);obtain ⟨rfl,h2,h3,h4⟩:=hq;exact ⟨.inl ⟨.bool true,.bool true,[],rfl,λ_=>rfl,.bool true,ZS l _,λ_=>⟨List.Pairwise.nil,λ_ hm=>(nomatch hm)⟩⟩,h2,h3,h4⟩
section
variable {prog:Program} {w:World} {A:Around} {E:Value->Shared->Prop} {s:Shared} {K:Frag}
end
end Att
namespace L2
open PySem PySem.Spec PyProof.Rows
theorem kY:∀{vs:List Value} {ns:List Int},IntsAre vs ns->Vals (ns.map V.int) vs
 | _,_,.nil=>.nil
 | _,_,.cons n t h=>.cons ⟨t,rfl⟩ (kY h)
def Only (H:Hp):Prop:=∀b,H b=none∨∃o xs,H b=some (.frz o (.lst xs))
theorem ZT {P:Program} {w:World} {K:PySem.W.Frag} {mg mb:Str->Option Value} {CX:CXT} {k:Nat} {fa a:Addr} {fd:FuncData} {x:Str} {sp:Sp} {s₁:Shared} {vs:List Value} {ns:List Int}
 (KX:K.In s₁.heap) (hns:s₁.heap.Ns mainGlobals mg) (hb:s₁.heap.Ns builtinsNs mb) (hbb:∀x:Str,x≠"__name__"->mb x=bootBuiltins x) (hlim:s₁.heap.NoLimit) (hg:s₁.gens=#[])
 (ha:s₁.heap.get? a=some { cls:=.type "list",data:=.seq vs.toArray }) (hi:IntsAre vs ns) (hl:ns.length<=sizeLine) (hr:Room k callerA)
 (F:∀base:Heap,K.In base->base.Ns mainGlobals mg->bB P w K mg base CX k fa fd [x] sp) (hbind:∀(s:Shared) (u:Value),BindsTo s fd ⟨[u],[]⟩ [(x,u)])
 (hsp:∀H:Hp,Only H->SqL K H a (ns.map V.int)->sp [.ref a] H (λv _=>v=.bl true) λ_ _ _=>False)
 (hCX:∀H e s',CX [] H s₁ (λ_ _ _=>False) e s'->False) :
 codeAny (model P w) callerA (.call (.ref fa) ⟨[.ref a],[]⟩) (λr s'=>r=.ok (.ret (.bool true))/\OldK s₁.heap s'.heap/\s'.os=s₁.os/\AllBare s'.gens) s₁:=by
 have rv:=kY hi;have lenV:=hi.length;have core:∀H:Hp,Only H->SqL K H a (ns.map V.int)->HOk P w H s₁.heap->(∀b,H b≠none->b=a)->(H a≠none->K.lookup a=none) ->
  codeAny (model P w) callerA (.call (.ref fa) ⟨[.ref a],[]⟩) (λr s'=>r=.ok (.ret (.bool true))/\OldK s₁.heap s'.heap/\s'.os=s₁.os/\AllBare s'.gens) s₁:=by
  intro H hO hS hok hA hK;have base_of:∀{b:Addr} {o:Obj},s₁.heap.get? b=some o->H b=none->(jH s₁.heap H).get? b=some o:=λe n=>UJ e n
  have noA:∀{b:Addr} {o:Obj} {es:Array DictEntry} {ep:Nat},s₁.heap.get? b=some o->o.data=.dict es ep->H b=none:=λ{b o es ep} e d=>by
   cases q:H b with
   | none=>rfl
   | some u=>
    have e':b=a:=hA b (by rw [q];simp);subst e';rw [ha] at e;cases e;have d':Data.seq vs.toArray _=Data.dict es ep:=d;cases d'
  have nsK:∀{b:Addr} {m:Str->Option Value},s₁.heap.Ns b m->(jH s₁.heap H).Ns b m:=λ{b m} ⟨o,es,ep,e,d,r⟩=>⟨o,es,ep,base_of e (noA e d),d,r⟩
  have hKb:K.In (jH s₁.heap H):=λb o e=>base_of (KX b o e) (by
   cases q:H b with
   | none=>rfl
   | some u=>
    have e':b=a:=hA b (by rw [q];simp);subst e';rw [hK (by rw [q];simp)] at e;cases e)
  have hM:Mod K mg (jH s₁.heap H):=⟨hKb,nsK hns,⟨mb,nsK hb,hbb⟩,let ⟨mc,h1,h2⟩:=hlim;⟨mc,nsK h1,h2⟩⟩
  have e0:Env0 P w K mg (jH s₁.heap H) callerA [] s₁ H:=⟨rfl,hM,λb o e=>UK e,Nat.le_of_eq (UI _ _),trivial,λb hb=>absurd (show b∈([]:List Addr) from hb) (by simp),hok,.of_eq hg⟩
  refine codeAny_mono ((F _ hKb (nsK hns)).run callerA [] s₁ H ⟨[.ref a],[]⟩ [.ref a] [.ref a] _ _ hr e0 (hbind s₁ (.ref a)) (.cons rfl .nil) (hsp H hO hS)) λr s' h=>?_
  cases r with
  | error e=>exact (hCX H e s' h).elim
  | ok fl=>
   cases fl with
   | next=>exact False.elim h
   | brk=>exact False.elim h
   | cont=>exact False.elim h
   | ret u=>
    obtain ⟨v,H',os,bare,un,hok',r',q⟩:=h;have q':v=.bl true:=q;subst q';obtain rfl:u=Value.bool true:=r';refine ⟨rfl,OldK.of_keep λb o e=>?_,os,bare⟩;cases q:H b with
    | none=>exact un.keep b o e q (by intro z;exact absurd (show b∈([]:List Addr) from z) (by simp)) (by simp)
    | some u=>
     rcases hO b with z | ⟨ob,xs,z⟩
     ·rw [q] at z;cases z
     ·have z2:=un.frzs b ob _ z;obtain ⟨e1,_⟩:=hok b _ z;obtain ⟨e2,_⟩:=hok' b _ z2;rw [e] at e1;cases e1;exact e2
 cases hk:K.lookup a with
 | some o=>
  have e:=KX a o hk;rw [ha] at e;cases e;refine core (λ_=>none) (λ_=>.inl rfl) (.inr ⟨_,vs.toArray,_,hk,rfl,rfl,rfl,by rw [List.size_toArray,lenV];exact hl,by simpa using rv⟩) (λb u z=>by have z':(none:Option HO)=some u:=z;cases z') (λb z=>absurd rfl z) λz=>absurd rfl z
 | none=>
  refine core (λb=>if b=a then some (.frz { cls:=.type "list",data:=.seq vs.toArray } (.lst (ns.map V.int))) else none) (λb=>?_) (.inl (.inr ⟨{ cls:=.type "list",data:=.seq vs.toArray },if_pos rfl⟩)) (λb u z=>?_) (λb z=>?_) λ_=>hk
  ·by_cases hb:b=a
   ·exact .inr ⟨_,_,if_pos hb⟩
   ·exact .inl (if_neg hb)
  ·by_cases hb:b=a
   ·have z':=(if_pos hb).symm.trans z;cases z';subst hb;exact ⟨ha,by rw [List.length_map];exact hl,vs,_,rv,ha⟩
   ·have z':=(if_neg hb).symm.trans z;cases z'
  ·by_cases hb:b=a
   ·exact hb
   ·exact absurd (if_neg hb) z
structure Fun (K:PySem.W.Frag) (x qual:Str) (st:Stmt) (f:Addr) (fd:FuncData):Prop where
 ex:∃(oc:Value) (od:Option Addr) (kV doc pm:Value) (an:Option Addr) (vK ct:Value) (osl:Array (Option Value)),
  fd=PySem.W.fnOf x qual (iM st) (gU st) (aZ st) .none kV doc pm an vK ct/\K.lookup f=some ⟨oc,od,.func fd,osl⟩/\PySem.W.codeIn K vK qual=true
 kp:PySem.W.keepIn K (.ref f)=true
section
variable {P:Program} {w:World} {K:PySem.W.Frag} {mg:Str->Option Value} {base:Heap}
theorem Fun.binds {x qual:Str} {st:Stmt} {f:Addr} {fd:FuncData} {ps:List Str} (F:Fun K x qual st f fd)
 (h:∀(kV doc pm:Value) (an:Option Addr) (vK ct:Value) (us:List Value),us.length=ps.length->bindArgs (PySem.W.fnOf x qual (iM st) (gU st) (aZ st) .none kV doc pm an vK ct) ⟨us,[]⟩=pure (ps.zip us)):Binds K fd ps []:=by
 obtain ⟨oc,od,kV,doc,pm,an,vK,ct,osl,rfl,lk,hcd⟩:=F.ex;exact .all (h kV doc pm an vK ct)
theorem bZ {x qual:Str} {st:Stmt} {f:Addr} {oc:Value} {od an:Option Addr} {osl:Array (Option Value)} {kV doc pm vK ct:Value} (l:K.lookup f=some ⟨oc,od,.func (PySem.W.fnOf x qual (iM st) (gU st) (aZ st) .none kV doc pm an vK ct),osl⟩)
 (c:PySem.W.codeIn K vK qual=true) (k:PySem.W.keepIn K (.ref f)=true):Fun K x qual st f (PySem.W.fnOf x qual (iM st) (gU st) (aZ st) .none kV doc pm an vK ct):=⟨⟨oc,od,kV,doc,pm,an,vK,ct,osl,rfl,l,c⟩,k⟩
variable {X:Cx}
end
def Same (H H':Hp):Prop:=∀b o,H b=some o->H' b=some o
theorem Same.refl (H:Hp):Same H H:=λ_ _ h=>h
theorem Same.trans {H H1 H2:Hp} (a:Same H H1) (b:Same H1 H2):Same H H2:=λc o h=>b c o (a c o h)
theorem Same.free {H H':Hp} (e:Same H H') {l:Addr} (h:H' l=Option.none):H l=Option.none:=by
 cases q:H l with
 | none=>rfl
 | some o=>
  rw [e l o q] at h;cases h
theorem Same.seq {K:PySem.W.Frag} {H H':Hp} {a:Addr} {xs:List V} (e:Same H H') (h:SqL K H a xs):SqL K H' a xs:=by
 rcases h with (h | ⟨o,h⟩) | h
 ·exact .inl (.inl (e _ _ h))
 ·exact .inl (.inr ⟨o,e _ _ h⟩)
 ·exact .inr h
end L2
namespace L3
open PySem PySem.Spec PyProof.Rows L2
inductive Kp (J:Heap->Prop) {α:Type}:Sem α->Prop
 | pure (a:α):Kp J (.pure a)
 | raise (e:Value):Kp J (.raise e)
 | uns (x:String):Kp J (.unsupported x)
 | load {a:Addr} {q:Option Value} {k:Obj->Sem α}:(∀o,Kp J (k o))->Kp J (.load a q k)
 | upd {a:Addr} {q:Option Value} {f:Obj->Obj} {k:Unit->Sem α}:(∀h,J h->J (h.update a f))->Kp J (k ())->Kp J (.update a q f k)
 | alloc {o:Obj} {k:Addr->Sem α}:(∀a,Kp J (k a))->Kp J (.alloc o k)
 | stack {k:List (Code×Pos)->Sem α}:(∀l,Kp J (k l))->Kp J (.stack k)
 | rule {t:String} {k:Unit->Sem α}:Kp J (k ())->Kp J (.rule t k)
section
variable {J:Heap->Prop} {α β:Type}
theorem Kp.bind {m:Sem α} {f:α->Sem β} (h:Kp J m) (hf:∀a,Kp J (f a)):Kp J (m >>= f):=by
 show Kp J (m.bind f)
 induction h with
 | pure a=>exact hf a
 | raise e=>exact .raise e
 | uns x=>exact .uns x
 | load _ ih=>exact .load ih
 | upd h1 _ ih=>exact .upd h1 ih
 | alloc _ ih=>exact .alloc ih
 | stack _ ih=>exact .stack ih
 | rule _ ih=>exact .rule ih
theorem Kp.run {M:Model} {Γ:PySem.Ctx} {t:Sem α} {Q:α->Pos->Shared->Prop} {E:Value->Pos->Shared->Prop} (hp:∀h o,J h->J (h.push o)) (h:Kp J t) :
 ∀(p:Pos) (s:Shared),J s.heap->Sem.wp M Γ t Q E p s->Sem.wp M Γ t (λa p s=>Q a p s/\J s.heap) (λe p s=>E e p s/\J s.heap) p s:=by
 induction h with
 | pure a=>exact λp s j z=>⟨z,j⟩
 | raise e=>exact λp s j z=>⟨z,j⟩
 | uns x=>exact λp s j z=>z
 | load _ ih=>rintro p s j ⟨o,e,z⟩;exact ⟨o,e,ih o p s j z⟩
 | upd h1 _ ih=>rintro p s j ⟨e,z⟩;exact ⟨e,ih p _ (h1 _ j) z⟩
 | alloc _ ih=>exact λp s j z=>ih _ p _ (hp _ _ j) z
 | stack _ ih=>exact λp s j z=>ih _ p s j z
 | rule _ ih=>exact λp s j z=>ih p s j z
theorem Kp.any {M:Model} {A:Around} {t:Sem α} {Q:α->Shared->Prop} {E:Value->Shared->Prop} {s:Shared} (hp:∀h o,J h->J (h.push o)) (h:Kp J t) (j:J s.heap) (z:wpAny M A t Q E s) :
 wpAny M A t (λa s=>Q a s/\J s.heap) (λe s=>E e s/\J s.heap) s:=fun Γ p hΓ=>h.run hp p s j (z Γ p hΓ)
end
def Nc (ea:Addr) (h:Heap):Prop:=∃(oe:Obj) (vs:Array Value),h.get? ea=some oe/\oe.data=.fields vs/\vs[2]?=some .none/\oe.dict=none
section
variable {ea:Addr}
theorem ZU {o:Obj} {vs:Array Value} (d:o.data=.fields vs):o.isFreed=false:=by
 obtain ⟨c,dd,da,sl⟩:=o;have d:da=.fields vs:=d;subst d
 rfl
theorem Nc.push (h:Heap) (o:Obj) (j:Nc ea h):Nc ea (h.push o):=by
 obtain ⟨oe,vs,e,d,z⟩:=j;exact ⟨oe,vs,Heap.get?_push_of_some _ e,d,z⟩
theorem Nc.upd {b:Addr} {f:Obj->Obj} (hf:∀o vs,o.data=.fields vs->vs[2]?=some .none->∃ws,(f o).data=.fields ws/\ws[2]?=some .none/\(f o).dict=o.dict) (h:Heap) (j:Nc ea h):Nc ea (h.update b f):=by
 obtain ⟨oe,vs,e,d,z,dn⟩:=j;by_cases q:b=ea
 ·subst q;obtain ⟨ws,d',z',dd⟩:=hf oe vs d z;exact ⟨f oe,ws,Heap.get?_update_self _ e (ZU d'),d',z',dd.trans dn⟩
 ·exact ⟨oe,vs,by rw [Heap.get?_update_other _ _ q];exact e,d,z,dn⟩
theorem Nc.set {i:Nat} {x:Value} (hi:i≠2) (o:Obj) (vs:Array Value) (d:o.data=.fields vs) (z:vs[2]?=some .none):∃ws,(Obj.mapFields (·.setIfInBounds i x) o).data=.fields ws/\ws[2]?=some .none/\(Obj.mapFields (·.setIfInBounds i x) o).dict=o.dict:=by
 obtain ⟨c,dd,da,sl⟩:=o;have d:da=.fields vs:=d;subst d;exact ⟨_,rfl,by rw [Array.getElem?_setIfInBounds_ne hi];exact z,rfl⟩
theorem ZV {v:Value} {J:Heap->Prop}:Kp J (PySem.fieldsOf v):=by
 unfold PySem.fieldsOf
 split
 ·refine Kp.bind (.load λo=>.pure o) λo=>?_
  split
  ·exact .pure _
  ·exact .uns _
 ·exact .uns _
theorem sC {v:Value} {i:Nat} {J:Heap->Prop}:Kp J (field v i):=by
 unfold field;refine Kp.bind ZV λvs=>?_
 split
 ·exact .pure _
 ·exact .uns _
theorem xS {v x:Value} {i:Nat} (hi:i≠2):Kp (Nc ea) (setField v i x):=by
 unfold setField
 split
 ·unfold updateField;refine Kp.bind (.load λo=>.pure o) λo=>?_
  split
  ·split
   ·exact .upd (Nc.upd λo vs=>Nc.set hi o vs) (.pure ())
   ·exact .uns _
  ·exact .uns _
 ·exact .uns _
theorem xT {u:Value} {f:Option Addr}:Kp (Nc ea) (setFlight u f):=by
 unfold setFlight;refine Kp.bind sC λtb=>?_
 split
 ·exact xS (by decide)
 ·exact .pure ()
theorem GW:∀(l:List Env),Kp (Nc ea) (readyFrames l)
 | []=>.pure ()
 | env::outer=>by
  unfold readyFrames
  split
  ·refine Kp.bind (.load λo=>.pure o) λo=>?_
   split
   ·exact .pure ()
   ·refine Kp.bind ?_ λim=>Kp.bind ?_ λback=>Kp.bind (.upd (Nc.upd λo vs d z=>⟨vs,d,z,rfl⟩) (.pure ())) λ_=>GW outer
    ·unfold behindIsImport
     split
     ·exact .pure _
     ·split
      ·exact .pure _
      ·exact Kp.bind sC λ_=>.pure _
    ·unfold keptBack
     split
     ·split
      ·exact .pure _
      ·exact Kp.bind (Kp.bind (.stack λl=>.pure l) λ_=>.pure _) λ_=>.pure _
     ·exact .pure _
  ·exact .uns _
theorem ZW {env:Env}:Kp (Nc ea) (PySem.frameOf env):=by
 unfold PySem.frameOf;refine Kp.bind (Kp.bind (.stack λl=>.pure l) λ_=>.pure _) λl=>Kp.bind ?_ λo=>?_
 ·unfold frameObject
  split
  ·exact .pure _
  ·exact Kp.bind (GW _) λ_=>.pure _
 ·split
  ·exact .pure _
  ·exact .uns _
theorem ZX (vs:List Value):Kp (Nc ea) (newFields "traceback" vs):=by
 unfold newFields newObj;have fin:∀d,Kp (Nc ea) (newObjAsIs (.type "traceback") d none):=λd=>Kp.bind (.alloc λa=>.pure a) λa=>.pure _
 dsimp only
 split
 ·exact Kp.bind (.uns _) λ_=>fin _
 ·exact fin _
theorem GX {u:Value} {env:Env}:Kp (Nc ea) (noteFrame u env):=by
 unfold noteFrame
 split
 ·refine Kp.bind sC λhead=>?_
  rename_i f _
  have last:Kp (Nc ea) (do setField u 1 (<-EntryCells.newEntry head (<-PySem.frameOf env) .none (rawInt f) .none (<-entryPlaceOf f (head != .none)))):=by
   refine Kp.bind ZW λfr=>Kp.bind ?_ λpl=>Kp.bind ?_ λtb=>xS (by decide)
   ·unfold entryPlaceOf;refine Kp.bind (.stack λl=>.pure l) λacts=>?_
    split
    ·exact .pure _
    ·exact .pure _
   ·exact ZX _
  split
  ·refine Kp.bind sC λx=>?_
   split
   ·exact .pure ()
   ·exact Kp.bind (xS (by decide)) λ_=>last
  ·exact last
 ·exact .uns _
theorem ZY {u:Value} {env:Env}:Kp (Nc ea) (leaving env u):=Kp.bind GX λ_=>xT
end
structure oJ (K:PySem.W.Frag) (C:Addr):Prop where
 ga:PySem.W.findIn K (.ref C) "__getattribute__" = some (some (.builtin "BaseException.__getattribute__"))
 gh:PySem.W.findIn K (.ref C) "__getattr__" = some none
 ha:PySem.W.findIn K (.ref C) "__class__" = some (some (.builtin "object.__class__"))
 hn:PySem.W.specialIn K (.builtin "object.__class__") "__get__" = some (some (.builtin "getset_descriptor.__get__"))
 htk:PySem.W.takesIn K (.builtin "object.__class__")=some true
 hm:PySem.W.mroIn K C (.type "object")=some true
 hb:PySem.W.mroIn K C (.type "BaseException")=some true
def xU (x C:Addr) (h:Heap):Prop:=∃o,PySem.W.InstAt h x o C none
section
variable {K:PySem.W.Frag} {x C:Addr}
theorem ZZ {prog:Program} {w:World} {A:Around} {E:Value->Shared->Prop} {Q:Fin->Shared->Prop} {s:Shared} {tk:Tok} (F:oJ K C) (X:K.In s.heap) (p:xU x C s.heap) (hq:Q (.done (.ret (.ref C))) s) :
 wpAny (model prog w) A (Builtin.«object.__getattribute__» ⟨[.ref x,.str "__class__" tk],[]⟩) Q E s:=by
 obtain ⟨o,I⟩:=p;have hc:(PySem.W.clsIn K C).isSome=true:=by
  obtain ⟨cd,h,_⟩:=Option.bind_eq_some_iff.mp F.hm;rw [h];rfl
 have hf:PySem.W.findObj K C none "__class__" = some (.bind (.builtin "getset_descriptor.__get__") (.builtin "object.__class__")):=by
  obtain ⟨cd,hc⟩:=Option.isSome_iff_exists.mp hc;unfold PySem.W.findObj;rw [hc,Option.bind_some,F.ha,Option.bind_some];simp [F.hn,F.htk]
 have L0:=I.type (M:=model prog w);have L1:=PySem.W.looks_find (M:=model prog w) X I hf;unfold Builtin.«object.__getattribute__»;refine wpAny_bind (m:=slotArgs _ _ _) (wpAny_pure ?_);refine wpAny_bind (wpAny_pure ?_);refine wpAny_bind (L0.at (wpAny_bind (L1.at ?_)));show wpAny _ _ (holding [_] (call _ _) >>= ret) _ _ _;exact wpAny_bind (wpAny_holding (wpAny_call (PySem.W.class_get X I F.hm (wpAny_pure hq))))
theorem b3 {prog:Program} {w:World} {A:Around} {E:Value->Shared->Prop} {Q:Option Value->Shared->Prop} {s:Shared} (F:oJ K C) (X:K.In s.heap) (p:xU x C s.heap) (hq:Q (some (.ref C)) { s with toks:=s.toks+1 }) :
 wpAny (model prog w) A (getAttr? (.ref x) "__class__") Q E s:=by
 have p2:=p;obtain ⟨o,I⟩:=p;have L0:=I.type (M:=model prog w);have L1:=PySem.W.looks_findIn (M:=model prog w) X F.ga;have L2:=PySem.W.looks_findIn (M:=model prog w) X F.gh;have LB:=PySem.W.looks_mroIn (M:=model prog w) X F.hb;have ne:¬(onTheHeap (Value.ref C) && Value.builtin "BaseException.__getattribute__"==Value.builtin "object.__getattribute__")=true:=by
  have:(Value.builtin "BaseException.__getattribute__"==Value.builtin "object.__getattribute__")=false:=by decide +kernel
  rw [this];simp
 unfold getAttr? getAttrBy? getAttrBy;refine wpAny_bind (wpAny_mkText (wpAny_bind (wpAny_attempt (wpAny_holding (wpAny_bind (L0.at (wpAny_bind (L1.at ?_))))))));dsimp only;rw [if_neg ne];unfold getAttrByItsOwn hookBefore;refine wpAny_bind ?_;rw [if_pos (show onTheHeap (Value.ref C)=true from rfl)];refine L2.at ?_;refine wpAny_bind (wpAny_attempt (wpAny_holding ?_));unfold callGetattribute;rw [if_neg (by simp)];unfold boundAndCalled;have f3:=PySem.F.excAttr_ValueError.ga.bind (.ref x);rw [f3];refine wpAny_bind (wpAny_pure ?_);have hk:builtinKind "BaseException.__getattribute__" = some .slot:=by decide +kernel
 have hsplit:splitId "BaseException.__getattribute__" = some ("BaseException","__getattribute__"):=by decide +kernel
 refine wpAny_call (codeAny_call_builtin PySem.F.excAttr_ValueError.ga.plain PySem.F.entry_bexc_ga ?_);have ha:=PySem.F.args_bexc_ga (.ref x) (.str "__class__" s.toks);simp only [checkBuiltinCall,hk,hsplit];refine wpAny_bind ?_;unfold isInstance;refine wpAny_bind (L0.at (LB.at ?_));rw [if_neg (by simp)];refine wpAny_of_eq (a:=()) ha ?_;exact ZZ (s:={ s with toks:=s.toks+1 }) F X p2 (PySem.W.handed_on rfl (wpAny_pure hq))
theorem b4 (F:oJ K C):PySem.W.KitX K (.ref x) (.ref C) (xU x C) where
 ty:=λ_ _ _ ⟨_,I⟩=>I.type
 it:=λ_ _ X _=>by
  obtain ⟨cdD,hcD,_⟩:=Option.bind_eq_some_iff.mp F.hm;unfold PySem.W.clsIn at hcD
  split at hcD
  ·rename_i c' d' cd' sl' ho
   intro A' Q' E' s' k q;unfold isType loadHead;exact wpAny_bind (wpAny_loadPart (k _ _ (X _ _ ho)) (wpAny_pure q))
  ·cases hcD
 ne:=λh tp dd its n sl X htp=>by
  obtain ⟨cdD,hcD,_⟩:=Option.bind_eq_some_iff.mp F.hm;refine Bool.eq_false_iff.mpr λq=>?_
  have e:C=tp:=Value.ref.inj (beq_iff_eq.mp q);subst e;unfold PySem.W.clsIn at hcD
  split at hcD
  ·rename_i c' d' cd' sl' ho
   have z:=(X _ _ ho).symm.trans htp;cases z
  ·cases hcD
 ca:=λX p k=>b3 F X p k
end
inductive D where
 | non | bl (b:Bool) | int (i:Int) | str (x:Str)
 | tup (ds:List D) | lst (ds:List D) | ins (c:Nat) (ds:List D) | exc (c:Nat)
inductive Out (α:Type) where
 | ok (a:α) | exc (c:Nat) | bad
def Out.bind {α β:Type}:Out α->(α->Out β)->Out β
 | .ok a,k=>k a
 | .exc c,_=>.exc c
 | .bad,_=>.bad
@[simp] theorem Out.ok_bind {α β:Type} (a:α) (k:α->Out β):(Out.ok a).bind k=k a:=(rfl)
@[simp] theorem Out.exc_bind {α β:Type} (c:Nat) (k:α->Out β):(Out.exc c:Out α).bind k=.exc c:=(rfl)
@[simp] theorem Out.bad_bind {α β:Type} (k:α->Out β):(Out.bad:Out α).bind k=.bad:=(rfl)
structure Tb where
 ca:Nat->Addr
 fa:Addr->List Str
 me:Option Addr:=none
 mo:Option Addr:=none
def Tb.fl (T:Tb) (c:Nat):List Str:=T.fa (T.ca c)
section
variable (T:Tb) (K:PySem.W.Frag)
def FzL (K:PySem.W.Frag) (H:Hp) (a:Addr) (xs:List V):Prop:=
 (∃o,H a=some (.frz o (.lst xs))) ∨
  ∃(o:Obj) (its:Array Value) (n:Nat),K.lookup a=some o/\o.cls=.type "list"/\o.dict=none/\o.data=.seq its n/\its.size<=sizeLine/\Vals xs its.toList
theorem FzL.sq {K:PySem.W.Frag} {H:Hp} {a:Addr} {xs:List V} (h:FzL K H a xs):SqL K H a xs:=by
 rcases h with h | h
 ·exact .inl (.inr h)
 ·exact .inr h
mutual
def Rep (T:Tb) (K:PySem.W.Frag) (H:Hp):D->V->Prop
 | .non,v=>v=.non
 | .bl b,v=>v=.bl b
 | .int i,v=>v=.int i
 | .str x,v=>v=.str x
 | .tup ds,v=>∃a vs,v=.ref a/\SqT K H a vs/\RepL T K H ds vs
 | .lst ds,v=>∃a vs,v=.ref a/\FzL K H a vs/\RepL T K H ds vs
 | .ins c ds,v=>∃a dx fs,v=.ref a/\H a=some (.ins (T.ca c) dx fs)/\fs.map (·.1)=T.fl c/\RepL T K H ds (fs.map (·.2))
 | .exc c,v=>∃a o,v=.ref a/\H a=some (.frz o (.ext λ_=>True))/\o.cls=.ref (T.ca c)/\PySem.W.notCls o=true/\o.dict=none
def RepL (T:Tb) (K:PySem.W.Frag) (H:Hp):List D->List V->Prop
 | [],vs=>vs=[]
 | d::ds,vs=>∃v r,vs=v::r/\Rep T K H d v/\RepL T K H ds r
end
end
section
variable {T:Tb} {K:PySem.W.Frag} {H H':Hp}
theorem Same.sqT {a:Addr} {xs:List V} (e:Same H H') (h:SqT K H a xs):SqT K H' a xs:=by
 rcases h with (h | ⟨o,h⟩) | h
 ·exact .inl (.inl (e _ _ h))
 ·exact .inl (.inr ⟨o,e _ _ h⟩)
 ·exact .inr h
theorem Same.fz {a:Addr} {xs:List V} (e:Same H H') (h:FzL K H a xs):FzL K H' a xs:=by
 rcases h with ⟨o,h⟩ | h
 ·exact .inl ⟨o,e _ _ h⟩
 ·exact .inr h
mutual
theorem Rep.mono (e:Same H H'):∀(d:D) (v:V),Rep T K H d v->Rep T K H' d v
 | .non,_,h=>h
 | .bl _,_,h=>h
 | .int _,_,h=>h
 | .str _,_,h=>h
 | .tup ds,_,h=>by
  obtain ⟨a,vs,r1,r2,r3⟩:=h;exact ⟨a,vs,r1,Same.sqT e r2,RepL.mono e ds vs r3⟩
 | .lst ds,_,h=>by
  obtain ⟨a,vs,r1,r2,r3⟩:=h;exact ⟨a,vs,r1,Same.fz e r2,RepL.mono e ds vs r3⟩
 | .ins c ds,_,h=>by
  obtain ⟨a,dx,fs,r1,r2,r3,r4⟩:=h;exact ⟨a,dx,fs,r1,e _ _ r2,r3,RepL.mono e ds _ r4⟩
 | .exc c,_,h=>by
  obtain ⟨a,o,r1,r2,r3⟩:=h;exact ⟨a,o,r1,e _ _ r2,r3⟩
theorem RepL.mono (e:Same H H'):∀(ds:List D) (vs:List V),RepL T K H ds vs->RepL T K H' ds vs
 | [],_,h=>h
 | d::ds,_,h=>by
  obtain ⟨v,r,r1,r2,r3⟩:=h;exact ⟨v,r,r1,Rep.mono e d v r2,RepL.mono e ds r r3⟩
end
mutual
theorem jI {T:Tb} {K:PySem.W.Frag} {H:Hp} {z u:Option Addr}:∀(d:D) (v:V),Rep { T with me:=z,mo:=u } K H d v↔Rep T K H d v
 | .non,_=>Iff.rfl
 | .bl _,_=>Iff.rfl
 | .int _,_=>Iff.rfl
 | .str _,_=>Iff.rfl
 | .tup ds,_=>⟨λ⟨a,vs,r1,r2,r3⟩=>⟨a,vs,r1,r2,(repL_me ds vs).mp r3⟩,λ⟨a,vs,r1,r2,r3⟩=>⟨a,vs,r1,r2,(repL_me ds vs).mpr r3⟩⟩
 | .lst ds,_=>⟨λ⟨a,vs,r1,r2,r3⟩=>⟨a,vs,r1,r2,(repL_me ds vs).mp r3⟩,λ⟨a,vs,r1,r2,r3⟩=>⟨a,vs,r1,r2,(repL_me ds vs).mpr r3⟩⟩
 | .ins c ds,_=>⟨λ⟨a,dx,fs,r1,r2,r3,r4⟩=>⟨a,dx,fs,r1,r2,r3,(repL_me ds _).mp r4⟩,λ⟨a,dx,fs,r1,r2,r3,r4⟩=>⟨a,dx,fs,r1,r2,r3,(repL_me ds _).mpr r4⟩⟩
 | .exc c,_=>Iff.rfl
theorem repL_me {T:Tb} {K:PySem.W.Frag} {H:Hp} {z u:Option Addr}:∀(ds:List D) (vs:List V),RepL { T with me:=z,mo:=u } K H ds vs↔RepL T K H ds vs
 | [],_=>Iff.rfl
 | d::ds,_=>⟨λ⟨v,r,r1,r2,r3⟩=>⟨v,r,r1,(jI d v).mp r2,(repL_me ds r).mp r3⟩,λ⟨v,r,r1,r2,r3⟩=>⟨v,r,r1,(jI d v).mpr r2,(repL_me ds r).mpr r3⟩⟩
end
theorem RepL.length:∀(ds:List D) (vs:List V),RepL T K H ds vs->vs.length=ds.length
 | [],_,h=>by cases h;rfl
 | d::ds,_,h=>by
  obtain ⟨v,r,rfl,_,h3⟩:=h;simp [RepL.length ds r h3]
theorem RepL.get:∀(ds:List D) (vs:List V) (i:Nat) (d:D),RepL T K H ds vs->ds[i]?=some d->∃v,vs[i]?=some v/\Rep T K H d v
 | [],_,_,_,_,e=>by simp at e
 | d::ds,_,0,x,h,e=>by
  obtain ⟨v,r,rfl,h2,_⟩:=h;simp at e;subst e;exact ⟨v,rfl,h2⟩
 | d::ds,_,i+1,x,h,e=>by
  obtain ⟨v,r,rfl,_,h3⟩:=h;obtain ⟨u,e1,e2⟩:=RepL.get ds r i x h3 (by simpa using e);exact ⟨u,by simpa using e1,e2⟩
theorem RepL.append:∀(ds:List D) (vs:List V) (es:List D) (us:List V),RepL T K H ds vs->RepL T K H es us->RepL T K H (ds++es) (vs++us)
 | [],_,_,_,h,h'=>by cases h;exact h'
 | d::ds,_,es,us,h,h'=>by
  obtain ⟨v,r,rfl,h2,h3⟩:=h;exact ⟨v,r++us,rfl,h2,RepL.append ds r es us h3 h'⟩
theorem RepL.set:∀(ds:List D) (vs:List V) (i:Nat) (d:D) (v:V),RepL T K H ds vs->Rep T K H d v->RepL T K H (ds.set i d) (vs.set i v)
 | [],_,_,_,_,h,_=>by cases h;exact rfl
 | d::ds,_,0,x,y,h,q=>by
  obtain ⟨v,r,rfl,_,h3⟩:=h;exact ⟨y,r,rfl,q,h3⟩
 | d::ds,_,i+1,x,y,h,q=>by
  obtain ⟨v,r,rfl,h2,h3⟩:=h;exact ⟨v,r.set i y,rfl,h2,RepL.set ds r i x y h3 q⟩
theorem RepL.drop:∀(n:Nat) (ds:List D) (vs:List V),RepL T K H ds vs->RepL T K H (ds.drop n) (vs.drop n)
 | 0,_,_,h=>h
 | _+1,[],_,h=>by cases h;exact rfl
 | n+1,d::ds,_,h=>by
  obtain ⟨v,r,rfl,_,h3⟩:=h;exact RepL.drop n ds r h3
theorem RepL.take:∀(n:Nat) (ds:List D) (vs:List V),RepL T K H ds vs->RepL T K H (ds.take n) (vs.take n)
 | 0,_,_,_=>rfl
 | _+1,[],_,h=>by cases h;exact rfl
 | n+1,d::ds,_,h=>by
  obtain ⟨v,r,rfl,h2,h3⟩:=h;exact ⟨v,r.take n,rfl,h2,RepL.take n ds r h3⟩
theorem RepL.reverse (ds:List D) (vs:List V) (h:RepL T K H ds vs):RepL T K H ds.reverse vs.reverse:=by
 induction ds generalizing vs with
 | nil=>cases h;exact rfl
 | cons d ds ih=>
  obtain ⟨v,r,rfl,h2,h3⟩:=h;rw [List.reverse_cons,List.reverse_cons];exact RepL.append _ _ _ _ (ih r h3) ⟨v,[],rfl,h2,rfl⟩
theorem RepL.ints (ns:List Int):RepL T K H (ns.map D.int) (ns.map V.int):=by
 induction ns with
 | nil=>exact rfl
 | cons n ns ih=>exact ⟨.int n,ns.map V.int,rfl,rfl,ih⟩
end
abbrev WK:=Int×List Int×Int
abbrev KI:=Sum Int (List Int)
@[simp] def gI (k:WK):List KI:=[.inl k.1,.inr k.2.1,.inl k.2.2]
abbrev WE:=WK×Addr×Value
@[simp] def cC (k:WK):D:=.tup [.int k.1,.tup (k.2.1.map D.int),.int k.2.2]
def kiH:KI->Int
 | .inl i=>hashInt i
 | .inr is=>reduceHash (Builtin.Tuple.tupleHashOf (is.map hashInt))
def b9 (x:WE):DictEntry:=⟨reduceHash (Builtin.Tuple.tupleHashOf ((gI x.1).map kiH)),.ref x.2.1,x.2.2⟩
def fX (d:Addr) (xs:List WE) (h:Heap):Prop:=∃o es ep,h.get? d=some o/\o.ExactDict/\o.data=.dict es ep/\es.toList=xs.map b9/\(xs.map (·.1)).Nodup
def fA (kvs:List (WK×Bool)) (xs:List WE):Prop:=xs.map (λe=>(e.1,e.2.2))=kvs.map (λq=>(q.1,Value.bool q.2))
inductive Sl where
 | no | sh (d:D) | ow (ds:List D) | bo (ds:List D) | me (c:Nat) (ds:List D)
 | ox (t:Bool) (pre ds post:List D)
 | od (kvs:List (WK×Bool)) | mo (ds:List D) | lm (ms:List (Option Nat×List D)) | bi (c:Nat) (ds:List D)
inductive Rv where
 | sh (d:D) | fr (ds:List D)
 | tf (t:Bool) (pre ds post:List D)
abbrev Ro:=List Sl
def OutAt (H:Hp):Bool->Addr->List V->Prop
 | true,a,us=>H a=some (.tup us)
 | false,a,us=>∃o,H a=some (.frz o (.lst us))
theorem OutAt.uniq {H:Hp} {t:Bool} {a:Addr} {us ws:List V} (h:OutAt H t a us) (h':OutAt H t a ws):us=ws:=by
 cases t with
 | true=>
  have h:H a=some (.tup us):=h;have h':H a=some (.tup ws):=h';rw [h] at h';cases h';rfl
 | false=>
  obtain ⟨o,h⟩:=h;obtain ⟨o',h'⟩:=h';rw [h] at h';cases h';rfl
theorem OutAt.keep {H H':Hp} {t:Bool} {a:Addr} {us:List V} (k:∀o,H a=some o->(∀xs,o≠.lst xs)->(∀c dx fs,o≠.ins c dx fs)->H' a=some o) (h:OutAt H t a us):OutAt H' t a us:=by
 cases t with
 | true=>exact k _ h (λ_ z=>by cases z) (λ_ _ _ z=>by cases z)
 | false=>
  obtain ⟨o,h⟩:=h;exact ⟨o,k _ h (λ_ z=>by cases z) (λ_ _ _ z=>by cases z)⟩
theorem OutAt.nlst {H:Hp} {t:Bool} {a:Addr} {us ws:List V} (h:OutAt H t a us):H a≠some (.lst ws):=λz=>by
 cases t with
 | true=>
  have h:H a=some (.tup us):=h;rw [h] at z;cases z
 | false=>
  obtain ⟨o,h⟩:=h;rw [h] at z;cases z
def InsAt (T:Tb) (K:PySem.W.Frag) (H:Hp) (c:Nat) (a:Addr) (ds:List D):Prop:=∃dx fs,H a=some (.ins (T.ca c) dx fs)/\fs.map (·.1)=(T.fl c).take ds.length/\ds.length < (T.fl c).length/\RepL T K H ds (fs.map (·.2))
def MuAt (T:Tb) (K:PySem.W.Frag) (G H:Hp) (v:V):Option Nat×List D->Prop
 | (none,ds)=>∃a vs,v=.ref a/\H a=some (.lst vs)/\G a=none/\RepL T K H ds vs
 | (some c,ds)=>∃a,v=.ref a/\T.me≠some a/\G a=none/\InsAt T K H c a ds
def SlOk (T:Tb) (K:PySem.W.Frag) (G H:Hp) (x:Option (Option V)):Sl->Prop
 | .no=>True
 | .sh d=>∃v,x=some (some v)/\Rep T K H d v
 | .ow ds=>∃a vs,x=some (some (.ref a))/\H a=some (.lst vs)/\G a=none/\RepL T K H ds vs
 | .bo ds=>∃a vs,x=some (some (.ref a))/\G a=some (.lst vs)/\RepL T K H ds vs
 | .me c ds=>∃a dx fs,T.me=some a/\x=some (some (.ref a))/\H a=some (.ins (T.ca c) dx fs)/\G a=none/\fs.map (·.1)=(T.fl c).take ds.length/\RepL T K H ds (fs.map (·.2))
 | .ox t pre ds post=>∃a vp b vq ws,x=some (some (.ref a))/\OutAt H t a (vp++.ref b::vq)/\RepL T K H pre vp/\RepL T K H post vq/\H b=some (.lst ws)/\G b=none/\RepL T K H ds ws
 | .od kvs=>∃d xs,x=some (some (.ref d))/\H d=some (.ext (fX d xs))/\G d=none/\(d==sysModules)=false/\fA kvs xs/\∀e∈xs,Rep T K H (cC e.1) (.ref e.2.1)
 | .mo ds=>∃a vs,T.mo=some a/\x=some (some (.ref a))/\H a=some (.lst vs)/\G a=none/\RepL T K H ds vs
 | .lm ms=>∃a us,x=some (some (.ref a))/\OutAt H false a us/\us.length=ms.length/\(∀(i:Nat) (m:Option Nat×List D) (v:V),ms[i]?=some m->us[i]?=some v->MuAt T K G H v m)/\∀(i j:Nat) (v:V),us[i]?=some v->us[j]?=some v->i=j
 | .bi c ds=>∃a dx fs,x=some (some (.ref a))/\G a=some (.ins (T.ca c) dx fs)/\fs.map (·.1)=(T.fl c).take ds.length/\ds.length < (T.fl c).length/\RepL T K H ds (fs.map (·.2))
def eA (H:Hp) (x:Option (Option V)) (b:Addr):Sl->Prop
 | .ow _=>x=some (some (.ref b))
 | .mo _=>x=some (some (.ref b))
 | .lm ms=>∃(a:Addr) (us:List V) (i:Nat) (ks:List D),x=some (some (.ref a))/\OutAt H false a us/\us[i]?=some (.ref b)/\ms[i]?=some (none,ks)
 | .ox t pre _ _=>∃a us,x=some (some (.ref a))/\OutAt H t a us/\us[pre.length]?=some (.ref b)
 | _=>False
structure FR (T:Tb) (K:PySem.W.Frag) (G H:Hp) (σ:L2.St) (ρ:Ro):Prop where
 same:Same G H
 len:ρ.length=σ.length
 sl:∀(i:Nat) (s:Sl),ρ[i]?=some s->SlOk T K G H σ[i]? s
 ne:∀(i j:Nat) (s t:Sl) (b:Addr),i≠j->ρ[i]?=some s->ρ[j]?=some t->eA H σ[i]? b s->eA H σ[j]? b t->False
 me:∀x,T.me=some x->σ[0]?=some (some (.ref x))
 me0:∀(i:Nat) (c:Nat) (ds:List D),ρ[i]?=some (.me c ds)->i=0
def fN (T:Tb) (K:PySem.W.Frag) (G H:Hp) (v:V):Rv->Prop
 | .sh d=>Rep T K H d v
 | .fr ds=>∃a vs,v=.ref a/\H a=some (.lst vs)/\G a=none/\RepL T K H ds vs
 | .tf t pre ds post=>∃a vp b vq ws,v=.ref a/\OutAt H t a (vp++.ref b::vq)/\RepL T K H pre vp/\RepL T K H post vq/\H b=some (.lst ws)/\G b=none/\RepL T K H ds ws
section
variable {T:Tb} {K:PySem.W.Frag} {G H H':Hp} {σ:L2.St} {ρ:Ro}
theorem InsAt.mono {c:Nat} {a:Addr} {ds:List D} (e:Same H H') (h:InsAt T K H c a ds):InsAt T K H' c a ds:=by
 obtain ⟨dx,fs,e1,e2,e3,r⟩:=h;exact ⟨dx,fs,e _ _ e1,e2,e3,RepL.mono e _ _ r⟩
theorem MuAt.mono {v:V}:∀{m:Option Nat×List D},Same H H'->MuAt T K G H v m->MuAt T K G H' v m
 | (none,_),e,⟨a,vs,e1,e2,e3,r⟩=>⟨a,vs,e1,e _ _ e2,e3,RepL.mono e _ _ r⟩
 | (some _,_),e,⟨a,e1,e2,e3,r⟩=>⟨a,e1,e2,e3,r.mono e⟩
theorem SlOk.mono {x:Option (Option V)} {s:Sl} (e:Same H H') (h:SlOk T K G H x s):SlOk T K G H' x s:=by
 cases s with
 | no=>trivial
 | sh d=>
  obtain ⟨v,e1,r⟩:=h;exact ⟨v,e1,Rep.mono e _ _ r⟩
 | ow ds=>
  obtain ⟨a,vs,e1,e2,e3,r⟩:=h;exact ⟨a,vs,e1,e _ _ e2,e3,RepL.mono e _ _ r⟩
 | bo ds=>
  obtain ⟨a,vs,e1,e2,r⟩:=h;exact ⟨a,vs,e1,e2,RepL.mono e _ _ r⟩
 | me c ds=>
  obtain ⟨a,dx,fs,e0,e1,e2,e3,e4,r⟩:=h;exact ⟨a,dx,fs,e0,e1,e _ _ e2,e3,e4,RepL.mono e _ _ r⟩
 | ox t pre ds post=>
  obtain ⟨a,vp,b,vq,ws,e1,e2,r1,r2,e3,e4,r3⟩:=h;exact ⟨a,vp,b,vq,ws,e1,e2.keep λo q _ _=>e _ _ q,RepL.mono e _ _ r1,RepL.mono e _ _ r2,e _ _ e3,e4,RepL.mono e _ _ r3⟩
 | mo ds=>
  obtain ⟨a,vs,e0,e1,e2,e3,r⟩:=h;exact ⟨a,vs,e0,e1,e _ _ e2,e3,RepL.mono e _ _ r⟩
 | od kvs=>
  obtain ⟨d,xs,e1,e2,e3,e4,e5,e6⟩:=h;exact ⟨d,xs,e1,e _ _ e2,e3,e4,e5,λq hq=>Rep.mono e _ _ (e6 q hq)⟩
 | lm ms=>
  obtain ⟨a,us,e1,e2,e3,e4,e5⟩:=h;exact ⟨a,us,e1,e2.keep λo q _ _=>e _ _ q,e3,λi m v q1 q2=>MuAt.mono e (e4 i m v q1 q2),e5⟩
 | bi c ds=>
  obtain ⟨a,dx,fs,e1,e2,e3,e4,r⟩:=h;exact ⟨a,dx,fs,e1,e2,e3,e4,RepL.mono e _ _ r⟩
theorem SlOk.own {x:Option (Option V)} {s:Sl} {b:Addr} (h:SlOk T K G H x s) (o:eA H x b s):(∃ws,H b=some (.lst ws))/\G b=none:=by
 cases s with
 | ow ds=>
  obtain ⟨a,vs,e1,e2,e3,r⟩:=h;have o:x=some (some (.ref b)):=o;rw [e1] at o;cases o;exact ⟨⟨vs,e2⟩,e3⟩
 | ox t pre ds post=>
  obtain ⟨a,vp,c,vq,ws,e1,e2,r1,r2,e3,e4,r3⟩:=h;obtain ⟨a',us,o1,o2,o3⟩:=o;rw [e1] at o1;cases o1;have:=e2.uniq o2;subst this;rw [<-RepL.length _ _ r1,List.getElem?_append_right (Nat.le_refl _),Nat.sub_self] at o3;have o3:(some (V.ref c))=some (.ref b):=o3;cases o3;exact ⟨⟨ws,e3⟩,e4⟩
 | mo ds=>
  obtain ⟨a,vs,_,e1,e2,e3,r⟩:=h;have o:x=some (some (.ref b)):=o;rw [e1] at o;cases o;exact ⟨⟨vs,e2⟩,e3⟩
 | lm ms=>
  obtain ⟨a,us,e1,e2,e3,e4,e5⟩:=h;obtain ⟨a',us',i,ks,o1,o2,o3,o4⟩:=o;rw [e1] at o1;cases o1;have:=e2.uniq o2;subst this;obtain ⟨c,vs,q,q1,q2,_⟩:=e4 i _ _ o4 o3;cases q;exact ⟨⟨vs,q1⟩,q2⟩
 | _=>exact o.elim
theorem SlOk.back {x:Option (Option V)} {s:Sl} {b:Addr} (h:SlOk T K G H x s) (k:∀a o,H a=some o->(∀xs,o≠.lst xs)->(∀c dx fs,o≠.ins c dx fs)->H' a=some o) (o:eA H' x b s):eA H x b s:=by
 cases s with
 | ow ds=>exact o
 | mo ds=>exact o
 | lm ms=>
  obtain ⟨a,us,e1,e2,_⟩:=h;obtain ⟨a',us',i,ks,o1,o2,o3,o4⟩:=o;rw [e1] at o1;cases o1;have:=(e2.keep (k a)).uniq o2;subst this;exact ⟨a,_,i,ks,e1,e2,o3,o4⟩
 | ox t pre ds post=>
  obtain ⟨a,vp,c,vq,ws,e1,e2,r1,r2,e3,e4,r3⟩:=h;obtain ⟨a',us,o1,o2,o3⟩:=o;rw [e1] at o1;cases o1;have:=(e2.keep (k a)).uniq o2;subst this;exact ⟨a,_,e1,e2,o3⟩
 | _=>exact o.elim
theorem SlOk.off {x:Option (Option V)} {s:Sl} {a:Addr} {vs:List V} {o:HO} (e2:H a=some (.lst vs)) (tr:∀ds us,RepL T K H ds us->RepL T K (upd H a o) ds us) (hn:¬eA H x a s) (h:SlOk T K G H x s):SlOk T K G (upd H a o) x s:=by
 have kp:∀{b:Addr} {u:HO},H b=some u->(∀xs,u≠.lst xs)->upd H a o b=some u:=λ{b u} w n=>by
  rw [aM (λz=>by subst z;rw [e2] at w;cases w;exact n _ rfl)];exact w
 have ik:∀{b:Addr} {c:Nat} {ds:List D},InsAt T K H c b ds->InsAt T K (upd H a o) c b ds:=λ⟨dx,fs,z1,z2,z3,z4⟩=>⟨dx,fs,kp z1 (λ_ z=>by cases z),z2,z3,tr _ _ z4⟩
 have t1:∀{d:D} {v:V},Rep T K H d v->Rep T K (upd H a o) d v:=λ{d v} z2=>by
  obtain ⟨_,_,q,r,_⟩:=tr [d] [v] ⟨v,[],rfl,z2,rfl⟩;cases q;exact r
 cases s with
 | no=>trivial
 | sh d=>
  obtain ⟨v,z1,z2⟩:=h;exact ⟨v,z1,t1 z2⟩
 | od kvs=>
  obtain ⟨d,xs,z1,z2,z3,z4,z5,z6⟩:=h;exact ⟨d,xs,z1,kp z2 (λ_ z=>by cases z),z3,z4,z5,λq hq=>t1 (z6 q hq)⟩
 | ow es=>
  obtain ⟨b,ws,z1,z2,z3,z4⟩:=h;exact ⟨b,ws,z1,by rw [aM (λz=>by subst z;exact hn z1)];exact z2,z3,tr _ _ z4⟩
 | mo es=>
  obtain ⟨b,ws,z0,z1,z2,z3,z4⟩:=h;exact ⟨b,ws,z0,z1,by rw [aM (λz=>by subst z;exact hn z1)];exact z2,z3,tr _ _ z4⟩
 | bo es=>obtain ⟨b,ws,z1,z2,z4⟩:=h;exact ⟨b,ws,z1,z2,tr _ _ z4⟩
 | bi c es=>obtain ⟨b,dx,fs,z1,z2,z3,z4,z5⟩:=h;exact ⟨b,dx,fs,z1,z2,z3,z4,tr _ _ z5⟩
 | me c es=>
  obtain ⟨b,dx,fs,z0,z1,z2,z3,z4,z5⟩:=h;exact ⟨b,dx,fs,z0,z1,kp z2 (λ_ z=>by cases z),z3,z4,tr _ _ z5⟩
 | lm ms=>
  obtain ⟨c,us,z1,z2,z3,z4,z5⟩:=h;refine ⟨c,us,z1,z2.keep λu w n _=>kp w n,z3,λi m v q1 q2=>?_,z5⟩;have z:=z4 i m v q1 q2
  match m,q1,z with
  | (none,ks),q1,⟨b,ws,y1,y2,y3,y4⟩=>
   subst y1;exact ⟨b,ws,rfl,by rw [aM (λy=>by subst y;exact hn ⟨c,us,i,ks,z1,z2,q2,q1⟩)];exact y2,y3,tr _ _ y4⟩
  | (some k,ks),q1,⟨b,y1,y2,y3,y4⟩=>exact ⟨b,y1,y2,y3,ik y4⟩
 | ox t pre es post=>
  obtain ⟨c,vp,b,vq,ws,z1,z2,z3,z4,z5,z6,z7⟩:=h;have hab:b≠a:=λz=>hn ⟨c,_,z1,z2,by rw [<-RepL.length _ _ z3,List.getElem?_append_right (Nat.le_refl _),Nat.sub_self,z];rfl⟩
  exact ⟨c,vp,b,vq,ws,z1,z2.keep λu w n _=>kp w n,tr _ _ z3,tr _ _ z4,by rw [aM hab];exact z5,z6,tr _ _ z7⟩
theorem FR.mono (e:Same H H') (h:FR T K G H σ ρ):FR T K G H' σ ρ:=⟨h.same.trans e,h.len,λi s q=>SlOk.mono e (h.sl i s q),λi j s t b hij q1 q2 o1 o2=>h.ne i j s t b hij q1 q2 ((h.sl i s q1).back (λa o z _ _=>e a o z) o1) ((h.sl j t q2).back (λa o z _ _=>e a o z) o2),h.me,h.me0⟩
theorem FR.sh_at (h:FR T K G H σ ρ) {i:Nat} {d:D} (e:ρ[i]?=some (.sh d)):∃v,σ[i]?=some (some v)/\Rep T K H d v:=h.sl i _ e
theorem mF {H1:Hp} {v:V} {r:Rv} (s1:Same H H1) (h:fN T K H1 H' v r):fN T K H H' v r:=by
 cases r with
 | sh d=>exact h
 | fr ds=>
  obtain ⟨a,us,e1,e2,e3,e4⟩:=h;exact ⟨a,us,e1,e2,s1.free e3,e4⟩
 | tf t pre ds post=>
  obtain ⟨a,vp,b,vq,ws,e1,e2,r1,r2,e3,e4,r3⟩:=h;exact ⟨a,vp,b,vq,ws,e1,e2,r1,r2,e3,s1.free e4,r3⟩
theorem GY {i:Nat} {v:Option V} (hz:T.me=none∨i≠0) (h:∀x,T.me=some x->σ[0]?=some (some (.ref x))):∀x,T.me=some x->(σ.set i v)[0]?=some (some (.ref x)):=λx e=>by
 rcases hz with z | z
 ·rw [z] at e;cases e
 ·rw [List.getElem?_set_ne z];exact h x e
theorem sD {i:Nat} {s:Sl} (hs:∀c ds,s≠.me c ds) (h:∀(i:Nat) (c:Nat) (ds:List D),ρ[i]?=some (.me c ds)->i=0):∀(j:Nat) (c:Nat) (ds:List D),(ρ.set i s)[j]?=some (.me c ds)->j=0:=λj c ds e=>by
 by_cases hj:j=i
 ·subst hj;have hl:j < ρ.length:=by
   have:=(List.getElem?_eq_some_iff.mp e).1;simpa using this
  rw [List.getElem?_set_self hl] at e;exact absurd (Option.some.inj e) (hs c ds)
 ·rw [List.getElem?_set_ne (Ne.symm hj)] at e;exact h j c ds e
theorem FR.set_sh (h:FR T K G H σ ρ) {i:Nat} {d:D} {v:V} (r:Rep T K H d v) (hz:T.me=none∨i≠0):FR T K G H (σ.set i (some v)) (ρ.set i (.sh d)):=by
 refine ⟨h.same,by simp [h.len],λj s q=>?_,λj k s1 s2 b hjk q1 q2 o1 o2=>?_,GY hz h.me,sD (λ_ _ z=>by cases z) h.me0⟩
 ·by_cases hj:j=i
  ·subst hj;have hl:j < ρ.length:=by
    have:=(List.getElem?_eq_some_iff.mp q).1;simpa using this
   rw [List.getElem?_set_self hl] at q;cases q;exact ⟨v,by rw [List.getElem?_set_self (by rw [<-h.len];exact hl)],r⟩
  ·rw [List.getElem?_set_ne (Ne.symm hj)] at q ⊢;exact h.sl j s q
 ·have hj:j≠i:=by
   rintro rfl;have hl:j < ρ.length:=by
    have:=(List.getElem?_eq_some_iff.mp q1).1;simpa using this
   rw [List.getElem?_set_self hl] at q1;cases q1;exact o1
  have hk:k≠i:=by
   rintro rfl;have hl:k < ρ.length:=by
    have:=(List.getElem?_eq_some_iff.mp q2).1;simpa using this
   rw [List.getElem?_set_self hl] at q2;cases q2;exact o2
  rw [List.getElem?_set_ne (Ne.symm hj)] at q1 o1;rw [List.getElem?_set_ne (Ne.symm hk)] at q2 o2;exact h.ne j k s1 s2 b hjk q1 q2 o1 o2
theorem FR.set_own (h:FR T K G H σ ρ) {i:Nat} {v:V} (w:Sl) (hw:i < ρ.length->SlOk T K G H (some (some v)) w)
 (hn:∀j s b,j≠i->ρ[j]?=some s->eA H (some (some v)) b w->¬eA H σ[j]? b s) (hm:∀c ds,w≠.me c ds) (hz:T.me=none∨i≠0):FR T K G H (σ.set i (some v)) (ρ.set i w):=by
 have hlen:(ρ.set i w).length=(σ.set i (some v)).length:=by simp [h.len]
 have lt:∀{m:Nat} {z:Sl},(ρ.set i w)[m]?=some z->(m=i/\z=w/\(σ.set i (some v))[m]?=some (some v)/\i < ρ.length)∨(m≠i/\ρ[m]?=some z/\(σ.set i (some v))[m]?=σ[m]?):=λ{m z} q=>by
  by_cases hmi:m=i
  ·subst hmi;have hl:m < ρ.length:=by
    have:=(List.getElem?_eq_some_iff.mp q).1;simpa using this
   rw [List.getElem?_set_self hl] at q;exact .inl ⟨rfl,(Option.some.inj q).symm,by rw [List.getElem?_set_self (by rw [<-h.len];exact hl)],hl⟩
  ·rw [List.getElem?_set_ne (Ne.symm hmi)] at q;exact .inr ⟨hmi,q,by rw [List.getElem?_set_ne (Ne.symm hmi)]⟩
 refine ⟨h.same,hlen,λj s q=>?_,λj k s1 s2 b hjk q1 q2 o1 o2=>?_,GY hz h.me,sD hm h.me0⟩
 ·rcases lt q with ⟨rfl,rfl,e,hl⟩ | ⟨_,q,e⟩
  ·rw [e];exact hw hl
  ·rw [e];exact h.sl j s q
 ·rcases lt q1 with ⟨rfl,rfl,e,hl⟩ | ⟨hj,p1,e⟩
  ·rw [e] at o1;rcases lt q2 with ⟨rfl,_⟩ | ⟨hk,q2,e'⟩
   ·exact hjk rfl
   ·rw [e'] at o2;exact hn k s2 b hk q2 o1 o2
  ·rw [e] at o1;rcases lt q2 with ⟨rfl,rfl,e',hl⟩ | ⟨hk,q2,e'⟩
   ·rw [e'] at o2;exact hn j s1 b hj p1 o2 o1
   ·rw [e'] at o2;exact h.ne j k s1 s2 b hjk p1 q2 o1 o2
theorem FR.set_ow (h:FR T K G H σ ρ) {i:Nat} {ds:List D} {a:Addr} {vs:List V} (ha:H a=some (.lst vs)) (hg:G a=none) (r:RepL T K H ds vs)
 (hn:∀j s,j≠i->ρ[j]?=some s->¬eA H σ[j]? a s) (hz:T.me=none∨i≠0):FR T K G H (σ.set i (some (.ref a))) (ρ.set i (.ow ds)):=by
 refine h.set_own (.ow ds) ?_ ?_ (λc ds z=>by cases z) hz
 ·exact λ_=>⟨a,vs,rfl,ha,hg,r⟩
 ·intro j s b hj q o1 o2;have o1:some (some (V.ref a))=some (some (.ref b)):=o1;cases o1;exact hn j s hj q o2
end
def Free (X:Cx) (vA:List (Addr×Obj)) (b:Addr):Prop:=
 (b∈X.ex∨X.s₀.heap.get? b=none)/\b≠X.env.locals/\(∀x c,X.env.cells.lookup x=some c->c≠b)/\∀p∈X.pn++vA,p.1≠b
def GZ (T:Tb) (c:Nat) (ea:Addr) (H:Hp) (h:Heap) (P:Addr->Prop):Prop:=
 H ea=none/\P ea/\Nc ea h/\∃(oe:Obj) (vs:Array Value) (a0:Value),h.get? ea=some oe/\oe.cls=.ref (T.ca c)/\oe.data=.fields vs/\vs[0]?=some a0 /\
  (vs[1]?=some .none∨∃(tb:Addr) (ot:Obj) (ts:Array Value),vs[1]?=some (.ref tb)/\tb≠ea/\h.get? tb=some ot/\ot.data=.fields ts/\ts[3]?=some .none/\H tb=none/\P tb)
def Flying (T:Tb) (X:Cx) (vA:List (Addr×Obj)) (c:Nat) (u:Value) (H:Hp) (s:Shared):Prop:=
 ∃ea,u=.ref ea/\GZ T c ea H s.heap (Free X vA)
def XW (T:Tb) (X:Cx) (E:Value->Shared->Prop) (σ:L2.St) (H:Hp) (c:Nat):Prop:=
 ∀(vA:List (Addr×Obj)) (s:Shared) (u:Value) (H':Hp),Inv X vA σ H' s->Same H H'->Flying T X vA c u H' s->E u s
theorem XW.mono {T:Tb} {X:Cx} {E:Value->Shared->Prop} {σ:L2.St} {H H':Hp} {c:Nat} (e:Same H H') (h:XW T X E σ H c):XW T X E σ H' c:=
 λvA s u H'' I q f=>h vA s u H'' I (e.trans q) f
def Acc {α:Type} (T:Tb) (X:Cx) (E:Value->Shared->Prop) (σ:L2.St) (H:Hp) (o:Out α) (k:α->Prop):Prop:=
 match o with
 | .ok a=>k a
 | .exc c=>XW T X E σ H c
 | .bad=>False
section
variable {T:Tb} {X:Cx} {E:Value->Shared->Prop} {σ:L2.St} {H H':Hp} {α β:Type}
theorem Acc.mono {o:Out α} {k k':α->Prop} (h:Acc T X E σ H o k) (f:∀a,o=.ok a->k a->k' a):Acc T X E σ H o k':=by
 cases o with
 | ok a=>exact f a rfl h
 | exc c=>exact h
 | bad=>exact h
theorem Acc.heap {o:Out α} {k:α->Prop} (e:Same H H') (h:Acc T X E σ H o k):Acc T X E σ H' o k:=by
 cases o with
 | ok a=>exact h
 | exc c=>exact XW.mono e h
 | bad=>exact h
theorem Acc.bind {o:Out α} {g:α->Out β} {k:β->Prop} (h:Acc T X E σ H (o.bind g) k):Acc T X E σ H o (λa=>Acc T X E σ H (g a) k):=by
 cases o with
 | ok a=>exact h
 | exc c=>exact h
 | bad=>exact h
end
abbrev Ev:=Ro->Out D
def kE (T:Tb) (K:PySem.W.Frag) (H:Hp) (Q:VK) (d:D):Prop:=∀v H',Same H H'->Rep T K H' d v->Q v H'
def tE (T:Tb) (X:Cx) (G:Hp) (E:Value->Shared->Prop) (f:Ev):TE:=fun σ H Q=>∃ρ,FR T X.K G H σ ρ/\Acc T X E σ H (f ρ) (kE T X.K H Q)
structure DE (T:Tb) (X:Cx) (e:Expr) (f:Ev):Prop where
 mk ::
 run:∀(G:Hp) (E:Value->Shared->Prop),PassesOwn (model X.prog X.w) X.A X.env E->PE (X.wish E) e (tE T X G E f)
def kT (H:Hp) (Q:Bool->Hp->Prop) (b:Bool):Prop:=∀H',Same H H'->Q b H'
def tT (T:Tb) (X:Cx) (G:Hp) (E:Value->Shared->Prop) (f:Ro->Out Bool):TT:=fun σ H Q=>∃ρ,FR T X.K G H σ ρ/\Acc T X E σ H (f ρ) (kT H Q)
structure DT (T:Tb) (X:Cx) (e:Expr) (f:Ro->Out Bool):Prop where
 mk ::
 run:∀(G:Hp) (E:Value->Shared->Prop),PassesOwn (model X.prog X.w) X.A X.env E->PT (X.wish E) e (tT T X G E f)
structure DW (T:Tb) (X:Cx) (e:Expr) (f:Ro->Out Bool):Prop where
 mk ::
 run:∀(G:Hp) (E:Value->Shared->Prop),PassesOwn (model X.prog X.w) X.A X.env E->PW (X.wish E) e (tT T X G E f)
theorem DW.dt {T:Tb} {X:Cx} {e:Expr} {f:Ro->Out Bool} (h:DW T X e f):DT T X e f:=.mk λG E hp=>(h.run G E hp).pt
def tA (T:Tb) (X:Cx) (G:Hp) (E:Value->Shared->Prop) (f:Ro->Out (List D)):TA:=fun σ H Q=>∃ρ,FR T X.K G H σ ρ/\Acc T X E σ H (f ρ) (λds=>∀vs H',Same H H'->RepL T X.K H' ds vs->Q vs H')
structure DA (T:Tb) (X:Cx) (es:List Expr) (f:Ro->Out (List D)):Prop where
 mk ::
 run:∀(G:Hp) (E:Value->Shared->Prop),PassesOwn (model X.prog X.w) X.A X.env E->PA (X.wish E) es (tA T X G E f)
def tF (T:Tb) (X:Cx) (G:Hp) (E:Value->Shared->Prop) (f:Ro->Out (List D)):TE:=fun σ H Q=>∃ρ,FR T X.K G H σ ρ/\Acc T X E σ H (f ρ) (λds=>∀a vs H',Same H H'->H a=none->H' a=some (.lst vs)->RepL T X.K H' ds vs->Q (.ref a) H')
structure DF (T:Tb) (X:Cx) (e:Expr) (f:Ro->Out (List D)):Prop where
 mk ::
 run:∀(G:Hp) (E:Value->Shared->Prop),PassesOwn (model X.prog X.w) X.A X.env E->PE (X.wish E) e (tF T X G E f)
def tL (T:Tb) (X:Cx) (G:Hp) (E:Value->Shared->Prop) (f:Ro->Out (List D)):TE:=fun σ H Q=>∃ρ,FR T X.K G H σ ρ/\Acc T X E σ H (f ρ) (λds=>∀a vs H',Same H H'->SqL X.K H' a vs->RepL T X.K H' ds vs->Q (.ref a) H')
structure DL (T:Tb) (X:Cx) (e:Expr) (f:Ro->Out (List D)):Prop where
 mk ::
 run:∀(G:Hp) (E:Value->Shared->Prop),PassesOwn (model X.prog X.w) X.A X.env E->PE (X.wish E) e (tL T X G E f)
def tR (T:Tb) (X:Cx) (G:Hp) (E:Value->Shared->Prop) (f:Ro->Out Rv):TE:=fun σ H Q=>∃ρ,FR T X.K G H σ ρ/\Acc T X E σ H (f ρ) (λr=>∀v H',Same H H'->fN T X.K H H' v r->Q v H')
structure DR (T:Tb) (X:Cx) (e:Expr) (f:Ro->Out Rv):Prop where
 mk ::
 run:∀(G:Hp) (E:Value->Shared->Prop),PassesOwn (model X.prog X.w) X.A X.env E->PE (X.wish E) e (tR T X G E f)
theorem PE.imp {X:Cx} {e:Expr} {t t':TE} (h:PE X e t) (k:∀σ H Q,t' σ H Q->t σ H Q):PE X e t':=λvA s σ H Q I q=>h vA s σ H Q I (k σ H Q q)
theorem PT.imp {X:Cx} {e:Expr} {t t':TT} (h:PT X e t) (k:∀σ H Q,t' σ H Q->t σ H Q):PT X e t':=λvA s σ H Q I q=>h vA s σ H Q I (k σ H Q q)
theorem PW.imp {X:Cx} {e:Expr} {t t':TT} (h:PW X e t) (k:∀σ H Q,t' σ H Q->t σ H Q):PW X e t':=λw vA s σ H Q I q=>h w vA s σ H Q I (k σ H Q q)
theorem PA.imp {X:Cx} {es:List Expr} {t t':TA} (h:PA X es t) (k:∀σ H Q,t' σ H Q->t σ H Q):PA X es t':=λp vA s σ H Q I q=>h p vA s σ H Q I (k σ H Q q)
theorem PS.imp {X:Cx} {e:Stmt} {t t':TS} (h:PS X e t) (k:∀D σ H,t' D σ H->t D σ H):PS X e t':=λvA s σ H D I q=>h vA s σ H D I (k D σ H q)
theorem PSs.imp {X:Cx} {e:List Stmt} {t t':TS} (h:PSs X e t) (k:∀D σ H,t' D σ H->t D σ H):PSs X e t':=λvA s σ H D I q=>h vA s σ H D I (k D σ H q)
inductive Fl where
 | nx (ρ:Ro) | rt (r:Rv) | rm (r:D) (c:Nat) (ds ks:List D) | exc (c:Nat) (ρ:Ro) | bk (ρ:Ro) | ct (ρ:Ro) | bad
def stays (T:Tb) (b:Bool):HO->Bool
 | .lst _=>false
 | .ext _=>false
 | .ins C _ fs=>!b && decide (fs.map (·.1)=T.fa C)
 | _=>true
def Pers (T:Tb) (b:Bool) (H H':Hp):Prop:=∀a o,H a=some o->stays T b o=true->H' a=some o
theorem Pers.refl {T:Tb} {b:Bool} (H:Hp):Pers T b H H:=λ_ _ e _=>e
theorem Pers.trans {T:Tb} {b:Bool} {H H1 H2:Hp} (x:Pers T b H H1) (y:Pers T b H1 H2):Pers T b H H2:=λc o e s=>y c o (x c o e s) s
theorem Pers.of {T:Tb} {b:Bool} {H H':Hp} (x:Same H H'):Pers T b H H':=λc o e _=>x c _ e
theorem Pers.fz {T:Tb} {b:Bool} {K:PySem.W.Frag} {H H':Hp} {a:Addr} {vs:List V} (p:Pers T b H H') (h:FzL K H a vs):FzL K H' a vs:=by
 rcases h with ⟨o,h⟩ | h
 ·exact .inl ⟨o,p _ _ h rfl⟩
 ·exact .inr h
mutual
theorem Rep.pers {T:Tb} {K:PySem.W.Frag} {H H':Hp} (e:Pers T false H H'):∀(d:D) (v:V),Rep T K H d v->Rep T K H' d v
 | .non,_,h=>h
 | .bl _,_,h=>h
 | .int _,_,h=>h
 | .str _,_,h=>h
 | .tup ds,_,h=>by
  obtain ⟨a,vs,r1,r2,r3⟩:=h;refine ⟨a,vs,r1,?_,RepL.pers e ds vs r3⟩;rcases r2 with (r2 | ⟨o,r2⟩) | r2
  ·exact .inl (.inl (e _ _ r2 rfl))
  ·exact .inl (.inr ⟨o,e _ _ r2 rfl⟩)
  ·exact .inr r2
 | .lst ds,_,h=>by
  obtain ⟨a,vs,r1,r2,r3⟩:=h;exact ⟨a,vs,r1,e.fz r2,RepL.pers e ds vs r3⟩
 | .ins c ds,_,h=>by
  obtain ⟨a,dx,fs,r1,r2,r3,r4⟩:=h;exact ⟨a,dx,fs,r1,e _ _ r2 (by show (!false && decide (fs.map (·.1)=T.fa (T.ca c)))=true;rw [r3];simp [Tb.fl]),r3,RepL.pers e ds _ r4⟩
 | .exc c,_,h=>by
  obtain ⟨a,o,r1,r2,r3⟩:=h;exact ⟨a,o,r1,e _ _ r2 rfl,r3⟩
theorem RepL.pers {T:Tb} {K:PySem.W.Frag} {H H':Hp} (e:Pers T false H H'):∀(ds:List D) (vs:List V),RepL T K H ds vs->RepL T K H' ds vs
 | [],_,h=>h
 | d::ds,_,h=>by
  obtain ⟨v,r,r1,r2,r3⟩:=h;exact ⟨v,r,r1,Rep.pers e d v r2,RepL.pers e ds r r3⟩
end
def d0 (T:Tb) (K:PySem.W.Frag) (H:Hp) (c:Nat) (ds:List D):Prop:=∃a,T.me=some a/\InsAt T K H c a ds
def d3 (T:Tb) (K:PySem.W.Frag) (H:Hp):Option Addr->List D->Prop
 | none,ks=>ks=[]
 | some a,ks=>∃vs,H a=some (.lst vs)/\RepL T K H ks vs
def AccS (T:Tb) (b:Bool) (X:Cx) (G:Hp) (E:Value->Shared->Prop) (H₁:Hp) (o:Fl) (D:Ends):Prop:=
 match o with
 | .nx ρ=>∀σ H,FR T X.K G H σ ρ->Pers T b H₁ H->D.nx σ H
 | .bk ρ=>∀σ H,FR T X.K G H σ ρ->Pers T b H₁ H->D.bk σ H
 | .ct ρ=>∀σ H,FR T X.K G H σ ρ->Pers T b H₁ H->D.ct σ H
 | .rt r=>∀v H,Same G H->fN T X.K G H v r->D.rt v H
 | .rm r c ds ks=>∀v H,Same G H->Rep T X.K H r v->d0 T X.K H c ds->d3 T X.K H T.mo ks->D.rt v H
 | .exc c ρ=>∀σ H,FR T X.K G H σ ρ->Pers T b H₁ H->XW T X E σ H c
 | .bad=>False
theorem AccS.heap {T:Tb} {b:Bool} {X:Cx} {G:Hp} {E:Value->Shared->Prop} {H H':Hp} {o:Fl} {D:Ends} (p:Pers T b H H') (h:AccS T b X G E H o D):AccS T b X G E H' o D:=by
 cases o with
 | nx ρ=>exact fun σ H2 fr q=>h σ H2 fr (p.trans q)
 | bk ρ=>exact fun σ H2 fr q=>h σ H2 fr (p.trans q)
 | ct ρ=>exact fun σ H2 fr q=>h σ H2 fr (p.trans q)
 | rt r=>exact h
 | rm r c ds ks=>exact h
 | exc c ρ=>exact fun σ H2 fr q=>h σ H2 fr (p.trans q)
 | bad=>exact h
def tS (T:Tb) (b:Bool) (X:Cx) (G:Hp) (E:Value->Shared->Prop) (f:Ro->Fl):TS:=λD σ H=>∃ρ,FR T X.K G H σ ρ/\AccS T b X G E H (f ρ) D
structure DS (T:Tb) (b:Bool) (X:Cx) (st:Stmt) (f:Ro->Fl):Prop where
 mk ::
 run:∀(G:Hp) (E:Value->Shared->Prop),PassesOwn (model X.prog X.w) X.A X.env E->PS (X.wish E) st (tS T b X G E f)
structure DSs (T:Tb) (b:Bool) (X:Cx) (st:List Stmt) (f:Ro->Fl):Prop where
 mk ::
 run:∀(G:Hp) (E:Value->Shared->Prop),PassesOwn (model X.prog X.w) X.A X.env E->PSs (X.wish E) st (tS T b X G E f)
def Fl.bind (o:Fl) (k:Ro->Fl):Fl:=match o with
 | .nx ρ=>k ρ
 | o=>o
@[simp] theorem Fl.nx_bind (ρ:Ro) (k:Ro->Fl):(Fl.nx ρ).bind k=k ρ:=(rfl)
@[simp] theorem Fl.rt_bind (r:Rv) (k:Ro->Fl):(Fl.rt r).bind k=.rt r:=(rfl)
@[simp] theorem Fl.rm_bind (r:D) (c:Nat) (ds ks:List D) (k:Ro->Fl):(Fl.rm r c ds ks).bind k=.rm r c ds ks:=(rfl)
@[simp] theorem Fl.exc_bind (c:Nat) (ρ:Ro) (k:Ro->Fl):(Fl.exc c ρ).bind k=.exc c ρ:=(rfl)
@[simp] theorem Fl.bk_bind (ρ:Ro) (k:Ro->Fl):(Fl.bk ρ).bind k=.bk ρ:=(rfl)
@[simp] theorem Fl.ct_bind (ρ:Ro) (k:Ro->Fl):(Fl.ct ρ).bind k=.ct ρ:=(rfl)
@[simp] theorem Fl.bad_bind (k:Ro->Fl):Fl.bad.bind k=.bad:=(rfl)
def Out.fl {α:Type} (o:Out α) (ρ:Ro) (k:α->Fl):Fl:=match o with
 | .ok a=>k a
 | .exc c=>.exc c ρ
 | .bad=>.bad
@[simp] theorem Out.ok_fl {α:Type} (a:α) (ρ:Ro) (k:α->Fl):(Out.ok a).fl ρ k=k a:=(rfl)
@[simp] theorem Out.exc_fl {α:Type} (c:Nat) (ρ:Ro) (k:α->Fl):(Out.exc c:Out α).fl ρ k=.exc c ρ:=(rfl)
@[simp] theorem Out.bad_fl {α:Type} (ρ:Ro) (k:α->Fl):(Out.bad:Out α).fl ρ k=.bad:=(rfl)
section
variable {T:Tb} {b:Bool} {X:Cx} {G H:Hp} {E:Value->Shared->Prop} {σ:L2.St} {α:Type}
theorem AccS.fl {o:Out α} {ρ:Ro} {k:α->Fl} {D:Ends} (fr:FR T X.K G H σ ρ) (h:AccS T b X G E H (o.fl ρ k) D):Acc T X E σ H o (λa=>AccS T b X G E H (k a) D):=by
 cases o with
 | ok a=>exact h
 | exc c=>exact h σ H fr (Pers.refl H)
 | bad=>exact h
end
def kZ:Expr->Bool
 | .Starred ..=>false
 | _=>true
theorem cM {e:Expr} {es:List Expr} {env:Env} (h:kZ e=true):starEach (e::es) env=(false,eval e env)::starEach es env:=by
 cases e<;>first | rfl | cases h
theorem dL {pos:Pos} {env:Env}:∀{es:List Expr},es.all kZ=true->(backTo pos (starEach es env)).any (·.1)=false
 | [],_=>rfl
 | e::es,h=>by
  rw [List.all_cons,Bool.and_eq_true] at h;rw [cM h.1];show (false || (backTo pos (starEach es env)).any (·.1))=false;rw [dL h.2];rfl
theorem HA {pos:Pos} {env:Env}:∀{es:List Expr},es.all kZ=true->(backTo pos (starEach es env)).all (λx=>!x.1)=true
 | [],_=>rfl
 | e::es,h=>by
  rw [List.all_cons,Bool.and_eq_true] at h;rw [cM h.1];show (true && (backTo pos (starEach es env)).all (λx=>!x.1))=true;rw [HA h.2];rfl
theorem xV {pos:Pos} {env:Env} {e:Expr} {es:List Expr} (h:(e::es).all kZ=true) (hl:decide ((e::es).length+([]:List Keyword).length+(if ([]:List Keyword).isEmpty then 0 else 1) < 30)=true) :
 ((backTo pos (starEach (e::es) env)).all (λx=>!x.1) && (backToKw pos (keywordEach [] env)).all (λx=>x.1.isSome) && decide ((e::es).length+([]:List Keyword).length+(if ([]:List Keyword).isEmpty then 0 else 1) < 30))=true:=by
 rw [HA h,hl];rfl
def HB:Expr->Bool
 | .ListComp ..=>false
 | .SetComp ..=>false
 | .DictComp ..=>false
 | _=>true
theorem jT {e:Expr} {t:Option Expr} {n:Nat} {env:Env} (h:HB e=true):swapsWith e t n env=pure false:=by
 cases e<;>first | rfl | cases h
section
variable {T:Tb} {X:Cx} {pos:Pos}
@[simp] def aA (i:Nat) (ρ:Ro):Out D:=match ρ[i]? with
 | some (.sh d)=>.ok d
 | _=>.bad
theorem aB (i:Nat) {x:Str} (hN:X.N[i]?=some x:=by rfl) (hv:Vis X.env.scope x:=by walk_at "v0") (hd:(x==("__debug__" : Str))=false:=by decide)
 (hcd:(x==("__classdict__" : Str))=false:=by decide):DE T X (.Name x pos) (aA i):=.mk λG E hp=>by
 refine PE.imp (gW (X:=X.wish E) hN hv hd hcd) fun σ H Q ⟨ρ,fr,h⟩=>?_
 unfold aA at h
 split at h
 ·rename_i d e
  obtain ⟨v,e1,r⟩:=fr.sh_at e;exact ⟨v,e1,h v H (Same.refl H) r⟩
 ·exact h.elim
@[simp] def fY (i:Nat) (ρ:Ro):Out (List D):=match ρ[i]? with
 | some (.ow ds)=>.ok ds
 | some (.bo ds)=>.ok ds
 | some (.mo ds)=>.ok ds
 | some (.sh (.lst ds))=>.ok ds
 | _=>.bad
theorem lA (i:Nat) {x:Str} (hN:X.N[i]?=some x:=by rfl) (hv:Vis X.env.scope x:=by walk_at "v0") (hd:(x==("__debug__" : Str))=false:=by decide)
 (hcd:(x==("__classdict__" : Str))=false:=by decide):DL T X (.Name x pos) (fY i):=.mk λG E hp=>by
 refine PE.imp (gW (X:=X.wish E) hN hv hd hcd) fun σ H Q ⟨ρ,fr,h⟩=>?_
 unfold fY at h
 split at h
 ·rename_i ds e
  obtain ⟨a,vs,e1,e2,e3,r⟩:=fr.sl i _ e;exact ⟨_,e1,h a vs H (Same.refl H) (SqL.of e2) r⟩
 ·rename_i ds e
  obtain ⟨a,vs,e1,e2,r⟩:=fr.sl i _ e;exact ⟨_,e1,h a vs H (Same.refl H) (SqL.of (fr.same _ _ e2)) r⟩
 ·rename_i ds e
  obtain ⟨a,vs,_,e1,e2,e3,r⟩:=fr.sl i _ e;exact ⟨_,e1,h a vs H (Same.refl H) (SqL.of e2) r⟩
 ·rename_i ds e
  obtain ⟨v,e1,a,vs,rfl,e2,r⟩:=fr.sl i _ e;exact ⟨_,e1,h a vs H (Same.refl H) e2.sq r⟩
 ·exact h.elim
@[simp] def eC (d:D) (ρ:Ro):Out D:=.ok d
theorem PE.const {e:Expr} {v:V} {d:D} {E:Value->Shared->Prop} {G:Hp} (h:PE (X.wish E) e (tC v)) (r:∀H,Rep T X.K H d v):PE (X.wish E) e (tE T X G E (eC d)):=
 PE.imp h fun σ H Q ⟨ρ,fr,h⟩=>h v H (Same.refl H) (r H)
theorem aC {i j}:DE T X (.Constant (.int i) j pos) (eC (.int i)):=.mk λG E hp=>PE.const UN λ_=>rfl
theorem fF {b j}:DE T X (.Constant (.bool b) j pos) (eC (.bl b)):=.mk λG E hp=>PE.const UO λ_=>rfl
theorem xW {j}:DE T X (.Constant .none j pos) (eC .non):=.mk λG E hp=>PE.const UP λ_=>rfl
theorem lB {x j}:DE T X (.Constant (.str x) j pos) (eC (.str x)):=.mk λG E hp=>PE.const UQ λ_=>rfl
theorem xX {x:Str} {d:D} {v:V} {u:Value} (hg:Gl X x) (hm:X.mg x=some u) (r:RelV v u) (rd:∀H,Rep T X.K H d v) (hd:(x==("__debug__" : Str))=false:=by decide):DE T X (.Name x pos) (eC d):=
 .mk λG E hp=>PE.const (FP (X:=X.wish E) hg hm r hd) rd
end
def OpD (T:Tb) (X:Cx) (f:Value->Value->Sem Value) (g:D->D->Out D):Prop:=∀E:Value->Shared->Prop,∃r:R2,OpR (X.wish E) f r /\
 ∀(dx dy:D) (x y:V) (σ:L2.St) (H:Hp) (Q:VK),Rep T X.K H dx x->Rep T X.K H dy y->Acc T X E σ H (g dx dy) (kE T X.K H Q)->r x y H Q
@[simp] def e2 (g:D->D->Out D) (fa fb:Ev) (ρ:Ro):Out D:=(fa ρ).bind λx=>(fb ρ).bind λy=>g x y
section
variable {T:Tb} {X:Cx} {pos:Pos} {a b:Expr} {fa fb:Ev}
theorem sE {G H:Hp} {E:Value->Shared->Prop} {σ:L2.St} {Q:VK} {g:D->D->Out D} {r:R2}
 (hg:∀(dx dy:D) (x y:V) (σ:L2.St) (H:Hp) (Q:VK),Rep T X.K H dx x->Rep T X.K H dy y->Acc T X E σ H (g dx dy) (kE T X.K H Q)->r x y H Q) {ρ:Ro} (fr:FR T X.K G H σ ρ) (h:Acc T X E σ H (e2 g fa fb ρ) (kE T X.K H Q)) :
 tOp r (tE T X G E fa) (tE T X G E fb) σ H Q:=by
 refine ⟨ρ,fr,Acc.mono (Acc.bind h) λdx _ hx v H1 s1 r1=>⟨ρ,fr.mono s1,Acc.mono (Acc.bind (Acc.heap s1 hx)) λdy _ hy u H2 s2 r2=>?_⟩⟩;refine hg dx dy v u σ H2 Q (Rep.mono s2 _ _ r1) r2 (Acc.mono (Acc.heap s2 hy) λd _ hd w H3 s3 r3=>hd w H3 ((s1.trans s2).trans s3) r3)
theorem aF {op:Operator} {g:D->D->Out D} (ho:OpD T X (binaryOp op) g) (ha:DE T X a fa) (hb:DE T X b fb):DE T X (.BinOp a op b pos) (e2 g fa fb):=.mk λG E hp=>by
 obtain ⟨r,hr,hg⟩:=ho E;exact PE.imp (FV hr (ha.run G E hp) (hb.run G E hp)) fun σ H Q ⟨ρ,fr,h⟩=>sE hg fr h
theorem lC {op:CmpOp} {g:D->D->Out D} (ho:OpD T X (compareOp op) g) (ha:DE T X a fa) (hb:DE T X b fb) (hm:behindInMarks op b=false):DE T X (.Compare a [op] [b] pos) (e2 g fa fb):=.mk λG E hp=>by
 obtain ⟨r,hr,hg⟩:=ho E;exact PE.imp (XD hr (ha.run G E hp) (hb.run G E hp) hm) fun σ H Q ⟨ρ,fr,h⟩=>sE hg fr h
@[simp] def D.toB:D->Out Bool
 | .bl b=>.ok b
 | _=>.bad
@[simp] def tB2 (g:D->D->Out D) (fa fb:Ev) (ρ:Ro):Out Bool:=(e2 g fa fb ρ).bind D.toB
theorem dF {op:CmpOp} {g:D->D->Out D} (ho:OpD T X (compareOp op) g) (ha:DE T X a fa) (hb:DE T X b fb) (hm:behindInMarks op b=false):DT T X (.Compare a [op] [b] pos) (tB2 g fa fb):=.mk λG E hp=>by
 obtain ⟨r,hr,hg⟩:=ho E;refine PT.imp (XE hr (ha.run G E hp) (hb.run G E hp) hm) fun σ H Q ⟨ρ,fr,h⟩=>sE hg fr (Acc.mono (Acc.bind h) λd _ hd v H1 s1 r1=>?_)
 cases d with
 | bl k=>exact ⟨k,r1,hd H1 s1⟩
 | _=>exact hd.elim
@[simp] def i2 (f:Int->Int->D):D->D->Out D
 | .int i,.int j=>.ok (f i j)
 | _,_=>.bad
theorem oK {f:Value->Value->Sem Value} {g:Int->Int->V} {g':Int->Int->D} (h:∀E,OpR (X.wish E) f (rI0 g)) (hg:∀i j H,Rep T X.K H (g' i j) (g i j)):OpD T X f (i2 g'):=λE=>
 ⟨_,h E,λdx dy x y σ H Q rx ry q=>by
  cases dx with
  | int i=>
   cases dy with
   | int j=>exact ⟨i,j,rx,ry,q _ H (Same.refl H) (hg i j H)⟩
   | _=>exact q.elim
  | _=>first | exact q.elim | (cases dy<;>exact q.elim)⟩
@[simp] def i2c (c:Int->Int->Bool) (f:Int->Int->D):D->D->Out D
 | .int i,.int j=>if c i j=true then .ok (f i j) else .bad
 | _,_=>.bad
theorem sF {f:Value->Value->Sem Value} {C:Int->Int->Prop} {g:Int->Int->V} {c:Int->Int->Bool} {g':Int->Int->D} (h:∀E,OpR (X.wish E) f (rI C g)) (hc:∀i j,c i j=true->C i j) (hg:∀i j H,Rep T X.K H (g' i j) (g i j)):OpD T X f (i2c c g'):=λE=>
 ⟨_,h E,λdx dy x y σ H Q rx ry q=>by
  cases dx with
  | int i=>
   cases dy with
   | int j=>
    have q':Acc T X E σ H (if c i j=true then .ok (g' i j) else .bad) (kE T X.K H Q):=q;by_cases e:c i j=true
    ·rw [if_pos e] at q';exact ⟨i,j,rx,ry,hc i j e,q' _ H (Same.refl H) (hg i j H)⟩
    ·rw [if_neg e] at q';exact q'.elim
   | _=>exact q.elim
  | _=>first | exact q.elim | (cases dy<;>exact q.elim)⟩
def eD (i j:Int):Bool:=(decide (-(2 ^ 64) < i) && decide (i < 2 ^ 64)) || (decide (-(2 ^ 64) < j) && decide (j < 2 ^ 64))
@[simp] def mG (_ j:Int):Bool:=decide (0 < j) && decide (j < 1073741824)
@[simp] def mH (_ j:Int):Bool:=decide (0 < j)
@[simp] def sG (i j:Int):Bool:=decide (0<=j) && decide (j<=1000000) && decide (i.natAbs < 2 ^ 64)
theorem fZ:OpD T X (binaryOp .Sub) (i2 λi j=>.int (i-j)):=oK (λE=>WO) λ_ _ _=>rfl
theorem gA:OpD T X (binaryOp .Mult) (i2c eD λi j=>.int (i*j)):=sF (λE=>WP) (λi j h=>by
 simp only [eD,Bool.or_eq_true,Bool.and_eq_true,decide_eq_true_eq] at h;exact h) λ_ _ _=>rfl
theorem cB:OpD T X (binaryOp .FloorDiv) (i2c mG λi j=>.int (i / j)):=sF (λE=>WQ) (λi j h=>by
 simp only [mG,Bool.and_eq_true,decide_eq_true_eq] at h;exact h) λ_ _ _=>rfl
theorem bE:OpD T X (binaryOp .Mod) (i2c mH λi j=>.int (i % j)):=sF (λE=>WR) (λi j h=>by
 simp only [mH,decide_eq_true_eq] at h;exact h) λ_ _ _=>rfl
theorem HC:OpD T X (binaryOp .Pow) (i2c sG λi j=>.int (i ^ j.toNat)):=sF (λE=>WS) (λi j h=>by
 simp only [sG,Bool.and_eq_true,decide_eq_true_eq] at h;exact ⟨h.1.1,h.1.2,h.2⟩) λ_ _ _=>rfl
theorem HD:OpD T X (compareOp .Lt) (i2 λi j=>.bl (decide (i < j))):=oK (λE=>WW) λ_ _ _=>rfl
theorem hV:OpD T X (compareOp .LtE) (i2 λi j=>.bl (decide (i<=j))):=oK (λE=>WX) λ_ _ _=>rfl
theorem oM:OpD T X (compareOp .Gt) (i2 λi j=>.bl (decide (j < i))):=oK (λE=>WY) λ_ _ _=>rfl
theorem xY:OpD T X (compareOp .GtE) (i2 λi j=>.bl (decide (j<=i))):=oK (λE=>WZ) λ_ _ _=>rfl
end
theorem xZ {P:Program} {w:World} {H:Hp} {h:Heap} {a:Addr} {o:HO} (x:ObjOk P w H h a o):∃u,h.get? a=some u:=by
 cases o with
 | lst xs=>obtain ⟨_,_,_,_,e⟩:=x;exact ⟨_,e⟩
 | tup xs=>obtain ⟨_,_,_,_,e,_⟩:=x;exact ⟨_,e⟩
 | dK kvs=>obtain ⟨_,_,_,_,o,_,_,e,_⟩:=x;exact ⟨_,e⟩
 | dT kvs=>obtain ⟨_,_,_,_,o,_,_,e,_⟩:=x;exact ⟨_,e⟩
 | set S n=>obtain ⟨o,_,_,_,e,_⟩:=x;exact ⟨_,e⟩
 | ins C dx fs=>obtain ⟨_,_,_,e,_⟩:=x;exact ⟨_,e⟩
 | own y=>obtain ⟨_,e⟩:=x;exact ⟨_,e⟩
 | xd fs=>obtain ⟨_,⟨_,_,_,e,_⟩,_⟩:=x;exact ⟨_,e⟩
 | rng lo hi=>obtain ⟨_,_,_,e⟩:=x;exact ⟨_,e⟩
 | frz ob u=>obtain ⟨e,_⟩:=x;exact ⟨_,e⟩
 | tbl ps=>exact ⟨_,(show h.get? a=some _ from x)⟩
 | met f y=>exact ⟨_,(show h.get? a=some _ from x)⟩
 | ext φ=>obtain ⟨_,⟨_,e⟩,_⟩:=x;exact ⟨_,e⟩
def CXE (T:Tb) (P:Program) (w:World):CXT:=λouter H s E e s'=>
 ∃(ea:Addr) (c:Nat) (H':Hp),e=.ref ea/\s'.os=s.os/\AllBare s'.gens/\Un (frs outer) [] H H' s.heap s'.heap/\HOk P w H' s'.heap/\GZ T c ea H' s'.heap (λb=>s.heap.get? b=none)/\E (.ref (T.ca c)) none H'
section
variable {T:Tb} {X:Cx} {vA:List (Addr×Obj)} {σ:L2.St} {H:Hp} {s:Shared} {c:Nat} {u:Value}
structure Noted (X:Cx) (L:List Addr) (h h':Heap):Prop where
 kb:∀b o,h.get? b=some o->b∉L->h'.get? b=some o
 up:∀b o,h.get? b=some o->(∀vs,o.data≠.fields vs)->∃sl,h'.get? b=some { o with slots:=sl }
theorem HE {L:List Addr} {h':Heap} (I:Inv X vA σ H s) (N:Noted X L s.heap h') (hL:∀b∈L,H b=none):HOk X.prog X.w H h':=λa o e=>
 (I.hok a o e).stay (λb v hb q=>N.kb b v q λhm=>by
  rcases hb with z | z
  ·rw [z] at hm;rw [hL _ hm] at e;cases e
  ·rw [hL b hm] at z;cases z) (λ_ q=>q) λ_ _ q=>q
theorem HF {E:XK} {L:List Addr} {h':Heap} {ea:Addr} {a0:Value} (I:Inv X vA σ H s) (hst:X.stack=X.env::X.outer) (hex:X.ex=[]) (hn:H ea=none) (hfr:X.s₀.heap.get? ea=none)
 (hea:ea∈L) (hL:∀b∈L,H b=none/\(X.s₀.heap.get? b=none∨b∈X.fs)) (hS:∀b∈L,b=ea∨(∃o vs,s.heap.get? b=some o/\o.data=.fields vs/\X.s₀.heap.get? b=none)∨b∈frs X.stack)
 (lw:Heap.LeftW (PySem.W.hideAll s.heap L) (X.env::X.outer) ea (.ref (T.ca c)) a0 s.heap h') (nc:Nc ea h') (hE:E (.ref (T.ca c)) none H) :
 CXE T X.prog X.w X.outer X.H₀ X.s₀ E (.ref ea) { s with heap:=h' }:=by
 obtain ⟨k1,k2,k3,k4⟩:=lw;have kb:∀b o,s.heap.get? b=some o->b∉L->h'.get? b=some o:=λb o e n=>k1 b o (PySem.W.hideAll_get _ e n)
 have nofl:∀b∈X.fs,∀o,s.heap.get? b=some o->∀vs,o.data≠.fields vs:=λb hb o e=>by
  obtain ⟨_,o',e',d⟩:=I.funs.mem hb;rw [e] at e';cases e';exact d
 have hok:=HE I ⟨kb,k4⟩ λb hb=>(hL b hb).1
 refine ⟨ea,c,H,rfl,I.os,I.bare,⟨λb o e n hb _=>?_,λb o e n hb _=>?_,λb o e n _=>?_,λb o e _=>?_,I.base.tups,I.base.frzs,I.base.tbls⟩,hok,⟨hn,hfr,nc,?_⟩,hE⟩
 ·refine kb b o (I.base.keep b o e n hb (by rw [hex];simp)) λhm=>?_
  rcases (hL b hm).2 with z | z
  ·rw [e] at z;cases z
  ·exact hb z
 ·obtain ⟨sl,e1⟩:=I.base.slot b o e n hb (by rw [hex];simp);obtain ⟨sl',e2⟩:=k4 b _ e1 (nofl b hb _ e1);exact ⟨sl',e2⟩
 ·exact I.base.free b o e n (by rw [hex];simp)
 ·obtain ⟨o',e1⟩:=I.base.there b o e (by rw [hex];simp);by_cases hm:b∈L
  ·rcases (hL b hm).2 with z | z
   ·rw [e] at z;cases z
   ·obtain ⟨sl',e2⟩:=k4 b _ e1 (nofl b z _ e1);exact ⟨_,e2⟩
  ·exact ⟨o',kb b o' e1 hm⟩
 ·obtain ⟨oe,vs,tb,ot,ts,he,⟨hc,h0⟩,hd,h1,hnT,hTe,hT,hdT,h3⟩:=k3;have hid:∀b,(PySem.W.hideAll s.heap L).get? b=none->(∃o,s.heap.get? b=some o)->b∈L:=λb hb ⟨o,e⟩=>Classical.byContradiction λz=>by
   rw [PySem.W.hideAll_get _ e z] at hb;cases hb
  have notfr:tb∉frs X.stack:=λhm=>by
   rw [hst] at hm;obtain ⟨_,o,e,d⟩:=k2.mem hm;rw [hT] at e;cases e;exact d ts hdT
  have key:∀o,s.heap.get? tb=some o->X.s₀.heap.get? tb=none:=λo e=>by
   rcases hS tb (hid tb hnT ⟨o,e⟩) with z | ⟨_,_,_,_,z⟩ | z
   ·exact absurd z hTe
   ·exact z
   ·exact absurd z notfr
  refine ⟨oe,vs,a0,he,hc,hd,h0,.inr ⟨tb,ot,ts,h1,hTe,hT,hdT,h3,?_,?_⟩⟩
  ·cases q:H tb with
   | none=>rfl
   | some z=>
    obtain ⟨o,e⟩:=xZ (I.hok tb z q);have:=(hL tb (hid tb hnT ⟨o,e⟩)).1;rw [q] at this;cases this
  ·show X.s₀.heap.get? tb=none;cases q:X.s₀.heap.get? tb with
   | none=>rfl
   | some o=>
    obtain ⟨o',e⟩:=I.base.there tb o q (by rw [hex];simp);rw [key o' e] at q;cases q
theorem HG {E:XK} {E':Value->Shared->Prop} (I:Inv X vA σ H s) (hst:X.stack=X.env::X.outer) (hf:X.env.frame=some X.env.locals) (hex:X.ex=[]) (fl:Flying T X vA c u H s) (hE:E (.ref (T.ca c)) none H) :
 wpAny (model X.prog X.w) X.A (leaving X.env u) (λ_ s''=>CXE T X.prog X.w X.outer X.H₀ X.s₀ E u s'') E' s:=by
 obtain ⟨ea,rfl,hn,fe,nc,oe,vs,a0,he,hc,hd,h0,h1⟩:=fl;have hfr:X.A.frames=some (X.env::X.outer):=by rw [I.ok.frames,hst]
 have FF:s.heap.FunFrames X.base (X.env::X.outer):=by rw [<-hst];exact I.stack
 have fr0:∀b,Free X vA b->X.s₀.heap.get? b=none:=λb ⟨z,_⟩=>by
  rcases z with z | z
  ·rw [hex] at z;simp at z
  ·exact z
 have stk:∀b∈frs X.stack,H b=none/\(X.s₀.heap.get? b=none∨b∈X.fs):=λb hb=>⟨I.stkFree b hb,by
  rcases List.mem_cons.mp (I.stkSub b hb) with z | z
  ·rw [z];exact .inl (Heap.get?_none_of_le I.ok.above)
  ·exact .inr z⟩
 have infr:∀(L:List Addr),(∀b∈frs X.stack,b∈L)->s.heap.FunFrames (PySem.W.hideAll s.heap L) (X.env::X.outer):=λL hL=>PySem.W.funFrames_hide FF λenv he b hb=>hL b (by
  rw [hst];exact List.mem_filterMap.mpr ⟨env,he,hb⟩)
 have hidn:∀(L:List Addr) (b:Addr),b∈L->(PySem.W.hideAll s.heap L).get? b=none:=λL b hb=>PySem.W.hideAll_none L hb
 refine wpAny_mono (Kp.any (Q:=λ_ s''=>Nc ea s''.heap->CXE T X.prog X.w X.outer X.H₀ X.s₀ E (.ref ea) s'') (E:=E') Nc.push ZY nc ?_) (λ_ _ z=>z.1 z.2) λ_ _ z=>z.1
 rcases h1 with h1 | ⟨tb,ot,ts,h1,hne,ht,hdt,h3,hnt,ft⟩
 ·refine wpAny_leaving_firstW (base:=PySem.W.hideAll s.heap (ea::frs X.stack)) hfr (infr _ λb hb=>List.mem_cons_of_mem _ hb) hf he (λb o q=>PySem.W.of_hideAll _ q) (hidn _ _ List.mem_cons_self) hd h1 h0 λh' lw nc'=>?_
  rw [hc] at lw;refine HF (L:=ea::frs X.stack) I hst hex hn (fr0 ea fe) List.mem_cons_self (λb hb=>?_) (λb hb=>?_) lw nc' hE
  ·rcases List.mem_cons.mp hb with z | z
   ·rw [z];exact ⟨hn,.inl (fr0 ea fe)⟩
   ·exact stk b z
  ·rcases List.mem_cons.mp hb with z | z
   ·exact .inl z
   ·exact .inr (.inr z)
 ·refine wpAny_leaving_nextW (base:=PySem.W.hideAll s.heap (ea::tb::frs X.stack)) (cls:=.ref (T.ca c)) (a0:=a0) hfr (infr _ λb hb=>List.mem_cons_of_mem _ (List.mem_cons_of_mem _ hb)) hf ⟨oe,vs,tb,ot,ts,he,⟨hc,h0⟩,hd,h1,hidn _ _ (by simp),hne,ht,hdt,h3⟩ (λb o q=>PySem.W.of_hideAll _ q) (hidn _ _ List.mem_cons_self) λh' lw nc'=>?_
  refine HF (L:=ea::tb::frs X.stack) I hst hex hn (fr0 ea fe) List.mem_cons_self (λb hb=>?_) (λb hb=>?_) lw nc' hE
  ·rcases List.mem_cons.mp hb with z | z
   ·rw [z];exact ⟨hn,.inl (fr0 ea fe)⟩
   ·rcases List.mem_cons.mp z with z | z
    ·rw [z];exact ⟨hnt,.inl (fr0 tb ft)⟩
    ·exact stk b z
  ·rcases List.mem_cons.mp hb with z | z
   ·exact .inl z
   ·rcases List.mem_cons.mp z with z | z
    ·rw [z];exact .inr (.inl ⟨ot,ts,ht,hdt,fr0 tb ft⟩)
    ·exact .inr (.inr z)
end
def sH (T:Tb) (K:PySem.W.Frag) (H:Hp) (v:V):Sl->Prop
 | .sh d=>Rep T K H d v
 | .bo ds=>∃a vs,v=.ref a/\H a=some (.lst vs)/\RepL T K H ds vs
 | .bi c ds=>∃a,v=.ref a/\InsAt T K H c a ds
 | _=>False
def ArgsOk (T:Tb) (K:PySem.W.Frag) (H:Hp):List V->List Sl->Prop
 | vs,[]=>vs=[]
 | vs,s::ss=>∃v r,vs=v::r/\sH T K H v s/\ArgsOk T K H r ss
section
variable {T:Tb} {K:PySem.W.Frag} {H H':Hp}
theorem ArgsOk.length:∀(ss:List Sl) (vs:List V),ArgsOk T K H vs ss->vs.length=ss.length
 | [],_,h=>by cases h;rfl
 | s::ss,_,h=>by
  obtain ⟨v,r,rfl,_,h2⟩:=h;simp [ArgsOk.length ss r h2]
theorem ArgsOk.get:∀(ss:List Sl) (vs:List V) (i:Nat) (s:Sl),ArgsOk T K H vs ss->ss[i]?=some s->∃v,vs[i]?=some v/\sH T K H v s
 | [],_,_,_,_,e=>by simp at e
 | s::ss,_,0,x,h,e=>by
  obtain ⟨v,r,rfl,h1,_⟩:=h;simp at e;subst e;exact ⟨v,rfl,h1⟩
 | s::ss,_,i+1,x,h,e=>by
  obtain ⟨v,r,rfl,_,h2⟩:=h;obtain ⟨u,e1,e2⟩:=ArgsOk.get ss r i x h2 (by simpa using e);exact ⟨u,by simpa using e1,e2⟩
theorem ArgsOk.append:∀(ss:List Sl) (vs:List V) (ts:List Sl) (us:List V),ArgsOk T K H vs ss->ArgsOk T K H us ts->ArgsOk T K H (vs++us) (ss++ts)
 | [],_,_,_,h,h'=>by cases h;exact h'
 | s::ss,_,ts,us,h,h'=>by
  obtain ⟨v,r,rfl,h1,h2⟩:=h;exact ⟨v,r++us,rfl,h1,ArgsOk.append ss r ts us h2 h'⟩
end
abbrev Fn:=List Sl->Out Rv
def d4 (T:Tb) (K:PySem.W.Frag) (H:Hp) (Q:VK) (E:XK):Out Rv->Prop
 | .ok r=>∀v H',Same H H'->fN T K H H' v r->Q v H'
 | .exc c=>∀H',Same H H'->E (.ref (T.ca c)) none H'
 | .bad=>False
def spD (T:Tb) (K:PySem.W.Frag) (n:Nat) (F:Fn):Sp:=λvs H Q E=>∃ss:List Sl,ArgsOk T K H vs ss/\vs.length=n/\d4 T K H Q E (F ss)
@[simp] def fnF (n:Nat) (f:Ro->Fl) (ss:List Sl):Out Rv:=match f (ss++List.replicate (n-ss.length) .no) with
 | .nx _=>.ok (.sh .non)
 | .rt r=>.ok r
 | .exc c _=>.exc c
 | _=>.bad
theorem d5 {T:Tb} {K:PySem.W.Frag} {H:Hp} {N:List Str} {vs:List V} {ss:List Sl} (hT:T.me=none) (h:ArgsOk T K H vs ss):FR T K H H (start N vs) (ss++List.replicate (N.length-ss.length) .no):=by
 have hl:=ArgsOk.length ss vs h;have noow:∀(i:Nat) (s:Sl) (x:Option (Option V)) (b:Addr),(ss++List.replicate (N.length-ss.length) Sl.no)[i]?=some s->¬eA H x b s:=λi s x b z o=>by
  by_cases hi:i < ss.length
  ·rw [List.getElem?_append_left hi] at z;obtain ⟨v,_,r⟩:=ArgsOk.get ss vs i _ h z;cases s with
   | sh d=>exact o
   | bo ds=>exact o
   | bi c ds=>exact o
   | _=>exact r
  ·rw [List.getElem?_append_right (by omega),List.getElem?_replicate] at z
   split at z
   ·cases z;exact o
   ·cases z
 have nome:∀(i:Nat) (c:Nat) (es:List D),(ss++List.replicate (N.length-ss.length) Sl.no)[i]?≠some (.me c es):=λi c es z=>by
  by_cases hi:i < ss.length
  ·rw [List.getElem?_append_left hi] at z;obtain ⟨v,_,r⟩:=ArgsOk.get ss vs i _ h z;exact r
  ·rw [List.getElem?_append_right (by omega),List.getElem?_replicate] at z
   split at z<;>cases z
 refine ⟨Same.refl H,by unfold L2.start;simp [hl],λi s e=>?_,λi j s t b _ z _ o _=>noow i s _ b z o,(λx e=>by rw [hT] at e;cases e),(λi c es z=>absurd z (nome i c es))⟩;by_cases hi:i < ss.length
 ·rw [List.getElem?_append_left hi] at e;obtain ⟨v,e1,r⟩:=ArgsOk.get ss vs i s h e;have e2:(start N vs)[i]?=some (some v):=by
   unfold L2.start;rw [List.getElem?_append_left (by simp [hl,hi]),List.getElem?_map,e1];rfl
  rw [e2];cases s with
  | sh d=>exact ⟨v,rfl,r⟩
  | bo ds=>
   obtain ⟨a,us,rfl,r2,r3⟩:=r;exact ⟨a,us,rfl,r2,r3⟩
  | bi c ds=>
   obtain ⟨a,rfl,dx,fs,r2,r3,r4,r5⟩:=r;exact ⟨a,dx,fs,rfl,r2,r3,r4,r5⟩
  | _=>exact r.elim
 ·rw [List.getElem?_append_right (by omega),List.getElem?_replicate] at e
  split at e
  ·cases e;trivial
  ·cases e
section
variable {P:Program} {w:World} {K:PySem.W.Frag} {mg:Str->Option Value} {base:Heap} {T:Tb}
abbrev CxD (T:Tb) (P:Program) (w:World) (K:PySem.W.Frag) (mg:Str->Option Value) (base:Heap) (N:List Str) (qual:Str) (scope:Scope) (f:Addr) (cd:Value) (A:Around) (outer:List Env) (s:Shared) (H:Hp) (E:XK):Cx:=
 mC (CXE T P w) P w K mg base N qual scope f cd A outer s H E
theorem cF {x qual:Str} {st:Stmt} {fa:Addr} {fd:FuncData} {N ps:List Str} {k:Nat} {f:Ro->Fl} (hT:T.me=none) (F:L2.Fun K x qual st fa fd) (S:bO N ps (aZ st))
 (hb:∀(vK:Value) (A:Around) (outer:List Env) (s:Shared) (H:Hp) (E:XK),Room k (A.deeper (envOfC qual (aZ st) s.heap.objs.size fa vK))->DSs T false (CxD T P w K mg base N qual (aZ st) fa vK A outer s H E) (gU st) f) :
 bB P w K mg base (CXE T P w) (k+1) fa fd ps (spD T K ps.length (fnF N.length f)):=by
 obtain ⟨oc,od,kV,doc,pm,an,vK,ct,osl,rfl,lk,hcd⟩:=F.ex;refine GN lk hcd S (λvs H Q E ⟨ss,_,e,_⟩=>e) λA outer s H vs Q E hr ⟨ss,ha,hl,ho⟩=>?_
 have fr:=d5 (N:=N) hT ha;have hb':=hb vK A outer s H E hr;refine ⟨_,hb'.run H (CxD T P w K mg base N qual (aZ st) fa vK A outer s H E).xe PassesOwn.leaving,_,fr,?_⟩;unfold fnF at ho;cases e:f (ss++List.replicate (N.length-ss.length) .no) with
 | nx ρ=>
  rw [e] at ho;exact fun σ H' fr' _=>ho .non H' fr'.same rfl
 | rt r=>
  rw [e] at ho;exact λv H' hs r'=>ho v H' hs r'
 | exc c ρ=>
  rw [e] at ho;intro σ' H' fr' _ vA s' u H'' I hs fl;exact HG I rfl rfl rfl fl (ho H'' (fr'.same.trans hs))
 | rm r c ds ks=>rw [e] at ho;exact ho.elim
 | bk ρ=>rw [e] at ho;exact ho.elim
 | ct ρ=>rw [e] at ho;exact ho.elim
 | bad=>rw [e] at ho;exact ho.elim
end
def tG (T:Tb) (X:Cx) (G:Hp) (E:Value->Shared->Prop) (f:Ro->Out (List Sl)):TA:=fun σ H Q=>∃ρ,FR T X.K G H σ ρ/\Acc T X E σ H (f ρ) (λss=>∀vs H',Same H H'->ArgsOk T X.K H' vs ss->Q vs H')
structure DG (T:Tb) (X:Cx) (es:List Expr) (f:Ro->Out (List Sl)):Prop where
 mk ::
 run:∀(G:Hp) (E:Value->Shared->Prop),PassesOwn (model X.prog X.w) X.A X.env E->PA (X.wish E) es (tG T X G E f)
section
variable {T:Tb} {X:Cx} {e:Expr} {es:List Expr} {pos p:Pos} {fe:Ev} {fs:Ro->Out (List Sl)}
@[simp] def gN0 (ρ:Ro):Out (List Sl):=.ok []
@[simp] def gSh (fe:Ev) (fs:Ro->Out (List Sl)) (ρ:Ro):Out (List Sl):=(fe ρ).bind λd=>(fs ρ).bind λss=>.ok (.sh d::ss)
@[simp] def gBo (i:Nat) (fs:Ro->Out (List Sl)) (ρ:Ro):Out (List Sl):=match ρ[i]? with
 | some (.ow ds)=>(fs ρ).bind λss=>.ok (.bo ds::ss)
 | some (.bo ds)=>(fs ρ).bind λss=>.ok (.bo ds::ss)
 | some (.mo ds)=>(fs ρ).bind λss=>.ok (.bo ds::ss)
 | some (.sh d)=>(fs ρ).bind λss=>.ok (.sh d::ss)
 | _=>.bad
theorem aQ:DG T X [] gN0:=.mk λG E hp=>PA.imp eP fun σ H Q ⟨ρ,fr,h⟩=>h [] H (Same.refl H) rfl
theorem aE (ha:DE T X e fe) (hr:DG T X es fs) (hs:starEach (e::es) X.env=(false,eval e X.env)::starEach es X.env:=by exact cM rfl):DG T X (e::es) (gSh fe fs):=.mk λG E hp=>by
 refine PA.imp (cZ (X:=X.wish E) (ha.run G E hp) (hr.run G E hp) hs) fun σ H Q ⟨ρ,fr,h⟩=>?_
 refine ⟨ρ,fr,Acc.mono (Acc.bind h) λd _ hd v H1 s1 r1=>⟨ρ,fr.mono s1,Acc.mono (Acc.bind (Acc.heap s1 hd)) λss _ hss vs H2 s2 r2=>?_⟩⟩;exact hss (v::vs) H2 (s1.trans s2) ⟨v,vs,rfl,Rep.mono s2 _ _ r1,r2⟩
theorem yA (i:Nat) {x:Str} (hr:DG T X es fs) (hs:starEach (.Name x pos::es) X.env=(false,eval (.Name x pos) X.env)::starEach es X.env:=by exact cM rfl) (hN:X.N[i]?=some x:=by rfl) (hv:Vis X.env.scope x:=by walk_at "v0") (hd:(x==("__debug__" : Str))=false:=by decide)
 (hcd:(x==("__classdict__" : Str))=false:=by decide):DG T X (.Name x pos::es) (gBo i fs):=.mk λG E hp=>by
 refine PA.imp (cZ (X:=X.wish E) (gW (X:=X.wish E) hN hv hd hcd) (hr.run G E hp) hs) fun σ H Q ⟨ρ,fr,h⟩=>?_
 unfold gBo at h
 split at h
 ·rename_i ds e
  obtain ⟨a,vs,e1,e2,e3,r⟩:=fr.sl i _ e;refine ⟨_,e1,ρ,fr,Acc.mono (Acc.bind h) λss _ hss us H2 s2 r2=>?_⟩;exact hss (.ref a::us) H2 s2 ⟨_,us,rfl,⟨a,vs,rfl,s2 _ _ e2,RepL.mono s2 _ _ r⟩,r2⟩
 ·rename_i ds e
  obtain ⟨a,vs,e1,e2,r⟩:=fr.sl i _ e;refine ⟨_,e1,ρ,fr,Acc.mono (Acc.bind h) λss _ hss us H2 s2 r2=>?_⟩;exact hss (.ref a::us) H2 s2 ⟨_,us,rfl,⟨a,vs,rfl,s2 _ _ (fr.same _ _ e2),RepL.mono s2 _ _ r⟩,r2⟩
 ·rename_i ds e
  obtain ⟨a,vs,_,e1,e2,e3,r⟩:=fr.sl i _ e;refine ⟨_,e1,ρ,fr,Acc.mono (Acc.bind h) λss _ hss us H2 s2 r2=>?_⟩;exact hss (.ref a::us) H2 s2 ⟨_,us,rfl,⟨a,vs,rfl,s2 _ _ e2,RepL.mono s2 _ _ r⟩,r2⟩
 ·rename_i d e
  obtain ⟨v,e1,r⟩:=fr.sl i _ e;refine ⟨_,e1,ρ,fr,Acc.mono (Acc.bind h) λss _ hss us H2 s2 r2=>?_⟩;exact hss (v::us) H2 s2 ⟨_,us,rfl,Rep.mono s2 _ _ r,r2⟩
 ·exact h.elim
theorem Inv.flown {vA:List (Addr×Obj)} {σ:L2.St} {H:Hp} {s s':Shared} {E:XK} {u:Value} (I:Inv X vA σ H s) (h:CXE T X.prog X.w X.stack H s E u s'):∃c H',Inv X vA σ H' s'/\Flying T X vA c u H' s'/\E (.ref (T.ca c)) none H':=by
 obtain ⟨ea,c,H',rfl,os,bare,un,hok,⟨h1,h2,nc,oe,vs,a0,he,hc,hd,h0,ht⟩,hE⟩:=h;have free:∀b,s.heap.get? b=none->Free X vA b:=λb hb=>by
  refine ⟨?_,λz=>?_,λx cc e z=>?_,λq hq z=>?_⟩
  ·by_cases hx:b∈X.ex
   ·exact .inl hx
   ·refine .inr ?_;cases q:X.s₀.heap.get? b with
    | none=>rfl
    | some o=>
     obtain ⟨o',e⟩:=I.base.there b o q hx;rw [hb] at e;cases e
  ·obtain ⟨m,⟨o,_,_,ho,_⟩,_⟩:=I.loc;rw [<-z,hb] at ho;cases ho
  ·obtain ⟨v,o,ho,_⟩:=I.cell x cc e;rw [z,hb] at ho;cases ho
  ·obtain ⟨e,_⟩:=I.pin q hq;rw [z,hb] at e;cases e
 refine ⟨c,H',I.call' os un hok bare λb z=>absurd z (by simp),⟨ea,rfl,h1,free ea h2,nc,oe,vs,a0,he,hc,hd,h0,?_⟩,hE⟩;rcases ht with ht | ⟨tb,ot,ts,t1,t2,t3,t4,t5,t6,t7⟩
 ·exact .inl ht
 ·exact .inr ⟨tb,ot,ts,t1,t2,t3,t4,t5,t6,free tb t7⟩
variable {k n:Nat} {f C:Addr} {fd:FuncData} {ps:List Str} {F:Fn} {ds:List Value} {dvs:List V} {dss:List Sl} {x m:Str} {apos:Pos} {o:Expr}
theorem yB {vA:List (Addr×Obj)} {σ:L2.St} {H:Hp} {s:Shared} {E:Value->Shared->Prop} {Q:VK} {us:List Value} {vs:List V} {ss:List Sl} (FO:bB X.prog X.w X.K X.mg X.base (CXE T X.prog X.w) k f fd ps (spD T X.K ps.length F)) (hr:Room k X.A) (hb:Binds X.K fd ps ds) (hd:Vals dvs ds)
 (I:Inv (X.wish E) vA σ H s) (r:Vals vs us) (ha:ArgsOk T X.K H (vs++dvs) ss) (hl:(us++ds).length=ps.length) (h:Acc T X E σ H (F ss) (λr=>∀v H',Same H H'->fN T X.K H H' v r->Q v H')) :
 wpAny (model X.prog X.w) X.A (call (.ref f) us) (EP (X.wish E) vA σ Q) E s:=by
 have r2:Vals (vs++dvs) (us++ds):=r.append hd;have IX:Inv X vA σ H s:=I.unwish
 let EX:XK:=λcls _ H'=>∃c,cls=.ref (T.ca c)/\F ss=.exc c/\Same H H'
 refine wpAny_call (codeAny_mono (FO.run X.A X.stack s H ⟨us,[]⟩ (us++ds) (vs++dvs) Q EX hr IX.env0 (hb s us IX.kIn hl) r2 ⟨ss,ha,r2.length.trans hl,?_⟩) λres s' hq=>?_)
 ·cases e:F ss with
  | ok r=>rw [e] at h;exact h
  | exc c=>exact λH' hs=>⟨c,rfl,e,hs⟩
  | bad=>rw [e] at h;exact h.elim
 ·cases res with
  | error ev=>
   obtain ⟨c,H',I',fl,c',ec,eF,hs⟩:=Inv.flown IX hq;rw [eF] at h;refine h vA s' ev H' I' hs ?_;obtain ⟨ea,rfl,h1,h2,nc,oe,vs',a0,he,hc,rest⟩:=fl;exact ⟨ea,rfl,h1,h2,nc,oe,vs',a0,he,hc.trans ec,rest⟩
  | ok fl=>
   cases fl with
   | ret u=>
    obtain ⟨v,H',I',rv,q⟩:=IX.after hq;exact ⟨v,H',I'.wish E,rv,q⟩
   | next=>exact False.elim hq
   | brk=>exact False.elim hq
   | cont=>exact False.elim hq
@[simp] def oN (F:Fn) (dss:List Sl) (fs:Ro->Out (List Sl)) (ρ:Ro):Out Rv:=(fs ρ).bind λss=>if ss.length+dss.length=n then F (ss++dss) else .bad
theorem d6 (FO:bB X.prog X.w X.K X.mg X.base (CXE T X.prog X.w) k f fd ps (spD T X.K ps.length F)) (hr:Room k X.A) (hg:Gl X x) (hm:X.mg x=some (.ref f)) (hk:PySem.W.keepIn X.K (.ref f)=true) (hb:Binds X.K fd ps ds) (hd:Vals dvs ds)
 (hds:∀H,ArgsOk T X.K H dvs dss) (hn:n=ps.length) (ha:DG T X (e::es) fs) (hdb:(x==("__debug__" : Str))=false:=by decide) (he:starEach (e::es) X.env=(false,eval e X.env)::starEach es X.env:=by exact cM rfl) (hpl:(backTo pos (starEach es X.env)).any (·.1)=false:=by exact dL rfl) :
 DR T X (.Call (.Name x p) (e::es) [] pos) (oN (n:=n) F dss fs):=.mk λG E hp=>by
 rintro vA s σ H Q I ⟨ρ,fr,h⟩;refine wpAny_Call_Name_kw (oE (X:=X.wish E) I hg hm ?_ hdb);refine PySem.W.callWith_K (h₀:=X.base) I.ok.mod.kin hk (thn (ha.run G E hp pos vA s σ H (λvs H1=>∃ss,ArgsOk T X.K H1 vs ss/\ss.length+dss.length=n/\Same H H1/\Acc T X E σ H1 (F (ss++dss)) (λr=>∀v H',Same H1 H'->fN T X.K H1 H' v r->Q v H')) I ⟨ρ,fr,?_⟩) λus s1 ⟨vs,H1,I1,r,ss,ha1,hl1,s1',q⟩=>⟨I1.kIn,?_⟩) he hpl
 ·refine Acc.mono (Acc.bind h) λss _ hss vs H1 s1 r1=>?_
  by_cases hl:ss.length+dss.length=n
  ·rw [if_pos hl] at hss;exact ⟨ss,r1,hl,s1,Acc.mono (Acc.heap s1 hss) λr _ hr' v H' s2 r2=>hr' v H' (s1.trans s2) (mF s1 r2)⟩
  ·rw [if_neg hl] at hss;exact hss.elim
 ·have la:=ArgsOk.length ss vs ha1;have lr:=r.length;have ld:=ArgsOk.length dss dvs (hds H1);have lv:=hd.length;exact yB (X:=X) FO hr hb hd I1 r (ArgsOk.append _ _ _ _ ha1 (hds H1)) (by simp only [List.length_append,List.nil_append];omega) q
end
theorem Inv.freeze {X:Cx} {vA:List (Addr×Obj)} {σ:L2.St} {H:Hp} {s:Shared} {a:Addr} {vs:List V} (I:Inv X vA σ H s) (h:H a=some (.lst vs)):∃o,Inv X vA σ (upd H a (.frz o (.lst vs))) s:=by
 obtain ⟨z,its,n,r,e⟩:=I.hok a _ h;refine ⟨{ cls:=.type "list",data:=.seq its.toArray n },I.un (H':=upd H a (.frz { cls:=.type "list",data:=.seq its.toArray n } (.lst vs))) (h':=s.heap) (t':=s.toks) ⟨λb o q _ _ _=>q,λb o q _ _ _=>⟨o.slots,q⟩,λb o q n' _=>?_,λb o q _=>⟨o,q⟩,λb xs q=>?_,λb o u q=>?_,λb ps q=>⟨#[],?_⟩⟩ λb u q=>?_⟩
 ·rw [aM (λz=>by rw [z,h] at n';cases n')];exact n'
 ·rw [aM (λz=>by rw [z,h] at q;cases q)];exact q
 ·rw [aM (λz=>by rw [z,h] at q;cases q)];exact q
 ·rw [aM (λz=>by rw [z,h] at q;cases q),q];simp
 ·have own:∀b y,H b=some (.own y)->upd H a (.frz { cls:=.type "list",data:=.seq its.toArray n } (.lst vs)) b=some (.own y):=λb y q=>by
   rw [aM (λz=>by rw [z,h] at q;cases q)];exact q
  have tup:∀b xs,H b=some (.tup xs)->upd H a (.frz { cls:=.type "list",data:=.seq its.toArray n } (.lst vs)) b=some (.tup xs):=λb y q=>by
   rw [aM (λz=>by rw [z,h] at q;cases q)];exact q
  by_cases hb:b=a
  ·subst hb;rw [cR] at q;cases q;exact ⟨e,(I.hok _ _ h).stay (λ_ _ _ q=>q) (λc=>own c _) tup⟩
  ·rw [aM hb] at q;exact (I.hok b u q).stay (λ_ _ _ q=>q) (λc=>own c _) tup
theorem PE.freeze {X:Cx} {e:Expr} {t:TE} (h:PE X e t):PE X e (fun σ H Q=>t σ H λv H1=>∃a vs,v=.ref a/\H1 a=some (.lst vs)/\∀o,Q v (upd H1 a (.frz o (.lst vs)))):=λvA s σ H Q I q=>
 thn (h vA s σ H _ I q) λu s1 ⟨v,H1,I1,r,a,vs,e,ha,k⟩=>by
  obtain ⟨o,I2⟩:=Inv.freeze I1 ha;exact ⟨v,_,I2,r,k o⟩
theorem dP {H:Hp} {a:Addr} {o:HO} (h:H a=none):Same H (upd H a o):=λb u e=>by
 rw [aM (λz=>by rw [z,h] at e;cases e)];exact e
section
variable {T:Tb} {X:Cx} {e:Expr}
mutual
theorem Rep.froz {K:PySem.W.Frag} {H:Hp} {a:Addr} {vs:List V} {o:Obj} (h:H a=some (.lst vs)):∀(d:D) (v:V),Rep T K H d v->Rep T K (upd H a (.frz o (.lst vs))) d v
 | .non,_,q=>q
 | .bl _,_,q=>q
 | .int _,_,q=>q
 | .str _,_,q=>q
 | .tup ds,_,q=>by
  obtain ⟨b,ws,r1,r2,r3⟩:=q;refine ⟨b,ws,r1,?_,RepL.froz h ds ws r3⟩;rcases r2 with (r2 | ⟨o',r2⟩) | r2
  ·exact .inl (.inl (by rw [aM (λz=>by rw [z,h] at r2;cases r2)];exact r2))
  ·exact .inl (.inr ⟨o',by rw [aM (λz=>by rw [z,h] at r2;cases r2)];exact r2⟩)
  ·exact .inr r2
 | .lst ds,_,q=>by
  obtain ⟨b,ws,r1,r2,r3⟩:=q;refine ⟨b,ws,r1,?_,RepL.froz h ds ws r3⟩;rcases r2 with ⟨o',r2⟩ | r2
  ·exact .inl ⟨o',by rw [aM (λz=>by rw [z,h] at r2;cases r2)];exact r2⟩
  ·exact .inr r2
 | .ins c ds,_,q=>by
  obtain ⟨b,dx,fs,r1,r2,r3,r4⟩:=q;exact ⟨b,dx,fs,r1,by rw [aM (λz=>by rw [z,h] at r2;cases r2)];exact r2,r3,RepL.froz h ds _ r4⟩
 | .exc c,_,q=>by
  obtain ⟨b,o',r1,r2,r3⟩:=q;exact ⟨b,o',r1,by rw [aM (λz=>by rw [z,h] at r2;cases r2)];exact r2,r3⟩
theorem RepL.froz {K:PySem.W.Frag} {H:Hp} {a:Addr} {vs:List V} {o:Obj} (h:H a=some (.lst vs)):∀(ds:List D) (us:List V),RepL T K H ds us->RepL T K (upd H a (.frz o (.lst vs))) ds us
 | [],_,q=>q
 | d::ds,_,q=>by
  obtain ⟨v,r,r1,r2,r3⟩:=q;exact ⟨v,r,r1,Rep.froz h d v r2,RepL.froz h ds r r3⟩
end
@[simp] def aS (f:Ro->Out (List D)) (ρ:Ro):Out D:=(f ρ).bind λds=>.ok (.lst ds)
theorem DF.de {f:Ro->Out (List D)} (h:DF T X e f):DE T X e (aS f):=.mk λG E hp=>by
 refine PE.imp (PE.freeze (h.run G E hp)) fun σ H Q ⟨ρ,fr,q⟩=>⟨ρ,fr,Acc.mono (Acc.bind q) λds _ hd a vs H' s1 ha ha' r=>⟨a,vs,rfl,ha',λo=>?_⟩⟩
 refine hd _ _ (λb u e=>?_) ⟨a,vs,rfl,.inl ⟨o,cR⟩,RepL.froz ha' _ _ r⟩;rw [aM (λz=>by rw [z,ha] at e;cases e)];exact s1 b u e
theorem DF.dr {f:Ro->Out (List D)} (h:DF T X e f):DR T X e (fun ρ=>(f ρ).bind λds=>.ok (.fr ds)):=.mk λG E hp=>
 PE.imp (h.run G E hp) fun σ H Q ⟨ρ,fr,q⟩=>⟨ρ,fr,Acc.mono (Acc.bind q) λds _ hd a vs H' s1 ha ha' r=>hd _ _ s1 ⟨a,vs,rfl,ha',ha,r⟩⟩
@[simp] def mkO (t:Bool) (ds:List D):D:=if t=true then .tup ds else .lst ds
@[simp] def Rv.d:Rv->D
 | .sh d=>d
 | .fr ds=>.lst ds
 | .tf t pre ds post=>mkO t (pre++.lst ds::post)
theorem OutAt.rep {K:PySem.W.Frag} {H:Hp} {t:Bool} {a b:Addr} {vp vq ws:List V} {pre ds post:List D} {o:Obj} (e2:OutAt H t a (vp++.ref b::vq)) (r1:RepL T K H pre vp) (r2:RepL T K H post vq) (e3:H b=some (.lst ws)) (r3:RepL T K H ds ws) :
 Rep T K (upd H b (.frz o (.lst ws))) (mkO t (pre++.lst ds::post)) (.ref a):=by
 have hl:RepL T K (upd H b (.frz o (.lst ws))) (pre++.lst ds::post) (vp++.ref b::vq):=
  RepL.append _ _ _ _ (RepL.froz e3 _ _ r1) ⟨_,_,rfl,⟨b,ws,rfl,.inl ⟨o,cR⟩,RepL.froz e3 _ _ r3⟩,RepL.froz e3 _ _ r2⟩
 have ha:OutAt (upd H b (.frz o (.lst ws))) t a (vp++.ref b::vq):=e2.keep λu q _ _=>by
  rw [aM (λz=>by subst z;exact e2.nlst e3)];exact q
 cases t with
 | true=>exact ⟨a,_,rfl,.inl (.inl ha),hl⟩
 | false=>
  obtain ⟨o',ha⟩:=ha;exact ⟨a,_,rfl,.inl ⟨o',ha⟩,hl⟩
@[simp] def rD (f:Ro->Out Rv) (ρ:Ro):Out D:=(f ρ).bind λr=>.ok r.d
theorem DR.de {f:Ro->Out Rv} (h:DR T X e f):DE T X e (rD f):=.mk λG E hp=>by
 rintro vA s σ H Q I ⟨ρ,fr,q⟩;refine thn (h.run G E hp vA s σ H (λv H1=>∃r,Same H H1/\fN T X.K H H1 v r/\kE T X.K H Q r.d) I ⟨ρ,fr,Acc.mono (Acc.bind q) λr _ hr v H' s1 r1=>⟨r,s1,r1,hr⟩⟩) λu s1 ⟨v,H1,I1,rv,r,sm,rok,k⟩=>?_
 cases r with
 | sh d=>exact ⟨v,H1,I1,rv,k v H1 sm rok⟩
 | fr ds=>
  obtain ⟨a,vs,rfl,ha',ha,rl⟩:=rok;obtain ⟨o,I2⟩:=Inv.freeze I1 ha';refine ⟨_,_,I2,rv,k _ _ (λb u e=>?_) ⟨a,vs,rfl,.inl ⟨o,cR⟩,RepL.froz ha' _ _ rl⟩⟩;rw [aM (λz=>by rw [z,ha] at e;cases e)];exact sm b u e
 | tf t pre ds post=>
  obtain ⟨a,vp,b,vq,ws,rfl,e2,r1,r2,e3,e4,r3⟩:=rok;obtain ⟨o,I2⟩:=Inv.freeze I1 e3;refine ⟨_,_,I2,rv,k _ _ (λc u e=>?_) (e2.rep r1 r2 e3 r3)⟩;rw [aM (λz=>by rw [z,e4] at e;cases e)];exact sm c u e
theorem DF.dl {f:Ro->Out (List D)} (h:DF T X e f):DL T X e f:=.mk λG E hp=>
 PE.imp (h.run G E hp) fun σ H Q ⟨ρ,fr,q⟩=>⟨ρ,fr,Acc.mono q λds _ hd a vs H' s1 ha ha' r=>hd a vs H' s1 (SqL.of ha') r⟩
@[simp] def D.toL:D->Out (List D)
 | .lst ds=>.ok ds
 | _=>.bad
@[simp] def bC (f:Ev) (ρ:Ro):Out (List D):=(f ρ).bind D.toL
theorem DE.dl {f:Ev} (h:DE T X e f):DL T X e (bC f):=.mk λG E hp=>
 PE.imp (h.run G E hp) fun σ H Q ⟨ρ,fr,q⟩=>⟨ρ,fr,Acc.mono (Acc.bind q) λd _ hd v H' s1 r=>by
  cases d with
  | lst ds=>
   obtain ⟨a,vs,rfl,e2,r2⟩:=r;exact hd a vs H' s1 e2.sq r2
  | _=>exact hd.elim⟩
end
section
variable {T:Tb} {X:Cx} {a b:Expr} {rest:List Expr} {pos:Pos} {fa fb:Ro->Out Bool} {f:Ev}
@[simp] def D.tru:D->Out Bool
 | .non=>.ok false
 | .bl b=>.ok b
 | .int i=>.ok (i != 0)
 | .str x=>if x.length<=1000000 then .ok ((x.length:Int) != 0) else .bad
 | .tup ds=>.ok (!ds.isEmpty)
 | .lst ds=>.ok (!ds.isEmpty)
 | _=>.bad
theorem line6 {n:Nat} (h:n<=1000000):n<=sizeLine:=by rw [sizeLine_eq];omega
theorem HH {ds:List D} {vs:List V} (h:vs.length=ds.length):(!vs.isEmpty)=!ds.isEmpty:=by
 cases ds<;>cases vs<;>simp_all
theorem d7 {H:Hp} {d:D} {v:V} {k:Bool} (r:Rep T X.K H d v) (h:d.tru=.ok k):xN X.K v H k:=by
 cases d with
 | non=>cases r;cases h;exact rfl
 | bl b=>cases r;cases h;exact rfl
 | int i=>cases r;cases h;exact rfl
 | str x=>
  cases r;have h':(if x.length<=1000000 then Out.ok ((x.length:Int) != 0) else .bad)=.ok k:=h;by_cases z:x.length<=1000000
  ·rw [if_pos z] at h';cases h';exact ⟨line6 z,rfl⟩
  ·rw [if_neg z] at h';cases h'
 | tup ds=>
  obtain ⟨a,vs,rfl,e,r⟩:=r;cases h;exact .inr (.inl ⟨vs,e,(HH (RepL.length _ _ r)).symm⟩)
 | lst ds=>
  obtain ⟨a,vs,rfl,e,r⟩:=r;cases h;exact .inl ⟨vs,e.sq,(HH (RepL.length _ _ r)).symm⟩
 | ins c ds=>cases h
 | exc c=>cases h
@[simp] def fB (f:Ev) (ρ:Ro):Out Bool:=(f ρ).bind D.tru
theorem gJ (h:DE T X a f) (he:∀whole,isTrue a X.env whole=(do let v <-whole;standAt a.pos;holding [v] (truthy v)):=by intro _;rfl):DT T X a (fB f):=.mk λG E hp=>by
 refine PT.imp (XI (X:=X.wish E) (h.run G E hp) he) fun σ H Q ⟨ρ,fr,q⟩=>⟨ρ,fr,Acc.mono (Acc.bind q) λd _ hd v H' s1 r=>?_⟩
 cases e:d.tru with
 | ok k=>rw [e] at hd;exact ⟨k,d7 r e,hd H' s1⟩
 | exc c=>
  cases d with
  | str x=>
   have h':(if x.length<=1000000 then Out.ok ((x.length:Int) != 0) else .bad)=.exc c:=e;by_cases z:x.length<=1000000
   ·rw [if_pos z] at h';cases h'
   ·rw [if_neg z] at h';cases h'
  | _=>cases e
 | bad=>rw [e] at hd;exact hd.elim
@[simp] def eK (f:Ro->Out Bool) (ρ:Ro):Out Bool:=(f ρ).bind λb=>.ok (!b)
@[simp] def jU (f g:Ro->Out Bool) (ρ:Ro):Out Bool:=(f ρ).bind λb=>if b=true then .ok true else g ρ
theorem fG (h:DT T X a fa):DT T X (.UnaryOp .Not a pos) (eK fa):=.mk λG E hp=>
 PT.imp (UU (X:=X.wish E) (h.run G E hp)) fun σ H Q ⟨ρ,fr,q⟩=>⟨ρ,fr,Acc.mono (Acc.bind q) λb _ hb H' s1=>hb H' s1⟩
theorem mI (ha:DT T X a fa):DW T X (.BoolOp .Or [a] pos) fa:=.mk λG E hp=>US (ha.run G E hp)
theorem lD (ha:DT T X a fa) (hb:DW T X (.BoolOp .Or (b::rest) pos) fb):DW T X (.BoolOp .Or (a::b::rest) pos) (jU fa fb):=.mk λG E hp=>
 PW.imp (UT (ha.run G E hp) (hb.run G E hp)) fun σ H Q ⟨ρ,fr,q⟩=>⟨ρ,fr,Acc.mono (Acc.bind q) λb _ hb H' s1=>by
  cases b with
  | false=>exact ⟨ρ,fr.mono s1,Acc.mono (Acc.heap s1 hb) λc _ hc H2 s2=>hc H2 (s1.trans s2)⟩
  | true=>exact hb H' s1⟩
variable {ga gb:Ev}
@[simp] def sJ (f g:Ev) (ρ:Ro):Out D:=(f ρ).bind λd=>d.toB.bind λb=>if b=true then g ρ else .ok (.bl false)
@[simp] def yC (f:Ev) (ρ:Ro):Out D:=(f ρ).bind λd=>d.toB.bind λb=>.ok (.bl (!b))
theorem yD {α:Type} {E:Value->Shared->Prop} {σ:L2.St} {H:Hp} {d:D} {g:Bool->Out α} {k:α->Prop} (h:Acc T X E σ H (d.toB.bind g) k):∃b,d=.bl b/\Acc T X E σ H (g b) k:=by
 cases d with
 | bl b=>exact ⟨b,rfl,h⟩
 | _=>exact h.elim
theorem HI {op} (h:DE T X a ga):DE T X (.BoolOp op [a] pos) ga:=.mk λG E hp=>UX (h.run G E hp)
theorem yE (ha:DE T X a ga) (hb:DE T X (.BoolOp .And (b::rest) pos) gb):DE T X (.BoolOp .And (a::b::rest) pos) (sJ ga gb):=.mk λG E hp=>
 PE.imp (UY (ha.run G E hp) (hb.run G E hp)) fun σ H Q ⟨ρ,fr,q⟩=>⟨ρ,fr,Acc.mono (Acc.bind q) λd _ hd v H' s1 r=>by
  obtain ⟨c,rfl,hc⟩:=yD hd;refine ⟨c,r,?_⟩;cases c with
  | true=>exact ⟨ρ,fr.mono s1,Acc.mono (Acc.heap s1 hc) λc _ hc v2 H2 s2 r2=>hc v2 H2 (s1.trans s2) r2⟩
  | false=>exact hc _ H' s1 rfl⟩
theorem HJ (ha:DE T X a ga):DE T X (.UnaryOp .Not a pos) (yC ga):=.mk λG E hp=>
 PE.imp (UZ (ha.run G E hp)) fun σ H Q ⟨ρ,fr,q⟩=>⟨ρ,fr,Acc.mono (Acc.bind q) λd _ hd v H' s1 r=>by
  obtain ⟨c,rfl,hc⟩:=yD hd;exact ⟨c,r,hc _ H' s1 rfl⟩⟩
end
section
variable {T:Tb} {ib:Bool} {X:Cx} {e:Expr} {st:Stmt} {sts:List Stmt} {pos pos':Pos} {f g:Ro->Fl} {fe:Ev}
theorem cN:DSs T ib X [] Fl.nx:=.mk λG E hp=>PSs.imp VD λD σ H ⟨ρ,fr,h⟩=>h σ H fr (Pers.refl H)
theorem aH (h1:DS T ib X st f) (h2:DSs T ib X sts g):DSs T ib X (st::sts) (fun ρ=>(f ρ).bind g):=.mk λG E hp=>
 PSs.imp (VE (h1.run G E hp) (h2.run G E hp)) λD σ H ⟨ρ,fr,h⟩=>⟨ρ,fr,by
  have h:AccS T ib X G E H ((f ρ).bind g) D:=h;cases e:f ρ with
  | nx ρ'=>rw [e] at h;exact fun σ' H' fr' p=>⟨ρ',fr',AccS.heap p h⟩
  | rt r=>rw [e] at h;exact h
  | rm r c ds ks=>rw [e] at h;exact h
  | exc c ρ'=>rw [e] at h;exact h
  | bk ρ'=>rw [e] at h;exact h
  | ct ρ'=>rw [e] at h;exact h
  | bad=>rw [e] at h;exact h⟩
theorem aL (h1:DS T ib X st f):DSs T ib X [st] f:=.mk λG E hp=>VF (h1.run G E hp)
@[simp] def aR (i:Nat) (fe:Ev) (ρ:Ro):Fl:=(fe ρ).fl ρ λd=>.nx (ρ.set i (.sh d))
theorem aW (i:Nat) {x:Str} (hN:X.N.Nodup) (he:DE T X e fe) (hi:X.N[i]?=some x:=by rfl) (hx:Loc X.env.scope x:=by walk_at "v3") (hs:swapsWith e (some (.Name x pos')) pos.line X.env=pure false:=by exact jT rfl) (hf:X.fn x=true∨X.env.scope.names.lookup x=some .local:=by walk_at "v2")
 (hz:T.me=none∨i≠0:=by walk_at "v1") :
 DS T ib X (.Assign [.Name x pos'] e pos) (aR i fe):=.mk λG E hp=>
 PS.imp (xL (X:=X.wish E) hN hi hx (he.run G E hp) hs hf) λD σ H ⟨ρ,fr,h⟩=>⟨ρ,fr,Acc.mono (AccS.fl fr h) λd _ hd v H1 s1 r1=>hd _ _ ((fr.mono s1).set_sh r1 hz) (Pers.of s1)⟩
theorem yF {K:PySem.W.Frag} {G H H1:Hp} {σ:L2.St} {ρ:Ro} {a:Addr} (fr:FR T K G H σ ρ) (s1:Same H H1) (ha:H a=none) (j:Nat) (s:Sl) (e:ρ[j]?=some s):¬eA H1 σ[j]? a s:=λz=>by
 obtain ⟨⟨ws,q⟩,_⟩:=(fr.sl j s e).own ((fr.sl j s e).back (λa o q _ _=>s1 a o q) z);rw [ha] at q;cases q
@[simp] def eQ (i:Nat) (f:Ro->Out Rv) (ρ:Ro):Fl:=(f ρ).fl ρ λr=>.nx (ρ.set i (match r with | .sh d=>.sh d | .fr ds=>.ow ds | .tf t pre ds post=>.ox t pre ds post))
theorem gK (i:Nat) {x:Str} {f:Ro->Out Rv} (hN:X.N.Nodup) (he:DR T X e f) (hi:X.N[i]?=some x:=by rfl) (hx:Loc X.env.scope x:=by walk_at "v3") (hs:swapsWith e (some (.Name x pos')) pos.line X.env=pure false:=by exact jT rfl) (hf:X.fn x=true∨X.env.scope.names.lookup x=some .local:=by walk_at "v2")
 (hz:T.me=none∨i≠0:=by walk_at "v1") :
 DS T ib X (.Assign [.Name x pos'] e pos) (eQ i f):=.mk λG E hp=>
 PS.imp (xL (X:=X.wish E) hN hi hx (he.run G E hp) hs hf) λD σ H ⟨ρ,fr,h⟩=>⟨ρ,fr,Acc.mono (AccS.fl fr h) λr _ hr v H1 s1 r1=>by
  cases r with
  | sh d=>exact hr _ _ ((fr.mono s1).set_sh r1 hz) (Pers.of s1)
  | fr ds=>
   obtain ⟨a,vs,rfl,ha',ha,rl⟩:=r1;exact hr _ _ ((fr.mono s1).set_ow ha' (fr.same.free ha) rl (λj es _ e=>yF (H1:=H1) fr s1 ha j es e) hz) (Pers.of s1)
  | tf t pre ds post=>
   obtain ⟨a,vp,b,vq,ws,rfl,e2,q1,q2,e3,e4,q3⟩:=r1;refine hr _ _ ((fr.mono s1).set_own (.ox t pre ds post) (λ_=>⟨a,vp,b,vq,ws,rfl,e2,q1,q2,e3,fr.same.free e4,q3⟩) (λj s c hj q o1 o2=>?_) (λ_ _ z=>by cases z) hz) (Pers.of s1);obtain ⟨a',us,z1,z2,z3⟩:=o1;cases z1;have:=e2.uniq z2;subst this;rw [<-RepL.length _ _ q1,List.getElem?_append_right (Nat.le_refl _),Nat.sub_self] at z3;have z3:(some (V.ref b))=some (.ref c):=z3;cases z3;exact yF (H1:=H1) fr s1 e4 j s q o2⟩
@[simp] def sIf (t:Ro->Out Bool) (f g:Ro->Fl) (ρ:Ro):Fl:=(t ρ).fl ρ λb=>if b=true then f ρ else g ρ
theorem cO {c:Expr} {a b:List Stmt} {ft:Ro->Out Bool} (hc:DT T X c ft) (ha:DSs T ib X a f) (hb:DSs T ib X b g):DS T ib X (.If c a b pos) (sIf ft f g):=.mk λG E hp=>
 PS.imp (VJ (hc.run G E hp) (ha.run G E hp) (hb.run G E hp)) λD σ H ⟨ρ,fr,h⟩=>⟨ρ,fr,Acc.mono (AccS.fl fr h) λb _ hb H1 s1=>by
  cases b with
  | true=>exact ⟨ρ,fr.mono s1,AccS.heap (Pers.of s1) hb⟩
  | false=>exact ⟨ρ,fr.mono s1,AccS.heap (Pers.of s1) hb⟩⟩
@[simp] def dA (fe:Ev) (ρ:Ro):Fl:=(fe ρ).fl ρ λd=>.rt (.sh d)
theorem dG (he:DE T X e fe):DS T ib X (.Return (some e) pos) (dA fe):=.mk λG E hp=>
 PS.imp (xE (he.run G E hp)) λD σ H ⟨ρ,fr,h⟩=>⟨ρ,fr,Acc.mono (AccS.fl fr h) λd _ hd v H1 s1 r1=>hd v H1 (fr.same.trans s1) r1⟩
@[simp] def fH (f:Ro->Out Rv) (ρ:Ro):Fl:=(f ρ).fl ρ λr=>.rt r
theorem gL {f:Ro->Out Rv} (he:DR T X e f):DS T ib X (.Return (some e) pos) (fH f):=.mk λG E hp=>
 PS.imp (xE (he.run G E hp)) λD σ H ⟨ρ,fr,h⟩=>⟨ρ,fr,Acc.mono (AccS.fl fr h) λr _ hr v H1 s1 r1=>hr v H1 (fr.same.trans s1) (mF fr.same r1)⟩
@[simp] def iO (i:Nat) (ρ:Ro):Fl:=match ρ[i]? with
 | some (.ow ds)=>.rt (.fr ds)
 | some (.sh d)=>.rt (.sh d)
 | _=>.bad
theorem jV (i:Nat) {x:Str} (hN:X.N[i]?=some x:=by rfl) (hv:Vis X.env.scope x:=by walk_at "v0") (hd:(x==("__debug__" : Str))=false:=by decide)
 (hcd:(x==("__classdict__" : Str))=false:=by decide):DS T ib X (.Return (some (.Name x pos')) pos) (iO i):=.mk λG E hp=>
 PS.imp (xE (gW (X:=X.wish E) hN hv hd hcd)) λD σ H ⟨ρ,fr,h⟩=>by
  unfold iO at h
  split at h
  ·rename_i ds e
   obtain ⟨a,vs,e1,e2,e3,r⟩:=fr.sl i _ e;exact ⟨_,e1,h _ H fr.same ⟨a,vs,rfl,e2,e3,r⟩⟩
  ·rename_i d e
   obtain ⟨v,e1,r⟩:=fr.sl i _ e;exact ⟨_,e1,h _ H fr.same r⟩
  ·exact h.elim
@[simp] def dM (fe:Ev) (ρ:Ro):Fl:=(fe ρ).fl ρ λ_=>.nx ρ
theorem dQ (he:DE T X e fe) (hs:swapsWith e none pos.line X.env=pure false:=by exact jT rfl):DS T ib X (.Expr e pos) (dM fe):=.mk λG E hp=>
 PS.imp (xD (X:=X.wish E) (he.run G E hp) hs) λD σ H ⟨ρ,fr,h⟩=>⟨ρ,fr,Acc.mono (AccS.fl fr h) λd _ hd v H1 s1 r1=>hd σ H1 (fr.mono s1) (Pers.of s1)⟩
@[simp] def oO (i:Nat) (f:Ro->Fl) (ρ:Ro):Fl:=match ρ[i]? with
 | some (.ow ds)=>f (ρ.set i (.sh (.lst ds)))
 | some (.sh _)=>f ρ
 | some (.ox t pre ds post)=>f (ρ.set i (.sh (mkO t (pre++.lst ds::post))))
 | _=>.bad
theorem HK {K:PySem.W.Frag} {G H:Hp} {σ:L2.St} {ρ:Ro} {i:Nat} {a:Addr} {vs:List V} {s0:Sl} {d:D} {v:V} {o:Obj} (fr:FR T K G H σ ρ) (e:ρ[i]?=some s0) (oa:eA H σ[i]? a s0) (e2:H a=some (.lst vs)) (e3:G a=none) (e1:σ[i]?=some (some v)) (r:Rep T K (upd H a (.frz o (.lst vs))) d v) :
 FR T K G (upd H a (.frz o (.lst vs))) σ (ρ.set i (.sh d)):=by
 have hl:i < ρ.length:=(List.getElem?_eq_some_iff.mp e).1;have lt:∀{m:Nat} {z:Sl},(ρ.set i (.sh d))[m]?=some z->m=i∨(m≠i/\ρ[m]?=some z):=λ{m z} q=>by
  by_cases hm:m=i
  ·exact .inl hm
  ·rw [List.getElem?_set_ne (Ne.symm hm)] at q;exact .inr ⟨hm,q⟩
 refine ⟨λb u q=>?_,by simp [fr.len],λj s q=>?_,λj k s1 s2 b hjk q1 q2 o1 o2=>?_,fr.me,sD (λ_ _ z=>by cases z) fr.me0⟩
 ·rw [aM (λz=>by rw [z,e3] at q;cases q)];exact fr.same b u q
 ·rcases lt q with rfl | ⟨hj,q⟩
  ·rw [List.getElem?_set_self hl] at q;cases q;exact ⟨_,e1,r⟩
  ·have h:=fr.sl j s q;exact SlOk.off e2 (λ_ _=>RepL.froz e2 _ _) (λo1=>fr.ne j i _ _ a hj q e o1 oa) h
 ·have hj:j≠i:=by
   rintro rfl;rw [List.getElem?_set_self hl] at q1;cases q1;exact o1
  have hk:k≠i:=by
   rintro rfl;rw [List.getElem?_set_self hl] at q2;cases q2;exact o2
  rw [List.getElem?_set_ne (Ne.symm hj)] at q1;rw [List.getElem?_set_ne (Ne.symm hk)] at q2;have bk:∀(c:Addr) (u:HO),H c=some u->(∀xs,u≠.lst xs)->(∀x dx fs,u≠.ins x dx fs)->upd H a (.frz o (.lst vs)) c=some u:=λc u w n _=>by
   rw [aM (λy=>by subst y;rw [e2] at w;cases w;exact n _ rfl)];exact w
  exact fr.ne j k s1 s2 b hjk q1 q2 ((fr.sl j s1 q1).back bk o1) ((fr.sl k s2 q2).back bk o2)
theorem d8 {K:PySem.W.Frag} {G H:Hp} {σ:L2.St} {ρ:Ro} {i:Nat} {a:Addr} {vs:List V} {ds:List D} {o:Obj} (fr:FR T K G H σ ρ) (e:ρ[i]?=some (.ow ds)) (e1:σ[i]?=some (some (.ref a))) (e2:H a=some (.lst vs)) (e3:G a=none) (r:RepL T K H ds vs) :
 FR T K G (upd H a (.frz o (.lst vs))) σ (ρ.set i (.sh (.lst ds))):=HK fr e e1 e2 e3 e1 ⟨a,vs,rfl,.inl ⟨o,cR⟩,RepL.froz e2 _ _ r⟩
theorem HL {K:PySem.W.Frag} {H:Hp} {x:Option (Option V)} {t:Bool} {a b:Addr} {vp vq:List V} {pre ds post:List D} (z1:x=some (some (.ref a))) (z2:OutAt H t a (vp++.ref b::vq)) (z3:RepL T K H pre vp):eA H x b (.ox t pre ds post):=
 ⟨a,_,z1,z2,by rw [<-RepL.length _ _ z3,List.getElem?_append_right (Nat.le_refl _),Nat.sub_self];rfl⟩
theorem d9 {K:PySem.W.Frag} {G H:Hp} {σ:L2.St} {ρ:Ro} {i:Nat} {t:Bool} {a b:Addr} {vp vq ws:List V} {pre ds post:List D} {o:Obj} (fr:FR T K G H σ ρ) (e:ρ[i]?=some (.ox t pre ds post)) (e1:σ[i]?=some (some (.ref a))) (e2:OutAt H t a (vp++.ref b::vq)) (r1:RepL T K H pre vp) (r2:RepL T K H post vq) (e3:H b=some (.lst ws)) (e4:G b=none) (r3:RepL T K H ds ws) :
 FR T K G (upd H b (.frz o (.lst ws))) σ (ρ.set i (.sh (mkO t (pre++.lst ds::post)))):=HK fr e (HL e1 e2 r1) e3 e4 e1 (e2.rep r1 r2 e3 r3)
theorem yG (i:Nat) (h:DSs T ib X sts f):DSs T ib X sts (oO i f):=.mk λG E hp=>by
 rintro vA s σ H D I ⟨ρ,fr,q⟩;unfold oO at q
 split at q
 ·rename_i ds e
  obtain ⟨a,vs,e1,e2,e3,r⟩:=fr.sl i _ e;obtain ⟨o,I2⟩:=Inv.freeze I e2;exact h.run G E hp vA s σ _ D I2 ⟨_,d8 fr e e1 e2 e3 r,AccS.heap (λb u z w=>by rw [aM (λy=>by rw [y,e2] at z;cases z;cases w)];exact z) q⟩
 ·exact h.run G E hp vA s σ H D I ⟨ρ,fr,q⟩
 ·rename_i t pre ds post e
  obtain ⟨a,vp,b,vq,ws,e1,e2,r1,r2,e3,e4,r3⟩:=fr.sl i _ e;obtain ⟨o,I2⟩:=Inv.freeze I e3;exact h.run G E hp vA s σ _ D I2 ⟨_,d9 fr e e1 e2 r1 r2 e3 e4 r3,AccS.heap (λb u z w=>by rw [aM (λy=>by rw [y,e3] at z;cases z;cases w)];exact z) q⟩
 ·exact q.elim
end
def cP (b:Ro->D->Fl):List D->Ro->Fl
 | [],ρ=>.nx ρ
 | d::ds,ρ=>match b ρ d with
  | .nx ρ'=>cP b ds ρ'
  | .ct ρ'=>cP b ds ρ'
  | .bk ρ'=>.nx ρ'
  | o=>o
def whD (t:Ro->Out Bool) (b:Ro->Fl):Nat->Ro->Fl
 | 0,_=>.bad
 | n+1,ρ=>(t ρ).fl ρ λk=>if k=true then (match b ρ with
  | .nx ρ'=>whD t b n ρ'
  | .ct ρ'=>whD t b n ρ'
  | .bk ρ'=>.nx ρ'
  | o=>o) else .nx ρ
section
variable {T:Tb} {ib:Bool} {X:Cx} {tg iter:Expr} {body:List Stmt} {pos:Pos} {fb:Ro->Fl}
def TgD (T:Tb) (X:Cx) (tg:Expr) (g:Ro->D->Out Ro):Prop:=∀(E:Value->Shared->Prop),∃tgr:TG,PG (X.wish E) tg tgr/\∀(G H:Hp) (σ:L2.St) (ρ ρ':Ro) (d:D) (v:V) (Q:L2.St->Hp->Prop),FR T X.K G H σ ρ->Rep T X.K H d v->g ρ d=.ok ρ'->(∀σ',FR T X.K G H σ' ρ'->Q σ' H)->tgr v σ H Q
@[simp] def aV (i:Nat) (ρ:Ro) (d:D):Out Ro:=.ok (ρ.set i (.sh d))
theorem dB (i:Nat) {x:Str} (hN:X.N.Nodup) (hi:X.N[i]?=some x:=by rfl) (hx:Loc X.env.scope x:=by walk_at "v3") (hf:X.fn x=true∨X.env.scope.names.lookup x=some .local:=by walk_at "v2") (hz:T.me=none∨i≠0:=by walk_at "v1"):TgD T X (.Name x pos) (aV i):=λE=>
 ⟨_,lZ (X:=X.wish E) (i:=i) hN hi hx hf,λG H σ ρ ρ' d v Q fr r e k=>by cases e;exact k _ (fr.set_sh r hz)⟩
@[simp] def aP (g:Ro->D->Out Ro) (fb:Ro->Fl) (ρ:Ro) (d:D):Fl:=match g ρ d with
 | .ok ρ'=>fb ρ'
 | _=>.bad
theorem HM {G H:Hp} {E:Value->Shared->Prop} {D:Ends} {o:Fl} {N:L2.St->Hp->Prop} {k:Ro->Fl}
 (h:AccS T ib X G E H (match o with | .nx ρ'=>k ρ' | .ct ρ'=>k ρ' | .bk ρ'=>.nx ρ' | o=>o) D)
 (hN:∀ρ' σ' H',FR T X.K G H' σ' ρ'->Pers T ib H H'->AccS T ib X G E H' (k ρ') D->N σ' H'):AccS T ib X G E H o { D with nx:=N,ct:=N,bk:=D.nx }:=by
 cases o with
 | nx ρ'=>exact fun σ' H' fr p=>hN ρ' σ' H' fr p (AccS.heap p h)
 | ct ρ'=>exact fun σ' H' fr p=>hN ρ' σ' H' fr p (AccS.heap p h)
 | bk ρ'=>exact h
 | rt r=>exact h
 | rm r c ds ks=>exact h
 | exc c ρ'=>exact h
 | bad=>exact h
theorem f6 (b:Ro->D->Fl) (d:D) (ds:List D) (ρ:Ro):cP b (d::ds) ρ=(match b ρ d with | .nx ρ'=>cP b ds ρ' | .ct ρ'=>cP b ds ρ' | .bk ρ'=>.nx ρ' | o=>o):=rfl
theorem f7 {g:Ro->D->Out Ro} {G H:Hp} {E:Value->Shared->Prop} {DD:Ends} {N:L2.St->Hp->Prop} {σ:L2.St} {ρ:Ro} {d:D} {ds:List D} {v:V} {tgr:TG} {tb:TS}
 (hg:∀(G H:Hp) (σ:L2.St) (ρ ρ':Ro) (d:D) (v:V) (Q:L2.St->Hp->Prop),FR T X.K G H σ ρ->Rep T X.K H d v->g ρ d=.ok ρ'->(∀σ',FR T X.K G H σ' ρ'->Q σ' H)->tgr v σ H Q)
 (htb:∀DD σ H,tS T ib X G E fb DD σ H->tb DD σ H)
 (fr:FR T X.K G H σ ρ) (r:Rep T X.K H d v) (h:AccS T ib X G E H (cP (aP g fb) (d::ds) ρ) DD)
 (hN:∀ρ' σ' H',FR T X.K G H' σ' ρ'->Pers T ib H H'->AccS T ib X G E H' (cP (aP g fb) ds ρ') DD->N σ' H') :
 tgr v σ H fun σ2 H2=>tb { DD with nx:=N,ct:=N,bk:=DD.nx } σ2 H2:=by
 rw [f6] at h;cases e:g ρ d with
 | ok ρ'=>
  have e2:aP g fb ρ d=fb ρ':=by unfold aP;rw [e]
  rw [e2] at h;exact hg G H σ ρ ρ' d v _ fr r e fun σ' fr'=>htb _ _ _ ⟨ρ',fr',HM h hN⟩
 | exc c=>
  have e2:aP g fb ρ d=.bad:=by unfold aP;rw [e]
  rw [e2] at h;exact h.elim
 | bad=>
  have e2:aP g fb ρ d=.bad:=by unfold aP;rw [e]
  rw [e2] at h;exact h.elim
def Stb (K:PySem.W.Frag) (G H:Hp) (a:Addr) (vs:List V):Prop:=FzL K H a vs∨G a=some (.lst vs)
theorem Stb.sq {K:PySem.W.Frag} {G H:Hp} {a:Addr} {vs:List V} (h:Stb K G H a vs) (s:Same G H):SqL K H a vs:=by
 rcases h with h | h
 ·exact h.sq
 ·exact SqL.of (s _ _ h)
theorem Stb.pers {K:PySem.W.Frag} {G H H':Hp} {a:Addr} {vs:List V} (h:Stb K G H a vs) (p:Pers T ib H H'):Stb K G H' a vs:=by
 rcases h with h | h
 ·exact .inl (p.fz h)
 ·exact .inr h
def tP (T:Tb) (X:Cx) (G:Hp) (E:Value->Shared->Prop) (f:Ro->Out (List D)):TE:=fun σ H Q=>∃ρ,FR T X.K G H σ ρ/\Acc T X E σ H (f ρ) (λds=>∀a vs H',Same H H'->Stb X.K G H' a vs->RepL T X.K H' ds vs->Q (.ref a) H')
structure DP (T:Tb) (X:Cx) (e:Expr) (f:Ro->Out (List D)):Prop where
 mk ::
 run:∀(G:Hp) (E:Value->Shared->Prop),PassesOwn (model X.prog X.w) X.A X.env E->PE (X.wish E) e (tP T X G E f)
theorem DE.dp {e:Expr} {f:Ev} (h:DE T X e f):DP T X e (bC f):=.mk λG E hp=>
 PE.imp (h.run G E hp) fun σ H Q ⟨ρ,fr,q⟩=>⟨ρ,fr,Acc.mono (Acc.bind q) λd _ hd v H' s1 r=>by
  cases d with
  | lst ds=>
   obtain ⟨a,vs,rfl,e2,r2⟩:=r;exact hd a vs H' s1 (.inl e2) r2
  | _=>exact hd.elim⟩
@[simp] def sK (i:Nat) (ρ:Ro):Out (List D):=match ρ[i]? with
 | some (.bo ds)=>.ok ds
 | some (.sh (.lst ds))=>.ok ds
 | _=>.bad
theorem HN (i:Nat) {x:Str} (hN:X.N[i]?=some x:=by rfl) (hv:Vis X.env.scope x:=by walk_at "v0") (hd:(x==("__debug__" : Str))=false:=by decide)
 (hcd:(x==("__classdict__" : Str))=false:=by decide):DP T X (.Name x pos) (sK i):=.mk λG E hp=>by
 refine PE.imp (gW (X:=X.wish E) hN hv hd hcd) fun σ H Q ⟨ρ,fr,h⟩=>?_
 unfold sK at h
 split at h
 ·rename_i ds e
  obtain ⟨a,vs,e1,e2,r⟩:=fr.sl i _ e;exact ⟨_,e1,h a vs H (Same.refl H) (.inr e2) r⟩
 ·rename_i ds e
  obtain ⟨v,e1,a,vs,rfl,e2,r⟩:=fr.sl i _ e;exact ⟨_,e1,h a vs H (Same.refl H) (.inl e2) r⟩
 ·exact h.elim
@[simp] def cQ (fl:Ro->Out (List D)) (g:Ro->D->Out Ro) (fb:Ro->Fl) (ρ:Ro):Fl:=(fl ρ).fl ρ λds=>cP (aP g fb) ds ρ
def rgD (lo:Int) (n:Nat):List D:=(List.range n).map λ(k:Nat)=>D.int (lo+(k:Int))
def tN (T:Tb) (X:Cx) (G:Hp) (E:Value->Shared->Prop) (f:Ro->Out (Int×Nat)):TI:=fun σ H R=>∃ρ,FR T X.K G H σ ρ/\Acc T X E σ H (f ρ) (λp=>∀H',Same H H'->R (Itr p.1 p.2) H')
structure DN (T:Tb) (X:Cx) (tg e:Expr) (f:Ro->Out (Int×Nat)):Prop where
 mk ::
 run:∀(G:Hp) (E:Value->Shared->Prop),PassesOwn (model X.prog X.w) X.A X.env E->PI (X.wish E) tg e (tN T X G E f)
theorem PI.imp {X:Cx} {tg e:Expr} {t t':TI} (h:PI X tg e t) (k:∀σ H R,t' σ H R->t σ H R):PI X tg e t':=λvA s σ H R I q=>h vA s σ H R I (k σ H R q)
@[simp] def n1 (fe:Ev) (ρ:Ro):Out (Int×Nat):=(fe ρ).bind λd=>match d with
 | .int i=>if -(2 ^ 62)<=i/\i < 2 ^ 62 then .ok (0,i.toNat) else .bad
 | _=>.bad
theorem fO {a:Expr} {fe:Ev} {p:Pos} (hg:Gl X "range") (hm:X.mg "range" = none) (ha:DE T X a fe) (hs:starEach [a] X.env=[(false,eval a X.env)]:=by rfl):DN T X tg (.Call (.Name "range" p) [a] [] pos) (n1 fe):=.mk λG E hp=>by
 refine PI.imp (WD (X:=X.wish E) hg hm (cZ (X:=X.wish E) (ha.run G E hp) eP hs) hs) fun σ H R ⟨ρ,fr,h⟩=>⟨ρ,fr,Acc.mono (Acc.bind h) λd _ hd v H1 s1 r=>?_⟩
 cases d with
 | int i=>
  have hd':Acc T X E σ H (if -(2 ^ 62)<=i/\i < 2 ^ 62 then Out.ok ((0:Int),i.toNat) else .bad) (λp=>∀H',Same H H'->R (Itr p.1 p.2) H'):=hd;by_cases z:-(2 ^ 62)<=i/\i < 2 ^ 62
  ·rw [if_pos z] at hd';exact ⟨i,by rw [show v=V.int i from r],z.1,z.2,hd' H1 s1⟩
  ·rw [if_neg z] at hd';exact hd'.elim
 | _=>exact hd.elim
theorem g0 {c:Expr} {ft:Ro->Out Bool} (n:Nat) (hc:DT T X c ft) (hb:DSs T ib X body fb):DS T ib X (.While c body [] pos) (fun ρ=>whD ft fb n ρ):=.mk λG E hp=>by
 refine PS.imp (VS (X:=X.wish E) hp (hc.run G E hp) (hb.run G E hp)) λDD σ H ⟨ρ,fr,h⟩=>?_
 refine ⟨λm σ' H'=>∃ρ',FR T X.K G H' σ' ρ'/\AccS T ib X G E H' (whD ft fb m ρ') DD,⟨n,ρ,fr,h⟩,?_⟩;rintro m σ' H' ⟨ρ',fr',ha⟩;cases m with
 | zero=>exact ha.elim
 | succ m=>
  refine ⟨ρ',fr',Acc.mono (AccS.fl fr' ha) λk _ hk H1 s1=>?_⟩;cases k with
  | true=>
   refine ⟨fun σ2 H2=>∃ρ2,FR T X.K G H2 σ2 ρ2/\AccS T ib X G E H2 (whD ft fb m ρ2) DD,fun σ2 H2 q=>⟨m,Nat.lt_succ_self m,q⟩,ρ',fr'.mono s1,?_⟩;have hk':AccS T ib X G E H' (match fb ρ' with | .nx ρ2=>whD ft fb m ρ2 | .ct ρ2=>whD ft fb m ρ2 | .bk ρ2=>.nx ρ2 | o=>o) DD:=hk;exact HM (AccS.heap (Pers.of s1) hk') fun ρ2 σ2 H2 fr2 p2 h2=>⟨ρ2,fr2,h2⟩
  | false=>exact hk σ' H1 (fr'.mono s1) (Pers.of s1)
end
section
variable {T:Tb} {X:Cx} {e a b:Expr} {es:List Expr} {pos p:Pos} {fe fa fb:Ev} {fs:Ro->Out (List D)}
@[simp] def aI (ρ:Ro):Out (List D):=.ok []
@[simp] def aD (fe:Ev) (fs:Ro->Out (List D)) (ρ:Ro):Out (List D):=(fe ρ).bind λd=>(fs ρ).bind λds=>.ok (d::ds)
theorem aK:DA T X [] aI:=.mk λG E hp=>PA.imp eP fun σ H Q ⟨ρ,fr,h⟩=>h [] H (Same.refl H) rfl
theorem aG (ha:DE T X e fe) (hr:DA T X es fs) (hs:starEach (e::es) X.env=(false,eval e X.env)::starEach es X.env:=by exact cM rfl):DA T X (e::es) (aD fe fs):=.mk λG E hp=>by
 refine PA.imp (cZ (X:=X.wish E) (ha.run G E hp) (hr.run G E hp) hs) fun σ H Q ⟨ρ,fr,h⟩=>?_
 refine ⟨ρ,fr,Acc.mono (Acc.bind h) λd _ hd v H1 s1 r1=>⟨ρ,fr.mono s1,Acc.mono (Acc.bind (Acc.heap s1 hd)) λds _ hds vs H2 s2 r2=>?_⟩⟩;exact hds (v::vs) H2 (s1.trans s2) ⟨v,vs,rfl,Rep.mono s2 _ _ r1,r2⟩
def CaD (T:Tb) (X:Cx) (f:Value) (g:List D->Out D):Prop:=∀E:Value->Shared->Prop,∃r:List V->Hp->VK->Prop,eY (X.wish E) f r /\
 ∀(ds:List D) (vs:List V) (σ:L2.St) (H:Hp) (Q:VK),RepL T X.K H ds vs->Acc T X E σ H (g ds) (kE T X.K H Q)->r vs H Q
@[simp] def eCB (g:List D->Out D) (fs:Ro->Out (List D)) (ρ:Ro):Out D:=(fs ρ).bind g
theorem HP {G H:Hp} {E:Value->Shared->Prop} {σ:L2.St} {Q:VK} {g:List D->Out D} {r:List V->Hp->VK->Prop}
 (hg:∀(ds:List D) (vs:List V) (σ:L2.St) (H:Hp) (Q:VK),RepL T X.K H ds vs->Acc T X E σ H (g ds) (kE T X.K H Q)->r vs H Q) {ρ:Ro} (fr:FR T X.K G H σ ρ) (h:Acc T X E σ H (eCB g fs ρ) (kE T X.K H Q)) :
 tCB r (tA T X G E fs) σ H Q:=
 ⟨ρ,fr,Acc.mono (Acc.bind h) λds _ hd vs H1 s1 r1=>hg ds vs σ H1 Q r1 (Acc.mono (Acc.heap s1 hd) λd _ k v H2 s2 r2=>k v H2 (s1.trans s2) r2)⟩
theorem cA {id:String} {x:Str} {g:List D->Out D} (hc:CaD T X (.builtin id) g) (hg:Gl X x) (hm:X.mg x=none) (hv:bootBuiltins x=some (.builtin id)) (ha:DA T X (e::es) fs) (hn:x≠"__name__":=by decide) (hdb:(x==("__debug__" : Str))=false:=by decide)
 (he:starEach (e::es) X.env=(false,eval e X.env)::starEach es X.env:=by exact cM rfl) (hpl:(backTo pos (starEach es X.env)).any (·.1)=false:=by exact dL rfl):DE T X (.Call (.Name x p) (e::es) [] pos) (eCB g fs):=.mk λG E hp=>by
 obtain ⟨r,hr,hg'⟩:=hc E;exact PE.imp (xP (X:=X.wish E) hr hg hm hv (ha.run G E hp) hn hdb he hpl) fun σ H Q ⟨ρ,fr,h⟩=>HP hg' fr h
theorem oP {TT:String} {x:Str} {g:List D->Out D} (hc:CaD T X (.type TT) g) (hg:Gl X x) (hm:X.mg x=none) (hv:bootBuiltins x=some (.type TT)) (ha:DA T X (e::es) fs) (hn:x≠"__name__":=by decide) (hdb:(x==("__debug__" : Str))=false:=by decide)
 (he:starEach (e::es) X.env=(false,eval e X.env)::starEach es X.env:=by exact cM rfl) (hpl:(backTo pos (starEach es X.env)).any (·.1)=false:=by exact dL rfl):DE T X (.Call (.Name x p) (e::es) [] pos) (eCB g fs):=.mk λG E hp=>by
 obtain ⟨r,hr,hg'⟩:=hc E;exact PE.imp (mD (X:=X.wish E) hr hg hm hv (ha.run G E hp) hn hdb he hpl) fun σ H Q ⟨ρ,fr,h⟩=>HP hg' fr h
theorem RepL.one {K:PySem.W.Frag} {H:Hp} {d:D} {vs:List V} (h:RepL T K H [d] vs):∃v,vs=[v]/\Rep T K H d v:=by
 obtain ⟨v,r,rfl,h1,rfl⟩:=h;exact ⟨v,rfl,h1⟩
theorem RepL.two {K:PySem.W.Frag} {H:Hp} {d d':D} {vs:List V} (h:RepL T K H [d,d'] vs):∃v v',vs=[v,v']/\Rep T K H d v/\Rep T K H d' v':=by
 obtain ⟨v,r,rfl,h1,v',r',rfl,h2,rfl⟩:=h;exact ⟨v,v',rfl,h1,h2⟩
@[simp] def gM:List D->Out D
 | [.int i,.int j]=>.ok (.int (if j < i then j else i))
 | _=>.bad
theorem jW (hc:X.calm=true):CaD T X (.builtin "min") gM:=λE=>⟨_,XM hc,λds vs σ H Q r h=>by
 unfold gM at h
 split at h
 ·rename_i i j
  obtain ⟨v,v',rfl,rv,rv'⟩:=r.two;exact ⟨i,j,by rw [show v=V.int i from rv,show v'=V.int j from rv'],h _ H (Same.refl H) rfl⟩
 ·exact h.elim⟩
@[simp] def cW:List D->Out D
 | [.str x]=>if x.length<=1000000 then .ok (.int x.length) else .bad
 | [.tup ds]=>.ok (.int ds.length)
 | [.lst ds]=>.ok (.int ds.length)
 | _=>.bad
theorem dN:CaD T X (.builtin "len") cW:=λE=>⟨_,GE,λds vs σ H Q r h=>by
 unfold cW at h
 split at h
 ·rename_i x
  obtain ⟨v,rfl,rv⟩:=r.one;by_cases z:x.length<=1000000
  ·rw [if_pos z] at h;exact ⟨v,x.length,rfl,by rw [show v=V.str x from rv];exact ⟨line6 z,rfl⟩,h _ H (Same.refl H) rfl⟩
  ·rw [if_neg z] at h;exact h.elim
 ·rename_i es
  obtain ⟨v,rfl,a,us,rfl,e,rl⟩:=r.one;exact ⟨_,us.length,rfl,.inr ⟨us,e,rfl⟩,h _ H (Same.refl H) (by rw [RepL.length _ _ rl];exact rfl)⟩
 ·rename_i es
  obtain ⟨v,rfl,a,us,rfl,e,rl⟩:=r.one;exact ⟨_,us.length,rfl,.inl ⟨us,e.sq,rfl⟩,h _ H (Same.refl H) (by rw [RepL.length _ _ rl];exact rfl)⟩
 ·exact h.elim⟩
@[simp] def oQ (fl:Ro->Out (List D)) (ρ:Ro):Out D:=(fl ρ).bind λds=>.ok (.int ds.length)
theorem sL {fl:Ro->Out (List D)} (hg:Gl X "len") (hm:X.mg "len" = none) (hl:DL T X e fl) (he:starEach [e] X.env=[(false,eval e X.env)]:=by rfl):DE T X (.Call (.Name "len" p) [e] [] pos) (oQ fl):=.mk λG E hp=>
 PE.imp (xP (X:=X.wish E) GE hg hm rfl (cZ (X:=X.wish E) (hl.run G E hp) eP he) (by decide) (by decide) he rfl) fun σ H Q ⟨ρ,fr,h⟩=>⟨ρ,fr,Acc.mono (Acc.bind h) λds _ hd a vs H1 s1 sq r=>
  ⟨_,vs.length,rfl,.inl ⟨vs,sq,rfl⟩,hd _ H1 s1 (by rw [RepL.length _ _ r];exact rfl)⟩⟩
def yH (T:Tb):D->Value
 | .non=>.type "NoneType"
 | .bl _=>.type "bool"
 | .int _=>.type "int"
 | .str _=>.type "str"
 | .tup _=>.type "tuple"
 | .lst _=>.type "list"
 | .ins c _=>.ref (T.ca c)
 | .exc c=>.ref (T.ca c)
structure sM (K:PySem.W.Frag) (C:Addr):Prop where
 cl:Cls K C
 ha:PySem.W.findIn K (.ref C) "__class__" = some (some (.builtin "object.__class__"))
 hn:PySem.W.specialIn K (.builtin "object.__class__") "__get__" = some (some (.builtin "getset_descriptor.__get__"))
 htk:PySem.W.takesIn K (.builtin "object.__class__")=some true
 hm:PySem.W.mroIn K C (.type "object")=some true
def jX (T:Tb) (K:PySem.W.Frag) (cls:Value) (g:D->Out Bool):Prop:=∀d b,g d=.ok b->PySem.W.kitOne K (yH T d) cls=some b/\(∀c ds,d=.ins c ds->sM K (T.ca c))/\∀c,d=.exc c->oJ K (T.ca c)
theorem HQ {vA:List (Addr×Obj)} {σ:L2.St} {H:Hp} {s:Shared} {A:Around} {E:Value->Shared->Prop} {Q:Value->Shared->Prop} {cls u:Value} {d:D} {v:V} {k:Bool} (I:Inv X vA σ H s) (rv:RelV v u) (r:Rep T X.K H d v)
 (hk:PySem.W.kitOne X.K (yH T d) cls=some k) (hi:∀c ds,d=.ins c ds->sM X.K (T.ca c)) (hx:∀c,d=.exc c->oJ X.K (T.ca c)) (h:∀tk,Q (.bool k) { s with toks:=tk }):wpAny (model X.prog X.w) A (call (.builtin "isinstance") [u,cls]) Q E s:=by
 cases d with
 | non=>cases r;exact oG I rv .non hk h
 | bl y=>cases r;exact oG I rv (.bl y) hk h
 | int i=>cases r;exact oG I rv (.int i) hk h
 | str y=>cases r;exact oG I rv (.str y) hk h
 | tup ds=>
  obtain ⟨a,vs,rfl,e,_⟩:=r;cases (show u=Value.ref a from rv);obtain ⟨its,_,⟨o,h1,h2,_⟩,_⟩:=I.tuple e;exact PySem.W.kia_one PySem.W.kitx_tuple I.kIn ⟨o,h1,h2⟩ hk (λz=>nomatch z) h
 | lst ds=>
  obtain ⟨a,vs,rfl,e,_⟩:=r;cases (show u=Value.ref a from rv);obtain ⟨its,_,⟨o,n,h1,h2,_⟩,_⟩:=I.list e.sq;exact PySem.W.kia_one PySem.W.kitx_list I.kIn ⟨o,h1,h2⟩ hk (λz=>nomatch z) h
 | ins c ds=>
  obtain ⟨a,dx,fs,rfl,e,_⟩:=r;obtain ⟨cl,ha,hn,htk,hm⟩:=hi c ds rfl;exact oG I rv (.ins e cl ha hn htk hm) hk h
 | exc c=>
  obtain ⟨a,o,rfl,e1,e2,e3,e4⟩:=r;cases (show u=Value.ref a from rv);obtain ⟨ho,_⟩:=(show ObjOk X.prog X.w H s.heap a (.frz o _) from I.hok a _ e1)
  exact PySem.W.kia_one (b4 (hx c rfl)) I.kIn ⟨o,ho,e2,e3,by rw [e4];trivial⟩ hk (λz=>nomatch z) h
@[simp] def jJ (g:D->Out Bool) (fe:Ev) (ρ:Ro):Out D:=(fe ρ).bind λd=>(g d).bind λb=>.ok (.bl b)
theorem HR {c:Str} {cv:V} {clsv:Value} {g:D->Out Bool} {p2:Pos} (hg:Gl X "isinstance") (hm:X.mg "isinstance" = none) (ha:DE T X e fe) (hc:∀E,PE (X.wish E) (.Name c p2) (tC cv)) (rc:∀u,RelV cv u->u=clsv) (hi:jX T X.K clsv g)
 (hng:∀d cc,g d≠.exc cc) (hs1:starEach [e,.Name c p2] X.env=(false,eval e X.env)::starEach [.Name c p2] X.env:=by rfl):DE T X (.Call (.Name "isinstance" p) [e,.Name c p2] [] pos) (jJ g fe):=.mk λG E hp=>by
 rintro vA s σ H Q I ⟨ρ,fr,h⟩;refine wpAny_Call_Name_kw (gX (X:=X.wish E) I hg hm (u:=.builtin "isinstance") rfl ?_);refine PyProof.Rows.callWith_builtin1 (thn ((cZ (X:=X.wish E) (ha.run G E hp) (cZ (X:=X.wish E) (hc E) eP rfl) hs1) pos vA s σ H (λvs H1=>∃d v,vs=[v,cv]/\Same H H1/\Rep T X.K H1 d v/\Acc T X E σ H ((g d).bind λb=>.ok (.bl b)) (kE T X.K H Q)) I ⟨ρ,fr,Acc.mono (Acc.bind h) λd _ hd v H1 s1 r1=>⟨d,v,rfl,s1,r1,hd⟩⟩) λus s1 ⟨vs,H1,I1,rvs,d,v,ev,sm,rd,hd⟩=>?_) hs1 rfl;subst ev;obtain ⟨u,u',rfl,r1,r2⟩:=Vals.two rvs;obtain rfl:=rc u' r2;cases e1:g d with
 | ok k=>
  rw [e1] at hd;obtain ⟨z1,z2,z3⟩:=hi d k e1;exact HQ (X:=X.wish E) I1 r1 rd z1 z2 z3 λtk=>⟨.bl k,H1,I1.tok _,rfl,hd _ H1 sm rfl⟩
 | exc cc=>exact absurd e1 (hng d cc)
 | bad=>rw [e1] at hd;exact hd.elim
@[simp] def atD (ds:List D) (i:Int):Out D:=match atI ds i with
 | some d=>.ok d
 | none=>.bad
theorem RepL.at {K:PySem.W.Frag} {H:Hp} {ds:List D} {vs:List V} {i:Int} {d:D} (r:RepL T K H ds vs) (h:atI ds i=some d):∃v,atI vs i=some v/\Rep T K H d v:=by
 obtain ⟨j,e1,e2,e3,e4,e5⟩:=sB h;obtain ⟨v,e6,e7⟩:=RepL.get _ _ _ _ r e2;refine ⟨v,?_,e7⟩;have hl:=RepL.length _ _ r;unfold atI at h ⊢;rw [hl];cases z:ixN ds.length i with
 | none=>rw [z] at h;cases h
 | some k=>
  have:k=j:=by
   have:=(xQ z).1;rw [e1] at this;exact (Option.some.inj this).symm
  subst this;exact e6
@[simp] def ixD:D->D->Out D
 | .tup ds,.int i=>atD ds i
 | .lst ds,.int i=>atD ds i
 | .str z,.int i=>if z.length<=1000000 then (match atI z.cps.toList i with | some c=>.ok (.str ⟨#[c]⟩) | none=>.bad) else .bad
 | _,_=>.bad
theorem aO (ha:DE T X a fa) (hb:DE T X b fb) (hs:xR b:=by exact λ_ _=>rfl):DE T X (.Subscript a b pos) (e2 ixD fa fb):=.mk λG E hp=>by
 refine PE.imp (GP (X:=X.wish E) (IxR.or (IxR.or GQ YX) YY) (ha.run G E hp) (hb.run G E hp) hs) fun σ H Q ⟨ρ,fr,h⟩=>sE (T:=T) (g:=ixD) (λdx dy x y σ H Q rx ry q=>?_) fr h
 have key:∀(ds:List D) (i:Int) (vs:List V),RepL T X.K H ds vs->Acc T X E σ H (atD ds i) (kE T X.K H Q)->∃v,atI vs i=some v/\Q v H:=λds i vs r q=>by
  unfold atD at q
  split at q
  ·rename_i d e
   obtain ⟨v,e1,rd⟩:=r.at e;exact ⟨v,e1,q v H (Same.refl H) rd⟩
  ·exact q.elim
 cases dy with
 | int i=>
  cases dx with
  | tup ds=>
   obtain ⟨a,vs,rfl,sq,r⟩:=rx;obtain ⟨v,e1,q⟩:=key ds i vs r q;exact .inl (.inr ⟨a,vs,i,v,rfl,ry,sq,e1,q⟩)
  | lst ds=>
   obtain ⟨a,vs,rfl,sq,r⟩:=rx;obtain ⟨v,e1,q⟩:=key ds i vs r q;exact .inl (.inl ⟨a,vs,i,v,rfl,ry,sq.sq,e1,q⟩)
  | str z=>
   have q':Acc T X E σ H (if z.length<=1000000 then (match atI z.cps.toList i with | some c=>.ok (.str ⟨#[c]⟩) | none=>.bad) else .bad) (kE T X.K H Q):=q;by_cases hz:z.length<=1000000
   ·rw [if_pos hz] at q'
    split at q'
    ·rename_i c e
     exact .inr ⟨z,i,c,rx,ry,line6 hz,e,q' _ H (Same.refl H) rfl⟩
    ·exact q'.elim
   ·rw [if_neg hz] at q';exact q'.elim
  | _=>exact q.elim
 | _=>first | exact q.elim | (cases dx<;>exact q.elim)
@[simp] def jY (fl:Ro->Out (List D)) (fb:Ev) (ρ:Ro):Out D:=(fl ρ).bind λds=>(fb ρ).bind λd=>match d with
 | .int i=>atD ds i
 | _=>.bad
theorem HS {fl:Ro->Out (List D)} (ha:DL T X a fl) (hb:DE T X b fb) (hs:xR b:=by exact λ_ _=>rfl):DE T X (.Subscript a b pos) (jY fl fb):=.mk λG E hp=>by
 refine PE.imp (GP (X:=X.wish E) GQ (ha.run G E hp) (hb.run G E hp) hs) fun σ H Q ⟨ρ,fr,h⟩=>⟨ρ,fr,Acc.mono (Acc.bind h) λds _ hd a vs H1 s1 sq r=>⟨ρ,fr.mono s1,Acc.mono (Acc.bind (Acc.heap s1 hd)) λd _ hd2 v H2 s2 r2=>?_⟩⟩
 cases d with
 | int i=>
  have hd3:Acc T X E σ H1 (atD ds i) (kE T X.K H Q):=hd2;unfold atD at hd3
  split at hd3
  ·rename_i d e
   obtain ⟨w,e1,rd⟩:=(RepL.mono s2 _ _ r).at e;exact ⟨a,vs,i,w,rfl,r2,s2.seq sq,e1,hd3 w H2 (s1.trans s2) rd⟩
  ·exact hd3.elim
 | _=>exact hd2.elim
@[simp] def fC (fs:Ro->Out (List D)) (ρ:Ro):Out D:=(fs ρ).bind λds=>if ds.length<=1000000 then .ok (.tup ds) else .bad
theorem hW {x1} (h:DA T X es fs):DE T X (.Tuple es x1 pos) (fC fs):=.mk λG E hp=>
 PE.imp (YL (X:=X.wish E) (h.run G E hp)) fun σ H Q ⟨ρ,fr,q⟩=>⟨ρ,fr,Acc.mono (Acc.bind q) λds _ hd vs H1 s1 r=>by
  have hl:=RepL.length _ _ r;by_cases z:ds.length<=1000000
  ·rw [if_pos z] at hd;exact ⟨by rw [hl];exact line6 z,λp hp'=>hd _ _ (s1.trans (dP hp')) ⟨p,vs,rfl,SqT.of cR,RepL.mono (dP hp') _ _ r⟩⟩
  ·rw [if_neg z] at hd;exact hd.elim⟩
@[simp] def bF (fs:Ro->Out (List D)) (ρ:Ro):Out (List D):=(fs ρ).bind λds=>if ds.length<=1000000 then .ok ds else .bad
theorem bM (h:DA T X es fs):DF T X (.List es pos) (bF fs):=.mk λG E hp=>
 PE.imp (YM (X:=X.wish E) (h.run G E hp)) fun σ H Q ⟨ρ,fr,q⟩=>⟨ρ,fr,Acc.mono (Acc.bind q) λds _ hd vs H1 s1 r=>by
  have hl:=RepL.length _ _ r;by_cases z:ds.length<=1000000
  ·rw [if_pos z] at hd;exact ⟨by rw [hl];exact line6 z,λp hp'=>hd p vs _ (s1.trans (dP hp')) (s1.free hp') cR (RepL.mono (dP hp') _ _ r)⟩
  ·rw [if_neg z] at hd;exact hd.elim⟩
@[simp] def mJ:D->D->Out D
 | .int i,.int j=>.ok (.int (i+j))
 | .str x,.str y=>if x.length+y.length<=1000000 then .ok (.str (x++y)) else .bad
 | _,_=>.bad
theorem bG:OpD T X (binaryOp .Add) mJ:=λE=>⟨_,OpR.or WN XJ,λdx dy x y σ H Q rx ry q=>by
 cases dx with
 | int i=>
  cases dy with
  | int j=>exact .inl ⟨i,j,rx,ry,q _ H (Same.refl H) rfl⟩
  | _=>exact q.elim
 | str u=>
  cases dy with
  | str v=>
   have q':Acc T X E σ H (if u.length+v.length<=1000000 then .ok (.str (u++v)) else .bad) (kE T X.K H Q):=q;by_cases z:u.length+v.length<=1000000
   ·rw [if_pos z] at q';exact .inr ⟨u,v,rx,ry,line6 z,q' _ H (Same.refl H) rfl⟩
   ·rw [if_neg z] at q';exact q'.elim
  | _=>exact q.elim
 | _=>first | exact q.elim | (cases dy<;>exact q.elim)⟩
@[simp] def eqS:D->D->Out Bool
 | .int i,.int j=>.ok (decide (i=j))
 | .bl i,.bl j=>.ok (decide (i=j))
 | .str i,.str j=>.ok (decide (i=j))
 | .non,.non=>.ok true
 | _,_=>.bad
@[simp] def bD (neg:Bool) (o:Out Bool):Out D:=o.bind λb=>.ok (.bl (if neg then !b else b))
theorem HU (neg:Bool) (op:CmpOp) (ho:∀E,OpR (X.wish E) (compareOp op) (λx y H Q=>scal x y=true/\Q (.bl (if neg then !decide (x=y) else decide (x=y))) H)):OpD T X (compareOp op) (λa b=>bD neg (eqS a b)):=λE=>⟨_,ho E,λdx dy x y σ H Q rx ry q=>by
 have key:∀(k:Bool),scal x y=true->decide (x=y)=k->eqS dx dy=.ok k->scal x y=true/\Q (.bl (if neg then !decide (x=y) else decide (x=y))) H:=λk h1 h2 h3=>by
  have q':Acc T X E σ H (bD neg (eqS dx dy)) (kE T X.K H Q):=q;rw [h3] at q';refine ⟨h1,?_⟩;rw [h2];exact q' _ H (Same.refl H) rfl
 cases dx with
 | int i=>
  cases dy with
  | int j=>cases rx;cases ry;exact key _ rfl (by simp) rfl
  | _=>exact q.elim
 | bl i=>
  cases dy with
  | bl j=>cases rx;cases ry;exact key _ rfl (by simp) rfl
  | _=>exact q.elim
 | str i=>
  cases dy with
  | str j=>cases rx;cases ry;exact key _ rfl (by simp) rfl
  | _=>exact q.elim
 | non=>
  cases dy with
  | non=>cases rx;cases ry;exact key true rfl (by simp) rfl
  | _=>exact q.elim
 | _=>first | exact q.elim | (cases dy<;>exact q.elim)⟩
theorem hY:OpD T X (compareOp .Eq) (λa b=>bD false (eqS a b)):=HU false .Eq λE=>WU
theorem sN:OpD T X (compareOp .NotEq) (λa b=>bD true (eqS a b)):=HU true .NotEq λE=>WV
theorem oR {c:Str} {t:String} {g:D->Out Bool} {p2:Pos} (hg:Gl X "isinstance") (hm:X.mg "isinstance" = none) (ha:DE T X e fe) (hgc:Gl X c) (hmc:X.mg c=none) (hv:bootBuiltins c=some (.type t)) (hi:jX T X.K (.type t) g)
 (hng:∀d cc,g d≠.exc cc) (hs1:starEach [e,.Name c p2] X.env=(false,eval e X.env)::starEach [.Name c p2] X.env:=by rfl) (hn:c≠"__name__":=by decide) (hd:(c==("__debug__" : Str))=false:=by decide):DE T X (.Call (.Name "isinstance" p) [e,.Name c p2] [] pos) (jJ g fe):=
 HR (cv:=.ty t) (clsv:=.type t) hg hm ha (λE=>FQ (X:=X.wish E) hgc hmc hv rfl hn hd) (λu r=>r) hi hng hs1
@[simp] def sO:D->Out Bool
 | .int _=>.ok true
 | .bl _=>.ok true
 | .non=>.ok false
 | .str _=>.ok false
 | .tup _=>.ok false
 | .lst _=>.ok false
 | _=>.bad
@[simp] def sP:D->Out Bool
 | .bl _=>.ok true
 | .int _=>.ok false
 | .non=>.ok false
 | .str _=>.ok false
 | .tup _=>.ok false
 | .lst _=>.ok false
 | _=>.bad
@[simp] def sQ:D->Out Bool
 | .lst _=>.ok true
 | .bl _=>.ok false
 | .int _=>.ok false
 | .non=>.ok false
 | .str _=>.ok false
 | .tup _=>.ok false
 | _=>.bad
@[simp] def yI:D->Out Bool
 | .tup _=>.ok true
 | .bl _=>.ok false
 | .int _=>.ok false
 | .non=>.ok false
 | .str _=>.ok false
 | .lst _=>.ok false
 | _=>.bad
theorem HV {K:PySem.W.Frag}:jX T K (.type "int") sO:=λd b h=>by
 cases d<;>first | (cases h;exact ⟨(by with_unfolding_all rfl),(λ_ _ z=>by cases z),(λ_ z=>by cases z)⟩) | (cases h)
theorem HW {K:PySem.W.Frag}:jX T K (.type "bool") sP:=λd b h=>by
 cases d<;>first | (cases h;exact ⟨(by with_unfolding_all rfl),(λ_ _ z=>by cases z),(λ_ z=>by cases z)⟩) | (cases h)
theorem g6 {K:PySem.W.Frag}:jX T K (.type "list") sQ:=λd b h=>by
 cases d<;>first | (cases h;exact ⟨(by with_unfolding_all rfl),(λ_ _ z=>by cases z),(λ_ z=>by cases z)⟩) | (cases h)
theorem g7 {K:PySem.W.Frag}:jX T K (.type "tuple") yI:=λd b h=>by
 cases d<;>first | (cases h;exact ⟨(by with_unfolding_all rfl),(λ_ _ z=>by cases z),(λ_ z=>by cases z)⟩) | (cases h)
theorem HX (d:D) (c:Nat):sO d≠.exc c:=by cases d<;>(intro h;cases h)
theorem HY (d:D) (c:Nat):sP d≠.exc c:=by cases d<;>(intro h;cases h)
theorem g8 (d:D) (c:Nat):sQ d≠.exc c:=by cases d<;>(intro h;cases h)
theorem g9 (d:D) (c:Nat):yI d≠.exc c:=by cases d<;>(intro h;cases h)
end
theorem HZ {a:Int} (h:a.natAbs.log2 < 1920):(Str.ofString (toString a)).length<=1921:=by
 have e:=int_text_length_le (k:=1920) (by decide) h;rw [PySem.ofString_length];exact e
@[simp] def fP:D->Out Str
 | .int i=>if i.natAbs.log2 < 1920 then .ok (toString i) else .bad
 | .str x=>if x.length<=200000 then .ok x else .bad
 | _=>.bad
@[simp] def oT:D->Out Str
 | .int i=>if i.natAbs.log2 < 1920 then .ok (toString i) else .bad
 | .str x=>if (reprText x).length<=200000 then .ok (reprText x) else .bad
 | _=>.bad
section
variable {T:Tb} {X:Cx} {e v:Expr} {es:List Expr} {pos p:Pos} {fe:Ev} {fs:Ro->Option (List Str)}
theorem j0 {M:Program} {w:World} {A:Around} {E:Value->Shared->Prop} {vA:List (Addr×Obj)} {σ:L2.St} {H:Hp} {s:Shared} {d:D} {x:V} {u:Value} {y:Str} {Q:Value->Shared->Prop} (r:Rep T X.K H d x) (rv:RelV x u) (e:fP d=.ok y) (k:∀t tk,y.length<=200000->Q (.str y t) { s with toks:=tk }) :
 wpAny (model M w) A (formatField u Str.empty) Q E s:=by
 cases d with
 | int i=>
  obtain rfl:x=V.int i:=r;obtain ⟨t,rfl⟩:=rv;have e':(if i.natAbs.log2 < 1920 then Out.ok (toString i:Str) else .bad)=.ok y:=e;by_cases z:i.natAbs.log2 < 1920
  ·rw [if_pos z] at e';cases e';exact formatField_int_small z (k _ _ (by have:=HZ z;omega))
  ·rw [if_neg z] at e';cases e'
 | str z=>
  obtain rfl:x=V.str z:=r;obtain ⟨t,rfl⟩:=rv;have e':(if z.length<=200000 then Out.ok z else .bad)=.ok y:=e;by_cases h:z.length<=200000
  ·rw [if_pos h] at e';cases e';exact formatField_str (λt' tk=>k t' tk h) (by rw [sizeLine_eq];omega)
  ·rw [if_neg h] at e';cases e'
 | _=>cases e
theorem j1 {M:Program} {w:World} {A:Around} {E:Value->Shared->Prop} {σ:L2.St} {H:Hp} {s:Shared} {d:D} {x:V} {u:Value} {y:Str} {Q:Value->Shared->Prop} (r:Rep T X.K H d x) (rv:RelV x u) (e:oT d=.ok y) (k:∀t tk,y.length<=200000->Q (.str y t) { s with toks:=tk }) :
 wpAny (model M w) A (pyReprObj u) (λr s₂=>wpAny (model M w) A (formatField r Str.empty) Q E s₂) E s:=by
 have fin:∀(y:Str) (t:Tok) (tk:Nat),y.length<=200000->(∀t tk,y.length<=200000->Q (.str y t) { s with toks:=tk })->wpAny (model M w) A (formatField (.str y t) Str.empty) Q E { s with toks:=tk }:=λy t tk hy k=>formatField_str (λt' tk'=>k t' tk' hy) (by rw [sizeLine_eq];omega)
 cases d with
 | int i=>
  obtain rfl:x=V.int i:=r;obtain ⟨t,rfl⟩:=rv;have e':(if i.natAbs.log2 < 1920 then Out.ok (toString i:Str) else .bad)=.ok y:=e;by_cases z:i.natAbs.log2 < 1920
  ·rw [if_pos z] at e';cases e';exact pyReprObj_int z (fin _ _ _ (by have:=HZ z;omega) k)
  ·rw [if_neg z] at e';cases e'
 | str z=>
  obtain rfl:x=V.str z:=r;obtain ⟨t,rfl⟩:=rv;have e':(if (reprText z).length<=200000 then Out.ok (reprText z) else .bad)=.ok y:=e;by_cases h:(reprText z).length<=200000
  ·rw [if_pos h] at e';cases e';exact pyReprObj_str (fin _ _ _ h k) (by rw [sizeLine_eq];omega)
  ·rw [if_neg h] at e';cases e'
 | _=>cases e
structure DJ (T:Tb) (X:Cx) (es:List Expr) (f:Ro->Option (List Str)):Prop where
 mk ::
 run:∀(G:Hp) (E:Value->Shared->Prop),PassesOwn (model X.prog X.w) X.A X.env E->∀(vA:List (Addr×Obj)) (s:Shared) (σ:L2.St) (H:Hp) (vJ:Str) (Q:Str->Shared->Prop),Inv (X.wish E) vA σ H s ->
 (∃ρ xs,FR T X.K G H σ ρ/\f ρ=some xs/\vJ.length+200000*xs.length<=sizeLine/\∀H' s',Same H H'->Inv (X.wish E) vA σ H' s'->(xs.foldl (·++·) vJ).length<=vJ.length+200000*xs.length->Q (xs.foldl (·++·) vJ) s') ->
 Joins (model X.prog X.w) X.A E (evalEach es X.env) vJ Q s
@[simp] def jN0 (ρ:Ro):Option (List Str):=some []
@[simp] def fI (x:Str) (fs:Ro->Option (List Str)) (ρ:Ro):Option (List Str):=if x.length<=200000 then (match fs ρ with | some xs=>some (x::xs) | none=>none) else none
@[simp] def dW (g:D->Out Str) (fe:Ev) (fs:Ro->Option (List Str)) (ρ:Ro):Option (List Str):=match (fe ρ).bind g with
 | .ok x=>(match fs ρ with | some xs=>some (x::xs) | none=>none)
 | _=>none
theorem jK:DJ T X [] jN0:=.mk λG E hp vA s σ H vJ Q I ⟨ρ,xs,fr,e,_,h⟩=>by
 cases e;exact h H s (Same.refl H) I (by simp)
theorem sR {G:Hp} {E:Value->Shared->Prop} (hp:PassesOwn (model X.prog X.w) X.A X.env E) {vA:List (Addr×Obj)} {s:Shared} {σ:L2.St} {H H1:Hp} {vJ x:Str} {Q:Str->Shared->Prop} {t:Tok} {ρ:Ro} {xs:List Str} (hr:DJ T X es fs) (I:Inv (X.wish E) vA σ H1 s) (fr:FR T X.K G H1 σ ρ) (s1:Same H H1) (hx:x.length<=200000)
 (ef:fs ρ=some xs) (z:vJ.length+200000*(x::xs).length<=sizeLine) (k:∀H' s',Same H H'->Inv (X.wish E) vA σ H' s'->((x::xs).foldl (·++·) vJ).length<=vJ.length+200000*(x::xs).length->Q ((x::xs).foldl (·++·) vJ) s') :
 ∃y t',(Value.str x t)=.str y t'/\(vJ++y).length<=sizeLine/\Joins (model X.prog X.w) X.A E (evalEach es X.env) (vJ++y) Q s:=by
 have hl:(vJ++x).length=vJ.length+x.length:=strLen_append vJ x;rw [List.length_cons] at z k;refine ⟨x,t,rfl,by rw [hl];omega,hr.run G E hp vA s σ H1 (vJ++x) Q I ⟨ρ,xs,fr,ef,by rw [hl];omega,λH' s' s2 I' hz=>?_⟩⟩;have hz':(List.foldl (·++·) vJ (x::xs)).length<=vJ.length+200000*(xs.length+1):=by
  rw [List.foldl_cons];rw [hl] at hz;omega
 exact k H' s' (s1.trans s2) I' hz'
theorem gB {x:Str} {j:Nat} (hr:DJ T X es fs):DJ T X (.Constant (.str x) j pos::es) (fI x fs):=.mk λG E hp vA s σ H vJ Q I ⟨ρ,ys,fr,e,z,k⟩=>by
 simp only [fI] at e;by_cases hx:x.length<=200000
 ·rw [if_pos hx] at e;cases ef:fs ρ with
  | none=>rw [ef] at e;cases e
  | some xs=>
   rw [ef] at e;cases e;exact Calls.Constant_str (sR hp hr (I.tok _) fr (Same.refl H) hx ef z k)
 ·rw [if_neg hx] at e;cases e
theorem IA {g:D->Out Str} {ρ:Ro} {ys:List Str} (e:dW g fe fs ρ=some ys):∃d x xs,fe ρ=.ok d/\g d=.ok x/\fs ρ=some xs/\ys=x::xs:=by
 simp only [dW] at e;cases ed:fe ρ with
 | ok d=>
  rw [ed] at e;cases eg:g d with
  | ok x=>
   simp only [Out.ok_bind,eg] at e;cases ef:fs ρ with
   | some xs=>rw [ef] at e;cases e;exact ⟨d,x,xs,rfl,eg,rfl,rfl⟩
   | none=>rw [ef] at e;cases e
  | exc c=>simp only [Out.ok_bind,eg] at e;cases e
  | bad=>simp only [Out.ok_bind,eg] at e;cases e
 | exc c=>rw [ed] at e;cases e
 | bad=>rw [ed] at e;cases e
theorem gN (he:DE T X v fe) (hr:DJ T X es fs):DJ T X (.FormattedValue v (-1) none pos::es) (dW fP fe fs):=.mk λG E hp vA s σ H vJ Q I ⟨ρ,ys,fr,e,z,k⟩=>by
 obtain ⟨d,x,xs,ed,eg,ef,rfl⟩:=IA e;refine FormattedValue_plain (thn (he.run G E hp vA s σ H (λw H1=>Same H H1/\Rep T X.K H1 d w) I ⟨ρ,fr,?_⟩) λu s1 ⟨w,H1,I1,rv,sm,rd⟩=>?_)
 ·rw [ed];exact λw H1 sm rd=>⟨sm,rd⟩
 ·exact j0 (X:=X) (vA:=vA) (σ:=σ) rd rv eg λt tk hx=>sR hp hr (I1.tok _) (fr.mono sm) sm hx ef z k
theorem yJ (he:DE T X v fe) (hr:DJ T X es fs):DJ T X (.FormattedValue v 114 none pos::es) (dW oT fe fs):=.mk λG E hp vA s σ H vJ Q I ⟨ρ,ys,fr,e,z,k⟩=>by
 obtain ⟨d,x,xs,ed,eg,ef,rfl⟩:=IA e;refine wpAny_FormattedValue_repr (thn (he.run G E hp vA s σ H (λw H1=>Same H H1/\Rep T X.K H1 d w) I ⟨ρ,fr,?_⟩) λu s1 ⟨w,H1,I1,rv,sm,rd⟩=>?_)
 ·rw [ed];exact λw H1 sm rd=>⟨sm,rd⟩
 ·exact j1 (X:=X) (σ:=σ) rd rv eg λt tk hx=>sR hp hr (I1.tok _) (fr.mono sm) sm hx ef z k
@[simp] def eJ (fs:Ro->Option (List Str)) (ρ:Ro):Out D:=match fs ρ with
 | some xs=>if xs.length<=20 then .ok (.str (xs.foldl (·++·) Str.empty)) else .bad
 | none=>.bad
theorem jL {v1 v2:Expr} (h:DJ T X (v1::v2::es) fs):DE T X (.JoinedStr (v1::v2::es) pos) (eJ fs):=.mk λG E hp=>by
 rintro vA s σ H Q I ⟨ρ,fr,q⟩;simp only [eJ] at q;cases ef:fs ρ with
 | none=>rw [ef] at q;exact q.elim
 | some xs=>
  rw [ef] at q;by_cases hx:xs.length<=20
  ·simp only [if_pos hx] at q;refine wpAny_JoinedStr (h.run G E hp vA s σ H Str.empty _ I ⟨ρ,xs,fr,ef,by rw [sizeLine_eq];show 0+_<=_;omega,λH' s' sm I' hz=>⟨?_,?_⟩⟩)
   ·have z0:Str.empty.length=0:=rfl;rw [sizeLine_eq];omega
   ·exact ⟨.str _,H',I'.tok _,⟨_,rfl⟩,q _ H' sm rfl⟩
  ·simp only [if_neg hx] at q;exact q.elim
@[simp] def j2 (fe:Ev) (ρ:Ro):Out D:=(fe ρ).bind λd=>match d with
 | .int i=>.ok (.int (-i))
 | _=>.bad
theorem IB (he:DE T X e fe):DE T X (.UnaryOp .USub e pos) (j2 fe):=.mk λG E hp=>
 PE.imp (WJ (X:=X.wish E) WT (he.run G E hp)) fun σ H Q ⟨ρ,fr,q⟩=>⟨ρ,fr,Acc.mono (Acc.bind q) λd _ hd v H1 s1 r=>by
  cases d with
  | int i=>exact ⟨i,r,hd _ H1 s1 rfl⟩
  | _=>exact hd.elim⟩
end
abbrev IC:List Value:=[.type "ValueError",.type "Exception",.type "BaseException",.type "object"]
def gC (K:PySem.W.Frag) (C:Addr):Prop:=PySem.W.excIn K C IC "ValueError.__new__" = true
theorem j3 {K:PySem.W.Frag} {h:Heap} {C:Addr} (X:K.In h) (q:gC K C) :
 ∃bm N nm qn bs hd sn sub ab col dd k0 k1 k2 k3 k5 mN,h.get? C=some (excClassObj nm qn C N bs bm hd sn sub ab col dd k0 k1 k2 k3 k5 "ValueError.__new__")/\h.Ns N mN/\mN "__init__" = none/\OwnTail h IC bm:=by
 have q2:=q;unfold gC PySem.W.excIn at q2
 split at q2
 ·rename_i dd cd sl lk
  split at q2
  ·rename_i C2 bm k0 k1 k2 k3 n k5 em es
   simp only [Bool.and_eq_true,beq_iff_eq,Bool.not_eq_true'] at q2;obtain ⟨⟨⟨⟨⟨eC,en⟩,nd⟩,tl⟩,okN⟩,ni⟩:=q2;subst eC en;cases cd with
   | mk nm bs mro ns qn hd sn sub ab col del=>
    simp only at em nd okN ni;subst em nd;have e3:sl=#[k0,k1,k2,k3,some (.builtin "ValueError.__new__"),k5]:=Array.toList_inj.mp es;subst e3;exact ⟨bm,ns,nm,qn,bs,hd,sn,sub,ab,col,dd,k0,k1,k2,k3,k5,_,X _ _ lk,.of_isNs (PySem.W.isNs_of_in X okN),PySem.W.nsMap_none_of_in X okN ni,PySem.W.tail_of_in X tl⟩
  ·cases q2
 ·cases q2
theorem yK {X:Cx} {vA:List (Addr×Obj)} {σ:L2.St} {H:Hp} {s:Shared} (I:Inv X vA σ H s) {b:Addr} (hb:s.heap.get? b=none):Free X vA b:=by
 refine ⟨?_,λz=>?_,λx cc e z=>?_,λq hq z=>?_⟩
 ·by_cases hx:b∈X.ex
  ·exact .inl hx
  ·refine .inr ?_;cases q:X.s₀.heap.get? b with
   | none=>rfl
   | some o=>
    obtain ⟨o',e⟩:=I.base.there b o q hx;rw [hb] at e;cases e
 ·obtain ⟨m,⟨o,_,_,ho,_⟩,_⟩:=I.loc;rw [<-z,hb] at ho;cases ho
 ·obtain ⟨v,o,ho,_⟩:=I.cell x cc e;rw [z,hb] at ho;cases ho
 ·obtain ⟨e,_⟩:=I.pin q hq;rw [z,hb] at e;cases e
section
variable {T:Tb} {ib:Bool} {X:Cx} {e:Expr} {es:List Expr} {pos np cpos:Pos} {fe:Ev} {fs:Ro->Out (List D)} {x:Str} {c:Nat}
@[simp] def gZ (c:Nat) (fs:Ro->Out (List D)) (ρ:Ro):Fl:=(fs ρ).fl ρ λ_=>.exc c ρ
theorem iA (hc:X.calm=true) (hx:gC X.K (T.ca c)) (hg:Gl X x) (hm:X.mg x=some (.ref (T.ca c))) (ha:DA T X (e::es) fs) (hsh:∀ρ ds,fs ρ=.ok ds->ds.length<=1000) (hdb:(x==("__debug__" : Str))=false:=by decide)
 (he:starEach (e::es) X.env=(false,eval e X.env)::starEach es X.env:=by exact cM rfl) (hpl:(backTo cpos (starEach (e::es) X.env)).any (·.1)=false:=by exact dL rfl):DS T ib X (.Raise (some (.Call (.Name x np) (e::es) [] cpos)) none pos) (gZ c fs):=.mk λG E hp=>by
 rintro vA s σ H D I ⟨ρ,fr,h⟩;have IX:Inv X vA σ H s:=I.unwish;obtain ⟨bm,N,nm,qn,bs,hd,sn,sub,ab,col,dd,k0,k1,k2,k3,k5,mN,hC,hN,hni,TL⟩:=j3 I.ok.mod.kin hx;refine wpAny_Raise_call_subU (C:=T.ca c) (nm:=nm) (q:=qn) (N:=N) (bs:=bs) (bm:=bm) (hdct:=hd) (sn:=sn) (sub:=sub) (ab:=ab) (col:=col) (dd:=dd) (k0:=k0) (k1:=k1) (k2:=k2) (k3:=k3) (k5:=k5)
  PySem.F.excBase_ValueError (by decide) PySem.F.excBase_ValueError (mN:=mN) (TL.hasType (by decide)) (I.ok.hd hc) hpl hni (oE (X:=X.wish E) I hg hm ⟨rfl,?_⟩ hdb)
 have hA:=ha.run G E hp cpos vA s σ H (λvs H1=>∃ds,fs ρ=.ok ds/\Same H H1/\vs.length=ds.length) I ⟨ρ,fr,Acc.mono (AccS.fl fr h) λds e1 _ vs H1 s1 r=>⟨ds,e1,s1,RepL.length _ _ r⟩⟩;rw [he] at hA ⊢;refine Calls.evalArgs_plain (thn hA λus s1 ⟨vs,H1,I1,rv,ds,e1,sm,hl⟩=>?_);have I1X:Inv X vA σ H1 s1:=I1.unwish;have hlen:us.length<=sizeLine:=by
  have:=hsh ρ ds e1;rw [<-rv.length,hl,sizeLine_eq];omega
 refine ⟨rfl,hlen,I1X.bk _ _ hC,hN.keeps I1X.bk,TL.keeps I1X.bk,λh' ea hm'=>?_⟩;have h2:=AccS.fl fr h;rw [e1] at h2;refine h2 σ H fr (Pers.refl H) vA { s1 with heap:=h' } (.ref ea) H1 (I1X.kept (t':=s1.toks) hm'.keeps) sm ⟨ea,rfl,?_,yK I1X hm'.new,?_,?_⟩
 ·cases q:H1 ea with
  | none=>rfl
  | some o=>
   obtain ⟨u,eu⟩:=xZ (I1X.hok ea o q);rw [hm'.new] at eu;cases eu
 ·obtain ⟨t,ht,_⟩:=hm'.there;exact ⟨_,_,ht,rfl,rfl,rfl⟩
 ·obtain ⟨t,ht,_⟩:=hm'.there;exact ⟨_,_,_,ht,rfl,rfl,rfl,.inl rfl⟩
end
theorem j4 {X:Cx} {vA:List (Addr×Obj)} {σ:L2.St} {H H':Hp} {s:Shared} {h':Heap} {g':Array GenState} {t':Nat} {d':Drawn} {ch:List Addr} (I:Inv X vA σ H s)
 (hch:∀b∈ch,Free X vA b)
 (keep:∀b o,b≠X.env.locals->b∉X.fs->b∉ch->s.heap.get? b=some o->H b=none->h'.get? b=some o)
 (slot:∀b o,b≠X.env.locals->b∈X.fs->b∉ch->s.heap.get? b=some o->H b=none->∃sl,h'.get? b=some { o with slots:=sl }) (free:∀b o,b∉ch->s.heap.get? b=some o->H b=none->H' b=none)
 (there:∀b o,b∉ch->s.heap.get? b=some o->∃o',h'.get? b=some o')
 (tups:∀b xs,H b=some (.tup xs)->H' b=some (.tup xs)) (frzs:∀b o u,H b=some (.frz o u)->H' b=some (.frz o u)) (tbls:∀b ps,H b=some (.tbl ps)->∃more,H' b=some (.tbl (ps++more)))
 (ns:∀m,s.heap.Ns X.env.locals m->h'.Ns X.env.locals m) (hok:HOk X.prog X.w H' h') (hg:AllBare g') :
 Inv X vA σ H' { s with heap:=h',gens:=g',drawn:=d',toks:=t' }:=by
 have neL:∀b o,X.s₀.heap.get? b=some o->b≠X.env.locals:=λb o e=>Nat.ne_of_lt (Nat.lt_of_lt_of_le (Heap.lt_size e) I.ok.above)
 have neC:∀b o,X.s₀.heap.get? b=some o->b∉X.ex->b∉ch:=λb o e hx hb=>by
  rcases (hch b hb).1 with z | z
  ·exact hx z
  ·rw [e] at z;cases z
 have cellK:∀x c,X.env.cells.lookup x=some c->∀v,s.heap.IsCell c v->h'.IsCell c v:=λx c e v ⟨o,ho,hd⟩=>by
  have nch:c∉ch:=λz=>(hch c z).2.2.1 x c e rfl
  by_cases hc:c∈X.fs
  ·obtain ⟨sl,q⟩:=slot c o (I.cne x c e) hc nch ho (I.freeC x c e);exact ⟨_,q,hd⟩
  ·exact ⟨o,keep c o (I.cne x c e) hc nch ho (I.freeC x c e),hd⟩
 refine ⟨I.ok,I.os,hg,⟨λb o e n hb hx=>?_,λb o e n hb hx=>?_,λb o e n hx=>?_,λb o e hx=>?_,λb xs e=>tups b xs (I.base.tups b xs e),λb o xs e=>frzs b o xs (I.base.frzs b o xs e),λb ps e=>?_⟩,?_,λx c e=>?_,?_,λx c e=>?_,λp hp=>?_,hok,I.len⟩
 ·exact keep b o (neL b o e) hb (neC b o e hx) (I.base.keep b o e n hb hx) (I.base.free b o e n hx)
 ·obtain ⟨sl,e1⟩:=I.base.slot b o e n hb hx;obtain ⟨sl',e2⟩:=slot b _ (neL b o e) hb (neC b o e hx) e1 (I.base.free b o e n hx);exact ⟨sl',e2⟩
 ·obtain ⟨o',e1⟩:=I.base.there b o e hx;exact free b o' (neC b o e hx) e1 (I.base.free b o e n hx)
 ·obtain ⟨o',e1⟩:=I.base.there b o e hx;exact there b o' (neC b o e hx) e1
 ·obtain ⟨m1,e1⟩:=I.base.tbls b ps e;obtain ⟨m2,e2⟩:=tbls b _ e1;exact ⟨m1++m2,by rw [e2,Array.append_assoc]⟩
 ·obtain ⟨m,hn,hl⟩:=I.loc;refine ⟨m,ns m hn,λi x v e1 e2 e3=>?_⟩;obtain ⟨u,r,l⟩:=hl i x v e1 e2 e3;refine ⟨u,r,?_⟩;rcases l with l | ⟨k,c,e,z⟩
  ·exact .inl l
  ·exact .inr ⟨k,c,e,cellK x c e _ z⟩
 ·obtain ⟨v,z⟩:=I.cell x c e;exact ⟨v,cellK x c e v z⟩
 ·obtain ⟨m,⟨o,_,_,ho,_⟩,_⟩:=I.loc;exact free _ o (λz=>(hch _ z).2.1 rfl) ho I.free
 ·obtain ⟨v,o,ho,hd⟩:=I.cell x c e;exact free c o (λz=>(hch c z).2.2.1 x c e rfl) ho (I.freeC x c e)
 ·obtain ⟨e,n,ne,nf,d⟩:=I.pin p hp;have nch:p.1∉ch:=λz=>(hch p.1 z).2.2.2 p hp rfl
  exact ⟨keep p.1 p.2 ne nf nch e n,free p.1 p.2 nch e n,ne,nf,d⟩
section
variable {T:Tb} {ib:Bool} {X:Cx} {vA:List (Addr×Obj)} {σ:L2.St} {H:Hp} {s:Shared} {c:Nat} {u:Value}
theorem ID {L ch:List Addr} {h':Heap} (I:Inv X vA σ H s) (kb:∀b o,s.heap.get? b=some o->b∉L->h'.get? b=some o) (up:s.heap.UpToSlots h') (hch:∀b∈ch,Free X vA b/\H b=none) (hL:∀b∈L,b∈ch∨b∈frs X.stack):Inv X vA σ H { s with heap:=h' }:=by
 have nofl:∀b∈frs X.stack,∀o,s.heap.get? b=some o->∀vs,o.data≠.fields vs:=λb hb o e=>by
  obtain ⟨_,o',e',d⟩:=I.stack.mem hb;rw [e] at e';cases e';exact d
 have hok:HOk X.prog X.w H h':=HE I ⟨kb,up⟩ λb hb=>by
  rcases hL b hb with z | z
  ·exact (hch b z).2
  ·exact I.stkFree b z
 exact j4 (g':=s.gens) (d':=s.drawn) (t':=s.toks) (ch:=ch) I (λb hb=>(hch b hb).1)
  (λb o n1 n2 n3 e _=>kb b o e λhm=>by
   rcases hL b hm with z | z
   ·exact n3 z
   ·exact (List.mem_cons.mp (I.stkSub b z)).elim n1 n2)
  (λb o _ hb n3 e n=>by
   by_cases hm:b∈L
   ·rcases hL b hm with z | z
    ·exact absurd z n3
    ·exact up b o e (nofl b z o e)
   ·exact ⟨o.slots,kb b o e hm⟩)
  (λ_ _ _ _ n=>n)
  (λb o n3 e=>by
   by_cases hm:b∈L
   ·rcases hL b hm with z | z
    ·exact absurd z n3
    ·obtain ⟨sl,q⟩:=up b o e (nofl b z o e);exact ⟨_,q⟩
   ·exact ⟨o,kb b o e hm⟩)
  (λ_ _ e=>e) (λ_ _ _ e=>e) (λb ps e=>⟨#[],by rw [e];simp⟩) (λm hm=>up.ns hm) hok I.bare
def Landed (T:Tb) (X:Cx) (vA:List (Addr×Obj)) (c:Nat) (ea:Addr) (H:Hp) (h:Heap):Prop:=
 H ea=none/\Free X vA ea/\Nc ea h/\∃(B:Heap) (a0:Value) (L ch:List Addr),Heap.FlyingW B X.stack ea (.ref (T.ca c)) a0 h/\(∀b o,h.get? b=some o->b∉L->B.get? b=some o)/\(∀b∈ch,Free X vA b/\H b=none)/\(∀b∈L,b∈ch∨b∈frs X.stack)
theorem j5 {B h h':Heap} {L ch:List Addr} {ea:Addr} {a0 fl:Value} (I:Inv X vA σ H s) (hn:H ea=none) (fe:Free X vA ea) (hst:X.stack=X.env::X.outer) (hB:B=PySem.W.hideAll s.heap L) (hch:∀b∈ch,Free X vA b/\H b=none) (hL:∀b∈L,b∈ch∨b∈frs X.stack) (hea:ea∈L)
 (fly:Heap.FlyingW B X.stack ea (.ref (T.ca c)) a0 h') (up:s.heap.UpToSlots h') (nc:Nc ea h'):Inv X vA σ H { s with heap:=h' }/\Landed T X vA c ea H h':=by
 subst hB;have kb:∀b o,s.heap.get? b=some o->b∉L->h'.get? b=some o:=λb o e n=>fly.1 b o (PySem.W.hideAll_get _ e n)
 have I':=ID I kb up hch hL;refine ⟨I',hn,fe,nc,?_⟩;obtain ⟨f1,f2,f3,f4⟩:=id fly;obtain ⟨oe,vs,tb,ot,ts,he,hc,hd,h1,hnT,hTe,hT,hdT,h3⟩:=id f4;have notfr:tb∉frs X.stack:=λhm=>by
  obtain ⟨_,o,e,d⟩:=f3.mem hm;rw [hT] at e;cases e;exact d ts hdT
 have ftb:Free X vA tb/\H tb=none:=by
  cases q:s.heap.get? tb with
  | none=>
   refine ⟨yK I q,?_⟩;cases z:H tb with
   | none=>rfl
   | some o=>
    obtain ⟨w,ew⟩:=xZ (I.hok tb o z);rw [q] at ew;cases ew
  | some o=>
   have hm:tb∈L:=Classical.byContradiction λn=>by
    rw [PySem.W.hideAll_get _ q n] at hnT;cases hnT
   rcases hL tb hm with z | z
   ·exact hch tb z
   ·exact absurd z notfr
 refine ⟨PySem.W.hideAll h' (ea::tb::frs X.stack),a0,ea::tb::frs X.stack,[ea,tb],⟨λb o q=>PySem.W.of_hideAll _ q,PySem.W.hideAll_none _ List.mem_cons_self,?_,oe,vs,tb,ot,ts,he,hc,hd,h1,PySem.W.hideAll_none _ (by simp),hTe,hT,hdT,h3⟩,λb o e n=>PySem.W.hideAll_get _ e n,λb hb=>?_,λb hb=>?_⟩
 ·exact PySem.W.funFrames_hide f3 λenv he b hb=>List.mem_cons_of_mem _ (List.mem_cons_of_mem _ (List.mem_filterMap.mpr ⟨env,he,hb⟩))
 ·rcases List.mem_cons.mp hb with z | z
  ·rw [z];exact ⟨fe,hn⟩
  ·rw [List.mem_singleton.mp z];exact ftb
 ·rcases List.mem_cons.mp hb with z | z
  ·exact .inl (by simp [z])
  ·rcases List.mem_cons.mp z with z | z
   ·exact .inl (by simp [z])
   ·exact .inr z
theorem j6 {E:Value->Shared->Prop} {P:Shared->Prop} (I:Inv X vA σ H s) (hst:X.stack=X.env::X.outer) (hf:X.env.frame=some X.env.locals) (fl:Flying T X vA c u H s)
 (k:∀ea h',u=.ref ea->Inv X vA σ H { s with heap:=h' }->Landed T X vA c ea H h'->P { s with heap:=h' }) :
 wpAny (model X.prog X.w) X.A (noteFrame u X.env) (λ_ s₂=>wpAny (model X.prog X.w) X.A (setFlight u none) (λ_ s₃=>P s₃) E s₂) E s:=by
 obtain ⟨ea,rfl,hn,fe,nc,oe,vs,a0,he,hc,hd,h0,h1⟩:=fl;refine wpAny_mono (Kp.any (Q:=λ_ s₂=>Nc ea s₂.heap->wpAny (model X.prog X.w) X.A (setFlight (.ref ea) none) (λ_ s₃=>P s₃) E s₂) (E:=E) Nc.push GX nc ?_) (λ_ _ z=>z.1 z.2) λ_ _ z=>z.1
 have hfr:X.A.frames=some (X.env::X.outer):=by rw [I.ok.frames,hst]
 have FF:s.heap.FunFrames X.base (X.env::X.outer):=by rw [<-hst];exact I.stack
 have infr:∀(L:List Addr),(∀b∈frs X.stack,b∈L)->s.heap.FunFrames (PySem.W.hideAll s.heap L) (X.env::X.outer):=λL hL=>PySem.W.funFrames_hide FF λenv he b hb=>hL b (by
  rw [hst];exact List.mem_filterMap.mpr ⟨env,he,hb⟩)
 have fin:∀(L ch:List Addr),ea∈L->(∀b∈ch,Free X vA b/\H b=none)->(∀b∈L,b∈ch∨b∈frs X.stack)->∀h',Heap.NotedW (PySem.W.hideAll s.heap L) (X.env::X.outer) ea (.ref (T.ca c)) a0 (rawInt X.env.locals) s.heap h'->Nc ea h' ->
  wpAny (model X.prog X.w) X.A (setFlight (.ref ea) none) (λ_ s₃=>P s₃) E { s with heap:=h' }:=λL ch hea hch hL h' ⟨k1,k2,k3,k4⟩ nc1=>by
  refine wpAny_mono (Kp.any (Q:=λ_ s₂=>Nc ea s₂.heap->P s₂) (E:=E) Nc.push xT nc1 ?_) (λ_ _ z=>z.1 z.2) λ_ _ z=>z.1
  refine wpAny_setFlight_noneW k1 k2 k3 λh2 m1 m2 m3 m4 nc2=>?_
  have fly:Heap.FlyingW (PySem.W.hideAll s.heap L) X.stack ea (.ref (T.ca c)) a0 h2:=⟨m1,PySem.W.hideAll_none _ hea,by rw [hst];exact m2,m3⟩
  have up:s.heap.UpToSlots h2:=λb o e nd=>by
   obtain ⟨sl,e1⟩:=k4 b o e nd;exact ⟨sl,m4 b _ e1 nd⟩
  obtain ⟨I2,ld⟩:=j5 (fl:=.none) (h:=h') I hn fe hst rfl hch hL hea fly up nc2;exact k ea h2 rfl I2 ld
 rcases h1 with h1 | ⟨tb,ot,ts,h1,hne,ht,hdt,h3,hnt,ft⟩
 ·have hsz:1 < vs.size:=(Array.getElem?_eq_some_iff.mp h1).1;unfold noteFrame;simp only [hf];refine wpAny_bind (wpAny_field he hd h1 ?_);rw [if_neg (by decide)];refine wpAny_entryW (base:=PySem.W.hideAll s.heap (ea::frs X.stack)) hfr (infr _ λb hb=>List.mem_cons_of_mem _ hb) hf he (λb o q=>PySem.W.of_hideAll _ q) (PySem.W.hideAll_none _ List.mem_cons_self) hd hsz h0 λh' nw=>?_
  rw [hc] at nw;refine fin (ea::frs X.stack) [ea] List.mem_cons_self (λb hb=>?_) (λb hb=>?_) h' nw
  ·rw [List.mem_singleton.mp hb];exact ⟨fe,hn⟩
  ·rcases List.mem_cons.mp hb with z | z
   ·exact .inl (by simp [z])
   ·exact .inr z
 ·refine wpAny_noteFrame_onW (base:=PySem.W.hideAll s.heap (ea::tb::frs X.stack)) (cls:=.ref (T.ca c)) (a0:=a0) hfr (infr _ λb hb=>List.mem_cons_of_mem _ (List.mem_cons_of_mem _ hb)) hf ⟨oe,vs,tb,ot,ts,he,⟨hc,h0⟩,hd,h1,PySem.W.hideAll_none _ (by simp),hne,ht,hdt,h3⟩ (λb o q=>PySem.W.of_hideAll _ q) (PySem.W.hideAll_none _ List.mem_cons_self) λh' nw=>?_
  refine fin (ea::tb::frs X.stack) [ea,tb] List.mem_cons_self (λb hb=>?_) (λb hb=>?_) h' nw
  ·rcases List.mem_cons.mp hb with z | z
   ·rw [z];exact ⟨fe,hn⟩
   ·rw [List.mem_singleton.mp z];exact ⟨ft,hnt⟩
  ·rcases List.mem_cons.mp hb with z | z
   ·exact .inl (by simp [z])
   ·rcases List.mem_cons.mp z with z | z
    ·exact .inl (by simp [z])
    ·exact .inr z
end
abbrev mk (X:Cx) (u:Value):Cx:={ X with A:=X.A.mark (some u),calm:=false }
abbrev pinX (X:Cx) (pn:List (Addr×Obj)):Cx:={ X with pn:=pn }
section
variable {T:Tb} {ib:Bool} {X:Cx} {vA:List (Addr×Obj)} {σ:L2.St} {H:Hp} {s:Shared} {c:Nat} {u:Value}
theorem Inv.mk (I:Inv X vA σ H s) (u:Value):Inv (mk X u) vA σ H s:=
 ⟨⟨I.ok.mod,I.ok.kind,I.ok.glob,I.ok.blt,I.ok.above,I.ok.inj,I.ok.has,I.ok.cab,(λz=>by cases z),I.ok.frames,I.ok.stk,I.ok.exf,I.ok.bs,I.ok.bsz,I.ok.noex,I.ok.exfs,I.ok.funs,I.ok.frf⟩,I.os,I.bare,I.base,I.loc,I.cell,I.free,I.freeC,I.pin,I.hok,I.len⟩
theorem Inv.unmk (ok:X.Ok) {E:Value->Shared->Prop} (I:Inv ((L3.mk X u).wish E) vA σ H s):Inv X vA σ H s:=⟨ok,I.os,I.bare,I.base,I.loc,I.cell,I.free,I.freeC,I.pin,I.hok,I.len⟩
theorem Inv.pinX (I:Inv X vA σ H s):Inv (L3.pinX X (X.pn++vA)) [] σ H s:=
 ⟨⟨I.ok.mod,I.ok.kind,I.ok.glob,I.ok.blt,I.ok.above,I.ok.inj,I.ok.has,I.ok.cab,I.ok.hd,I.ok.frames,I.ok.stk,I.ok.exf,I.ok.bs,I.ok.bsz,I.ok.noex,I.ok.exfs,I.ok.funs,I.ok.frf⟩,I.os,I.bare,I.base,I.loc,I.cell,I.free,I.freeC,λp hp=>I.pin p (by simpa using hp),I.hok,I.len⟩
theorem Inv.unpinX (ok:X.Ok) {pins':List (Addr×Obj)} {E:Value->Shared->Prop} (I:Inv ((L3.pinX X (X.pn++vA)).wish E) pins' σ H s):Inv X vA σ H s:=
 ⟨ok,I.os,I.bare,I.base,I.loc,I.cell,I.free,I.freeC,λp hp=>I.pin p (List.mem_append_left _ hp),I.hok,I.len⟩
@[simp] def IE:Fl->Fl
 | .exc _ _=>.bad
 | o=>o
theorem j7 {G H:Hp} {E E':Value->Shared->Prop} {o:Fl} {D:Ends} (h:AccS T ib X G E H (IE o) D):AccS T ib (L3.mk X u) G E' H o D:=by
 cases o with
 | exc c ρ=>exact h.elim
 | _=>exact h
theorem SP.unmk {E:Value->Shared->Prop} {D:Ends} {f:Flow} {s':Shared} (ok:X.Ok) (h:SP ((L3.mk X u).wish E) vA D f s'):SP X vA D f s':=by
 cases f with
 | next=>obtain ⟨σ',H',I,q⟩:=h;exact ⟨σ',H',Inv.unmk ok I,q⟩
 | brk=>obtain ⟨σ',H',I,q⟩:=h;exact ⟨σ',H',Inv.unmk ok I,q⟩
 | cont=>obtain ⟨σ',H',I,q⟩:=h;exact ⟨σ',H',Inv.unmk ok I,q⟩
 | ret u=>obtain ⟨v,σ',H',I,r,q⟩:=h;exact ⟨v,σ',H',Inv.unmk ok I,r,q⟩
def DH (T:Tb) (ib:Bool) (X:Cx) (hs:List ExceptHandler) (f:Nat->Ro->Fl):Prop:=∀(G:Hp) (E:Value->Shared->Prop) (vA:List (Addr×Obj)) (s:Shared) (σ:L2.St) (H:Hp) (D:Ends) (c:Nat) (ea:Addr),Inv X vA σ H s->Landed T X vA c ea H s.heap ->
 (∃ρ,FR T X.K G H σ ρ/\AccS T ib X G E H (f c ρ) D)->wpAny (model X.prog X.w) X.A (handleBy (.ref ea) X.env hs) (SP X vA D) E s
theorem j8:DH T ib X [] (λ_ _=>.bad):=λG E vA s σ H D c ea I ld ⟨ρ,fr,h⟩=>h.elim
theorem j9 {M:Model} {ea:Addr} {h:Heap} (ld:Landed T X vA c ea H h):PySem.W.Looks M h (typeOf (.ref ea)) (.ref (T.ca c)):=by
 obtain ⟨_,_,_,B,a0,L,ch,fly,_⟩:=ld;obtain ⟨ob,hob,hc⟩:=fly.there;exact hc ▸ (PySem.W.Looks.ld hob).andThen .now
theorem m7 {M:Model} {A:Around} {E:Value->Shared->Prop} {Q:Unit->Shared->Prop} {ea:Addr} (I:Inv X vA σ H s) (ld:Landed T X vA c ea H s.heap) (k:∀h',Inv X vA σ H { s with heap:=h' }->(∃ob,h'.get? ea=some ob/\ob.cls=.ref (T.ca c))->Nc ea h'->Q () { s with heap:=h' }) :
 wpAny M A (setFlight (.ref ea) none) Q E s:=by
 obtain ⟨hn,fe,nc,B,a0,L,ch,fly,hB,hch,hL⟩:=ld;refine wpAny_mono (Kp.any (Q:=λu s₂=>Nc ea s₂.heap->Q u s₂) (E:=E) Nc.push xT nc ?_) (λ_ _ z=>z.1 z.2) λ_ _ z=>z.1
 exact lands_againW fly λh' fly' up nc'=>k h' (ID I (λb o e n=>fly'.1 b o (hB b o e n)) up hch hL) fly'.there nc'
section
variable {x n:Str} {k i:Nat} {m:Nat->Option Bool} {np pos:Pos} {b₀:Stmt} {suite:List Stmt} {hs:List ExceptHandler} {fh:Ro->Fl} {fr':Nat->Ro->Fl}
@[simp] def mK (m:Nat->Option Bool) (fh:Ro->Fl) (fr:Nat->Ro->Fl) (c:Nat) (ρ:Ro):Fl:=match m c with
 | some true=>IE (fh ρ)
 | some false=>fr c ρ
 | none=>.bad
theorem m8 (hg:Gl X x) (hm:X.mg x=some (.ref (T.ca k))) (hdec:∀c b,m c=some b->PySem.W.exmOne X.K (.ref (T.ca c)) (.ref (T.ca k))=some b) (hsu:∀u,DSs T ib (L3.mk X u) (b₀::suite) fh) (hr:DH T ib X hs fr') (hdb:(x==("__debug__" : Str))=false:=by decide) :
 DH T ib X (.ExceptHandler (some (.Name x np)) none (b₀::suite) pos::hs) (mK m fh fr'):=λG E vA s σ H D c ea I ld ⟨ρ,fr,h⟩=>by
 refine wpAny_handleBy_cons (codeAny_handlers_test (oE (X:=L3.mk X (.ref ea)) (Inv.mk I _) hg hm ?_ hdb)) (by intro q;cases q);cases em:m c with
 | none=>
  have h':AccS T ib X G E H (mK m fh fr' c ρ) D:=h;simp only [mK,em] at h';exact h'.elim
 | some b=>
  have h':AccS T ib X G E H (mK m fh fr' c ρ) D:=h;simp only [mK,em] at h';refine PySem.W.exm_one I.kIn (j9 ld) (hdec c b em) _ _ _ _ (λ_ _ z=>z) ?_;cases b with
  | false=>exact hr G E vA s σ H D c ea I ld ⟨ρ,fr,h'⟩
  | true=>
   refine codeAny_handlers_suite (m7 I ld λh2 I2 _ _=>?_);refine wpAny_mono ((hsu (.ref ea)).run G (λ_ _=>False) PassesOwn.never vA _ σ H D ((Inv.mk I2 _).wish _) ⟨ρ,fr,j7 h'⟩) (λf s3 q=>?_) λ_ _ z=>z.elim
   exact SP.unmk I.ok q
end
@[simp] def iP (fb:Ro->Fl) (fh:Nat->Ro->Fl) (ρ:Ro):Fl:=match fb ρ with
 | .exc c ρ'=>fh c ρ'
 | o=>o
theorem m9 {body:List Stmt} {h₀:ExceptHandler} {hs:List ExceptHandler} {pos:Pos} {fb:Ro->Fl} {fh:Nat->Ro->Fl} (hst:X.stack=X.env::X.outer) (hf:X.env.frame=some X.env.locals) (hb:∀pn,DSs T ib (L3.pinX X pn) body fb) (hh:DH T ib X (h₀::hs) fh) :
 DS T ib X (.Try body (h₀::hs) [] [] pos) (iP fb fh):=.mk λG E hp=>by
 rintro vA s σ H D I ⟨ρ,fr,h⟩;have IX:Inv X vA σ H s:=I.unwish;have ok:=IX.ok;have h:AccS T ib X G E H (iP fb fh ρ) D:=h;refine wpAny_Try_except ?_
 let E':Value->Shared->Prop:=λe s₁=>wpAny (model X.prog X.w) X.A (noteFrame e X.env) (λ_ s₂=>wpAny (model X.prog X.w) X.A (setFlight e none) (λ_ s₃=>wpAny (model X.prog X.w) X.A (handleBy e X.env (h₀::hs)) (SP (X.wish E) vA D) E s₃) E s₂) E s₁
 have hp':PassesOwn (model X.prog X.w) X.A X.env E':=PassesOwn.looking;have vJ:AccS T ib (L3.pinX X (X.pn++vA)) G E' H (fb ρ) D:=by
  cases eo:fb ρ with
  | exc c ρ'=>
   simp only [iP,eo] at h;intro σ' H' fr' pr pins' s' u H'' I' sm fl;have I2:Inv X vA σ' H'' s':=Inv.unpinX (E:=(L3.pinX X (X.pn++vA)).xe) ok I';have fl2:Flying T X vA c u H'' s':=by
    obtain ⟨ea,e1,q1,q2,nc,oe,vs,a0,e2,e3,e4,e5,e6⟩:=fl;have fre:∀b,Free (L3.pinX X (X.pn++vA)) pins' b->Free X vA b:=λb ⟨z1,z2,z3,z4⟩=>⟨z1,z2,z3,λp hp=>z4 p (List.mem_append_left _ hp)⟩
    refine ⟨ea,e1,q1,fre ea q2,nc,oe,vs,a0,e2,e3,e4,e5,?_⟩;rcases e6 with e6 | ⟨tb,ot,ts,t1,t2,t3,t4,t5,t6,t7⟩
    ·exact .inl e6
    ·exact .inr ⟨tb,ot,ts,t1,t2,t3,t4,t5,t6,fre tb t7⟩
   refine j6 I2 hst hf fl2 λea h2 eu I3 ld=>?_
   subst eu;refine wpAny_mono (hh G E vA _ σ' H'' D c ea I3 ld ⟨ρ',fr'.mono sm,AccS.heap (pr.trans (Pers.of sm)) h⟩) (λf s4 q=>?_) λ_ _ z=>z
   cases f with
   | next=>obtain ⟨σ4,H4,I4,q⟩:=q;exact ⟨σ4,H4,I4.wish E,q⟩
   | brk=>obtain ⟨σ4,H4,I4,q⟩:=q;exact ⟨σ4,H4,I4.wish E,q⟩
   | cont=>obtain ⟨σ4,H4,I4,q⟩:=q;exact ⟨σ4,H4,I4.wish E,q⟩
   | ret v=>obtain ⟨x4,σ4,H4,I4,r,q⟩:=q;exact ⟨x4,σ4,H4,I4.wish E,r,q⟩
  | nx ρ'=>simp only [iP,eo] at h;exact h
  | bk ρ'=>simp only [iP,eo] at h;exact h
  | ct ρ'=>simp only [iP,eo] at h;exact h
  | rt r=>simp only [iP,eo] at h;exact h
  | rm r c ds ks=>simp only [iP,eo] at h;exact h
  | bad=>simp only [iP,eo] at h;exact h
 refine wpAny_mono ((hb (X.pn++vA)).run G E' hp' [] s σ H D ((Inv.pinX IX).wish E') ⟨ρ,fr,vJ⟩) (λf s4 q=>?_) λe s4 z=>z
 cases f with
 | next=>obtain ⟨σ4,H4,I4,q⟩:=q;exact wpAny_execs_nil ⟨σ4,H4,(Inv.unpinX ok I4).wish E,q⟩
 | brk=>obtain ⟨σ4,H4,I4,q⟩:=q;exact ⟨σ4,H4,(Inv.unpinX ok I4).wish E,q⟩
 | cont=>obtain ⟨σ4,H4,I4,q⟩:=q;exact ⟨σ4,H4,(Inv.unpinX ok I4).wish E,q⟩
 | ret v=>obtain ⟨x4,σ4,H4,I4,r,q⟩:=q;exact ⟨x4,σ4,H4,(Inv.unpinX ok I4).wish E,r,q⟩
end
section
variable {T:Tb} {z u:Option Addr} {K:PySem.W.Frag}
theorem IF {H:Hp} {c:Nat} {a:Addr} {ds:List D}:InsAt { T with me:=z,mo:=u } K H c a ds↔InsAt T K H c a ds:=
 ⟨λ⟨dx,fs,e1,e2,e3,r⟩=>⟨dx,fs,e1,e2,e3,(repL_me _ _).mp r⟩,λ⟨dx,fs,e1,e2,e3,r⟩=>⟨dx,fs,e1,e2,e3,(repL_me _ _).mpr r⟩⟩
theorem yL {H:Hp}:∀(ss:List Sl) (vs:List V),ArgsOk { T with me:=z,mo:=u } K H vs ss↔ArgsOk T K H vs ss
 | [],_=>Iff.rfl
 | s::ss,vs=>by
  have one:∀v,sH { T with me:=z,mo:=u } K H v s↔sH T K H v s:=λv=>by
   cases s with
   | sh d=>exact jI d v
   | bo ds=>exact ⟨λ⟨a,us,e1,e2,r⟩=>⟨a,us,e1,e2,(repL_me ds us).mp r⟩,λ⟨a,us,e1,e2,r⟩=>⟨a,us,e1,e2,(repL_me ds us).mpr r⟩⟩
   | bi c ds=>exact ⟨λ⟨a,e,r⟩=>⟨a,e,IF.mp r⟩,λ⟨a,e,r⟩=>⟨a,e,IF.mpr r⟩⟩
   | _=>exact Iff.rfl
  exact ⟨λ⟨v,r,e,h1,h2⟩=>⟨v,r,e,(one v).mp h1,(yL ss r).mp h2⟩,λ⟨v,r,e,h1,h2⟩=>⟨v,r,e,(one v).mpr h1,(yL ss r).mpr h2⟩⟩
theorem n5 {G H:Hp} {v:V} (r:Rv):fN { T with me:=z,mo:=u } K G H v r↔fN T K G H v r:=by
 cases r with
 | sh d=>exact jI d v
 | fr ds=>exact ⟨λ⟨a,us,e1,e2,e3,r⟩=>⟨a,us,e1,e2,e3,(repL_me ds us).mp r⟩,λ⟨a,us,e1,e2,e3,r⟩=>⟨a,us,e1,e2,e3,(repL_me ds us).mpr r⟩⟩
 | tf t pre ds post=>exact ⟨λ⟨a,vp,b,vq,ws,e1,e2,r1,r2,e3,e4,r3⟩=>⟨a,vp,b,vq,ws,e1,e2,(repL_me _ _).mp r1,(repL_me _ _).mp r2,e3,e4,(repL_me _ _).mp r3⟩,λ⟨a,vp,b,vq,ws,e1,e2,r1,r2,e3,e4,r3⟩=>⟨a,vp,b,vq,ws,e1,e2,(repL_me _ _).mpr r1,(repL_me _ _).mpr r2,e3,e4,(repL_me _ _).mpr r3⟩⟩
theorem IG {n:Nat} {F:Fn} {vs:List V} {H:Hp} {Q:VK} {E:XK} (h:spD { T with me:=z,mo:=u } K n F vs H Q E):spD T K n F vs H Q E:=by
 obtain ⟨ss,h1,h2,h3⟩:=h;refine ⟨ss,(yL ss vs).mp h1,h2,?_⟩;cases e:F ss with
 | ok r=>rw [e] at h3;exact λv H' sm ro=>h3 v H' sm ((n5 r).mpr ro)
 | exc c=>rw [e] at h3;exact h3
 | bad=>rw [e] at h3;exact h3
theorem fJ {P:Program} {w:World} {mg:Str->Option Value} {base:Heap} {k:Nat} {f:Addr} {fd:FuncData} {ps:List Str} {n:Nat} {F:Fn} (h:bB P w K mg base (CXE T P w) k f fd ps (spD T K n F)):bB P w K mg base (CXE { T with me:=z,mo:=u } P w) k f fd ps (spD { T with me:=z,mo:=u } K n F):=
 ⟨λvs H Q E q=>h.len vs H Q E (IG q),λA outer s H args us vs Q E hr he hb hv hs=>h.run A outer s H args us vs Q E hr he hb hv (IG hs)⟩
end
def spI (T:Tb) (K:PySem.W.Frag) (c n:Nat) (F:Fn):Sp:=λvs H Q E=>∃(x dx:Addr) (rest:List V) (ss:List Sl) (G:Hp),vs=.ref x::rest/\H=upd (upd G dx (.own x)) x (.ins (T.ca c) dx [])/\G x=none/\G dx=none/\dx≠x/\ArgsOk T K G rest ss/\vs.length=n /\
 (match F ss with
 | .ok (.sh d)=>∀H',Same G H'->Rep T K H' d (.ref x)->Q .non H'
 | .exc c=>∀H',Same G H'->E (.ref (T.ca c)) none H'
 | _=>False)
@[simp] def iB (n c ar:Nat) (f:Ro->Fl) (ss:List Sl):Out Rv:=match f (.me c []::ss++List.replicate (n-(ss.length+1)) .no) with
 | .nx ρ=>(match (ρ[0]?:Option Sl) with
  | some (.me c' ds)=>if c'=c/\ds.length=ar then .ok (.sh (.ins c ds)) else .bad
  | _=>.bad)
 | .exc c _=>.exc c
 | _=>.bad
section
variable {P:Program} {w:World} {K:PySem.W.Frag} {mg:Str->Option Value} {base:Heap} {T:Tb}
theorem n6 {H G:Hp} {N:List Str} {x dx:Addr} {rest:List V} {ss:List Sl} {c:Nat} (hH:H=upd (upd G dx (.own x)) x (.ins (T.ca c) dx [])) (hx:G x=none) (hdx:G dx=none) (hne:dx≠x) (h:ArgsOk T K G rest ss) (hN:rest.length+1<=N.length) :
 FR { T with me:=some x } K G H (L2.start N (.ref x::rest)) (.me c []::ss++List.replicate (N.length-(ss.length+1)) .no):=by
 have hl:=ArgsOk.length ss rest h;have sm:Same G H:=λb o e=>by
  rw [hH,aM (λz=>by rw [z,hx] at e;cases e),aM (λz=>by rw [z,hdx] at e;cases e)];exact e
 have st:∀(i:Nat) (v:V),(V.ref x::rest)[i]?=some v->(L2.start N (.ref x::rest))[i]?=some (some v):=λi v e=>by
  unfold L2.start;have hi:i < (V.ref x::rest).length:=(List.getElem?_eq_some_iff.mp e).1;rw [List.getElem?_append_left (by simpa using hi),List.getElem?_map,e];rfl
 have cases_:∀(i:Nat) (s:Sl),(Sl.me c []::ss++List.replicate (N.length-(ss.length+1)) Sl.no)[i]?=some s->(i=0/\s=.me c [])∨(∃j,i=j+1/\ss[j]?=some s)∨s=.no:=λi s e=>by
  cases i with
  | zero=>exact .inl ⟨rfl,by simpa using e.symm⟩
  | succ j=>
   rw [List.cons_append,List.getElem?_cons_succ] at e;by_cases hj:j < ss.length
   ·rw [List.getElem?_append_left hj] at e;exact .inr (.inl ⟨j,rfl,e⟩)
   ·rw [List.getElem?_append_right (by omega),List.getElem?_replicate] at e
    split at e
    ·cases e;exact .inr (.inr rfl)
    ·cases e
 have noow:∀(i:Nat) (s:Sl) (x:Option (Option V)) (b:Addr),(Sl.me c []::ss++List.replicate (N.length-(ss.length+1)) Sl.no)[i]?=some s->¬eA H x b s:=λi s x b z o=>by
  rcases cases_ i _ z with ⟨_,y⟩ | ⟨j,_,y⟩ | y
  ·subst y;exact o
  ·obtain ⟨v,_,r⟩:=ArgsOk.get ss rest j _ h y;cases s with
   | sh d=>exact o
   | bo ds=>exact o
   | bi c ds=>exact o
   | _=>exact r
  ·subst y;exact o
 refine ⟨sm,?_,λi s e=>?_,λi j s t b _ z _ o _=>noow i s _ b z o,λy e=>?_,λi c' es z=>?_⟩
 ·unfold L2.start;simp;omega
 ·rcases cases_ i s e with ⟨rfl,rfl⟩ | ⟨j,rfl,y⟩ | rfl
  ·exact ⟨x,dx,[],rfl,st 0 _ rfl,by rw [hH];exact cR,hx,rfl,rfl⟩
  ·obtain ⟨v,e1,r⟩:=ArgsOk.get ss rest j s h y;rw [st (j+1) v (by simpa using e1)];cases s with
   | sh d=>exact ⟨v,rfl,(jI d v).mpr (Rep.mono sm _ _ r)⟩
   | bo ds=>
    obtain ⟨a,us,rfl,r2,r3⟩:=r;exact ⟨a,us,rfl,r2,(repL_me ds us).mpr (RepL.mono sm _ _ r3)⟩
   | bi c ds=>
    obtain ⟨a,rfl,dx,fs,r2,r3,r4,r5⟩:=r;exact ⟨a,dx,fs,rfl,r2,r3,r4,(repL_me ds _).mpr (RepL.mono sm _ _ r5)⟩
   | _=>exact r.elim
  ·trivial
 ·cases e;exact st 0 _ rfl
 ·rcases cases_ i _ z with ⟨y,_⟩ | ⟨j,_,y⟩ | y
  ·exact y
  ·obtain ⟨v,_,r⟩:=ArgsOk.get ss rest j _ h y;exact r.elim
  ·cases y
theorem lE {c ar:Nat} {x qual:Str} {st:Stmt} {fa:Addr} {fd:FuncData} {N ps:List Str} {k:Nat} {f:Ro->Fl} (hT:T.me=none) (har:(T.fl c).length=ar) (F:∃(oc:Value) (od:Option Addr) (dV kV doc pm:Value) (an:Option Addr) (vK ct:Value) (osl:Array (Option Value)),
 fd=PySem.W.fnOf x qual (iM st) (gU st) (aZ st) dV kV doc pm an vK ct/\K.lookup fa=some ⟨oc,od,.func fd,osl⟩/\PySem.W.codeIn K vK qual=true) (S:bO N ps (aZ st))
 (hb:∀(y:Addr) (vK:Value) (A:Around) (outer:List Env) (s:Shared) (H:Hp) (E:XK),Room k (A.deeper (envOfC qual (aZ st) s.heap.objs.size fa vK))->DSs { T with me:=some y } true (CxD T P w K mg base N qual (aZ st) fa vK A outer s H E) (gU st) f) :
 bB P w K mg base (CXE T P w) (k+1) fa fd ps (spI T K c ps.length (iB N.length c ar f)):=by
 obtain ⟨oc,od,dV,kV,doc,pm,an,vK,ct,osl,rfl,lk,hcd⟩:=F;refine GN lk hcd S (λvs H Q E ⟨_,_,_,_,_,_,_,_,_,_,_,e,_⟩=>e) λA outer s H vs Q E hr ⟨y,dx,rest,ss,G,ev,hH,hx,hdx,hne,ha,hl,ho⟩=>?_
 subst ev;have hpl:ps.length<=N.length:=by have:=congrArg List.length S.pre;rw [List.length_take] at this;omega
 have fr:=n6 (T:=T) (K:=K) (N:=N) hH hx hdx hne ha (by simp at hl;omega);refine ⟨_,(hb y vK A outer s H E hr).run G (CxD T P w K mg base N qual (aZ st) fa vK A outer s H E).xe PassesOwn.leaving,_,fr,?_⟩;unfold iB at ho;cases e:f (.me c []::ss++List.replicate (N.length-(ss.length+1)) .no) with
 | nx ρ=>
  rw [e] at ho;intro σ H' fr' _;cases e0:ρ[0]? with
  | none=>simp only [e0] at ho
  | some sl=>
   cases sl with
   | me c' ds=>
    simp only [e0] at ho;by_cases hc:c'=c/\ds.length=ar
    ·rw [if_pos hc] at ho;obtain ⟨rfl,hd⟩:=hc;obtain ⟨a,dx',fs,m0,e1,e2,e3,e4,r⟩:=fr'.sl 0 _ e0;cases m0;exact ho H' fr'.same ⟨y,dx',fs,rfl,e2,by rw [e4];exact List.take_of_length_le (by show (T.fl c').length<=_;omega),(repL_me ds _).mp r⟩
    ·rw [if_neg hc] at ho;exact ho.elim
   | _=>simp only [e0] at ho
 | exc c' ρ=>
  rw [e] at ho;intro σ' H' fr' _ vA s' u H'' I hs fl;exact HG I rfl rfl rfl fl (ho H'' (fr'.same.trans hs))
 | rt r=>rw [e] at ho;exact ho.elim
 | rm r c ds ks=>rw [e] at ho;exact ho.elim
 | bk ρ=>rw [e] at ho;exact ho.elim
 | ct ρ=>rw [e] at ho;exact ho.elim
 | bad=>rw [e] at ho;exact ho.elim
variable {ib:Bool} {X:Cx} {e o:Expr} {es:List Expr} {pos pos' p apos:Pos} {fe fo:Ev} {fs:Ro->Out (List Sl)} {k n c:Nat} {f:Addr} {fd:FuncData} {ps:List Str} {F:Fn} {ds:List Value} {dvs:List V} {dss:List Sl} {x:Str}
theorem yM {a:Str} {v:V}:∀{fs:List (Str×V)},a∉fs.map (·.1)->dZ a v fs=fs++[(a,v)]
 | [],_=>rfl
 | (b,u)::r,h=>by
  have hb:¬b=a:=λz=>h (by simp [z])
  have hr:a∉r.map (·.1):=λz=>h (by simp at z ⊢; exact .inr z)
  show (if b=a then _ else _)=_;rw [if_neg hb,yM hr];rfl
mutual
theorem Rep.wr {K:PySem.W.Frag} {H:Hp} {y dx:Addr} {c:Nat} {fs:List (Str×V)} {o:HO} (h:H y=some (.ins (T.ca c) dx fs)) (hn:fs.map (·.1)≠T.fl c):∀(d:D) (v:V),Rep T K H d v->Rep T K (upd H y o) d v
 | .non,_,q=>q
 | .bl _,_,q=>q
 | .int _,_,q=>q
 | .str _,_,q=>q
 | .tup ds,_,q=>by
  obtain ⟨b,ws,r1,r2,r3⟩:=q;refine ⟨b,ws,r1,?_,RepL.wr h hn ds ws r3⟩;rcases r2 with (r2 | ⟨o',r2⟩) | r2
  ·exact .inl (.inl (by rw [aM (λz=>by rw [z,h] at r2;cases r2)];exact r2))
  ·exact .inl (.inr ⟨o',by rw [aM (λz=>by rw [z,h] at r2;cases r2)];exact r2⟩)
  ·exact .inr r2
 | .lst ds,_,q=>by
  obtain ⟨b,ws,r1,r2,r3⟩:=q;refine ⟨b,ws,r1,?_,RepL.wr h hn ds ws r3⟩;rcases r2 with ⟨o',r2⟩ | r2
  ·exact .inl ⟨o',by rw [aM (λz=>by rw [z,h] at r2;cases r2)];exact r2⟩
  ·exact .inr r2
 | .ins c2 ds,_,q=>by
  obtain ⟨b,dx2,fs2,r1,r2,r3,r4⟩:=q;refine ⟨b,dx2,fs2,r1,?_,r3,RepL.wr h hn ds _ r4⟩;rw [aM (λz=>?_)]
  ·exact r2
  ·rw [z,h] at r2
   injection r2 with r2
   injection r2 with q1 q2 q3
   subst q3;exact hn (by rw [r3];unfold Tb.fl;rw [q1])
 | .exc c,_,q=>by
  obtain ⟨b,o',r1,r2,r3⟩:=q;exact ⟨b,o',r1,by rw [aM (λz=>by rw [z,h] at r2;cases r2)];exact r2,r3⟩
theorem RepL.wr {K:PySem.W.Frag} {H:Hp} {y dx:Addr} {c:Nat} {fs:List (Str×V)} {o:HO} (h:H y=some (.ins (T.ca c) dx fs)) (hn:fs.map (·.1)≠T.fl c):∀(ds:List D) (us:List V),RepL T K H ds us->RepL T K (upd H y o) ds us
 | [],_,q=>q
 | d::ds,_,q=>by
  obtain ⟨v,r,r1,r2,r3⟩:=q;exact ⟨v,r,r1,Rep.wr h hn d v r2,RepL.wr h hn ds r r3⟩
end
@[simp] def cT (c j:Nat) (fe:Ev) (ρ:Ro):Fl:=match (ρ[0]?:Option Sl) with
 | some (.me c' ds)=>if c'=c/\ds.length=j then (fe ρ).fl ρ λd=>.nx (ρ.set 0 (.me c (ds++[d]))) else .bad
 | _=>.bad
theorem dD {a:Str} (j:Nat) (cl:Cls X.K (T.ca c)) (na:NoAttr X.K (T.ca c) a) (hj:(T.fl c)[j]?=some a) (hnd:(T.fl c).Nodup) (h1000:j < 1000) (he:DE T X e fe) (hN:X.N[0]?=some x:=by rfl) (hv:Vis X.env.scope x:=by walk_at "v0")
 (hs:swapsWith e (some (.Attribute (.Name x p) a pos')) pos.line X.env=pure false:=by exact jT rfl) (hd:(x==("__debug__" : Str))=false:=by decide) (hcd:(x==("__classdict__" : Str))=false:=by decide) :
 DS T true X (.Assign [.Attribute (.Name x p) a pos'] e pos) (cT c j fe):=.mk λG E hp=>by
 refine PS.imp (YD (X:=X.wish E) (gW (X:=X.wish E) hN hv hd hcd) (he.run G E hp) hs) λD σ H ⟨ρ,fr,h⟩=>?_
 have h:AccS T true X G E H (cT c j fe ρ) D:=h;unfold cT at h;cases e0:ρ[0]? with
 | none=>simp only [e0] at h;exact h.elim
 | some sl=>
  cases sl with
  | me c' ds=>
   simp only [e0] at h;by_cases hc:c'=c/\ds.length=j
   ·rw [if_pos hc] at h;obtain ⟨rfl,hl⟩:=hc;refine ⟨ρ,fr,Acc.mono (AccS.fl fr h) λd _ hd2 v H1 s1 rd=>?_⟩;obtain ⟨y,dx,fs,m0,e1,e2,e3,e4,r⟩:=(fr.mono s1).sl 0 _ e0;have hjl:j < (T.fl c').length:=(List.getElem?_eq_some_iff.mp hj).1;have hnm:a∉fs.map (·.1):=λz=>by
     rw [e4,hl] at z;obtain ⟨i,hi⟩:=List.getElem?_of_mem z;obtain ⟨hi1,_⟩:=List.getElem?_eq_some_iff.mp hi;rw [List.length_take] at hi1;rw [List.getElem?_take_of_lt (by omega)] at hi;have:=xB hnd hi hj;omega
    have hfl:fs.length=ds.length:=by
     have:=RepL.length _ _ r;simpa using this
    have hnf:fs.map (·.1)≠T.fl c':=λz=>by
     have:=congrArg List.length z;simp at this;omega
    refine ⟨_,e1,y,T.ca c',dx,fs,rfl,e2,cl,na,by omega,?_⟩;have fr1:=fr.mono s1;have h0:0 < ρ.length:=(List.getElem?_eq_some_iff.mp e0).1;refine hd2 σ _ ⟨λb u q=>?_,by simp [fr1.len],λi s q=>?_,λi k s1 s2 b hik q1 q2 o1 o2=>?_,fr1.me,λi c2 es q=>?_⟩ (λb u q st=>?_)
    ·rw [aM (λz=>by rw [z,e3] at q;cases q)];exact fr1.same b u q
    ·by_cases hi:i=0
     ·subst hi;rw [List.getElem?_set_self h0] at q;cases q;refine ⟨y,dx,dZ a v fs,m0,e1,cR,e3,?_,?_⟩
      ·rw [yM hnm,List.map_append,e4,List.length_append,List.length_cons,List.length_nil,hl];rw [List.take_succ,hj];rfl
      ·rw [yM hnm,List.map_append];exact RepL.append _ _ _ _ (RepL.wr e2 hnf _ _ r) ⟨v,[],rfl,Rep.wr e2 hnf _ _ rd,rfl⟩
     ·rw [List.getElem?_set_ne (Ne.symm hi)] at q;have hs:=fr1.sl i s q;cases s with
      | no=>trivial
      | sh d'=>obtain ⟨w,z1,z2⟩:=hs;exact ⟨w,z1,Rep.wr e2 hnf _ _ z2⟩
      | ow es=>
       obtain ⟨b,ws,z1,z2,z3,z4⟩:=hs;exact ⟨b,ws,z1,by rw [aM (λz=>by rw [z,e2] at z2;cases z2)];exact z2,z3,RepL.wr e2 hnf _ _ z4⟩
      | bo es=>obtain ⟨b,ws,z1,z2,z4⟩:=hs;exact ⟨b,ws,z1,z2,RepL.wr e2 hnf _ _ z4⟩
      | me c2 es=>
       exact absurd (fr1.me0 i c2 es q) hi
      | mo es=>
       obtain ⟨b,ws,z0,z1,z2,z3,z4⟩:=hs;exact ⟨b,ws,z0,z1,by rw [aM (λz=>by rw [z,e2] at z2;cases z2)];exact z2,z3,RepL.wr e2 hnf _ _ z4⟩
      | od kvs=>
       obtain ⟨b,xs,z1,z2,z3,z4,z5,z6⟩:=hs;exact ⟨b,xs,z1,by rw [aM (λz=>by rw [z,e2] at z2;cases z2)];exact z2,z3,z4,z5,λq hq=>Rep.wr e2 hnf _ _ (z6 q hq)⟩
      | bi c2 es=>obtain ⟨b,dx2,fs2,z1,z2,z3,z4,z5⟩:=hs;exact ⟨b,dx2,fs2,z1,z2,z3,z4,RepL.wr e2 hnf _ _ z5⟩
      | lm ms=>
       obtain ⟨c2,us,z1,z2,z3,z4,z5⟩:=hs;refine ⟨c2,us,z1,z2.keep (λu w _ n=>by rw [aM (λz=>by subst z;rw [e2] at w;cases w;exact n _ _ _ rfl)];exact w),z3,λi' m v' q1 q2=>?_,z5⟩;have z:=z4 i' m v' q1 q2
       match m,z with
       | (none,ks),⟨b,ws,y1,y2,y3,y4⟩=>exact ⟨b,ws,y1,by rw [aM (λz=>by rw [z,e2] at y2;cases y2)];exact y2,y3,RepL.wr e2 hnf _ _ y4⟩
       | (some k,ks),⟨b,y1,y2,y3,dx3,fs3,w1,w2,w3,w4⟩=>exact ⟨b,y1,y2,y3,dx3,fs3,by rw [aM (λz=>by subst z;exact y2 m0)];exact w1,w2,w3,RepL.wr e2 hnf _ _ w4⟩
      | ox t pre es post=>
       obtain ⟨c2,vp,b,vq,ws,z1,z2,z3,z4,z5,z6,z7⟩:=hs;exact ⟨c2,vp,b,vq,ws,z1,z2.keep (λu w _ n=>by rw [aM (λz=>by subst z;rw [e2] at w;cases w;exact n _ _ _ rfl)];exact w),RepL.wr e2 hnf _ _ z3,RepL.wr e2 hnf _ _ z4,by rw [aM (λz=>by rw [z,e2] at z5;cases z5)];exact z5,z6,RepL.wr e2 hnf _ _ z7⟩
    ·have ni:i≠0:=by rintro rfl;rw [List.getElem?_set_self h0] at q1;cases q1;exact o1
     have nk:k≠0:=by rintro rfl;rw [List.getElem?_set_self h0] at q2;cases q2;exact o2
     rw [List.getElem?_set_ne (Ne.symm ni)] at q1;rw [List.getElem?_set_ne (Ne.symm nk)] at q2;have bk:∀(x:Addr) (u:HO),H1 x=some u->(∀xs,u≠.lst xs)->(∀x dx fs,u≠.ins x dx fs)->upd H1 y (.ins (T.ca c') dx (dZ a v fs)) x=some u:=λx u w _ n=>by
      rw [aM (λz=>by subst z;rw [e2] at w;cases w;exact n _ _ _ rfl)];exact w
     exact fr1.ne i k s1 s2 b hik q1 q2 ((fr1.sl i s1 q1).back bk o1) ((fr1.sl k s2 q2).back bk o2)
    ·by_cases hi:i=0
     ·exact hi
     ·rw [List.getElem?_set_ne (Ne.symm hi)] at q;exact fr1.me0 i c2 es q
    ·have hb:b≠y:=λz=>by rw [z] at q;rw [s1 _ _ q] at e2;cases e2;cases st
     rw [aM hb];exact s1 _ _ q
   ·rw [if_neg hc] at h;exact h.elim
  | _=>simp only [e0] at h;exact h.elim
end
section
variable {T:Tb} {ib:Bool} {X:Cx} {e o a b:Expr} {es:List Expr} {pos pos' p apos:Pos} {fe fo fa fb:Ev} {fs:Ro->Out (List Sl)} {k n c:Nat} {f:Addr} {fd:FuncData} {ps:List Str} {F:Fn} {ds:List Value} {dvs:List V} {dss:List Sl} {x:Str}
theorem n8 {vA:List (Addr×Obj)} {σ:L2.St} {H:Hp} {s:Shared} {E:Value->Shared->Prop} {Q:VK} {us:List Value} {vs:List V} {ss:List Sl} (M:Mk X.K (T.ca c) f) (FO:bB X.prog X.w X.K X.mg X.base (CXE T X.prog X.w) k f fd ps (spI T X.K c ps.length F)) (hr:Room (k+1) X.A) (hb:Binds X.K fd ps ds) (hd:Vals dvs ds)
 (I:Inv (X.wish E) vA σ H s) (r:Vals vs us) (ha:ArgsOk T X.K H (vs++dvs) ss) (hl:(us++ds).length+1=ps.length)
 (h:Acc T X E σ H (F ss) (λr=>∀v H',Same H H'->fN T X.K H H' v r->Q v H')) (hsh:∀r,F ss=.ok r->∃d,r=.sh d) :
 wpAny (model X.prog X.w) X.A (call (.ref (T.ca c)) us) (EP (X.wish E) vA σ Q) E s:=by
 have IX:Inv X vA σ H s:=I.unwish;have I2:=Inv.made (C:=T.ca c) IX;have hx:=IX.hok.fresh (a:=s.heap.objs.size+1) (Nat.le_succ _);have hdx:=IX.hok.fresh (a:=s.heap.objs.size) (Nat.le_refl _);have r2:Vals (V.ref (s.heap.objs.size+1)::(vs++dvs)) (Value.ref (s.heap.objs.size+1)::(us++ds)):=.cons rfl (r.append hd)
 let EX:XK:=λcls _ H'=>∃c',cls=.ref (T.ca c')/\F ss=.exc c'/\Same H H'
 have hsp:spI T X.K c ps.length F (V.ref (s.heap.objs.size+1)::(vs++dvs)) (upd (upd H s.heap.objs.size (.own (s.heap.objs.size+1))) (s.heap.objs.size+1) (.ins (T.ca c) s.heap.objs.size [])) (λv H2=>v=.non/\Q (.ref (s.heap.objs.size+1)) H2) EX:=by
  refine ⟨_,s.heap.objs.size,vs++dvs,ss,H,rfl,rfl,hx,hdx,Nat.ne_of_lt (Nat.lt_succ_self _),ha,?_,?_⟩
  ·have:=r2.length;rw [this];simpa using hl
  ·cases ef:F ss with
   | ok rr=>
    obtain ⟨d,rfl⟩:=hsh rr ef;rw [ef] at h;exact λH' sm rd=>⟨rfl,h _ H' sm rd⟩
   | exc c'=>exact λH' sm=>⟨c',rfl,ef,sm⟩
   | bad=>rw [ef] at h;exact h.elim
 have hl2:(Value.ref (s.heap.objs.size+1)::us++ds).length=ps.length:=by simpa using hl
 refine wpAny_call (XU (f:=f) IX.kIn M.makes M.init (beq_iff_eq.mp M.fn) (codeAny_mono (FO.run _ X.stack _ _ ⟨Value.ref (s.heap.objs.size+1)::us,[]⟩ (Value.ref (s.heap.objs.size+1)::(us++ds)) _ _ EX (hr.make (T.ca c) us [])
  (I2.env0.make (T.ca c) us []) (hb _ (Value.ref (s.heap.objs.size+1)::us) I2.kIn hl2) r2 hsp) λres s' hq=>?_))
 cases res with
 | error ev=>
  obtain ⟨c1,H',I',fl,c',ec,eF,sm⟩:=Inv.flown I2 hq;rw [eF] at h;refine h vA s' ev H' I' sm ?_;obtain ⟨ea,rfl,h1,h2,nc,oe,vs',a0,he,hc,rest⟩:=fl;exact ⟨ea,rfl,h1,h2,nc,oe,vs',a0,he,hc.trans ec,rest⟩
 | ok fl=>
  cases fl with
  | ret u=>
   obtain ⟨v,H',I3,rv,ev,q3⟩:=I2.after hq;subst ev;exact ⟨rv,⟨V.ref (s.heap.objs.size+1),H',I3.wish E,rfl,q3⟩⟩
  | next=>exact False.elim hq
  | brk=>exact False.elim hq
  | cont=>exact False.elim hq
theorem lF (M:Mk X.K (T.ca c) f) (FO:bB X.prog X.w X.K X.mg X.base (CXE T X.prog X.w) k f fd ps (spI T X.K c ps.length F)) (hsh:∀ss r,F ss=.ok r->∃d,r=.sh d) (hr:Room (k+1) X.A) (hg:Gl X x) (hm:X.mg x=some (.ref (T.ca c))) (hb:Binds X.K fd ps ds) (hd:Vals dvs ds)
 (hds:∀H,ArgsOk T X.K H dvs dss) (hn:n+1=ps.length) (ha:DG T X (e::es) fs) (hdb:(x==("__debug__" : Str))=false:=by decide) (he:starEach (e::es) X.env=(false,eval e X.env)::starEach es X.env:=by exact cM rfl) (hpl:(backTo pos (starEach es X.env)).any (·.1)=false:=by exact dL rfl) :
 DR T X (.Call (.Name x p) (e::es) [] pos) (oN (n:=n) F dss fs):=.mk λG E hp=>by
 rintro vA s σ H Q I ⟨ρ,fr,h⟩;refine wpAny_Call_Name_kw (oE (X:=X.wish E) I hg hm ?_ hdb);refine PySem.W.callWith_K (h₀:=X.base) I.ok.mod.kin M.kp (thn (ha.run G E hp pos vA s σ H (λvs H1=>∃ss,ArgsOk T X.K H1 vs ss/\ss.length+dss.length=n/\Same H H1/\Acc T X E σ H1 (F (ss++dss)) (λr=>∀v H',Same H1 H'->fN T X.K H1 H' v r->Q v H')) I ⟨ρ,fr,?_⟩) λus s1 ⟨vs,H1,I1,r,ss,ha1,hl1,s1',q⟩=>⟨I1.kIn,?_⟩) he hpl
 ·have h:Acc T X E σ H ((fs ρ).bind λss=>if ss.length+dss.length=n then F (ss++dss) else .bad) _:=h;refine Acc.mono (Acc.bind h) λss _ hss vs H1 s1 r1=>?_
  by_cases hl:ss.length+dss.length=n
  ·rw [if_pos hl] at hss;exact ⟨ss,r1,hl,s1,Acc.mono (Acc.heap s1 hss) λr _ hr' v H' s2 r2=>hr' v H' (s1.trans s2) (mF s1 r2)⟩
  ·rw [if_neg hl] at hss;exact hss.elim
 ·have la:=ArgsOk.length ss vs ha1;have lr:=r.length;have ld:=ArgsOk.length dss dvs (hds H1);have lv:=hd.length;exact n8 (X:=X) M FO hr hb hd I1 r (ArgsOk.append _ _ _ _ ha1 (hds H1)) (by simp only [List.length_append,List.nil_append];omega) q (hsh _)
theorem lG {n c ar:Nat} {f:Ro->Fl} (ss:List Sl) (r:Rv) (h:iB n c ar f ss=.ok r):∃d,r=.sh d:=by
 unfold iB at h
 split at h
 ·split at h
  ·split at h
   ·cases h;exact ⟨_,rfl⟩
   ·cases h
  ·cases h
 ·cases h
 ·cases h
@[simp] def n9 (cps:List (Nat×Nat)):D->Out D
 | .ins c ds=>(match cps.lookup c with
  | some j=>(match ds[j]? with | some d=>.ok d | none=>.bad)
  | none=>.bad)
 | _=>.bad
@[simp] def aY (cps:List (Nat×Nat)) (fo:Ev) (ρ:Ro):Out D:=(fo ρ).bind (n9 cps)
theorem IH {a:Str} {j:Nat} {v:V}:∀{fs:List (Str×V)},(fs.map (·.1)).Nodup->(fs.map (·.1))[j]?=some a->(fs.map (·.2))[j]?=some v->fs.lookup a=some v
 | [],_,h,_=>by simp at h
 | (b,u)::r,nd,h1,h2=>by
  cases j with
  | zero=>
   simp at h1 h2;subst h1 h2;simp [List.lookup]
  | succ j=>
   rw [List.map_cons,List.getElem?_cons_succ] at h1 h2;rw [List.map_cons,List.nodup_cons] at nd;have hne:(a==b)=false:=by
    rw [beq_eq_false_iff_ne];rintro rfl;exact nd.1 (List.mem_of_getElem? h1)
   rw [List.lookup_cons,hne];exact IH nd.2 h1 h2
theorem o0 {cps:List (Nat×Nat)} {c j:Nat} (h:cps.lookup c=some j):(c,j)∈cps:=by
 induction cps with
 | nil=>cases h
 | cons q r ih=>
  obtain ⟨a,b⟩:=q;rw [List.lookup_cons] at h;by_cases z:c=a
  ·subst z;simp at h;subst h;exact List.mem_cons_self
  ·have:(c==a)=false:=beq_eq_false_iff_ne.mpr z;rw [this] at h;exact List.mem_cons_of_mem _ (ih h)
theorem cD {at_:Str} {cps:List (Nat×Nat)} (he:DE T X o fo) (hc:∀q∈cps,Cls X.K (T.ca q.1)/\NoAttr X.K (T.ca q.1) at_/\(T.fl q.1).Nodup/\(T.fl q.1)[q.2]?=some at_) (hb:attributeBase o at_ X.env (eval o X.env)=eval o X.env:=by rfl):DE T X (.Attribute o at_ pos) (aY cps fo):=.mk λG E hp=>
 PE.imp (YC (X:=X.wish E) (he.run G E hp) hb) fun σ H Q ⟨ρ,fr,q⟩=>⟨ρ,fr,Acc.mono (Acc.bind q) λd _ hd v H1 s1 r=>by
  cases d with
  | ins c ds=>
   obtain ⟨y,dx,fs,rfl,e2,e3,r4⟩:=r;have hd:Acc T X E σ H (match cps.lookup c with | some j=>(match ds[j]? with | some d=>.ok d | none=>.bad) | none=>.bad) _:=hd;cases el:cps.lookup c with
   | none=>simp only [el] at hd;exact hd.elim
   | some j=>
    simp only [el] at hd;cases ed:ds[j]? with
    | none=>simp only [ed] at hd;exact hd.elim
    | some d=>
     simp only [ed] at hd;obtain ⟨h1,h2,h3,h4⟩:=hc (c,j) (o0 el);obtain ⟨w,ew,rw'⟩:=RepL.get _ _ _ _ r4 ed;exact ⟨y,T.ca c,dx,fs,w,rfl,e2,h1,h2,IH (by rw [e3];exact h3) (by rw [e3];exact h4) ew,hd w H1 s1 rw'⟩
  | _=>exact hd.elim⟩
@[simp] def sS (cid:Nat):D->Out Bool
 | .ins c _=>if c=cid then .ok true else .bad
 | _=>.bad
theorem o9 {K:PySem.W.Frag} {cid:Nat} (h:sM K (T.ca cid)):jX T K (.ref (T.ca cid)) (sS cid):=λd b hb=>by
 cases d with
 | ins c ds=>
  have hb:(if c=cid then Out.ok true else .bad)=.ok b:=hb;by_cases z:c=cid
  ·rw [if_pos z] at hb;cases hb;subst z;refine ⟨?_,(λc' ds' e=>by cases e;exact h),(λ_ e=>by cases e)⟩;unfold PySem.W.kitOne;rw [if_pos (by simp [yH])]
  ·rw [if_neg z] at hb;cases hb
 | _=>cases hb
theorem p5 (cid:Nat) (d:D) (c:Nat):sS cid d≠.exc c:=by
 cases d<;>(intro h;first | cases h | (simp only [sS] at h;split at h<;>cases h))
theorem p7 {cn:Str} {cid:Nat} {p2:Pos} {g:D->Out Bool} (hg:Gl X "isinstance") (hm:X.mg "isinstance" = none) (ha:DE T X e fe) (hgc:Gl X cn) (hmc:X.mg cn=some (.ref (T.ca cid))) (hi:jX T X.K (.ref (T.ca cid)) g) (hng:∀d cc,g d≠.exc cc)
 (hs1:starEach [e,.Name cn p2] X.env=(false,eval e X.env)::starEach [.Name cn p2] X.env:=by rfl) (hd:(cn==("__debug__" : Str))=false:=by decide):DE T X (.Call (.Name "isinstance" p) [e,.Name cn p2] [] pos) (jJ g fe):=
 HR (cv:=.ref (T.ca cid)) (clsv:=.ref (T.ca cid)) hg hm ha (λE=>FP (X:=X.wish E) hgc hmc rfl hd) (λu r=>r) hi hng hs1
@[simp] def D.isNon:D->Bool
 | .non=>true
 | _=>false
theorem p9 {H:Hp} {d:D} {v:V} (r:Rep T X.K H d v):decide (v=.non)=d.isNon:=by
 cases d with
 | non=>cases r;rfl
 | bl b=>cases r;rfl
 | int i=>cases r;rfl
 | str z=>cases r;rfl
 | tup ds=>obtain ⟨a,vs,rfl,_⟩:=r;rfl
 | lst ds=>obtain ⟨a,vs,rfl,_⟩:=r;rfl
 | ins c ds=>obtain ⟨a,dx,fs,rfl,_⟩:=r;rfl
 | exc c=>obtain ⟨a,o,rfl,_⟩:=r;rfl
@[simp] def yN (g g':D->D->Out D) (fa fb fc:Ev) (ρ:Ro):Out D:=(fa ρ).bind λx=>(fb ρ).bind λy=>(g x y).bind λz=>z.toB.bind λk=>if k=true then (fc ρ).bind λw=>g' y w else .ok (.bl false)
theorem q8 {G H:Hp} {E:Value->Shared->Prop} {σ:L2.St} {Q:VK} {g g':D->D->Out D} {r r':R2} {fc:Ev}
 (hg:∀(dx dy:D) (x y:V) (σ:L2.St) (H:Hp) (Q:VK),Rep T X.K H dx x->Rep T X.K H dy y->Acc T X E σ H (g dx dy) (kE T X.K H Q)->r x y H Q)
 (hg':∀(dx dy:D) (x y:V) (σ:L2.St) (H:Hp) (Q:VK),Rep T X.K H dx x->Rep T X.K H dy y->Acc T X E σ H (g' dx dy) (kE T X.K H Q)->r' x y H Q) {ρ:Ro} (fr:FR T X.K G H σ ρ) (h:Acc T X E σ H (yN g g' fa fb fc ρ) (kE T X.K H Q)) :
 GC r r' (tE T X G E fa) (tE T X G E fb) (tE T X G E fc) σ H Q:=by
 have h:Acc T X E σ H ((fa ρ).bind λx=>(fb ρ).bind λy=>(g x y).bind λz=>z.toB.bind λk=>if k=true then (fc ρ).bind λw=>g' y w else .ok (.bl false)) (kE T X.K H Q):=h;refine ⟨ρ,fr,Acc.mono (Acc.bind h) λdx _ hx v H1 s1 r1=>⟨ρ,fr.mono s1,Acc.mono (Acc.bind (Acc.heap s1 hx)) λdy _ hy u H2 s2 r2=>?_⟩⟩;refine hg dx dy v u σ H2 _ (Rep.mono s2 _ _ r1) r2 (Acc.mono (Acc.bind (Acc.heap s2 hy)) λdz _ hz w H3 s3 r3=>?_);obtain ⟨kk,rfl,hk⟩:=yD hz;refine ⟨kk,r3,?_⟩;cases kk with
 | true=>
  refine ⟨ρ,((fr.mono s1).mono s2).mono s3,Acc.mono (Acc.bind (Acc.heap s3 hk)) λdw _ hw t H4 s4 r4=>?_⟩;exact hg' dy dw u t σ H4 Q (Rep.mono s4 _ _ (Rep.mono s3 _ _ r2)) r4 (Acc.mono (Acc.heap s4 hw) λd _ hd z H5 s5 r5=>hd z H5 ((((s1.trans s2).trans s3).trans s4).trans s5) r5)
 | false=>exact hk _ H3 ((s1.trans s2).trans s3) rfl
theorem oU {op op':CmpOp} {g g':D->D->Out D} {cc:Expr} {fc:Ev} (ho:OpD T X (compareOp op) g) (ho':OpD T X (compareOp op') g') (ha:DE T X a fa) (hb:DE T X b fb) (hc:DE T X cc fc) (hm:lastMarks [op,op'] [b,cc]=false:=by with_unfolding_all rfl) :
 DT T X (.Compare a [op,op'] [b,cc] pos) (fun ρ=>(yN g g' fa fb fc ρ).bind D.toB):=.mk λG E hp=>by
 obtain ⟨r,hr,hg⟩:=ho E;obtain ⟨r',hr',hg'⟩:=ho' E;refine PT.imp (XF (X:=X.wish E) hr hr' (ha.run G E hp) (hb.run G E hp) (hc.run G E hp) hm) fun σ H Q ⟨ρ,fr,h⟩=>q8 hg hg' fr (Acc.mono (Acc.bind h) λd _ hd v H1 s1 r1=>?_)
 cases d with
 | bl kk=>exact ⟨kk,r1,hd H1 s1⟩
 | _=>exact hd.elim
@[simp] def isD (neg:Bool):D->D->Out D
 | .bl i,.bl j=>.ok (.bl (if neg then !decide (i=j) else decide (i=j)))
 | d,.non=>.ok (.bl (if neg then !d.isNon else d.isNon))
 | _,_=>.bad
theorem q9:OpR X (compareOp .IsNot) (λx y H Q=>∃i j,x=.bl i/\y=.bl j/\Q (.bl (!decide (i=j))) H):=by
 intro vA s σ H x y v u Q I rx ry h;obtain ⟨i,j,rfl,rfl,q⟩:=h;cases rx;cases ry;exact isnot_bool (cJ I q (by cases i<;>cases j<;>rfl))
theorem r0:OpD T X (compareOp .IsNot) (isD true):=λE=>⟨_,OpR.or XB q9,λdx dy x y σ H Q rx ry q=>by
 cases dy with
 | non=>
  have q2:Acc T X E σ H (.ok (.bl (!dx.isNon))) (kE T X.K H Q):=by cases dx<;>exact q
  exact .inl ⟨ry,q2 _ H (Same.refl H) (congrArg (λb=>V.bl (!b)) (p9 rx))⟩
 | bl j=>
  cases dx with
  | bl i=>exact .inr ⟨i,j,rx,ry,q _ H (Same.refl H) rfl⟩
  | _=>exact q.elim
 | _=>first | exact q.elim | (cases dx<;>exact q.elim)⟩
@[simp] def oV:List Nat->Ro->List D->Out Ro
 | [],ρ,[]=>.ok ρ
 | i::is,ρ,d::ds=>oV is (ρ.set i (.sh d)) ds
 | _,_,_=>.bad
def sT (T:Tb) (X:Cx) (ts:List Expr) (is:List Nat):Prop:=∀E:Value->Shared->Prop,∃tg:TGs,PGs (X.wish E) ts tg/\∀(G H:Hp) (σ:L2.St) (ρ ρ':Ro) (ds:List D) (vs:List V) (Q:L2.St->Hp->Prop),FR T X.K G H σ ρ->RepL T X.K H ds vs->oV is ρ ds=.ok ρ'->(∀σ',FR T X.K G H σ' ρ'->Q σ' H)->tg vs σ H Q
theorem yO:sT T X [] []:=λE=>⟨_,FS,λG H σ ρ ρ' ds vs Q fr r e k=>by
 cases ds with
 | nil=>cases e;cases r;exact ⟨rfl,k σ fr⟩
 | cons d ds=>cases e⟩
theorem jM (i:Nat) {is:List Nat} {ts:List Expr} (hN:X.N.Nodup) (hr:sT T X ts is) (hi:X.N[i]?=some x:=by rfl) (hx:Loc X.env.scope x:=by walk_at "v3") (hf:X.fn x=true∨X.env.scope.names.lookup x=some .local:=by walk_at "v2") (hz:T.me=none∨i≠0:=by walk_at "v1")
 (hs:(assignEach (.Name x p::ts) X.env).map (·.2)=assign (.Name x p) X.env::(assignEach ts X.env).map (·.2):=by rfl):sT T X (.Name x p::ts) (i::is):=λE=>by
 obtain ⟨tg,h1,h2⟩:=hr E;refine ⟨_,xI (X:=X.wish E) (lZ (X:=X.wish E) (i:=i) hN hi hx hf) h1 (by first | exact hs | rfl),λG H σ ρ ρ' ds vs Q fr r e k=>?_⟩;cases ds with
 | nil=>cases e
 | cons d ds=>
  obtain ⟨v,us,rfl,r1,r2⟩:=r;exact ⟨v,us,rfl,h2 G H _ _ ρ' ds us Q (fr.set_sh r1 hz) r2 e k⟩
@[simp] def iQ (is:List Nat) (ρ:Ro) (d:D):Out Ro:=match d with
 | .tup ds=>oV is ρ ds
 | _=>.bad
theorem II:∀(is:List Nat) (ρ ρ':Ro) (ds:List D),oV is ρ ds=.ok ρ'->ds.length=is.length
 | [],_,_,[],_=>rfl
 | [],_,_,_::_,e=>by cases e
 | _::_,_,_,[],e=>by cases e
 | i::is,ρ,ρ',d::ds,e=>by
  have:=II is _ ρ' ds e;simp [this]
theorem yP {ts:List Expr} {is:List Nat} {kk:Nat} (hc:X.calm=true) (h:sT T X ts is) (hn:(assignEach ts X.env).length=is.length:=by rfl) (hst:(assignEach ts X.env).findIdx? (·.1)=none:=by rfl):TgD T X (.Tuple ts kk pos) (iQ is):=λE=>by
 obtain ⟨tg,h1,h2⟩:=h E;refine ⟨_,FT (X:=X.wish E) (n:=is.length) hc h1 hn hst,λG H σ ρ ρ' d v Q fr r e k=>?_⟩;cases d with
 | tup ds=>
  obtain ⟨a,vs,rfl,sq,rl⟩:=r;exact ⟨a,vs,rfl,sq,(RepL.length _ _ rl).trans (II is ρ ρ' ds e),h2 G H σ ρ ρ' ds vs Q fr rl e k⟩
 | _=>cases e
@[simp] def IJ (is:List Nat) (fe:Ev) (ρ:Ro):Fl:=(fe ρ).fl ρ λd=>match iQ is ρ d with
 | .ok ρ'=>.nx ρ'
 | _=>.bad
theorem r6 {tg:Expr} {is:List Nat} (he:DE T X e fe) (hg:TgD T X tg (iQ is)) (hs:swapsWithSole [tg] e pos.line X.env=pure false:=by rfl) (hw:swappedStores [tg] e X.env=pure none:=by rfl)
 (h1:(assignEach [tg] X.env).map (·.2)=[assign tg X.env]:=by rfl):DS T ib X (.Assign [tg] e pos) (IJ is fe):=.mk λG E hp=>by
 obtain ⟨tgr,hpg,hgr⟩:=hg E;refine PS.imp (xK (X:=X.wish E) (he.run G E hp) hpg hs hw h1) λD σ H ⟨ρ,fr,h⟩=>⟨ρ,fr,Acc.mono (AccS.fl fr h) λd _ hd v H1 s1 r1=>?_⟩
 cases eg:iQ is ρ d with
 | ok ρ'=>
  simp only [eg] at hd;exact hgr G H1 σ ρ ρ' d v _ (fr.mono s1) r1 eg fun σ' fr'=>hd σ' H1 fr' (Pers.of s1)
 | exc c=>simp only [eg] at hd;exact hd.elim
 | bad=>simp only [eg] at hd;exact hd.elim
theorem cX {i:Int} (hg:Gl X x) (h:∃t,X.mg x=some (.int i t)) (hd:(x==("__debug__" : Str))=false:=by decide):DE T X (.Name x pos) (eC (.int i)):=by
 obtain ⟨t,h⟩:=h;exact xX (v:=.int i) hg h ⟨t,rfl⟩ (λ_=>rfl) hd
theorem r8 {z:Str} (hg:Gl X x) (h:∃t,X.mg x=some (.str z t)) (hd:(x==("__debug__" : Str))=false:=by decide):DE T X (.Name x pos) (eC (.str z)):=by
 obtain ⟨t,h⟩:=h;exact xX (v:=.str z) hg h ⟨t,rfl⟩ (λ_=>rfl) hd
theorem hsh1 {fe:Ev} (ρ:Ro) (ds:List D) (h:aD fe aI ρ=.ok ds):ds.length<=1000:=by
 simp only [aD,aI] at h;cases e:fe ρ with
 | ok d=>rw [e] at h;cases h;show 1<=1000;decide
 | exc c=>rw [e] at h;cases h
 | bad=>rw [e] at h;cases h
theorem r9 {K:PySem.W.Frag} {k:Nat} {tab:List (Nat×Bool)} (h:∀q∈tab,PySem.W.exmOne K (.ref (T.ca q.1)) (.ref (T.ca k))=some q.2) (c:Nat) (b:Bool) (e:tab.lookup c=some b):PySem.W.exmOne K (.ref (T.ca c)) (.ref (T.ca k))=some b:=by
 have hm:(c,b)∈tab:=by
  induction tab with
  | nil=>cases e
  | cons q r ih=>
   obtain ⟨a,d⟩:=q;rw [List.lookup_cons] at e;by_cases z:c=a
   ·subst z;simp at e;subst e;exact List.mem_cons_self
   ·have:(c==a)=false:=beq_eq_false_iff_ne.mpr z;rw [this] at e;exact List.mem_cons_of_mem _ (ih (λq hq=>h q (List.mem_cons_of_mem _ hq)) e)
 exact h _ hm
end
theorem oW {K:PySem.W.Frag} {x qual:Str} {st:Stmt} {f:Addr} {fd:FuncData} (F:L2.Fun K x qual st f fd):∃(oc:Value) (od:Option Addr) (dV kV doc pm:Value) (an:Option Addr) (vK ct:Value) (osl:Array (Option Value)),
 fd=PySem.W.fnOf x qual (iM st) (gU st) (aZ st) dV kV doc pm an vK ct/\K.lookup f=some ⟨oc,od,.func fd,osl⟩/\PySem.W.codeIn K vK qual=true:=by
 obtain ⟨oc,od,kV,doc,pm,an,vK,ct,osl,e1,e2,e3⟩:=F.ex;exact ⟨oc,od,.none,kV,doc,pm,an,vK,ct,osl,e1,e2,e3⟩
section
variable {T:Tb} {ib:Bool} {X:Cx} {e o a:Expr} {es:List Expr} {pos p apos cpos:Pos} {fe fo:Ev} {fs:Ro->Out (List D)}
def MtD (T:Tb) (X:Cx) (t id:String) (g:D->List D->Out D):Prop:=∀E:Value->Shared->Prop,∃r:V->List V->Hp->VK->Prop,MtR (X.wish E) id r /\
 ∀(d:D) (ds:List D) (v:V) (vs:List V) (σ:L2.St) (H:Hp) (Q:VK),Rep T X.K H d v->RepL T X.K H ds vs->Acc T X E σ H (g d ds) (kE T X.K H Q)->r v vs H Q
@[simp] def eMt (ty:D->Bool) (g:D->List D->Out D) (fo:Ev) (fs:Ro->Out (List D)) (ρ:Ro):Out D:=(fo ρ).bind λd=>if ty d=true then (fs ρ).bind λds=>g d ds else .bad
@[simp] def sU:D->Bool
 | .str _=>true
 | _=>false
theorem t8 {name:Str} {id:String} {g:D->List D->Out D} (hm:MtD T X "str" id g) (slot:Slot "str" name id) (hty:typeOf (.builtin id)=pure (.type "method_descriptor")) (ho:DE T X o fo) (ha:DA T X (e::es) fs)
 (hbase:attributeBase o name X.env (eval o X.env)=eval o X.env:=by rfl)
 (hfew:((backTo cpos (starEach (e::es) X.env)).all (λx=>!x.1) && (backToKw cpos (keywordEach [] X.env)).all (λx=>x.1.isSome)
  && decide ((e::es).length+([]:List Keyword).length+(if ([]:List Keyword).isEmpty then 0 else 1) < 30))=true:=by exact xV rfl rfl)
 (hline:(apos.endLine==cpos.line)=true:=by rfl) (hs:starEach (e::es) X.env=(false,eval e X.env)::starEach es X.env:=by exact cM rfl) (hplain:(backTo cpos (starEach es X.env)).any (·.1)=false:=by exact dL rfl) :
 DE T X (.Call (.Attribute o name apos) (e::es) [] cpos) (eMt sU g fo fs):=.mk λG E hp=>by
 obtain ⟨r,hr,hg⟩:=hm E;refine PE.imp (GU (X:=X.wish E) PySem.F.plainAttrs_str slot hty hr (ho.run G E hp) (ha.run G E hp) hbase hfew hline hs hplain) fun σ H Q ⟨ρ,fr,q⟩=>?_
 have q:Acc T X E σ H ((fo ρ).bind λd=>if sU d=true then (fs ρ).bind λds=>g d ds else .bad) (kE T X.K H Q):=q;refine ⟨ρ,fr,Acc.mono (Acc.bind q) λd _ hd v H1 s1 rd=>?_⟩;by_cases z:sU d=true
 ·rw [if_pos z] at hd;cases d with
  | str x=>
   refine ⟨by rw [show v=V.str x from rd];exact rfl,ρ,fr.mono s1,Acc.mono (Acc.bind (Acc.heap s1 hd)) λds _ hds vs H2 s2 rl=>?_⟩;exact hg _ ds v vs σ H2 Q (Rep.mono s2 _ _ rd) rl (Acc.mono (Acc.heap s2 hds) λd' _ k w H3 s3 r3=>k w H3 ((s1.trans s2).trans s3) r3)
  | _=>cases z
 ·rw [if_neg z] at hd;exact hd.elim
end
def mL:Expr->Option D
 | .Constant (.int i) _ _=>some (.int i)
 | .Constant (.str x) _ _=>some (.str x)
 | .Constant (.bool b) _ _=>some (.bl b)
 | .Constant .none _ _=>some .non
 | _=>none
def litsOf:List Expr->Option (List D)
 | []=>some []
 | e::es=>match mL e,litsOf es with
  | some d,some ds=>some (d::ds)
  | _,_=>none
@[simp] def fQ (ds:List D) (ρ:Ro):Out (List D):=.ok ds
section
variable {T:Tb} {X:Cx}
theorem t9:∀{e:Expr} {d:D},mL e=some d->DE T X e (eC d):=by
 intro e d h;unfold mL at h
 split at h<;>cases h
 ·exact aC
 ·exact lB
 ·exact fF
 ·exact xW
theorem u0:∀{e:Expr} {d:D},mL e=some d->kZ e=true:=by
 intro e d h;unfold mL at h
 split at h<;>first | rfl | cases h
theorem gP:∀{es:List Expr} {ds:List D},litsOf es=some ds->DA T X es (fQ ds)
 | [],ds,h=>by
  cases h;exact aK
 | e::es,ds,h=>by
  unfold litsOf at h;cases e1:mL e with
  | none=>rw [e1] at h;cases h
  | some d=>
   cases e2:litsOf es with
   | none=>rw [e1,e2] at h;cases h
   | some rs=>
    rw [e1,e2] at h;cases h;exact aG (t9 e1) (gP e2) (cM (u0 e1))
end
def Walk (T:Tb) (K:PySem.W.Frag) (G:Hp) (J:It) (ds:List D) (H0:Hp):Prop:=∀(i:Nat) (H:Hp),Pers T false H0 H->Same G H ->
 (∀d,ds[i]?=some d->J.go i H/\∀x H1,J.yld i H x H1->Same H H1/\Rep T K H1 d x)/\(ds.length<=i->J.stop i H)
def tI (T:Tb) (X:Cx) (G:Hp) (E:Value->Shared->Prop) (f:Ro->Out (List D)):TI:=fun σ H R=>∃ρ,FR T X.K G H σ ρ/\Acc T X E σ H (f ρ) (λds=>∀J H',Same H H'->Walk T X.K G J ds H'->R J H')
structure DI (T:Tb) (X:Cx) (tg e:Expr) (f:Ro->Out (List D)):Prop where
 mk ::
 run:∀(G:Hp) (E:Value->Shared->Prop),PassesOwn (model X.prog X.w) X.A X.env E->PI (X.wish E) tg e (tI T X G E f)
section
variable {T:Tb} {X:Cx} {tg iter e a b:Expr} {body:List Stmt} {pos p:Pos} {fb:Ro->Fl} {fl fm:Ro->Out (List D)} {fe fa fc:Ev}
theorem cU {g:Ro->D->Out Ro} (hc:X.calm=true) (hi:DI T X tg iter fl) (hg:TgD T X tg g) (hb:DSs T false X body fb)
 (hs:∀x,foldedSetIterable iter X.env x=pure x:=by intro _;rfl):DS T false X (.For tg iter body [] pos) (cQ fl g fb):=.mk λG E hp=>by
 obtain ⟨tgr,hpg,hgr⟩:=hg E;refine PS.imp (WH (X:=X.wish E) hp hc (hi.run G E hp) hpg (hb.run G E hp) hs) λDD σ H ⟨ρ,fr,h⟩=>⟨ρ,fr,Acc.mono (AccS.fl fr h) λds _ hd J H1 s1 wk=>?_⟩
 refine ⟨λi m σ' H'=>m=ds.length-i/\i<=ds.length/\∃ρ',FR T X.K G H' σ' ρ'/\Pers T false H1 H'/\AccS T false X G E H' (cP (aP g fb) (ds.drop i) ρ') DD,⟨ds.length,rfl,Nat.zero_le _,ρ,fr.mono s1,Pers.refl _,AccS.heap (Pers.of s1) hd⟩,?_⟩;rintro i m σ' H' ⟨rfl,hi,ρ',fr',p',ha⟩;obtain ⟨w1,w2⟩:=wk i H' p' fr'.same;by_cases hlt:i < ds.length
 ·obtain ⟨d,e1⟩:∃d,ds[i]?=some d:=⟨ds[i],by simp [hlt]⟩
  obtain ⟨go,yl⟩:=w1 d e1;refine .inr ⟨go,fun σ2 H2=>∃ρ2,FR T X.K G H2 σ2 ρ2/\Pers T false H1 H2/\AccS T false X G E H2 (cP (aP g fb) (ds.drop (i+1)) ρ2) DD,fun σ2 H2 q=>⟨ds.length-(i+1),by omega,rfl,hlt,q⟩,λx H2 y=>?_⟩;obtain ⟨s2,rd⟩:=yl x H2 y;have e2:ds.drop i=d::ds.drop (i+1):=by
   obtain ⟨hi',e3⟩:=List.getElem?_eq_some_iff.mp e1;rw [List.drop_eq_getElem_cons hi',e3]
  rw [e2] at ha;exact f7 (ib:=false) hgr (λ_ _ _ q=>q) (fr'.mono s2) rd (AccS.heap (Pers.of s2) ha) fun ρ2 σ2 H3 fr2 p2 h2=>⟨ρ2,fr2,(p'.trans (Pers.of s2)).trans p2,h2⟩
 ·have e:i=ds.length:=by omega
  subst e;rw [List.drop_length] at ha;exact .inl ⟨w2 (Nat.le_refl _),ha σ' H' fr' (Pers.refl _)⟩
theorem u1 {G H1:Hp} {E:Value->Shared->Prop} {l:Addr} {vs:List V} {ds:List D} (st:Stb X.K G H1 l vs) (r:RepL T X.K H1 ds vs):Walk T X.K G (Itl X.K l) ds H1:=λi H p sm=>by
 have st':Stb X.K G H l vs:=st.pers p;have sq:=st'.sq sm;have r':=RepL.pers p _ _ r;refine ⟨λd e=>?_,λh=>⟨vs,sq,by rw [RepL.length _ _ r'];exact h⟩⟩;obtain ⟨v,e1,rd⟩:=RepL.get _ _ _ _ r' e;refine ⟨⟨vs,v,sq,e1⟩,λx H2 ⟨e2,y⟩=>?_⟩;subst e2;have:=y vs sq;rw [e1] at this;cases this;exact ⟨Same.refl _,rd⟩
theorem dE (hl:DP T X iter fl):DI T X tg iter fl:=.mk λG E hp=>
 PI.imp (VZ (hl.run G E hp)) fun σ H R ⟨ρ,fr,h⟩=>⟨ρ,fr,Acc.mono h λds _ hd l vs H1 s1 st r=>
  ⟨l,rfl,⟨vs,st.sq (fr.same.trans s1)⟩,hd _ H1 s1 (u1 (E:=E) st r)⟩⟩
@[simp] def D.toT:D->Out (List D)
 | .tup ds=>.ok ds
 | _=>.bad
@[simp] def gQ (f:Ev) (ρ:Ro):Out (List D):=(f ρ).bind D.toT
theorem IK {K:PySem.W.Frag} {H H':Hp} {l:Addr} {vs:List V} (p:Pers T false H H') (h:SqT K H l vs):SqT K H' l vs:=by
 rcases h with (r2 | ⟨o,r2⟩) | r2
 ·exact .inl (.inl (p _ _ r2 rfl))
 ·exact .inl (.inr ⟨o,p _ _ r2 rfl⟩)
 ·exact .inr r2
theorem sV (hl:DE T X iter fe):DI T X tg iter (gQ fe):=.mk λG E hp=>
 PI.imp (WA (hl.run G E hp)) fun σ H R ⟨ρ,fr,h⟩=>⟨ρ,fr,Acc.mono (Acc.bind h) λd _ hd v H1 s1 r=>by
  cases d with
  | tup ds=>
   obtain ⟨l,vs,rfl,sq,rl⟩:=r;refine ⟨l,rfl,⟨vs,sq⟩,hd _ H1 s1 λi H2 p sm=>?_⟩;have sq':=IK p sq;have r':=RepL.pers p _ _ rl;refine ⟨λd e=>?_,λh=>⟨vs,sq',by rw [RepL.length _ _ r'];exact h⟩⟩;obtain ⟨v,e1,rd⟩:=RepL.get _ _ _ _ r' e;refine ⟨⟨vs,v,sq',e1⟩,λx H3 ⟨e2,y⟩=>?_⟩;subst e2;have:=y vs sq';rw [e1] at this;cases this;exact ⟨Same.refl _,rd⟩
  | _=>exact hd.elim⟩
def rgS (lo step:Int) (n:Nat):List D:=(List.range n).map λ(k:Nat)=>D.int (lo+(k:Int)*step)
def Its (lo step:Int) (n:Nat):It:=⟨λi _=>i < n,λi H x H'=>H'=H/\x=.int (lo+i*step),λi _=>n<=i⟩
theorem u2 {P:Program} {w:World} {K:PySem.W.Frag} {tg:Expr} (it:Addr) (lo step:Int) (n:Nat):Turn P w K tg (Its lo step n) [it] it (λi h=>IsRangeIter h it (lo+(i:Nat)*step) ((n:Int)-(i:Nat)) step) where
 mem:=by simp
 obj:=λi h st b hb=>by
  have e:b=it:=by simpa using hb
  subst e;exact ⟨_,st,λv z=>by
   have z':Data.fields _=Data.cell v:=z;cases z'⟩
 keep:=λi h h' st k=>k it (by simp) _ st
 item:=by
  intro X hP hw hK hc i vA s σ H E I hf st hg;subst hP hw hK;obtain ⟨f0,f1,f2,f3,f4,f5⟩:=hf it (by simp);have W:=Walks.range (prog:=X.prog) (w:=X.w) (I.ok.hd hc) it lo step n;refine W.item i s _ _ hg st λv h' tk hv st' kk=>?_
  obtain ⟨t,rfl⟩:=hv;have I1:Inv X vA σ H { s with heap:=h',toks:=tk }:=I.turned (λb o hb e=>kk b o (by simpa using hb) e) f0 f1 f3 f4 f5;exact ⟨_,rfl,oF (s:={ s with heap:=h',toks:=tk }) (n:="range_iterator") st' rfl rfl (by decide) ⟨.int (lo+i*step),H,I1,⟨t,rfl⟩,⟨rfl,rfl⟩,st',λb hb=>(hf b hb).1⟩⟩
 done:=by
  intro X hP hw hK hc i vA s σ H E I hf st hg;subst hP hw hK;obtain ⟨f0,f1,f2,f3,f4,f5⟩:=hf it (by simp);exact wpAny_pyNext_range_end (I.ok.hd hc) st (by have:n<=i:=hg;omega) λh' eb=>⟨rfl,I.turned (t':=s.toks) (λb o hb e=>eb b o hb e) f0 f1 f3 f4 f5⟩
 self:=λ_ _ _ _ _ st h=>wpAny_pyIter_rangeiter st h
theorem yQ {lo hi step:Int} (h1:-(2 ^ 40)<=lo) (h2:lo < 2 ^ 40) (h3:-(2 ^ 40)<=hi) (h4:hi < 2 ^ 40) (hs:step≠0):0<=Builtin.Range.rangeSize lo hi step/\Builtin.Range.rangeSize lo hi step < 2 ^ 42:=by
 have key:∀(u c:Int),0<=u->0 < c->0<=u / c/\u / c<=u:=λu c hu hc=>⟨Int.ediv_nonneg hu (by omega),Int.ediv_le_self _ hu⟩
 unfold Builtin.Range.rangeSize
 split
 ·split
  ·obtain ⟨k1,k2⟩:=key (hi-lo-1) step (by omega) (by omega);omega
  ·omega
 ·split
  ·obtain ⟨k1,k2⟩:=key (lo-hi-1) (-step) (by omega) (by omega);omega
  ·omega
theorem IL {lo hi step:Int} (h1:-(2 ^ 40)<=lo) (h2:lo < 2 ^ 40) (h3:-(2 ^ 40)<=hi) (h4:hi < 2 ^ 40) (h5:-(2 ^ 40)<=step) (h6:step < 2 ^ 40) (hs:step≠0):Builtin.Range.small lo hi step=true:=by
 obtain ⟨k1,k2⟩:=yQ h1 h2 h3 h4 hs;unfold Builtin.Range.small;simp only [Builtin.Range.rangeFitsLong,Bool.and_eq_true,Bool.or_eq_true,decide_eq_true_eq,beq_iff_eq];refine ⟨⟨⟨⟨by omega,by omega⟩,by omega⟩,by omega⟩,.inr ?_⟩
 split<;>simp only [Builtin.Range.rangeFitsLong,Bool.and_eq_true,decide_eq_true_eq]<;>omega
theorem u3 {vA:List (Addr×Obj)} {σ:L2.St} {H:Hp} {s:Shared} {R:It->Hp->Prop} {E:Value->Shared->Prop} {lo hi step:Int} {t u v:Tok} {tk:Nat} (I:Inv X vA σ H s) (h1:-(2 ^ 40)<=lo) (h2:lo < 2 ^ 40) (h3:-(2 ^ 40)<=hi) (h4:hi < 2 ^ 40) (h5:-(2 ^ 40)<=step) (h6:step < 2 ^ 40) (hs:step≠0)
 (q:R (Its lo step (Builtin.Range.rangeSize lo hi step).toNat) H):wpAny (model X.prog X.w) X.A (pyIter (.ref s.heap.objs.size)) (PIE X vA σ tg R) E { s with heap:=s.heap.push { cls:=.type "range",data:=.fields #[.int lo t,.int hi u,.int step v] },toks:=tk }:=by
 refine wpAny_pyIter_range (IsRange.new ..) (IL h1 h2 h3 h4 h5 h6 hs) ?_;obtain ⟨k1,k2⟩:=yQ h1 h2 h3 h4 hs;have I1:Inv X vA σ H { s with heap:=s.heap.push { cls:=.type "range",data:=.fields #[.int lo t,.int hi u,.int step v] },toks:=tk }:=I.kept λb o e=>Heap.get?_push_of_some _ e
 refine ⟨(s.heap.push { cls:=.type "range",data:=.fields #[.int lo t,.int hi u,.int step v] }).objs.size,[(s.heap.push { cls:=.type "range",data:=.fields #[.int lo t,.int hi u,.int step v] }).objs.size],_,_,H,rfl,
  I1.kept (t':=tk) λb o e=>Heap.get?_push_of_some _ e,u2 _ lo step (Builtin.Range.rangeSize lo hi step).toNat,?_,λb hb=>?_,q⟩
 ·have e1:lo+((0:Nat):Int)*step=lo:=by simp
  have e2:(((Builtin.Range.rangeSize lo hi step).toNat:Nat):Int)-((0:Nat):Int)=Builtin.Range.rangeSize lo hi step:=by omega
  show IsRangeIter _ _ (lo+((0:Nat):Int)*step) ((((Builtin.Range.rangeSize lo hi step).toNat:Nat):Int)-((0:Nat):Int)) step;rw [e1,e2];exact Heap.get?_push_size _ rfl
 ·have e:b=(s.heap.push { cls:=.type "range",data:=.fields #[.int lo t,.int hi u,.int step v] }).objs.size:=by simpa using hb
  subst e;exact I1.fpOk (Nat.le_refl _) (I1.hok.fresh (Nat.le_refl _))
theorem u4 {G H1:Hp} {lo step:Int} {n:Nat}:Walk T X.K G (Its lo step n) (rgS lo step n) H1:=λi H p sm=>by
 refine ⟨λd e=>?_,λh=>by show n<=i;simpa [rgS] using h⟩;have hi:i < n:=by
  have:=(List.getElem?_eq_some_iff.mp e).1;simpa [rgS] using this
 have ed:d=.int (lo+(i:Int)*step):=by
  rw [rgS,List.getElem?_map,List.getElem?_range hi] at e;exact (Option.some.inj e).symm
 subst ed;refine ⟨hi,λx H2 ⟨e2,y⟩=>?_⟩;subst e2 y;exact ⟨Same.refl _,rfl⟩
theorem u5 {G H1:Hp} {lo:Int} {n:Nat}:Walk T X.K G (Itr lo n) (rgD lo n) H1:=λi H p sm=>by
 refine ⟨λd e=>?_,λh=>by show n<=i;simpa [rgD] using h⟩;have hi:i < n:=by
  have:=(List.getElem?_eq_some_iff.mp e).1;simpa [rgD] using this
 have ed:d=.int (lo+(i:Int)):=by
  rw [rgD,List.getElem?_map,List.getElem?_range hi] at e;exact (Option.some.inj e).symm
 subst ed;refine ⟨hi,λx H2 ⟨e2,y⟩=>?_⟩;subst e2 y;exact ⟨Same.refl _,rfl⟩
@[simp] def dH (fn:Ro->Out (Int×Nat)) (ρ:Ro):Out (List D):=(fn ρ).bind λp=>.ok (rgD p.1 p.2)
theorem fR {fn:Ro->Out (Int×Nat)} (hn:DN T X tg iter fn):DI T X tg iter (dH fn):=.mk λG E hp=>
 PI.imp (hn.run G E hp) fun σ H R ⟨ρ,fr,h⟩=>⟨ρ,fr,Acc.mono (Acc.bind h) λp _ hd H1 s1=>hd _ H1 s1 u5⟩
def gR (i j k:Int):Bool:=decide (-(2 ^ 40)<=i) && decide (i < 2 ^ 40) && decide (-(2 ^ 40)<=j) && decide (j < 2 ^ 40) && decide (-(2 ^ 20)<=k) && decide (k < 2 ^ 20) && decide (k≠0)
@[simp] def jZ (fa fb fc:Ev) (ρ:Ro):Out (List D):=(fa ρ).bind λd=>(fb ρ).bind λd'=>(fc ρ).bind λd''=>match d,d',d'' with
 | .int i,.int j,.int k=>if gR i j k=true then .ok (rgS i k (Builtin.Range.rangeSize i j k).toNat) else .bad
 | _,_,_=>.bad
theorem yR {c:Expr} (hg:Gl X "range") (hm:X.mg "range" = none) (ha:DE T X a fa) (hb:DE T X b fe) (hc:DE T X c fc) (hs:starEach [a,b,c] X.env=(false,eval a X.env)::starEach [b,c] X.env:=by exact cM rfl) (hs2:starEach [b,c] X.env=(false,eval b X.env)::starEach [c] X.env:=by exact cM rfl) (hs3:starEach [c] X.env=(false,eval c X.env)::starEach [] X.env:=by exact cM rfl)
 (hpl:(backTo pos (starEach [b,c] X.env)).any (·.1)=false:=by exact dL rfl):DI T X tg (.Call (.Name "range" p) [a,b,c] [] pos) (jZ fa fe fc):=.mk λG E hp=>by
 rintro vA s σ H R I ⟨ρ,fr,h⟩;refine Call_ (gX (X:=X.wish E) I hg hm boot_range (PyProof.Rows.callWith_type1 (thn ((cZ (X:=X.wish E) (ha.run G E hp) (cZ (X:=X.wish E) (hb.run G E hp) (cZ (X:=X.wish E) (hc.run G E hp) eP hs3) hs2) hs) pos vA s σ H (λvs H1=>∃i j k,vs=[.int i,.int j,.int k]/\gR i j k=true/\R (Its i k (Builtin.Range.rangeSize i j k).toNat) H1) I ⟨ρ,fr,?_⟩) λus s1 ⟨vs,H1,I1,r1,i,j,k,e,ok,q⟩=>?_) hs hpl))
 ·refine Acc.mono (Acc.bind h) λd _ hd v H1 s1 r=>⟨ρ,fr.mono s1,Acc.mono (Acc.bind (Acc.heap s1 hd)) λd' _ hd' v' H2 s2 r'=>⟨ρ,(fr.mono s1).mono s2,Acc.mono (Acc.bind (Acc.heap s2 hd')) λd'' _ hd'' v'' H3 s3 r''=>?_⟩⟩
  cases d with
  | int i=>
   cases d' with
   | int j=>
    cases d'' with
    | int k=>
     have hd2:Acc T X E σ H2 (if gR i j k=true then Out.ok (rgS i k (Builtin.Range.rangeSize i j k).toNat) else .bad) (λds=>∀J H',Same H H'->Walk T X.K G J ds H'->R J H'):=hd'';by_cases z:gR i j k=true
     ·rw [if_pos z] at hd2;exact ⟨i,j,k,by rw [show v=V.int i from r,show v'=V.int j from r',show v''=V.int k from r''],z,hd2 _ H3 ((s1.trans s2).trans s3) u4⟩
     ·rw [if_neg z] at hd2;exact hd2.elim
    | _=>exact hd''.elim
   | _=>first | exact hd''.elim | (cases d''<;>exact hd''.elim)
  | _=>first | exact hd''.elim | (cases d'<;>first | exact hd''.elim | (cases d''<;>exact hd''.elim))
 ·subst e;cases r1 with
  | cons r rr=>
   cases rr with
   | cons r' rr=>
    cases rr with
    | cons r'' rr=>
     cases rr;obtain ⟨t,rfl⟩:=r;obtain ⟨t',rfl⟩:=r';obtain ⟨t'',rfl⟩:=r'';simp only [gR,Bool.and_eq_true,decide_eq_true_eq] at ok;obtain ⟨⟨⟨⟨⟨⟨o1,o2⟩,o3⟩,o4⟩,o5⟩,o6⟩,o7⟩:=ok;exact call_range_3 o7 (u3 (X:=X.wish E) I1 o1 o2 o3 o4 (by omega) (by omega) o7 q) (.inl (PyProof.noPylong_small (by omega)))
variable {K:PySem.W.Frag} {G H:Hp} {σ:L2.St} {ρ:Ro}
theorem mM {b:Bool} {a:Addr} {vs ws:List V} (h:H a=some (.lst vs)):Pers T b H (upd H a (.lst ws)):=λc o e st=>by
 rw [aM (λz=>by rw [z,h] at e;cases e;cases st)];exact e
theorem FR.own_upd {i:Nat} {ds es:List D} {a:Addr} {vs ws:List V} (fr:FR T K G H σ ρ) (e:ρ[i]?=some (.ow ds)) (e1:σ[i]?=some (some (.ref a))) (e2:H a=some (.lst vs)) (e3:G a=none) (r:RepL T K H es ws) :
 FR T K G (upd H a (.lst ws)) σ (ρ.set i (.ow es)):=by
 have p:Pers T false H (upd H a (.lst ws)):=mM e2;have hl:i < ρ.length:=(List.getElem?_eq_some_iff.mp e).1;have lt:∀{m:Nat} {z:Sl},(ρ.set i (.ow es))[m]?=some z->(m=i/\z=.ow es)∨(m≠i/\ρ[m]?=some z):=λ{m z} q=>by
  by_cases hm:m=i
  ·subst hm;rw [List.getElem?_set_self hl] at q;exact .inl ⟨rfl,(Option.some.inj q).symm⟩
  ·rw [List.getElem?_set_ne (Ne.symm hm)] at q;exact .inr ⟨hm,q⟩
 refine ⟨λb u q=>?_,by simp [fr.len],λj s q=>?_,λj k s1 s2 b hjk q1 q2 o1 o2=>?_,fr.me,sD (λ_ _ z=>by cases z) fr.me0⟩
 ·rw [aM (λz=>by rw [z,e3] at q;cases q)];exact fr.same b u q
 ·rcases lt q with ⟨rfl,rfl⟩ | ⟨hj,q⟩
  ·exact ⟨a,ws,e1,cR,e3,RepL.pers p _ _ r⟩
  ·have h:=fr.sl j s q;exact SlOk.off e2 (λ_ _=>RepL.pers p _ _) (λo1=>fr.ne j i _ _ a hj q e o1 e1) h
 ·have bk:∀(c:Addr) (u:HO),H c=some u->(∀xs,u≠.lst xs)->(∀x dx fs,u≠.ins x dx fs)->upd H a (.lst ws) c=some u:=λc u w n _=>by
   rw [aM (λy=>by subst y;rw [e2] at w;cases w;exact n _ rfl)];exact w
  have own:∀(m:Nat) (z:Sl),(ρ.set i (.ow es))[m]?=some z->eA (upd H a (.lst ws)) σ[m]? b z->∃z',ρ[m]?=some z'/\eA H σ[m]? b z':=λm z q o=>by
   rcases lt q with ⟨rfl,rfl⟩ | ⟨_,q⟩
   ·exact ⟨_,e,o⟩
   ·exact ⟨_,q,(fr.sl m z q).back bk o⟩
  obtain ⟨_,p1,w1⟩:=own j _ q1 o1;obtain ⟨_,p2,w2⟩:=own k _ q2 o2;exact fr.ne j k _ _ b hjk p1 p2 w1 w2
end
section
variable {T:Tb} {ib:Bool} {X:Cx} {e e' o a b:Expr} {pos p p2 p3:Pos} {fe fa fb:Ev} {fl fm:Ro->Out (List D)} {x:Str}
@[simp] def iC (i:Nat) (fe:Ev) (ρ:Ro):Fl:=match ρ[i]? with
 | some (.ow ds)=>(fe ρ).fl ρ λd=>if ds.length < 1000000 then .nx (ρ.set i (.ow (ds++[d]))) else .bad
 | _=>.bad
theorem jN (i:Nat) (he:DE T X e fe) (hN:X.N[i]?=some x:=by rfl) (hv:Vis X.env.scope x:=by walk_at "v0") (hd:(x==("__debug__" : Str))=false:=by decide)
 (hcd:(x==("__classdict__" : Str))=false:=by decide) (hs:starEach [e] X.env=(false,eval e X.env)::starEach [] X.env:=by exact cM rfl) (hpl:(backTo p3 (starEach ([]:List Expr) X.env)).any (·.1)=false:=by exact dL rfl) (hst:([e]:List Expr).all kZ=true:=by rfl)
 (hline:(p2.endLine==p3.line)=true:=by rfl) :
 DS T ib X (.Expr (.Call (.Attribute (.Name x p) "append" p2) [e] [] p3) pos) (iC i fe):=.mk λG E hp=>
 PS.imp (xD (X:=X.wish E) (GU (X:=X.wish E) PySem.F.plainAttrs_list PySem.F.slot_list_append PySem.F.type_list_append GV (gW (X:=X.wish E) hN hv hd hcd) (cZ (X:=X.wish E) (he.run G E hp) eP hs) rfl (xV hst rfl) hline hs hpl) (jT rfl)) λD σ H ⟨ρ,fr,h⟩=>by
  unfold iC at h
  split at h
  ·rename_i ds e0
   obtain ⟨l,vs,e1,e2,e3,r⟩:=fr.sl i _ e0;refine ⟨_,e1,.inl ⟨rfl,vs,SqL.of e2⟩,ρ,fr,Acc.mono (AccS.fl fr h) λd _ hd v H1 s1 r1=>?_⟩;by_cases z:ds.length < 1000000
   ·rw [if_pos z] at hd;have r':=RepL.mono s1 _ _ r;refine ⟨l,vs,v,rfl,rfl,s1 _ _ e2,?_,hd σ _ ((fr.mono s1).own_upd e0 e1 (s1 _ _ e2) e3 (RepL.append _ _ _ _ r' ⟨v,[],rfl,r1,rfl⟩)) ((Pers.of s1).trans (mM (s1 _ _ e2)))⟩;rw [RepL.length _ _ r];have:=line6 (n:=1000000) (by omega);omega
   ·rw [if_neg z] at hd;exact hd.elim
  ·exact h.elim
@[simp] def yS (i:Nat) (ρ:Ro):Fl:=match ρ[i]? with
 | some (.ow _)=>.nx (ρ.set i (.ow []))
 | _=>.bad
theorem u6 (i:Nat) (hN:X.N[i]?=some x:=by rfl) (hv:Vis X.env.scope x:=by walk_at "v0") (hd:(x==("__debug__" : Str))=false:=by decide)
 (hcd:(x==("__classdict__" : Str))=false:=by decide) (hline:(p2.endLine==p3.line)=true:=by rfl) :
 DS T ib X (.Expr (.Call (.Attribute (.Name x p) "clear" p2) [] [] p3) pos) (yS i):=.mk λG E hp=>
 PS.imp (xD (X:=X.wish E) (ZL (X:=X.wish E) PySem.F.plainAttrs_list PySem.F.slot_list_clear PySem.F.type_list_clear ZP (gW (X:=X.wish E) hN hv hd hcd) rfl hline) (jT rfl)) λD σ H ⟨ρ,fr,h⟩=>by
  unfold yS at h
  split at h
  ·rename_i ds e0
   obtain ⟨l,vs,e1,e2,e3,r⟩:=fr.sl i _ e0;exact ⟨_,e1,.inl ⟨rfl,vs,SqL.of e2⟩,l,vs,rfl,rfl,e2,h σ _ (fr.own_upd e0 e1 e2 e3 (es:=[]) (ws:=[]) rfl) (mM e2)⟩
  ·exact h.elim
theorem IM {t e:Expr} {n:Nat} {env:Env} (h:HB e=true):swapsWithSole [t] e n env=pure false:=by
 rw [swapsWithSole];exact jT h
@[simp] def yT (ds:List D) (k:Int) (d:D):Option (List D):=(ixN ds.length k).map λj=>ds.set j d
@[simp] def yU (i:Nat) (fb fe:Ev) (ρ:Ro):Fl:=(fe ρ).fl ρ λd=>match ρ[i]? with
 | some (.ow ds)=>(fb ρ).fl ρ λk=>(match k with
  | .int k=>(match yT ds k d with | some ds'=>.nx (ρ.set i (.ow ds')) | none=>.bad)
  | _=>.bad)
 | _=>.bad
theorem u8 (i:Nat) (he:DE T X e fe) (hb:DE T X b fb) (hN:X.N[i]?=some x:=by rfl) (hv:Vis X.env.scope x:=by walk_at "v0") (hd:(x==("__debug__" : Str))=false:=by decide)
 (hcd:(x==("__classdict__" : Str))=false:=by decide) (hs:swapsWithSole [.Subscript (.Name x p) b p2] e pos.line X.env=pure false:=by first | exact IM rfl | rfl) (hw:swappedStores [.Subscript (.Name x p) b p2] e X.env=pure none:=by rfl)
 (ha:∀v,assign (.Subscript (.Name x p) b p2) X.env v=(do
  let ov <-holding [v] (eval (.Name x p) X.env)
  let iv <-holding [v,ov] (eval b X.env)
  standAt p2
  holding [v,ov,iv] (setItem ov iv v)
  release [v,ov,iv] []):=by intro _;rfl) :
 DS T ib X (.Assign [.Subscript (.Name x p) b p2] e pos) (yU i fb fe):=.mk λG E hp=>
 PS.imp (xK (X:=X.wish E) (he.run G E hp) (FU (X:=X.wish E) (gW (X:=X.wish E) hN hv hd hcd) (hb.run G E hp) ZB ha) hs hw rfl) λD σ H ⟨ρ,fr,h⟩=>by
  refine ⟨ρ,fr,Acc.mono (AccS.fl fr h) λd _ hd v H1 s1 r1=>?_⟩;have fr1:=fr.mono s1
  split at hd
  ·rename_i ds e0
   obtain ⟨l,vs,e1,e2,e3,r⟩:=fr1.sl i _ e0;refine ⟨_,e1,ρ,fr1,Acc.mono (AccS.fl fr1 (AccS.heap (Pers.of s1) hd)) λk _ hk u H2 s2 r2=>?_⟩;cases k with
   | int k=>
    have hk':AccS T ib X G E H1 (match yT ds k d with | some ds'=>.nx (ρ.set i (.ow ds')) | none=>.bad) D:=hk;unfold yT at hk';have hl:=RepL.length _ _ r;cases ej:ixN ds.length k with
    | none=>rw [ej] at hk';exact hk'.elim
    | some j=>
     rw [ej] at hk';have r3:=RepL.set _ _ j _ _ (RepL.mono s2 _ _ r) (Rep.mono s2 _ _ r1);exact ⟨l,vs,k,j,rfl,r2,s2 _ _ e2,by rw [hl];exact ej,hk' σ _ ((fr1.mono s2).own_upd e0 e1 (s2 _ _ e2) e3 r3) ((Pers.of s2).trans (mM (s2 _ _ e2)))⟩
   | _=>exact hk.elim
  ·exact hd.elim
def tOI (T:Tb) (X:Cx) (G:Hp) (E:Value->Shared->Prop) (f:Ro->Out (Option Int)):TO:=fun σ H Q=>∃ρ,FR T X.K G H σ ρ/\Acc T X E σ H (f ρ) (λo=>∀H',Same H H'->Q o H')
structure DO (T:Tb) (X:Cx) (e:Option Expr) (f:Ro->Out (Option Int)):Prop where
 mk ::
 run:∀(G:Hp) (E:Value->Shared->Prop),PassesOwn (model X.prog X.w) X.A X.env E->PO (X.wish E) e (tOI T X G E f)
theorem PO.imp {X:Cx} {e:Option Expr} {t t':TO} (h:PO X e t) (k:∀σ H Q,t' σ H Q->t σ H Q):PO X e t':=λvA s σ H Q I q=>h vA s σ H Q I (k σ H Q q)
@[simp] def oNo (ρ:Ro):Out (Option Int):=.ok none
@[simp] def oSo (fe:Ev) (ρ:Ro):Out (Option Int):=(fe ρ).bind λd=>match d with
 | .int i=>.ok (some i)
 | _=>.bad
theorem mO:DO T X none oNo:=.mk λG E hp=>PO.imp YR fun σ H Q ⟨ρ,fr,h⟩=>h H (Same.refl H)
theorem mP (he:DE T X e fe):DO T X (some e) (oSo fe):=.mk λG E hp=>PO.imp (YS (he.run G E hp)) fun σ H Q ⟨ρ,fr,h⟩=>⟨ρ,fr,Acc.mono (Acc.bind h) λd _ hd v H1 s1 r=>by
 cases d with
 | int i=>exact ⟨i,r,hd H1 s1⟩
 | _=>exact hd.elim⟩
def mQ {α:Type} (ds:List α) (lo hi:Option Int):List α:=(ds.drop (HT.sIx ds.length 0 lo)).take (HT.sIx ds.length ds.length hi-HT.sIx ds.length 0 lo)
@[simp] def IN (fl:Ro->Out (List D)) (fo fu:Ro->Out (Option Int)) (ρ:Ro):Out (List D):=(fl ρ).bind λds=>(fo ρ).bind λlo=>(fu ρ).bind λhi=>.ok (mQ ds lo hi)
theorem RepL.cut {K:PySem.W.Frag} {H:Hp} {ds:List D} {vs:List V} (r:RepL T K H ds vs) (lo hi:Option Int):RepL T K H (mQ ds lo hi) (mE vs lo hi):=by
 unfold mQ mE;rw [RepL.length _ _ r];exact RepL.take _ _ _ (RepL.drop _ _ _ r)
theorem u9 {lo hi:Option Expr} {fo fu:Ro->Out (Option Int)} (hl:DL T X e fl) (ho:DO T X lo fo) (hu:DO T X hi fu):DF T X (.Subscript e (.Slice lo hi none p2) pos) (IN fl fo fu):=.mk λG E hp=>
 PE.imp (GO (X:=X.wish E) ZF (hl.run G E hp) (ho.run G E hp) (hu.run G E hp)) fun σ H Q ⟨ρ,fr,h⟩=>⟨ρ,fr,Acc.mono (Acc.bind h) λds _ hd l vs H1 s1 sq r=>⟨ρ,fr.mono s1,Acc.mono (Acc.bind (Acc.heap s1 hd)) λlo _ hlo H2 s2=>⟨ρ,(fr.mono s1).mono s2,Acc.mono (Acc.bind (Acc.heap s2 hlo)) λhi _ hhi H3 s3=>
  ⟨l,vs,rfl,s3.seq (s2.seq sq),λq hq=>hhi q _ _ (((s1.trans s2).trans s3).trans (dP hq)) (((s1.trans s2).trans s3).free hq) cR (RepL.mono (dP hq) _ _ (RepL.cut (RepL.mono (s2.trans s3) _ _ r) lo hi))⟩⟩⟩⟩
theorem v4:OpR X (binaryOp .Add) (λx y H Q=>∃l m xs zs,x=.ref l/\y=.ref m/\SqL X.K H l xs/\SqL X.K H m zs/\xs.length+zs.length<=sizeLine/\∀p,H p=none->Q (.ref p) (upd H p (.lst (xs++zs)))):=by
 intro vA s σ H x y v u Q I rx ry h;obtain ⟨l,m,xs,zs,rfl,rfl,hH,hB,hz,q⟩:=h;cases rx;cases ry;obtain ⟨its,r,pl,z1⟩:=I.list hH;obtain ⟨its2,r2,pl2,z2⟩:=I.list hB;have l1:=r.length;have l2:=r2.length;obtain ⟨⟨cls,dd,data,sl⟩,ho,hc,n,hd⟩:=pl.isList;obtain ⟨⟨cls2,dd2,data2,sl2⟩,ho2,hc2,n2,hd2⟩:=pl2.isList;simp only at hc hd hc2 hd2;subst hc hd hc2 hd2;have ea:its.toArray++its2.toArray=(its++its2).toArray:=by simp
 refine concat_meets ⟨_,ho,rfl⟩ ⟨_,ho2,rfl⟩ noFill_list_add seq_list_add PySem.F.slot_list_add PySem.F.entry_list_add (PySem.F.args_list_add_2 _ _) (list_addW l m its.toArray its2.toArray n n2 dd dd2 sl sl2 (by rw [List.size_toArray,List.size_toArray];omega)) ⟨ho,ho2,?_⟩;rw [ea];exact ⟨.ref _,_,I.lnew (t':=s.toks) (r.append r2) (by rw [List.length_append];omega),rfl,q _ I.fresh⟩
@[simp] def kA (fl fm:Ro->Out (List D)) (ρ:Ro):Out (List D):=(fl ρ).bind λds=>(fm ρ).bind λes=>if ds.length+es.length<=1000000 then .ok (ds++es) else .bad
theorem oX (ha:DL T X a fl) (hb:DL T X b fm):DF T X (.BinOp a .Add b pos) (kA fl fm):=.mk λG E hp=>
 PE.imp (FV (X:=X.wish E) v4 (ha.run G E hp) (hb.run G E hp)) fun σ H Q ⟨ρ,fr,h⟩=>⟨ρ,fr,Acc.mono (Acc.bind h) λds _ hd l vs H1 s1 sq r=>⟨ρ,fr.mono s1,Acc.mono (Acc.bind (Acc.heap s1 hd)) λes _ hes m ws H2 s2 sq2 r2=>by
  by_cases z:ds.length+es.length<=1000000
  ·rw [if_pos z] at hes;refine ⟨l,m,vs,ws,rfl,rfl,s2.seq sq,sq2,?_,λq hq=>hes q _ _ ((s1.trans s2).trans (dP hq)) ((s1.trans s2).free hq) cR (RepL.mono (dP hq) _ _ (RepL.append _ _ _ _ (RepL.mono s2 _ _ r) r2))⟩;rw [RepL.length _ _ r,RepL.length _ _ r2];exact line6 z
  ·rw [if_neg z] at hes;exact hes.elim⟩⟩
@[simp] def IP (fl:Ro->Out (List D)) (ρ:Ro):Out (List D):=fl ρ
theorem v5 (hg:Gl X "list") (hm:X.mg "list" = none) (hl:DL T X e fl) (hs:starEach [e] X.env=(false,eval e X.env)::starEach [] X.env:=by exact cM rfl) (hpl:(backTo pos (starEach ([]:List Expr) X.env)).any (·.1)=false:=by exact dL rfl):DF T X (.Call (.Name "list" p) [e] [] pos) (IP fl):=.mk λG E hp=>
 PE.imp (mD (X:=X.wish E) GS hg hm rfl (cZ (X:=X.wish E) (hl.run G E hp) eP hs) (by decide) (by decide) hs hpl) fun σ H Q ⟨ρ,fr,h⟩=>⟨ρ,fr,Acc.mono h λds _ hd l vs H1 s1 sq r=>
  ⟨l,vs,rfl,.inl sq,λq hq=>hd q _ _ (s1.trans (dP hq)) (s1.free hq) cR (RepL.mono (dP hq) _ _ r)⟩⟩
theorem v8 (hg:Gl X "list") (hm:X.mg "list" = none) (hl:DE T X e fe) (hs:starEach [e] X.env=(false,eval e X.env)::starEach [] X.env:=by exact cM rfl) (hpl:(backTo pos (starEach ([]:List Expr) X.env)).any (·.1)=false:=by exact dL rfl):DF T X (.Call (.Name "list" p) [e] [] pos) (gQ fe):=.mk λG E hp=>
 PE.imp (mD (X:=X.wish E) GS hg hm rfl (cZ (X:=X.wish E) (hl.run G E hp) eP hs) (by decide) (by decide) hs hpl) fun σ H Q ⟨ρ,fr,h⟩=>⟨ρ,fr,Acc.mono (Acc.bind h) λd _ hd v H1 s1 r=>by
  cases d with
  | tup ds=>
   obtain ⟨l,vs,rfl,sq,rl⟩:=r;exact ⟨l,vs,rfl,.inr sq,λq hq=>hd q _ _ (s1.trans (dP hq)) (s1.free hq) cR (RepL.mono (dP hq) _ _ rl)⟩
  | _=>exact hd.elim⟩
@[simp] def mR (fl:Ro->Out (List D)) (ρ:Ro):Out D:=(fl ρ).bind λds=>.ok (.tup ds)
theorem oY (hg:Gl X "tuple") (hm:X.mg "tuple" = none) (hl:DL T X e fl) (hs:starEach [e] X.env=(false,eval e X.env)::starEach [] X.env:=by exact cM rfl) (hpl:(backTo pos (starEach ([]:List Expr) X.env)).any (·.1)=false:=by exact dL rfl):DE T X (.Call (.Name "tuple" p) [e] [] pos) (mR fl):=.mk λG E hp=>
 PE.imp (mD (X:=X.wish E) ZJ hg hm rfl (cZ (X:=X.wish E) (hl.run G E hp) eP hs) (by decide) (by decide) hs hpl) fun σ H Q ⟨ρ,fr,h⟩=>⟨ρ,fr,Acc.mono (Acc.bind h) λds _ hd l vs H1 s1 sq r=>
  ⟨l,vs,rfl,.inl ⟨sq,λq hq=>hd _ _ (s1.trans (dP hq)) ⟨q,vs,rfl,SqT.of cR,RepL.mono (dP hq) _ _ r⟩⟩⟩⟩
@[simp] def yV (fl:Ro->Out (List D)) (ρ:Ro):Out (List D):=(fl ρ).bind λds=>.ok ds.reverse
theorem IQ {k:Expr} {fk:Ev} (hl:DL T X e fl) (hk:DE T X k fk) (hk1:∀ρ,fk ρ=.ok (.int (-1)):=by intro _;rfl):DF T X (.Subscript e (.Slice none none (some k) p2) pos) (yV fl):=.mk λG E hp=>by
 rintro vA s σ H Q I ⟨ρ,fr,h⟩;refine Subscript_ (thn (hl.run G E hp vA s σ H (λv H1=>∃l vs ds,v=.ref l/\Same H H1/\SqL X.K H1 l vs/\RepL T X.K H1 ds vs/\Acc T X E σ H (.ok ds.reverse) (λds=>∀a vs H',Same H H'->H a=none->H' a=some (.lst vs)->RepL T X.K H' ds vs->Q (.ref a) H')) I ⟨ρ,fr,Acc.mono (Acc.bind h) λds _ hd l vs H1 s1 sq r=>⟨l,vs,ds,rfl,s1,sq,r,hd⟩⟩) λv s1 ⟨x,H1,I1,r1,l,vs,ds,ex,sm,sq,r,hd⟩=>?_);subst ex;cases r1;refine wpAny_Slice ?_;rw [evalPart_none];refine wpAny_pure ?_;refine wpAny_pure ?_;rw [evalPart_some];refine thn (hk.run G E hp vA s1 σ H1 (λv H2=>v=.int (-1)/\Same H1 H2) I1 ⟨ρ,fr.mono sm,?_⟩) λvk s3 ⟨y,H3,I3,ry,ey,sm3⟩=>?_
 ·rw [hk1];exact λv H' s' rv=>⟨rv,s'⟩
 subst ey;obtain ⟨t,rfl⟩:=ry;have I4:Inv (X.wish E) vA σ H3 { s3 with heap:=s3.heap.push { cls:=.type "slice",data:=.fields #[.none,.none,.int (-1) t] } }:=I3.kept (t':=s3.toks) λb ob q=>Heap.get?_push_of_some _ q
 obtain ⟨its,rv,pl,hz⟩:=I4.list (sm3.seq sq);have hlen:=rv.length;show wpAny (model X.prog X.w) X.A (subscriptTail e (.Slice none none (some k) p2) (.ref l) (.ref s3.heap.objs.size)) (EP (X.wish E) vA σ Q) E { s3 with heap:=s3.heap.push { cls:=.type "slice",data:=.fields #[.none,.none,.int (-1) t] } };refine tail_any (ops:=[.ref l,.ref s3.heap.objs.size]) pl.isList.typeIs slot_list_getitem.lookup (wpAny_getItem_list_slice pl.isList (Heap.IsSliceOf.new ..) .none .none (.int (-1) t) (by simp) ?_ (by rw [List.size_toArray];omega)) (by with_unfolding_all rfl);rw [PySem.W.krv_pick];refine ⟨.ref _,_,I4.lnew (t':=s3.toks) (ys:=vs.reverse) (by simpa using rv.reverse) (by rw [List.length_reverse];exact hz),rfl,?_⟩;have fr4:=I4.fresh;exact hd _ vs.reverse _ ((sm.trans sm3).trans (dP fr4)) ((sm.trans sm3).free fr4) cR (RepL.mono (dP fr4) _ _ (RepL.reverse _ _ (RepL.mono sm3 _ _ r)))
variable {tg:Expr}
variable {tp:Pos} {elts:List Expr} {x1:Nat}
variable {prog:Program} {w:World} {A:Around} {E:Value->Shared->Prop} {s:Shared}
variable {pos2:Pos}
@[simp] def yW (i:Nat) (ρ:Ro):Out D:=match ρ[i]? with
 | some (.sh d)=>(sQ d).bind λb=>.ok (.bl b)
 | some (.ow _)=>.ok (.bl true)
 | some (.bo _)=>.ok (.bl true)
 | _=>.bad
theorem v9 (i:Nat) (hg:Gl X "isinstance") (hm:X.mg "isinstance" = none) (hgc:Gl X "list") (hmc:X.mg "list" = none) (hN:X.N[i]?=some x:=by rfl) (hv:Vis X.env.scope x:=by walk_at "v0") (hd:(x==("__debug__" : Str))=false:=by decide)
 (hcd:(x==("__classdict__" : Str))=false:=by decide):DE T X (.Call (.Name "isinstance" p) [.Name x p2,.Name "list" p3] [] pos) (yW i):=.mk λG E hp=>by
 rintro vA s σ H Q I ⟨ρ,fr,h⟩;refine wpAny_Call_Name_kw (gX (X:=X.wish E) I hg hm (u:=.builtin "isinstance") rfl ?_);have hs1:starEach [.Name x p2,.Name "list" p3] X.env=(false,eval (.Name x p2) X.env)::starEach [.Name "list" p3] X.env:=rfl;have fin:∀(v:V),σ[i]?=some (some v)->(∀(s1:Shared) (I1:Inv (X.wish E) vA σ H s1) (u:Value),RelV v u->wpAny (model X.prog X.w) X.A (call (.builtin "isinstance") [u,.type "list"]) (EP (X.wish E) vA σ Q) E s1) ->
  wpAny (model X.prog X.w) X.A (callWith pos (.builtin "isinstance") [] (backTo pos (starEach [.Name x p2,.Name "list" p3] X.env)) []) (EP (X.wish E) vA σ Q) E s:=λv e1 k=>by
  refine PyProof.Rows.callWith_builtin1 (thn ((cZ (X:=X.wish E) (gW (X:=X.wish E) hN hv hd hcd) (cZ (X:=X.wish E) (FQ (X:=X.wish E) hgc hmc boot_list (v:=.ty "list") rfl) eP rfl) hs1) pos vA s σ H (λvs H1=>vs=[v,.ty "list"]/\H1=H) I ⟨v,e1,rfl,rfl⟩) λus s1 ⟨vs,H1,I1,rvs,ev,eH⟩=>?_) hs1 rfl;subst ev eH;obtain ⟨u,u',rfl,r1,r2⟩:=Vals.two rvs;cases (show u'=Value.type "list" from r2);exact k s1 I1 u r1
 have lst:∀(a:Addr) (vs:List V) (s1:Shared) (I1:Inv (X.wish E) vA σ H s1),SqL X.K H a vs->Q (.bl true) H->wpAny (model X.prog X.w) X.A (call (.builtin "isinstance") [.ref a,.type "list"]) (EP (X.wish E) vA σ Q) E s1:=λa vs s1 I1 sq q=>by
  obtain ⟨its,_,⟨o,n,h1,h2,_⟩,_⟩:=I1.list sq;exact PySem.W.kia_one PySem.W.kitx_list I1.kIn ⟨o,h1,h2⟩ (b:=true) (by with_unfolding_all rfl) (λz=>nomatch z) λtk=>⟨.bl true,H,I1.tok _,rfl,q⟩
 unfold yW at h
 split at h
 ·rename_i d e
  obtain ⟨v,e1,r⟩:=fr.sl i _ e;refine fin v e1 λs1 I1 u ru=>?_
  cases eg:sQ d with
  | ok b=>
   rw [eg] at h;obtain ⟨z1,z2,z3⟩:=g6 (T:=T) (K:=X.K) d b eg;exact HQ (X:=X.wish E) I1 ru r z1 z2 z3 λtk=>⟨.bl b,H,I1.tok _,rfl,h _ H (Same.refl H) rfl⟩
  | exc c=>exact absurd eg (g8 d c)
  | bad=>rw [eg] at h;exact h.elim
 ·rename_i ds e
  obtain ⟨a,vs,e1,e2,e3,r⟩:=fr.sl i _ e;refine fin _ e1 λs1 I1 u ru=>?_
  cases ru;exact lst a vs s1 I1 (SqL.of e2) (h _ H (Same.refl H) rfl)
 ·rename_i ds e
  obtain ⟨a,vs,e1,e2,r⟩:=fr.sl i _ e;refine fin _ e1 λs1 I1 u ru=>?_
  cases ru;exact lst a vs s1 I1 (SqL.of (fr.same _ _ e2)) (h _ H (Same.refl H) rfl)
 ·exact h.elim
end
end L3
namespace L3
open PySem L2
theorem w5 {a b:Str} (h:a.cps.toList=b.cps.toList):a=b:=by
 cases a;cases b;simp at h;simp [h]
theorem w6 (a b:Str):(a++b).cps.toList=a.cps.toList++b.cps.toList:=by
 show (a.cps++b.cps).toList=_;simp
theorem yX (a:Str):a.cps.toList.length=a.length:=by simp [Str.length]
section
variable {b:Ro->D->Fl} {d:D} {ds:List D} {ρ ρ':Ro}
theorem kB:cP b [] ρ=.nx ρ:=by rw [cP]
theorem kC (h:b ρ d=.nx ρ'):cP b (d::ds) ρ=cP b ds ρ':=by rw [cP,h]
theorem w8 {r:Rv} (h:b ρ d=.rt r):cP b (d::ds) ρ=.rt r:=by rw [cP,h]
end
theorem cV {fl:Ro->Out (List D)} {g:Ro->D->Out Ro} {fb:Ro->Fl} {ρ:Ro} {ds:List D} (h:fl ρ=.ok ds):cQ fl g fb ρ=cP (aP g fb) ds ρ:=by rw [cQ,h,Out.ok_fl]
theorem gD {fe:Ev} {ρ:Ro} {n:Nat} (h:fe ρ=.ok (.int n)) (hn:n < 1000000):dH (n1 fe) ρ=.ok (rgD 0 n):=by
 have e:n1 fe ρ=.ok (0,n):=by
  rw [n1,h,Out.ok_bind];show (if _ then _ else _)=_;rw [if_pos ⟨by omega,by omega⟩,Int.toNat_natCast]
 rw [dH,e,Out.ok_bind]
theorem w9 (lo:Int) (n:Nat):rgD lo (n+1)=.int lo::rgD (lo+1) n:=by
 rw [rgD,List.range_succ_eq_map,List.map_cons,List.map_map,rgD]
 congr 1
 ·simp
 ·apply List.map_congr_left;intro k _;simp only [Function.comp_apply]
  congr 1
  omega
theorem y6 (lo:Int):rgD lo 0=[]:=by simp [rgD]
end L3
namespace L3
open PySem PySem.Spec PyProof.Rows L2
def eR (f:D->Out D):List D->Option (List D)
 | []=>some []
 | d::ds=>match f d with
  | .ok e=>(match eR f ds with | some es=>some (e::es) | none=>none)
  | _=>none
theorem A0 (env:Env):∀(names:List (Str×NameKind)) (cs:List (Str×Addr)),(∀y∈names,y.2=.free->∃c,env.cells.lookup y.1=some c)->(∀y c,cs.lookup y=some c->env.cells.lookup y=some c) ->
 ∃cl:List (Str×Addr),(forIn names cs λ(x:Str×NameKind) (r:List (Str×Addr))=>(do if x.2==NameKind.free then do let c <-cellOf env x.1;pure (ForInStep.yield ((x.1,c)::r)) else pure (ForInStep.yield r):Sem (ForInStep (List (Str×Addr)))))=pure cl /\
  (∀y c,cl.lookup y=some c->env.cells.lookup y=some c)/\(∀y∈names,y.2=.free->∃c,cl.lookup y.1=some c)/\∀y c,cs.lookup y=some c->cl.lookup y=some c:=by
 intro names
 induction names with
 | nil=>intro cs _ h;exact ⟨cs,rfl,h,λy hy=>by simp at hy,λ_ _ e=>e⟩
 | cons z names ih=>
  obtain ⟨n,k⟩:=z;intro cs hf h;by_cases hk:k=.free
  ·subst hk;obtain ⟨c,hc⟩:=hf (n,.free) (by simp) rfl;have hc:env.cells.lookup n=some c:=hc;have h':∀y c',((n,c)::cs).lookup y=some c'->env.cells.lookup y=some c':=λy c' e=>by
    rw [List.lookup_cons] at e;cases ey:y==n with
    | true=>rw [ey] at e;cases e;rw [eq_of_beq ey];exact hc
    | false=>rw [ey] at e;exact h y c' e
   obtain ⟨cl,e1,e2,e3,e4⟩:=ih ((n,c)::cs) (λy hy=>hf y (by simp [hy])) h';have nn:cl.lookup n=some c:=e4 n c (by simp [List.lookup_cons]);refine ⟨cl,?_,e2,λy hy hy2=>?_,λy c' e=>?_⟩
   ·rw [List.forIn_cons];have:cellOf env n=pure c:=by unfold cellOf;rw [hc]
    simp only [beq_self_eq_true,if_true,this,pure_bind];exact e1
   ·rcases List.mem_cons.mp hy with z | z
    ·rw [z];exact ⟨c,nn⟩
    ·exact e3 y z hy2
   ·by_cases ey:y=n
    ·subst ey;have:=h y c' e;rw [hc] at this;cases this;exact nn
    ·exact e4 y c' (by rw [List.lookup_cons,show (y==n)=false by simpa using ey];exact e)
  ·obtain ⟨cl,e1,e2,e3,e4⟩:=ih cs (λy hy=>hf y (by simp [hy])) h;have hb:(k==NameKind.free)=false:=by simpa using hk
   refine ⟨cl,?_,e2,λy hy hy2=>?_,e4⟩
   ·rw [List.forIn_cons];simp only [hb,Bool.false_eq_true,if_false,pure_bind];exact e1
   ·rcases List.mem_cons.mp hy with z | z
    ·rw [z] at hy2;exact absurd hy2 hk
    ·exact e3 y z hy2
theorem A1 (env:Env) (scope:Scope) (hf:∀y∈scope.names,y.2=.free->∃c,env.cells.lookup y.1=some c) :
 ∃cl:List (Str×Addr),closureFor scope env=pure cl/\(∀y c,cl.lookup y=some c->env.cells.lookup y=some c)/\∀y∈scope.names,y.2=.free->∃c,cl.lookup y.1=some c:=by
 obtain ⟨cl,e1,e2,e3,_⟩:=A0 env scope.names [] hf (λy c e=>by simp at e);refine ⟨cl,?_,e2,e3⟩;rw [closureFor];show (forIn scope.names [] _ >>= λcs=>pure cs)=pure cl;rw [bind_pure];exact e1
abbrev CxC (X:Cx) (N':List Str) (scope:Scope) (cl:List (Str×Addr)) (C:Addr) (s₀:Shared) (H₀:Hp) (ex:List Addr):Cx:=
 { X with N:=N',env:=compEnvC scope cl C X.env,outer:=X.stack,s₀:=s₀,H₀:=H₀,ex:=ex,fn:=λ_=>false,pn:=[] }
structure Cap (X:Cx) (scope:Scope) (x:Str) (ys:List Str) (vH:List Nat):Prop where
 kind:scope.kind=.function
 own:scope.names.lookup x=some .local
 nocell:∀y∈scope.names,y.2≠.cell
 names:∀y∈scope.names,y.2=.local->scope.names.lookup y.1=some .local
 free:∀y∈scope.names,y.2=.free->X.env.kindOf y.1=some .cell∨X.env.kindOf y.1=some .free
 nodup:(x::ys).Nodup
 len:vH.length=ys.length
 cap:∀(j:Nat) (y:Str) (i:Nat),ys[j]?=some y->vH[j]?=some i->X.N[i]?=some y/\(X.env.kindOf y=some .cell∨X.env.kindOf y=some .free)/\scope.names.lookup y=some .free
theorem sW {env:Env}:∀{names:List (Str×NameKind)} {x:Str} {k:NameKind},(names.map λ(n,k)=>if (k==NameKind.free && env.scope.kind==.function && env.kindOf n==some .cell) then (n,NameKind.cell) else (n,k)).lookup x=some k ->
 ∃k',names.lookup x=some k'/\(x,k')∈names/\(k=k'∨(k'=.free/\k=.cell))
 | [],_,_,h=>by simp at h
 | (n,k0)::r,x,k,h=>by
  have ih:=@sW env r x k;have h:List.lookup x ((if (k0==NameKind.free && env.scope.kind==.function && env.kindOf n==some .cell)=true then (n,NameKind.cell) else (n,k0))::_)=some k:=h;cases hx:x==n with
  | true=>
   have e:=eq_of_beq hx;subst e;refine ⟨k0,by simp [List.lookup_cons],by simp,?_⟩;by_cases hc:(k0==NameKind.free && env.scope.kind==.function && env.kindOf x==some .cell)=true
   ·rw [if_pos hc] at h;simp only [List.lookup_cons,beq_self_eq_true] at h;cases h
    right
    refine ⟨?_,rfl⟩;simp only [Bool.and_eq_true] at hc;exact eq_of_beq hc.1.1
   ·rw [if_neg hc] at h;simp only [List.lookup_cons,beq_self_eq_true] at h;cases h;exact .inl rfl
  | false=>
   have h':List.lookup x (r.map λ(n,k)=>if (k==NameKind.free && env.scope.kind==.function && env.kindOf n==some .cell) then (n,NameKind.cell) else (n,k))=some k:=by
    by_cases hc:(k0==NameKind.free && env.scope.kind==.function && env.kindOf n==some .cell)=true
    ·rw [if_pos hc] at h;simpa [List.lookup_cons,hx] using h
    ·rw [if_neg hc] at h;simpa [List.lookup_cons,hx] using h
   obtain ⟨k',e1,e2,e3⟩:=ih h';exact ⟨k',by rw [List.lookup_cons,hx];exact e1,List.mem_cons_of_mem _ e2,e3⟩
section
variable {X:Cx} {vA:List (Addr×Obj)} {σ:L2.St} {H:Hp} {s:Shared} {scope:Scope} {x:Str} {ys:List Str} {vH:List Nat} {cl:List (Str×Addr)} {ex:List Addr}
theorem Cap.has (cp:Cap X scope x ys vH) (hcl:∀y∈scope.names,y.2=.free->∃c,cl.lookup y.1=some c):∀y,((relabel scope X.env).names.lookup y=some .cell∨(relabel scope X.env).names.lookup y=some .free)->∃c,cl.lookup y=some c:=by
 intro y h;rcases h with h | h
 ·obtain ⟨k',_,e2,e3⟩:=sW (env:=X.env) h;rcases e3 with e3 | e3
  ·exact absurd e3.symm (cp.nocell _ e2)
  ·exact hcl _ e2 e3.1
 ·obtain ⟨k',_,e2,e3⟩:=sW (env:=X.env) h;rcases e3 with e3 | e3
  ·exact hcl _ e2 e3.symm
  ·cases e3.2
theorem A2 (I:Inv X vA σ H s) (cp:Cap X scope x ys vH) (h1:∀y c,cl.lookup y=some c->X.env.cells.lookup y=some c) (h2:∀y∈scope.names,y.2=.free->∃c,cl.lookup y.1=some c)
 (hx:∀b∈ex,eX X vA H b/\b < s.heap.objs.size):(CxC X (x::ys) scope cl s.heap.objs.size s H ex).Ok where
 mod:=I.ok.mod
 kind:=cp.kind
 glob:=I.ok.glob
 blt:=I.ok.blt
 above:=Nat.le_refl _
 inj:=λa b c e1 e2=>I.ok.inj a b c (h1 _ _ e1) (h1 _ _ e2)
 has:=λy h=>cp.has h2 y h
 cab:=λy c e=>by cases e
 hd:=I.ok.hd
 frames:=I.ok.frames
 stk:=.inl rfl
 exf:=λb hb=>⟨Nat.ne_of_lt (hx b hb).2,λy c e=>(hx b hb).1.2.2.2.2.1 y c (h1 _ _ e)⟩
 bs:=I.bs
 bsz:=Nat.le_trans I.ok.bsz I.sz
 noex:=λb o e hb=>by
  rcases (hx b hb).1.2.2.2.1 with z | z
  ·exact I.ok.noex b o e z
  ·exact absurd (Nat.lt_of_lt_of_le (Heap.lt_size e) I.ok.bsz) (Nat.not_lt.mpr z)
 exfs:=λb hb hf=>by
  rcases List.mem_cons.mp (I.stkSub b hf) with z | z
  ·exact (hx b hb).1.2.1 z
  ·exact (hx b hb).1.2.2.1 z
 funs:=I.stack
 frf:=I.stkFree
theorem A3 {h':Heap} {tk:Nat} {m:Str->Option Value} (I:Inv X vA σ H s) (cp:Cap X scope x ys vH) (h1:∀y c,cl.lookup y=some c->X.env.cells.lookup y=some c) (h2:∀y∈scope.names,y.2=.free->∃c,cl.lookup y.1=some c)
 (hx:∀b∈ex,eX X vA H b/\b < s.heap.objs.size) (hn:h'.Ns s.heap.objs.size m) (hk:∀b o,s.heap.get? b=some o->h'.get? b=some o) :
 Inv (CxC X (x::ys) scope cl s.heap.objs.size s H ex) [] (none::vH.map λi=>σ.getD i none) H { s with heap:=h',toks:=tk } where
 ok:=A2 I cp h1 h2 hx
 os:=rfl
 bare:=I.bare
 base:=Un.kept hk
 loc:=by
  refine ⟨m,hn,λj y v e1 e2 e3=>?_⟩;cases j with
  | zero=>cases e2
  | succ j=>
   have e1:ys[j]?=some y:=e1;have e2:(vH.map λi=>σ.getD i none)[j]?=some (some v):=e2;rw [List.getElem?_map] at e2;cases ei:vH[j]? with
   | none=>rw [ei] at e2;cases e2
   | some i=>
    rw [ei] at e2;have e2:σ.getD i none=some v:=Option.some.inj e2;obtain ⟨q1,q2,q3⟩:=cp.cap j y i e1 ei;have e4:σ[i]?=some (some v):=by
     rw [List.getD_eq_getElem?_getD] at e2;cases q:σ[i]? with
     | none=>rw [q] at e2;cases e2
     | some w=>rw [q] at e2;exact congrArg some e2
    obtain ⟨m0,hn0,hl⟩:=I.loc;obtain ⟨u,r,lk⟩:=hl i y v q1 e4 (q2.elim (λz=>.inr (.inl z)) λz=>.inr (.inr z));refine ⟨u,r,.inr ?_⟩;have lc:∃c,X.env.cells.lookup y=some c/\s.heap.IsCell c (some u):=by
     rcases lk with ⟨z,_⟩ | ⟨_,z⟩
     ·rcases q2 with q2 | q2<;>(rw [q2] at z;cases z)
     ·exact z
    obtain ⟨c,c1,c2⟩:=lc;have mm:(y,NameKind.free)∈scope.names:=by
     have:∀(l:List (Str×NameKind)) (k:NameKind),l.lookup y=some k->(y,k)∈l:=by
      intro l
      induction l with
      | nil=>intro k e;simp at e
      | cons z l ih=>
       intro k e;rw [List.lookup_cons] at e;cases hz:y==z.1 with
       | true=>rw [hz] at e;cases e;rw [eq_of_beq hz];simp
       | false=>rw [hz] at e;exact List.mem_cons_of_mem _ (ih k e)
     exact this _ _ q3
    obtain ⟨c',c3⟩:=h2 _ mm rfl;have:=h1 _ _ c3;have this:X.env.cells.lookup y=some c':=this;rw [c1] at this;cases this;refine ⟨?_,c,c3,?_⟩
    ·rcases e3 with e3 | e3
     ·obtain ⟨k',z1,_,z3⟩:=sW (env:=X.env) (show ((scope.names.map _).lookup y)=some NameKind.local from e3);rw [q3] at z1;cases z1;rcases z3 with z3 | z3
      ·cases z3
      ·cases z3.2
     ·exact e3
    ·obtain ⟨o,ho,hd⟩:=c2;exact ⟨o,hk _ _ ho,hd⟩
 cell:=λy c e=>by
  obtain ⟨v,o,ho,hd⟩:=I.cell y c (h1 _ _ e);exact ⟨v,o,hk _ _ ho,hd⟩
 free:=I.hok.fresh (Nat.le_refl _)
 freeC:=λy c e=>I.freeC y c (h1 _ _ e)
 pin:=λp hp=>by simp at hp
 hok:=I.hok.kept hk
 len:=by simp [cp.len]
theorem A4 {s3 s':Shared} {H':Hp} {σ':L2.St} {C:Addr} (I:Inv X vA σ H s3) (I':Inv (CxC X (x::ys) scope cl C s3 H ex) [] σ' H' s') (hx:∀b∈ex,eX X vA H b):Inv X vA σ H' s':=
 I.call' (ch:=ex) I'.os I'.base I'.hok I'.bare λb hb=>⟨(hx b hb).2.2.2.1,(hx b hb).2.1,(hx b hb).2.2.2.2.1,(hx b hb).2.2.2.2.2⟩
end
def fS:Sl->Sl
 | .sh d=>.sh d
 | _=>.no
def cG (vH:List Nat) (ρ:Ro) (d:D):Ro:=.sh d::vH.map λi=>fS (ρ.getD i .no)
theorem bX {T:Tb} (h:T.me=none):T={ T with me:=none }:=by
 cases T;cases h;rfl
theorem IR {T T0:Tb} {K:PySem.W.Frag} {G H H':Hp} {σ:L2.St} {ρ:Ro} {vH:List Nat} {d:D} {v:V} {w:Option V} (hT:T0={ T with me:=none }) (fr:FR T K G H σ ρ) (p:Pers T false H H') (r:Rep T K H' d v) :
 FR T0 K (λ_=>none) H' ((w::vH.map λi=>σ.getD i none).set 0 (some v)) (cG vH ρ d):=by
 refine ⟨λ_ _ e=>(by cases e),by simp [cG],λi s e=>?_,λi j s t b _ e1 _ o1 _=>?_,λx e=>?_,λi c ds e=>?_⟩
 ·cases i with
  | zero=>
   have e:Sl.sh d=s:=Option.some.inj e;subst e;exact ⟨v,rfl,hT ▸ (jI _ _).mpr r⟩
  | succ i=>
   have e:(vH.map λi=>fS (ρ.getD i .no))[i]?=some s:=e;show SlOk T0 K _ H' (vH.map λi=>σ.getD i none)[i]? s;rw [List.getElem?_map] at e ⊢;cases q:vH[i]? with
   | none=>rw [q] at e;cases e
   | some k=>
    rw [q] at e;have e:fS (ρ.getD k .no)=s:=Option.some.inj e;subst e;rw [List.getD_eq_getElem?_getD];cases qr:ρ[k]? with
    | none=>exact trivial
    | some z=>
     cases z with
     | sh d'=>
      obtain ⟨u,e1,r1⟩:=fr.sh_at qr;refine ⟨u,?_,hT ▸ (jI _ _).mpr (Rep.pers p _ _ r1)⟩;show some (σ.getD k none)=_;rw [List.getD_eq_getElem?_getD,e1]
      rfl
     | no=>exact trivial
     | ow _=>exact trivial
     | bo _=>exact trivial
     | me _ _=>exact trivial
     | ox _ _ _ _=>exact trivial
     | mo _=>exact trivial
     | od _=>exact trivial
     | lm _=>exact trivial
     | bi _ _=>exact trivial
 ·exfalso
  cases i with
  | zero=>
   have e1:Sl.sh d=s:=Option.some.inj e1;subst e1;exact o1
  | succ i=>
   have e:(vH.map λi=>fS (ρ.getD i .no))[i]?=some s:=e1;rw [List.getElem?_map] at e;cases q:vH[i]? with
   | none=>rw [q] at e;cases e
   | some k=>
    rw [q] at e;have e:fS (ρ.getD k .no)=s:=Option.some.inj e;cases z:ρ.getD k .no<;>(rw [z] at e;subst e;exact o1)
 ·subst hT;cases e
 ·exfalso
  cases i with
  | zero=>cases e
  | succ i=>
   have e:(vH.map λi=>fS (ρ.getD i .no))[i]?=some (.me c ds):=e;rw [List.getElem?_map] at e;cases q:vH[i]? with
   | none=>rw [q] at e;cases e
   | some k=>
    rw [q] at e;have e:fS (ρ.getD k .no)=.me c ds:=Option.some.inj e;cases z:ρ.getD k .no<;>(rw [z] at e;cases e)
section
variable {T:Tb} {X:Cx} {elt iter:Expr} {x:Str} {px pos:Pos} {scope:Scope} {ys:List Str} {vH:List Nat} {fe:Ev} {cl:List (Str×Addr)} {vA:List (Addr×Obj)} {σ:L2.St} {G H2:Hp} {s2:Shared} {J:It} {fp:List Addr} {it:Addr} {tn:Nat->Heap->Prop} {ρ:Ro} {ds es:List D}
end
def CompOk (X:Cx) (e:Expr) (scope:Scope) (pos:Pos) (first:Sem Value) (t:TE):Prop:=
 ∀(vA:List (Addr×Obj)) (s:Shared) (σ:L2.St) (H:Hp) (Q:VK) (use:Option (Value->Sem Unit)) (QQ:Value->Shared->Prop),Inv X vA σ H s->t σ H Q ->
  (∀(a C:Addr) (s':Shared) (m:Str->Option Value) (Hn:Hp),Inv X vA σ Hn s'->eX X vA Hn C->s'.heap.Ns C m->Q (.ref a) Hn->compPost (model X.prog X.w) X.A X.xe use QQ (.ref a) C (.ok .next) s') ->
  wpAny (model X.prog X.w) X.A (comprehension e scope X.env pos (newList []) false first use) QQ X.xe s
section
variable {X:Cx} {elt iter:Expr} {x y:Str} {px py pos spos p':Pos} {scope:Scope} {t:TE}
theorem CompOk.freeze {e:Expr} {first:Sem Value} (h:CompOk X e scope pos first t):CompOk X e scope pos first (fun σ H Q=>t σ H λv H1=>∃a vs,v=.ref a/\H1 a=some (.lst vs)/\∀o,Q v (upd H1 a (.frz o (.lst vs)))):=
 λvA s σ H Q use QQ I q k=>h vA s σ H _ use QQ I q λa C s' m Hn I' f hn ⟨a',vs,e,ha,kq⟩=>by
  cases e;obtain ⟨o,I2⟩:=Inv.freeze I' ha;exact k a C s' m _ I2 ⟨by rw [aM (λz=>by rw [<-z,f.1] at ha;cases ha)];exact f.1,f.2⟩ hn (kq o)
theorem CompOk.pe {gs:List Comprehension} (h:CompOk X (.ListComp elt gs scope pos) scope (firstIterPos gs pos) (firstIter gs X.env) t) (ha:firstAsync gs=false:=by rfl):PE X (.ListComp elt gs scope pos) t:=λvA s σ H Q I q=>by
 rw [eval_ListComp,ha];refine h vA s σ H Q none _ I q λa C s' m Hn I' f hn hq=>⟨m,hn,λh' hs'=>?_⟩
 exact ⟨.ref a,Hn,I'.turned (t':=s'.toks) (λb o hb e=>hs'.extBut b o hb e) f.1 f.2.1 f.2.2.2.1 f.2.2.2.2.1 f.2.2.2.2.2,rfl,hq⟩
theorem CompOk.ps {gs:List Comprehension} {i:Nat} (h:CompOk X (.ListComp elt gs scope pos) scope (firstIterPos gs pos) (firstIter gs X.env) t) (hN:X.N.Nodup) (hi:X.N[i]?=some y) (hy:Loc X.env.scope y) (hf:X.fn y=true∨X.env.scope.names.lookup y=some .local)
 (hsw:swapsWith (.ListComp elt gs scope pos) (some (.Name y py)) spos.line X.env=pure true) (ha:firstAsync gs=false:=by rfl) :
 PS X (.Assign [.Name y py] (.ListComp elt gs scope pos) spos) (xJ t (xH i)):=λvA s σ H D I q=>by
 rw [exec_Assign_Name_used _ _ _ _ hsw];refine wpAny_bind (wpAny_standAt (wpAny_bind ?_));show wpAny _ X.A (do let _ <-comprehension (.ListComp elt gs scope pos) scope X.env (firstIterPos gs pos) (newList []) (firstAsync gs) (firstIter gs X.env) (some (assign (.Name y py) X.env))) _ _ s;rw [ha];refine wpAny_bind (wpAny_mono (h vA s σ H _ (some (assign (.Name y py) X.env)) (λ_ s'=>SP X vA D .next s') I q λa C s' m Hn I' f hn hq=>?_) (λ_ s' hq=>wpAny_pure (wpAny_pure hq)) λ_ _ z=>z);show wpAny (model X.prog X.w) X.A (assign (.Name y py) X.env (.ref a)) _ X.xe s';obtain ⟨o,es,ep,ho,hd⟩:=hn;have hdc:∀v,o.data≠.cell v:=λv z=>by
  have:=hd.1;rw [z] at this;cases this
 have I2:Inv X (vA++[(C,o)]) σ Hn s':=I'.pins_of λp hp=>(List.mem_append.mp hp).elim (λz=>I'.pin p (List.mem_append_right _ z)) λz=>by
  obtain rfl:p=(C,o):=by simpa using z
  exact ⟨ho,f.1,f.2.1,f.2.2.1,hdc⟩
 refine wpAny_mono (lZ (X:=X) (i:=i) hN hi hy hf _ s' σ Hn (.ref a) (.ref a) D.nx I2 rfl hq) (λ_ s'' h''=>?_) λ_ _ z=>z
 obtain ⟨σ',H',I3,q3⟩:=h'';have hC:=I3.pin (C,o) (by simp);refine ⟨m,⟨o,es,ep,hC.1,hd⟩,λh' hs'=>?_⟩;have I4:Inv X vA σ' H' s'':=I3.unpinned;have I5:Inv X vA σ' H' { s'' with heap:=h' }:=I4.turned (t':=s''.toks) (λb o hb e=>hs'.extBut b o hb e) hC.2.1 f.2.1 f.2.2.2.1 f.2.2.2.2.1 f.2.2.2.2.2;exact ⟨σ',H',I5,q3⟩
end
section
variable {T:Tb} {X:Cx} {elt iter:Expr} {x:Str} {px pos spos py:Pos} {scope:Scope} {ys:List Str} {vH:List Nat} {fe:Ev} {fl:Ro->Out (List D)}
@[simp] def bJ (fl:Ro->Out (List D)) (vH:List Nat) (fe:Ev) (ρ:Ro):Out (List D):=(fl ρ).bind λds=>if ds.length<=1000000 then (match eR (λd=>fe (cG vH ρ d)) ds with | some es=>.ok es | none=>.bad) else .bad
variable {ib:Bool} {y:Str}
end
section
variable {X:Cx}
theorem A5:SlR X (λx lo hi H Q=>∃z,x=.str z/\z.length<=sizeLine/\Q (.str (Txt.slice z lo hi)) H):=by
 intro vA s σ H x v vl vu lo hi sl Q I rx hs pl pu h;obtain ⟨z,rfl,hz,q⟩:=h;obtain ⟨t,rfl⟩:=rx;obtain ⟨o,ho,hc,hd⟩:=hs;refine ⟨"str",_,F.slot_str_getitem.lookup,typeIs_str _ _ _,?_⟩;have fin:∀t' k,EP X vA σ Q (.str (Txt.slice z lo hi) t') { s with toks:=k }:=λt' k=>⟨.str _,H,I.tok k,⟨t',rfl⟩,q⟩
 cases pl with
 | none=>
  cases pu with
  | none=>exact wpAny_getItem_str_slice (l:=none) (u:=none) (st:=none) ⟨o,ho,hc,hd⟩ rfl (post_val_or_str ⟨Nat.le_trans (Txt.slice_le z _ _) hz,fin⟩)
  | int j u=>exact wpAny_getItem_str_slice (l:=none) (u:=some (j,u)) (st:=none) ⟨o,ho,hc,hd⟩ rfl (post_val_or_str ⟨Nat.le_trans (Txt.slice_le z _ _) hz,fin⟩)
 | int i u=>
  cases pu with
  | none=>exact wpAny_getItem_str_slice (l:=some (i,u)) (u:=none) (st:=none) ⟨o,ho,hc,hd⟩ rfl (post_val_or_str ⟨Nat.le_trans (Txt.slice_le z _ _) hz,fin⟩)
  | int j u'=>exact wpAny_getItem_str_slice (l:=some (i,u)) (u:=some (j,u')) (st:=none) ⟨o,ho,hc,hd⟩ rfl (post_val_or_str ⟨Nat.le_trans (Txt.slice_le z _ _) hz,fin⟩)
variable {T:Tb} {a b e:Expr} {pos p p2:Pos} {fa fb fe:Ev} {lo hi:Option Expr} {fo fu:Ro->Out (Option Int)}
@[simp] def mS (fe:Ev) (fo fu:Ro->Out (Option Int)) (ρ:Ro):Out D:=(fe ρ).bind λd=>(fo ρ).bind λlo=>(fu ρ).bind λhi=>match d with
 | .str z=>if z.length<=1000000 then .ok (.str (Txt.slice z lo hi)) else .bad
 | _=>.bad
theorem oZ (he:DE T X e fe) (hl:DO T X lo fo) (hu:DO T X hi fu):DE T X (.Subscript e (.Slice lo hi none p2) pos) (mS fe fo fu):=.mk λG E hp=>by
 refine PE.imp (GO (X:=X.wish E) A5 (he.run G E hp) (hl.run G E hp) (hu.run G E hp)) fun σ H Q ⟨ρ,fr,h⟩=>⟨ρ,fr,Acc.mono (Acc.bind h) λd _ hd v H1 s1 r1=>?_⟩
 refine ⟨ρ,fr.mono s1,Acc.mono (Acc.bind (Acc.heap s1 hd)) λl _ hl' H2 s2=>?_⟩;refine ⟨ρ,(fr.mono s1).mono s2,Acc.mono (Acc.bind (Acc.heap s2 hl')) λu _ hu' H3 s3=>?_⟩;cases d with
 | str z=>
  have hu'':Acc T X E σ H2 (if z.length<=1000000 then .ok (.str (Txt.slice z l u)) else .bad) (kE T X.K H Q):=hu';by_cases c:z.length<=1000000
  ·rw [if_pos c] at hu'';exact ⟨z,r1,line6 c,hu'' _ H3 ((s1.trans s2).trans s3) rfl⟩
  ·rw [if_neg c] at hu'';exact hu''.elim
 | _=>exact hu'.elim
def Itx (z:Str):It:=⟨λi _=>i < z.length,λi H x H'=>H'=H/\∃c,z.cps[i]?=some c/\x=.str ⟨#[c]⟩,λi _=>z.length<=i⟩
theorem IS {P:Program} {w:World} {K:PySem.W.Frag} {tg:Expr} {ty:String} (it:Addr) (z:Str) (t:Tok) (hn:["enumerate","zip","dict_itemiterator","dict_reverseitemiterator","odict_iterator","itertools.zip_longest","itertools.pairwise"].contains ty=false)
 (W:∀A:Around,A.handled=none->Walks P w A it [it] [it] z.cps.size (SignAt z) (λi h=>h.IsStrIter it ty z t i))
 (hself:∀(A:Around) (i:Nat) (s:Shared) (Q:Value->Shared->Prop) (E:Value->Shared->Prop),s.heap.IsStrIter it ty z t i->Q (.ref it) s->wpAny (model P w) A (pyIter (.ref it)) Q E s):Turn P w K tg (Itx z) [it] it (λi h=>i<=z.cps.size/\h.IsStrIter it ty z t i) where
 mem:=by simp
 obj:=λi h st b hb=>by
  have e:b=it:=by simpa using hb
  subst e;obtain ⟨_,o,ho,_,hd⟩:=st;exact ⟨o,ho,λv q=>by rw [hd] at q;cases q⟩
 keep:=λi h h' st k=>by
  obtain ⟨l,o,ho,r⟩:=st;exact ⟨l,o,k it (by simp) o ho,r⟩
 item:=by
  intro X hP hw hK hc i vA s σ H E I hf st hg;subst hP hw hK;obtain ⟨f0,f1,f2,f3,f4,f5⟩:=hf it (by simp);refine (W X.A (I.ok.hd hc)).item i s _ _ hg st.2 λv h' tk hv st' kk=>?_
  obtain ⟨c,u,hcx,rfl⟩:=hv;have I1:Inv X vA σ H { s with heap:=h',toks:=tk }:=I.turned (λb o hb e=>kk b o (by simpa using hb) e) f0 f1 f3 f4 f5;obtain ⟨o,ho,hcl,hd⟩:=id st';exact ⟨_,rfl,oF (s:={ s with heap:=h',toks:=tk }) (n:=ty) ho hcl hd hn ⟨.str ⟨#[c]⟩,H,I1,⟨u,rfl⟩,⟨rfl,c,hcx,rfl⟩,⟨hg,st'⟩,λb hb=>(hf b hb).1⟩⟩
 done:=by
  intro X hP hw hK hc i vA s σ H E I hf st hg;subst hP hw hK;obtain ⟨f0,f1,f2,f3,f4,f5⟩:=hf it (by simp);have hi:i=z.cps.size:=Nat.le_antisymm st.1 hg;subst hi;exact (W X.A (I.ok.hd hc)).done s _ _ st.2 λh' tk kk=>⟨rfl,I.turned (t':=tk) (λb o hb e=>kk b o (by simpa using hb) e) f0 f1 f3 f4 f5⟩
 self:=λA i s Q E st h=>hself A i s Q E st.2 h
variable {tg:Expr}
theorem A6 {l:Expr} {tl:TE} (hl:PE X l tl):PI X tg l (fun σ H R=>tl σ H λx H1=>∃z,x=.str z/\R (Itx z) H1):=by
 intro vA s σ H R I h;refine thn (hl vA s σ H _ I h) λv s1 ⟨x,H1,I1,r1,q1⟩=>?_
 obtain ⟨z,rfl,q⟩:=q1;obtain ⟨t,rfl⟩:=r1;have fin:∀(ob:Obj),∀b∈[s1.heap.objs.size],eX X vA H1 b:=λob b hb=>by
  have e:b=s1.heap.objs.size:=by simpa using hb
  subst e;exact I1.fpOk (Nat.le_refl _) (I1.hok.fresh (Nat.le_refl _))
 cases ha:z.cps.all (· < 128) with
 | true=>
  refine wpAny_pyIter_ascii ha ?_;exact ⟨s1.heap.objs.size,[s1.heap.objs.size],_,_,H1,rfl,I1.kept (t':=s1.toks) λb o e=>Heap.get?_push_of_some _ e,IS _ z t (by decide) (λA' hA=>Walks.strAscii hA _ z t) (λ_ _ _ _ _ st hQ=>wpAny_pyIter_striter_ascii st hQ),⟨Nat.zero_le _,_,Heap.get?_push_size _ rfl,rfl,rfl⟩,fin default,q⟩
 | false=>
  refine wpAny_pyIter_wide ha ?_;exact ⟨s1.heap.objs.size,[s1.heap.objs.size],_,_,H1,rfl,I1.kept (t':=s1.toks) λb o e=>Heap.get?_push_of_some _ e,IS _ z t (by decide) (λA' hA=>Walks.strWide hA _ z t) (λ_ _ _ _ _ st hQ=>wpAny_pyIter_striter_wide st hQ),⟨Nat.zero_le _,_,Heap.get?_push_size _ rfl,rfl,rfl⟩,fin default,q⟩
def signs (z:Str):List D:=z.cps.toList.map λc=>D.str ⟨#[c]⟩
@[simp] def D.toS:D->Out (List D)
 | .str z=>.ok (signs z)
 | _=>.bad
@[simp] def mT (f:Ev) (ρ:Ro):Out (List D):=(f ρ).bind D.toS
theorem A7 (he:DE T X e fe):DI T X tg e (mT fe):=.mk λG E hp=>
 PI.imp (A6 (X:=X.wish E) (he.run G E hp)) fun σ H R ⟨ρ,fr,h⟩=>⟨ρ,fr,Acc.mono (Acc.bind h) λd _ hd v H1 s1 r1=>by
  cases d with
  | str z=>
   refine ⟨z,r1,hd _ H1 s1 λi H' p sm=>⟨λd' e'=>?_,λhl=>?_⟩⟩
   ·have hd':z.cps.toList[i]?.map (λc=>D.str ⟨#[c]⟩)=some d':=by rw [<-e',signs,List.getElem?_map]
    cases q:z.cps.toList[i]? with
    | none=>rw [q] at hd';cases hd'
    | some c=>
     rw [q] at hd';obtain rfl:D.str ⟨#[c]⟩=d':=Option.some.inj hd';have q2:z.cps[i]?=some c:=by rw [<-Array.getElem?_toList];exact q
     refine ⟨?_,λx H2 ⟨e2,c',e3,e4⟩=>?_⟩
     ·obtain ⟨hl,_⟩:=Array.getElem?_eq_some_iff.mp q2;exact hl
     ·subst e2;rw [q2] at e3;cases e3;exact ⟨Same.refl _,e4⟩
   ·have:(signs z).length=z.length:=by simp [signs,Str.length]
    rw [this] at hl;exact hl
  | _=>exact hd.elim⟩
theorem Inv.walked {vA:List (Addr×Obj)} {σ:L2.St} {H:Hp} {s:Shared} {ob:Obj} {h':Heap} {tk:Nat} (I:Inv X vA σ H s) (k:∀b o,b∉[s.heap.objs.size]->(s.heap.push ob).get? b=some o->h'.get? b=some o):Inv X vA σ H { s with heap:=h',toks:=tk }:=
 I.kept λb u e=>k b u (by simpa using Nat.ne_of_lt (Heap.lt_size e)) (Heap.get?_push_of_some _ e)
theorem yY:∀{bs:List Bool} {us:List Value},Vals (bs.map V.bl) us->us=bs.map Value.bool
 | [],_,.nil=>rfl
 | b::bs,_,.cons r t=>by rw [yY t,show _=Value.bool b from r];rfl
theorem A8 (bs:List Bool):(List.range bs.length).all (λi=>bs.getD i false)=bs.all id:=by
 rw [Bool.eq_iff_iff];simp only [List.all_eq_true,List.mem_range,id]
 constructor
 ·intro h b hb;obtain ⟨i,hi,rfl⟩:=List.mem_iff_getElem.mp hb;have:=h i hi
  rwa [List.getD_eq_getElem?_getD,List.getElem?_eq_getElem hi] at this
 ·intro h i hi;rw [List.getD_eq_getElem?_getD,List.getElem?_eq_getElem hi];exact h _ (List.getElem_mem hi)
theorem A9 (bs:List Bool):(List.range bs.length).any (λi=>bs.getD i false)=bs.any id:=by
 rw [Bool.eq_iff_iff];simp only [List.any_eq_true,List.mem_range,id]
 constructor
 ·rintro ⟨i,hi,h⟩;rw [List.getD_eq_getElem?_getD,List.getElem?_eq_getElem hi] at h;exact ⟨_,List.getElem_mem hi,h⟩
 ·rintro ⟨b,hb,h⟩;obtain ⟨i,hi,rfl⟩:=List.mem_iff_getElem.mp hb;exact ⟨i,hi,by rw [List.getD_eq_getElem?_getD,List.getElem?_eq_getElem hi];exact h⟩
theorem IT {P:Program} {w:World} {A:Around} (bs:List Bool):TruthOf P w A (λi v=>(bs.map Value.bool).toArray[i]?=some v) (λi=>bs.getD i false):=λi v s Q E hP hQ=>by
 have hP:((bs.map Value.bool)[i]?)=some v:=by rw [<-hP];simp
 rw [List.getElem?_map] at hP;cases q:bs[i]? with
 | none=>rw [q] at hP;cases hP
 | some b=>
  rw [q] at hP;obtain rfl:Value.bool b=v:=Option.some.inj hP;have hQ:Q (bs.getD i false) s:=hQ;rw [List.getD_eq_getElem?_getD,q] at hQ;exact wpAny_truthy_bool hQ
theorem B0 (hc:X.calm=true):eY X (.builtin "all") (λxs H Q=>∃(a:Addr) (bs:List Bool),xs=[.ref a]/\SqL X.K H a (bs.map V.bl)/\Q (.bl (bs.all id)) H):=by
 intro vA s σ H xs us Q I rv h;obtain ⟨a,bs,rfl,hq,q⟩:=h;obtain ⟨u,rfl,ru⟩:=rv.one;cases ru;obtain ⟨its,r,pl,hz⟩:=I.list hq;obtain rfl:=yY r;have ha:a≠s.heap.objs.size:=by
  obtain ⟨o,ho,_⟩:=pl.isList;exact Nat.ne_of_lt (Heap.lt_size ho)
 have W:=Walks.list (prog:=X.prog) (w:=X.w) (A:=X.A.in1) (show X.A.in1.handled=none from I.ok.hd hc) s.heap.objs.size a ha (bs.map Value.bool).toArray;refine call_all_walk (wpAny_pyIter_list pl.isList ⟨_,_,_,_,_,_,λi=>bs.getD i false,rfl,W,⟨⟨_,Heap.get?_push_size _ rfl,rfl,rfl⟩,?_⟩,IT bs,λh' tk hk=>?_⟩)
 ·obtain ⟨o,ho,r'⟩:=pl.isList;exact ⟨o,Heap.get?_push_of_some _ ho,r'⟩
 ·have I2:=Inv.walked (s:=s) (tk:=tk) I hk;refine ⟨.bl (bs.all id),H,I2,?_,q⟩;rw [List.size_toArray,List.length_map,A8]
  rfl
theorem B1 (hc:X.calm=true):eY X (.builtin "any") (λxs H Q=>∃(a:Addr) (bs:List Bool),xs=[.ref a]/\SqL X.K H a (bs.map V.bl)/\Q (.bl (bs.any id)) H):=by
 intro vA s σ H xs us Q I rv h;obtain ⟨a,bs,rfl,hq,q⟩:=h;obtain ⟨u,rfl,ru⟩:=rv.one;cases ru;obtain ⟨its,r,pl,hz⟩:=I.list hq;obtain rfl:=yY r;have ha:a≠s.heap.objs.size:=by
  obtain ⟨o,ho,_⟩:=pl.isList;exact Nat.ne_of_lt (Heap.lt_size ho)
 have W:=Walks.list (prog:=X.prog) (w:=X.w) (A:=X.A.in1) (show X.A.in1.handled=none from I.ok.hd hc) s.heap.objs.size a ha (bs.map Value.bool).toArray;refine call_any_walk (wpAny_pyIter_list pl.isList ⟨_,_,_,_,_,_,λi=>bs.getD i false,rfl,W,⟨⟨_,Heap.get?_push_size _ rfl,rfl,rfl⟩,?_⟩,IT bs,λh' tk hk=>?_⟩)
 ·obtain ⟨o,ho,r'⟩:=pl.isList;exact ⟨o,Heap.get?_push_of_some _ ho,r'⟩
 ·have I2:=Inv.walked (s:=s) (tk:=tk) I hk;refine ⟨.bl (bs.any id),H,I2,?_,q⟩;rw [List.size_toArray,List.length_map,A9]
  rfl
def isum:List Int->Int
 | []=>0
 | i::is=>i+isum is
theorem IU (is:List Int):∀j,j<=is.length->preSum (λi=>is.getD i 0) j=isum (is.take j):=by
 intro j
 induction j with
 | zero=>intro _;simp [preSum,isum]
 | succ j ih=>
  intro h;rw [preSum,ih (by omega)];have e:is.take (j+1)=is.take j++[is.getD j 0]:=by
   rw [List.take_succ_eq_append_getElem (by omega),List.getD_eq_getElem?_getD,List.getElem?_eq_getElem (by omega)]
   rfl
  rw [e];have:∀(xs:List Int) (y:Int),isum (xs++[y])=isum xs+y:=by
   intro xs y
   induction xs with
   | nil=>simp [isum]
   | cons x xs ih=>simp [isum,ih];omega
  rw [this]
theorem IV:∀{is:List Int} {us:List Value},Vals (is.map V.int) us->us.length=is.length/\∀(i:Nat) (v:Value),us[i]?=some v->∃t,v=.int (is.getD i 0) t
 | [],_,.nil=>⟨rfl,λi v e=>by simp at e⟩
 | j::is,_,.cons r t=>by
  obtain ⟨l,g⟩:=IV t;refine ⟨by simp [l],λi v e=>?_⟩;cases i with
  | zero=>
   obtain ⟨tk,rfl⟩:=r;cases e;exact ⟨tk,rfl⟩
  | succ i=>exact g i v e
theorem B2 (hc:X.calm=true):eY X (.builtin "sum") (λxs H Q=>∃(a:Addr) (is:List Int),xs=[.ref a]/\SqL X.K H a (is.map V.int)/\(∀j,j < is.length->InLong (is.getD j 0)/\InLong (isum (is.take (j+1))))/\Q (.int (isum is)) H):=by
 intro vA s σ H xs us Q I rv h;obtain ⟨a,is,rfl,hq,hf,q⟩:=h;obtain ⟨u,rfl,ru⟩:=rv.one;cases ru;obtain ⟨its,r,pl,hz⟩:=I.list hq;obtain ⟨hl,hg⟩:=IV r;have ha:a≠s.heap.objs.size:=by
  obtain ⟨o,ho,_⟩:=pl.isList;exact Nat.ne_of_lt (Heap.lt_size ho)
 have hlt:a < s.heap.objs.size:=by
  obtain ⟨o,ho,_⟩:=pl.isList;exact Heap.lt_size ho
 have W:=Walks.list (prog:=X.prog) (w:=X.w) (A:=X.A.in1) (show X.A.in1.handled=none from I.ok.hd hc) s.heap.objs.size a ha its.toArray;refine call_sum_walk (wpAny_pyIter_list pl.isList ⟨_,_,_,_,_,_,λi=>is.getD i 0,rfl,W,⟨⟨_,Heap.get?_push_size _ rfl,rfl,rfl⟩,?_⟩,?_,?_,?_,λh' tk t' hk=>?_⟩)
 ·obtain ⟨o,ho,r'⟩:=pl.isList;exact ⟨o,Heap.get?_push_of_some _ ho,r'⟩
 ·intro b hb;show b < (s.heap.push _).objs.size;rw [Heap.size_push];simp only [List.mem_cons,List.not_mem_nil,or_false] at hb;rcases hb with rfl | rfl
  ·exact Nat.lt_succ_self _
  ·exact Nat.lt_succ_of_lt hlt
 ·intro i v e;exact hg i v (by rw [<-e];simp)
 ·intro j hj;rw [List.size_toArray,hl] at hj;rw [IU is (j+1) hj];exact hf j hj
 ·have I2:=Inv.walked (s:=s) (tk:=tk) I hk;refine ⟨.int (isum is),H,I2,⟨t',?_⟩,q⟩;rw [List.size_toArray,hl,IU is is.length (Nat.le_refl _),List.take_length]
def iR:List D->Option (List Bool)
 | []=>some []
 | .bl b::ds=>(match iR ds with | some bs=>some (b::bs) | none=>none)
 | _=>none
theorem yZ {K:PySem.W.Frag} {H:Hp}:∀{ds:List D} {bs:List Bool} {vs:List V},iR ds=some bs->RepL T K H ds vs->vs=bs.map V.bl
 | [],bs,vs,h,r=>by cases h;exact r
 | d::ds,bs,vs,h,r=>by
  cases d with
  | bl b=>
   have h:(match iR ds with | some bs=>some (b::bs) | none=>none)=some bs:=h;cases q:iR ds with
   | none=>rw [q] at h;cases h
   | some bs'=>
    rw [q] at h;cases h;obtain ⟨v,r',rfl,r1,r2⟩:=r;rw [yZ q r2,show v=V.bl b from r1];rfl
  | _=>cases h
def dO:List D->Option (List Int)
 | []=>some []
 | .int b::ds=>(match dO ds with | some bs=>some (b::bs) | none=>none)
 | _=>none
theorem mU {K:PySem.W.Frag} {H:Hp}:∀{ds:List D} {bs:List Int} {vs:List V},dO ds=some bs->RepL T K H ds vs->vs=bs.map V.int
 | [],bs,vs,h,r=>by cases h;exact r
 | d::ds,bs,vs,h,r=>by
  cases d with
  | int b=>
   have h:(match dO ds with | some bs=>some (b::bs) | none=>none)=some bs:=h;cases q:dO ds with
   | none=>rw [q] at h;cases h
   | some bs'=>
    rw [q] at h;cases h;obtain ⟨v,r',rfl,r1,r2⟩:=r;rw [mU q r2,show v=V.int b from r1];rfl
  | _=>cases h
def mV:List D->Out D
 | [.lst ds]=>(match iR ds with | some bs=>.ok (.bl (bs.all id)) | none=>.bad)
 | _=>.bad
def sX:List D->Out D
 | [.lst ds]=>(match iR ds with | some bs=>.ok (.bl (bs.any id)) | none=>.bad)
 | _=>.bad
theorem B3 (hc:X.calm=true):CaD T X (.builtin "all") mV:=λE=>⟨_,B0 hc,λds vs σ H Q r h=>by
 unfold mV at h
 split at h
 ·rename_i ds'
  obtain ⟨v,rfl,a,ws,rfl,fz,rl⟩:=r.one;cases q:iR ds' with
  | none=>rw [q] at h;exact h.elim
  | some bs=>
   rw [q] at h;obtain rfl:=yZ q rl;exact ⟨a,bs,rfl,fz.sq,h _ H (Same.refl H) rfl⟩
 ·exact h.elim⟩
theorem B4 (hc:X.calm=true):CaD T X (.builtin "any") sX:=λE=>⟨_,B1 hc,λds vs σ H Q r h=>by
 unfold sX at h
 split at h
 ·rename_i ds'
  obtain ⟨v,rfl,a,ws,rfl,fz,rl⟩:=r.one;cases q:iR ds' with
  | none=>rw [q] at h;exact h.elim
  | some bs=>
   rw [q] at h;obtain rfl:=yZ q rl;exact ⟨a,bs,rfl,fz.sq,h _ H (Same.refl H) rfl⟩
 ·exact h.elim⟩
def lH (is:List Int):Bool:=decide (is.length<=1000) && is.all λi=>decide (-1000000000<=i) && decide (i<=1000000000)
theorem IW:∀(is:List Int),(∀i∈is,-1000000000<=i/\i<=1000000000)->-(1000000000*(is.length:Int))<=isum is/\isum is<=1000000000*(is.length:Int)
 | [],_=>by simp [isum]
 | i::is,h=>by
  have h1:=IW is λj hj=>h j (by simp [hj])
  have h2:=h i (by simp);simp only [isum,List.length_cons,Int.natCast_add,Int.natCast_one];omega
theorem B5 {is:List Int} (h:lH is=true):∀j,j < is.length->InLong (is.getD j 0)/\InLong (isum (is.take (j+1))):=by
 unfold lH at h;simp only [Bool.and_eq_true,decide_eq_true_eq,List.all_eq_true] at h;intro j hj
 constructor
 ·rw [List.getD_eq_getElem?_getD,List.getElem?_eq_getElem hj];have:=h.2 _ (List.getElem_mem hj);unfold InLong;show _<=is[j]/\is[j] < _;omega
 ·have:=IW (is.take (j+1)) λi hi=>h.2 i (List.mem_of_mem_take hi)
  have l:(is.take (j+1)).length<=1000:=by rw [List.length_take];omega
  unfold InLong;omega
def fK:List D->Out D
 | [.lst ds]=>(match dO ds with | some is=>if lH is=true then .ok (.int (isum is)) else .bad | none=>.bad)
 | _=>.bad
theorem pA (hc:X.calm=true):CaD T X (.builtin "sum") fK:=λE=>⟨_,B2 hc,λds vs σ H Q r h=>by
 unfold fK at h
 split at h
 ·rename_i ds'
  obtain ⟨v,rfl,a,ws,rfl,fz,rl⟩:=r.one;cases q:dO ds' with
  | none=>rw [q] at h;exact h.elim
  | some is=>
   rw [q] at h;have h:Acc T X E σ H (if lH is=true then .ok (.int (isum is)) else .bad) (kE T X.K H Q):=h;by_cases c:lH is=true
   ·rw [if_pos c] at h;obtain rfl:=mU q rl;exact ⟨a,is,rfl,fz.sq,B5 c,h _ H (Same.refl H) rfl⟩
   ·rw [if_neg c] at h;exact h.elim
 ·exact h.elim⟩
def iD:D->Option V
 | .non=>some .non
 | .bl b=>some (.bl b)
 | .int i=>some (.int i)
 | .str x=>some (.str x)
 | _=>none
theorem zA {K:PySem.W.Frag} {H:Hp} {d:D} {v w:V} (h:iD d=some w) (r:Rep T K H d v):v=w/\iN w=true:=by
 cases d<;>first | (cases h;done) | (cases h;exact ⟨r,rfl⟩)
def eT:List D->Option (List V)
 | []=>some []
 | d::ds=>(match iD d,eT ds with | some v,some vs=>some (v::vs) | _,_=>none)
theorem zB {K:PySem.W.Frag} {H:Hp}:∀{ds:List D} {vs ws:List V},eT ds=some ws->RepL T K H ds vs->vs=ws/\ws.all iN=true
 | [],vs,ws,h,r=>by cases h;exact ⟨r,rfl⟩
 | d::ds,vs,ws,h,r=>by
  rw [eT] at h;cases q1:iD d with
  | none=>rw [q1] at h;cases h
  | some v=>
   cases q2:eT ds with
   | none=>rw [q1,q2] at h;cases h
   | some vs'=>
    rw [q1,q2] at h;cases h;obtain ⟨v',r',rfl,r1,r2⟩:=r;obtain ⟨e1,e2⟩:=zB q2 r2;obtain ⟨e3,e4⟩:=zA q1 r1;rw [e1,e3];exact ⟨rfl,by rw [List.all_cons,e4,e2];rfl⟩
def inD (neg:Bool):D->D->Out D
 | .str i,.str j=>.ok (.bl (if neg then !(!(Builtin.Str.occurrences j i 0 j.length 1).isEmpty) else (!(Builtin.Str.occurrences j i 0 j.length 1).isEmpty)))
 | d,.lst ds=>(match iD d,eT ds with | some x,some xs=>.ok (.bl (if neg then !inV x xs else inV x xs)) | _,_=>.bad)
 | d,.tup ds=>(match iD d,eT ds with | some x,some xs=>.ok (.bl (if neg then !inV x xs else inV x xs)) | _,_=>.bad)
 | _,_=>.bad
theorem IY (neg:Bool) (op:CmpOp) (h1:∀E,OpR (X.wish E) (compareOp op) (λx y H Q=>∃i j,x=.str i/\y=.str j/\Q (.bl (if neg then !(!(Builtin.Str.occurrences j i 0 j.length 1).isEmpty) else (!(Builtin.Str.occurrences j i 0 j.length 1).isEmpty))) H))
 (h2:∀E,OpR (X.wish E) (compareOp op) (rIn X.K neg)):OpD T X (compareOp op) (inD neg):=λE=>⟨_,OpR.or (h1 E) (h2 E),λdx dy x y σ H Q rx ry q=>by
 cases dy with
 | str j=>
  cases dx with
  | str i=>exact .inl ⟨i,j,rx,ry,q _ H (Same.refl H) rfl⟩
  | _=>exact q.elim
 | lst ds=>
  right
  have q:Acc T X E σ H (match iD dx,eT ds with | some x,some xs=>.ok (.bl (if neg then !inV x xs else inV x xs)) | _,_=>.bad) (kE T X.K H Q):=by cases dx<;>exact q
  cases q1:iD dx with
  | none=>rw [q1] at q;exact q.elim
  | some v=>
   cases q2:eT ds with
   | none=>rw [q1,q2] at q;exact q.elim
   | some vs=>
    rw [q1,q2] at q;obtain ⟨a,ws,rfl,fz,rl⟩:=ry;obtain ⟨rfl,f2⟩:=zB q2 rl;obtain ⟨rfl,f1⟩:=zA q1 rx;exact ⟨a,_,rfl,.inl fz.sq,f1,f2,q _ H (Same.refl H) rfl⟩
 | tup ds=>
  right
  have q:Acc T X E σ H (match iD dx,eT ds with | some x,some xs=>.ok (.bl (if neg then !inV x xs else inV x xs)) | _,_=>.bad) (kE T X.K H Q):=by cases dx<;>exact q
  cases q1:iD dx with
  | none=>rw [q1] at q;exact q.elim
  | some v=>
   cases q2:eT ds with
   | none=>rw [q1,q2] at q;exact q.elim
   | some vs=>
    rw [q1,q2] at q;obtain ⟨a,ws,rfl,fz,rl⟩:=ry;obtain ⟨rfl,f2⟩:=zB q2 rl;obtain ⟨rfl,f1⟩:=zA q1 rx;exact ⟨a,_,rfl,.inr fz,f1,f2,q _ H (Same.refl H) rfl⟩
 | _=>cases dx<;>exact q.elim⟩
theorem IZ:OpD T X (compareOp .In) (inD false):=IY false .In (λE=>XA) λE=>ZH
theorem B6:OpD T X (compareOp .NotIn) (inD true):=IY true .NotIn (λE=>XC) λE=>ZI
variable {x:Str}
def zC (K:PySem.W.Frag) (mg:Str->Option Value) (x:Str) (ds:List D):Prop:=∃(a:Addr) (vs:List V),mg x=some (.ref a)/\(∀H,SqT K H a vs)/\eT ds=some vs
theorem JA {K:PySem.W.Frag} {H:Hp}:∀{ds:List D} {vs:List V},eT ds=some vs->RepL T K H ds vs
 | [],vs,h=>by cases h;exact rfl
 | d::ds,vs,h=>by
  rw [eT] at h;cases q1:iD d with
  | none=>rw [q1] at h;cases h
  | some v=>
   cases q2:eT ds with
   | none=>rw [q1,q2] at h;cases h
   | some ws=>
    rw [q1,q2] at h;cases h;refine ⟨v,ws,rfl,?_,JA q2⟩;cases d<;>first | (cases q1;done) | (cases q1;exact rfl)
theorem B7 {ds:List D} (hg:Gl X x) (h:zC X.K X.mg x ds) (hd:(x==("__debug__" : Str))=false:=by decide):DE T X (.Name x pos) (eC (.tup ds)):=by
 obtain ⟨a,vs,hm,sq,hf⟩:=h;exact xX (v:=.ref a) hg hm rfl (λH=>⟨a,vs,rfl,sq H,JA hf⟩) hd
theorem B8 {K:PySem.W.Frag} {mg:Str->Option Value} {a:Addr} {od:Option Addr} {its:Array Value} {n:Nat} {sl:Array (Option Value)} {ds:List D} {vs:List V} (hm:mg x=some (.ref a)) (hk:K.lookup a=some ⟨.type "tuple",od,.seq its n,sl⟩)
 (hz:its.size<=1000000) (hv:Vals vs its.toList) (hf:eT ds=some vs):zC K mg x ds:=
 ⟨a,vs,hm,λH=>.inr ⟨_,its,n,hk,rfl,rfl,line6 hz,hv⟩,hf⟩
structure zD (K:PySem.W.Frag) (x qual:Str) (st:Stmt) (f:Addr) (fd:FuncData):Prop where
 ex:∃(oc:Value) (od:Option Addr) (dV kV doc pm:Value) (an:Option Addr) (vK ct:Value) (osl:Array (Option Value)),
  fd=PySem.W.fnOf x qual (iM st) (gU st) (aZ st) dV kV doc pm an vK ct/\K.lookup f=some ⟨oc,od,.func fd,osl⟩/\PySem.W.codeIn K vK qual=true
 kp:PySem.W.keepIn K (.ref f)=true
theorem JB {K:PySem.W.Frag} {x qual:Str} {st:Stmt} {f:Addr} {oc:Value} {od an:Option Addr} {osl:Array (Option Value)} {dV kV doc pm vK ct:Value} (l:K.lookup f=some ⟨oc,od,.func (PySem.W.fnOf x qual (iM st) (gU st) (aZ st) dV kV doc pm an vK ct),osl⟩)
 (c:PySem.W.codeIn K vK qual=true) (k:PySem.W.keepIn K (.ref f)=true):zD K x qual st f (PySem.W.fnOf x qual (iM st) (gU st) (aZ st) dV kV doc pm an vK ct):=⟨⟨oc,od,dV,kV,doc,pm,an,vK,ct,osl,rfl,l,c⟩,k⟩
theorem JC {K:PySem.W.Frag} {fd:FuncData} {ps:List Str} {ds:List Value} {dt:Addr} {oc:Value} {od:Option Addr} {items:Array Value} {n:Nat} {sl:Array (Option Value)} (hd:fd.defaults=.ref dt) (lk:K.lookup dt=some ⟨oc,od,.seq items n,sl⟩)
 (m:Nat) (hm:m+ds.length=ps.length) (h:∀us:List Value,us.length=m->∃k,bindArgs fd ⟨us,[]⟩=seqItems? fd.defaults >>= k/\k (some items)=pure (ps.zip (us++ds))):Binds K fd ps ds:=λs us kin hl=>by
 obtain ⟨k,h1,h2⟩:=h us (by rw [List.length_append] at hl;omega);exact BindsTo.of_defaults hd (kin dt _ lk) rfl h1 h2
end
end L3
namespace L3
open PySem L2
theorem iE {X:Cx} {scope:Scope} {x:Str} (ys:List Str) (vH:List Nat) (hk:scope.kind=.function:=by rfl) (own:scope.names.lookup x=some .local:=by rfl)
 (h:(scope.names.all λy=>!(y.2==.cell) && (!(y.2==.local) || scope.names.lookup y.1==some .local))=true:=by decide +kernel) (hf:(scope.names.all λy=>!(y.2==.free) || X.env.kindOf y.1==some .cell)=true:=by rfl)
 (hn:(x::ys).Nodup:=by decide) (hl:vH.length=ys.length:=by rfl)
 (hc:∀(j:Nat) (y:Str) (i:Nat),ys[j]?=some y->vH[j]?=some i->X.N[i]?=some y/\X.env.kindOf y=some .cell/\scope.names.lookup y=some .free):Cap X scope x ys vH where
 kind:=hk
 own:=own
 nocell:=λy hy e=>by
  have:=List.all_eq_true.mp h y hy;rw [e] at this;simp at this
 names:=λy hy e=>by
  have:=List.all_eq_true.mp h y hy;rw [e] at this;simpa using this
 free:=λy hy e=>by
  have:=List.all_eq_true.mp hf y hy;rw [e] at this;exact .inl (by simpa using this)
 nodup:=hn
 len:=hl
 cap:=λj y i e1 e2=>let ⟨a,b,c⟩:=hc j y i e1 e2;⟨a,.inl b,c⟩
theorem cap0 {X:Cx} {scope:Scope} {x:Str} (hk:scope.kind=.function:=by rfl) (own:scope.names.lookup x=some .local:=by rfl)
 (h:(scope.names.all λy=>!(y.2==.cell) && !(y.2==.free) && (!(y.2==.local) || scope.names.lookup y.1==some .local))=true:=by decide +kernel):Cap X scope x [] [] where
 kind:=hk
 own:=own
 nocell:=λy hy e=>by
  have:=List.all_eq_true.mp h y hy;rw [e] at this;simp at this
 names:=λy hy e=>by
  have:=List.all_eq_true.mp h y hy;rw [e] at this;simpa using this
 free:=λy hy e=>by
  have:=List.all_eq_true.mp h y hy;rw [e] at this;simp at this
 nodup:=by simp
 len:=rfl
 cap:=λj y i e1 _=>by simp at e1
theorem iF {X:Cx} {scope:Scope}:∀(j:Nat) (y:Str) (i:Nat),([]:List Str)[j]?=some y->([]:List Nat)[j]?=some i->X.N[i]?=some y/\X.env.kindOf y=some .cell/\scope.names.lookup y=some .free:=λj y i e _=>by simp at e
theorem eL {X:Cx} {scope:Scope} {y0:Str} {ys:List Str} {i0:Nat} {vH:List Nat} (h1:X.N[i0]?=some y0) (h2:X.env.kindOf y0=some .cell) (h3:scope.names.lookup y0=some .free)
 (h:∀(j:Nat) (y:Str) (i:Nat),ys[j]?=some y->vH[j]?=some i->X.N[i]?=some y/\X.env.kindOf y=some .cell/\scope.names.lookup y=some .free) :
 ∀(j:Nat) (y:Str) (i:Nat),(y0::ys)[j]?=some y->(i0::vH)[j]?=some i->X.N[i]?=some y/\X.env.kindOf y=some .cell/\scope.names.lookup y=some .free:=λj y i e1 e2=>by
 cases j with
 | zero=>cases e1;cases e2;exact ⟨h1,h2,h3⟩
 | succ j=>exact h j y i e1 e2
theorem vcS {z:Str} {k:Tok} {xs:List V} {us:List Value} (h:Vals xs us):Vals (.str z::xs) (.str z k::us):=.cons ⟨k,rfl⟩ h
end L3
namespace L3
open PySem PySem.Spec PyProof.Rows L2
theorem zE {m:Str}:∀{fs:List (Str×V)},m∉fs.map (·.1)->fs.lookup m=none
 | [],_=>rfl
 | (n,v)::fs,h=>by
  simp only [List.map_cons,List.mem_cons,not_or] at h;rw [List.lookup_cons,show (m==n)=false by simpa using h.1];exact zE h.2
section
variable {T:Tb} {X:Cx} {e o:Expr} {es:List Expr} {m:Str} {pos apos:Pos} {fo:Ev} {fs:Ro->Out (List Sl)} {F:Fn} {k n c:Nat} {f:Addr} {fd:FuncData} {ps:List Str}
@[simp] def zF (c:Nat) (F:Fn) (fo:Ev) (ρ:Ro):Out Rv:=(fo ρ).bind λd=>match d with
 | .ins c' xs=>if c'=c then F [.sh (.ins c' xs)] else .bad
 | _=>.bad
theorem B9 {pl:Sem Bool} (he:DE T X o fo) (cls:Cls X.K (T.ca c)) (hm:Meth X.K (T.ca c) m f) (hmf:m∉T.fl c) (FO:bB X.prog X.w X.K X.mg X.base (CXE T X.prog X.w) k f fd ps (spD T X.K ps.length F)) (hr:Room k X.A) (hb:Binds X.K fd ps []) (hn:ps.length=1)
 (ht:eval (.Call (.Attribute o m apos) [] [] pos) X.env=(do
  let ov <-eval o X.env
  standAt apos.atName
  let (f,first) <-holding [ov] (getMethod ov m pl)
  callWith pos f first (backTo pos (starEach [] X.env)) (backToKw pos (keywordEach [] X.env))):=by rfl) :
 DR T X (.Call (.Attribute o m apos) [] [] pos) (zF c F fo):=.mk λG E hp=>by
 rintro vA s σ H Q I ⟨ρ,fr,h⟩;refine PySem.W.methodCall_KW (pl:=pl) (thn (he.run G E hp vA s σ H (λx H1=>∃ds,Same H H1/\Rep T X.K H1 (.ins c ds) x/\Acc T X E σ H1 (F [.sh (.ins c ds)]) (λr=>∀v H',Same H1 H'->fN T X.K H1 H' v r->Q v H')) I ⟨ρ,fr,?_⟩) λu s1 ⟨x,H1,I1,rx,ds,sm,rp,q⟩=>?_) ht
 ·refine Acc.mono (Acc.bind h) λd _ hd v H1 s1 r1=>?_
  cases d with
  | ins c' xs=>
   have hd:Acc T X E σ H (if c'=c then F [.sh (.ins c' xs)] else .bad) _:=hd;by_cases hc:c'=c
   ·subst hc;rw [if_pos rfl] at hd;exact ⟨xs,s1,r1,Acc.mono (Acc.heap s1 hd) λr _ hr' v H' s2 r2=>hr' v H' (s1.trans s2) (mF s1 r2)⟩
   ·rw [if_neg hc] at hd;exact hd.elim
  | _=>exact hd.elim
 ·obtain ⟨a,dx,fl,rfl,ha,hf,rl⟩:=id rp;obtain rfl:u=Value.ref a:=rx;refine GH (X:=X.wish E) I1 ha cls hm (zE (by rw [hf];exact hmf)) ?_;exact PySem.W.callWith_K0 (first:=[.ref a]) I1.kIn hm.kp (yB (X:=X) (us:=[.ref a]) (vs:=[.ref a]) (dvs:=[]) (ds:=[]) (ss:=[.sh (.ins c ds)]) FO hr hb .nil I1 (.cons rfl .nil) (show ArgsOk T X.K H1 [.ref a] [.sh (.ins c ds)] from ⟨_,[],rfl,rp,rfl⟩) (by simp [hn]) q)
@[simp] def pB (c:Nat) (F:Fn) (fo:Ev) (fs:Ro->Out (List Sl)) (ρ:Ro):Out Rv:=(fo ρ).bind λd=>match d with
 | .ins c' xs=>if c'=c then (fs ρ).bind λss=>if ss.length+1=n then F (.sh (.ins c' xs)::ss) else .bad else .bad
 | _=>.bad
theorem zG {pl:Sem Bool} (he:DE T X o fo) (cls:Cls X.K (T.ca c)) (hm:Meth X.K (T.ca c) m f) (hmf:m∉T.fl c) (FO:bB X.prog X.w X.K X.mg X.base (CXE T X.prog X.w) k f fd ps (spD T X.K ps.length F)) (hr:Room k X.A) (hb:Binds X.K fd ps []) (hn:n=ps.length) (ha:DG T X (e::es) fs)
 (hst:starEach (e::es) X.env=(false,eval e X.env)::starEach es X.env:=by exact cM rfl) (hpl:(backTo pos (starEach es X.env)).any (·.1)=false:=by exact dL rfl)
 (ht:eval (.Call (.Attribute o m apos) (e::es) [] pos) X.env=(do
  let ov <-eval o X.env
  standAt apos.atName
  let (f,first) <-holding [ov] (getMethod ov m pl)
  callWith pos f first (backTo pos (starEach (e::es) X.env)) (backToKw pos (keywordEach [] X.env))):=by rfl) :
 DR T X (.Call (.Attribute o m apos) (e::es) [] pos) (pB (n:=n) c F fo fs):=.mk λG E hp=>by
 rintro vA s σ H Q I ⟨ρ,fr,h⟩;refine PySem.W.methodCall_KW (pl:=pl) (thn (he.run G E hp vA s σ H (λx H1=>∃ds,Same H H1/\Rep T X.K H1 (.ins c ds) x/\Acc T X E σ H1 ((fs ρ).bind λss=>if ss.length+1=n then F (.sh (.ins c ds)::ss) else .bad) (λr=>∀v H',Same H1 H'->fN T X.K H1 H' v r->Q v H')) I ⟨ρ,fr,?_⟩) λu s1 ⟨x,H1,I1,rx,ds,sm,rp,q⟩=>?_) ht
 ·refine Acc.mono (Acc.bind h) λd _ hd v H1 s1 r1=>?_
  cases d with
  | ins c' xs=>
   have hd:Acc T X E σ H (if c'=c then (fs ρ).bind λss=>if ss.length+1=n then F (.sh (.ins c' xs)::ss) else .bad else .bad) _:=hd;by_cases hc:c'=c
   ·subst hc;rw [if_pos rfl] at hd;exact ⟨xs,s1,r1,Acc.mono (Acc.heap s1 hd) λr _ hr' v H' s2 r2=>hr' v H' (s1.trans s2) (mF s1 r2)⟩
   ·rw [if_neg hc] at hd;exact hd.elim
  | _=>exact hd.elim
 ·obtain ⟨a,dx,fl,rfl,ha',hf,rl⟩:=id rp;obtain rfl:u=Value.ref a:=rx;refine GH (X:=X.wish E) I1 ha' cls hm (zE (by rw [hf];exact hmf)) ?_;refine PySem.W.callWith_K (first:=[.ref a]) (h₀:=X.base) I.ok.mod.kin hm.kp (thn (ha.run G E hp pos vA s1 σ H1 (λvs H2=>∃ss,ArgsOk T X.K H2 vs ss/\ss.length+1=n/\Same H1 H2/\Acc T X E σ H2 (F (.sh (.ins c ds)::ss)) (λr=>∀v H',Same H2 H'->fN T X.K H2 H' v r->Q v H')) I1 ⟨ρ,fr.mono sm,?_⟩) λus s2 ⟨vs,H2,I2,r,ss,ha2,hl2,s2',q2⟩=>⟨I2.kIn,?_⟩) hst hpl
  ·refine Acc.mono (Acc.bind q) λss _ hss vs H2 s2 r2=>?_
   by_cases hl:ss.length+1=n
   ·rw [if_pos hl] at hss;exact ⟨ss,r2,hl,s2,Acc.mono (Acc.heap s2 hss) λr _ hr' v H' s3 r3=>hr' v H' (s2.trans s3) (mF s2 r3)⟩
   ·rw [if_neg hl] at hss;exact hss.elim
  ·have la:=ArgsOk.length ss vs ha2;have lr:=r.length;exact yB (X:=X) (us:=.ref a::us) (vs:=.ref a::vs) (dvs:=[]) (ds:=[]) FO hr hb .nil I2 (.cons rfl r) (by rw [List.append_nil];exact ⟨_,vs,rfl,Rep.mono s2' _ _ rp,ha2⟩) (by simp only [List.length_append,List.length_cons,List.length_nil];omega) q2
end
open Sem (wp)
theorem C0:typeLookup (.type "str") "__int__" = pure none:=by rw [typeLookup_type,builtinLookup_eq_fast];kernel_rfl
theorem C1:typeLookup (.type "str") "__index__" = pure none:=by rw [typeLookup_type,builtinLookup_eq_fast];kernel_rfl
theorem C3:typeLookup (.type "str") "__trunc__" = pure none:=by rw [typeLookup_type,builtinLookup_eq_fast];kernel_rfl
def dgV (c:Nat):Option Nat:=
 if 48<=c && c<=57 then some (c-48)
 else if 97<=c && c<=122 then some (c-87)
 else if 65<=c && c<=90 then some (c-55)
 else none
def blk (c:Nat):Bool:=c==32 || (9<=c && c<=13)
def dgS (base:Nat) (cs:List Nat):Option (Array Nat):=do
 let (ds,afterDigit) <-cs.foldlM (init:=((#[]:Array Nat),false)) λ(ds,afterDigit) c=>
  if c==95 then (if afterDigit then some (ds,false) else none)
  else match dgV c with
   | some d=>if d < base then some (ds.push d,true) else none
   | none=>none
 if afterDigit then some ds else none
def pfx:List Nat->Option Nat
 | 48::c::_=>
  if c==120 || c==88 then some 16 else if c==111 || c==79 then some 8 else if c==98 || c==66 then some 2 else none
 | _=>none
def sgn (t:List Nat):Bool×List Nat:=match t with
 | 45::r=>(true,r)
 | 43::r=>(false,r)
 | _=>(false,t)
def pr2 (t:List Nat):List Nat:=match t.drop 2 with
 | 95::r=>r
 | r=>r
def rdN {N:Type} (inv:N) (tl:Nat->N) (lib:N) (val:Int->N) (limit base:Nat) (text:List Nat):N:=
 let t:=text.dropWhile blk
 let (negative,t):=sgn t
 let afterPrefix:=pr2 t
 let (b,zeroOnly,t):=match pfx t with
  | some p=>if base==0 || base==p then (p,false,afterPrefix) else (base,false,t)
  | none=>if base==0 then (10,t.head?==some 48,t) else (base,false,t)
 match dgS b (t.reverse.dropWhile blk).reverse with
 | none=>inv
 | some ds=>
  if ![2,4,8,16,32].contains b && limit != 0 && ds.size > limit then tl ds.size else
  if b==10 && ds.size > 6000 then lib else
  let n:=ds.foldl (λvJ d=>vJ*b+d) 0
  if zeroOnly && n != 0 then inv else val (if negative then -(n:Int) else n)
def rd0 {N:Type} (inv:N) (tl:Nat->N) (lib:N) (val:Int->N) (limit base:Nat) (text:List Nat):N:=
 let t:=text.dropWhile blk
 let (negative,t):=match t with
  | 45::r=>(true,r)
  | 43::r=>(false,r)
  | _=>(false,t)
 let afterPrefix:=match t.drop 2 with
  | 95::r=>r
  | r=>r
 let (b,zeroOnly,t):=match pfx t with
  | some p=>if base==0 || base==p then (p,false,afterPrefix) else (base,false,t)
  | none=>if base==0 then (10,t.head?==some 48,t) else (base,false,t)
 match dgS b (t.reverse.dropWhile blk).reverse with
 | none=>inv
 | some ds=>
  if ![2,4,8,16,32].contains b && limit != 0 && ds.size > limit then tl ds.size else
  if b==10 && ds.size > 6000 then lib else
  let n:=ds.foldl (λvJ d=>vJ*b+d) 0
  if zeroOnly && n != 0 then inv else val (if negative then -(n:Int) else n)
theorem sY {N:Type} (inv:N) (tl:Nat->N) (lib:N) (val:Int->N) (limit base:Nat) (text:List Nat):rd0 inv tl lib val limit base text=rdN inv tl lib val limit base text:=by
 unfold rd0 rdN sgn pr2
 rfl
def figs (cs:List Nat):Bool:=cs.all λc=>decide (48<=c) && decide (c<=57)
def kD (cs:List Nat):Nat:=cs.foldl (λvJ c=>vJ*10+(c-48)) 0
theorem mW {cs:List Nat} (h:figs cs=true) {c:Nat} (hc:c∈cs):48<=c/\c<=57:=by
 have:=List.all_eq_true.mp h c hc;simpa using this
theorem JD:∀(cs:List Nat),figs cs=true->∀(ds:Array Nat) (a:Bool),(cs.foldlM (init:=(ds,a)) λ(x:Array Nat×Bool) c=>
 (if c==95 then (if x.2 then some (x.1,false) else none) else match dgV c with | some d=>if d < 10 then some (x.1.push d,true) else none | none=>none:Option (Array Nat×Bool)))=some ((ds.toList++cs.map (· - 48)).toArray,a || !cs.isEmpty)
 | [],_,ds,a=>by simp
 | c::cs,h,ds,a=>by
  have hc:=mW h (c:=c) (by simp);have hr:figs cs=true:=by
   unfold figs at h ⊢;rw [List.all_cons,Bool.and_eq_true] at h;exact h.2
  have e1:(c==95)=false:=by simp;omega
  have e2:dgV c=some (c-48):=by unfold dgV;rw [if_pos (by simp;omega)]
  have e3:c-48 < 10:=by omega
  rw [List.foldlM_cons];simp only [e1,e2,e3,Bool.false_eq_true,if_false,if_true];show ((some (ds.push (c-48),true):Option _) >>= _)=_;rw [Option.bind_eq_bind,Option.bind_some,JD cs hr];simp
theorem C4 {cs:List Nat} (h:figs cs=true) (hn:cs≠[]):dgS 10 cs=some (cs.map (· - 48)).toArray:=by
 unfold dgS;have:=JD cs h #[] false;have e:(!cs.isEmpty)=true:=by cases cs<;>simp at hn ⊢
 show (cs.foldlM (init:=((#[]:Array Nat),false)) _ >>= _)=_;rw [show (cs.foldlM (init:=((#[]:Array Nat),false)) λ(x:Array Nat×Bool) c=>(match x with | (ds,afterDigit)=>if c==95 then (if afterDigit then some (ds,false) else none) else match dgV c with | some d=>if d < 10 then some (ds.push d,true) else none | none=>none:Option (Array Nat×Bool)))=_ from this];simp [e]
theorem JE {cs:List Nat} (h:figs cs=true):cs.dropWhile blk=cs:=by
 cases cs with
 | nil=>rfl
 | cons c cs=>
  have hc:=mW h (c:=c) (by simp);have:blk c=false:=by unfold blk;simp;omega
  rw [List.dropWhile_cons,this]
  rfl
theorem C5 {cs:List Nat} (h:figs cs=true):figs cs.reverse=true:=by
 unfold figs at *;rw [List.all_reverse];exact h
theorem C6 {N:Type} (inv:N) (tl:Nat->N) (lib:N) (val:Int->N) {cs:List Nat} (h:figs cs=true) (hn:cs≠[]) (hl:cs.length<=600):rdN inv tl lib val 0 10 cs=val (kD cs):=by
 have e0:=JE h;have e1:(cs.reverse.dropWhile blk).reverse=cs:=by rw [JE (C5 h),List.reverse_reverse]
 have e2:=C4 h hn;have e3:pfx cs=none:=by
  unfold pfx
  split
  ·rename_i c r
   have hc:=mW h (c:=c) (by simp);rw [if_neg (by simp;omega),if_neg (by simp;omega),if_neg (by simp;omega)]
  ·rfl
 have sg:sgn cs=(false,cs):=by
  cases cs with
  | nil=>rfl
  | cons c r=>
   have hc:=mW h (c:=c) (by simp);unfold sgn
   split
   ·rename_i e;cases e;omega
   ·rename_i e;cases e;omega
   ·rfl
 unfold rdN;simp only [e0,sg,e3];rw [show ((10:Nat)==0)=false from rfl];simp only [Bool.false_eq_true,if_false,e1,e2];have s1:(cs.map (· - 48)).toArray.size=cs.length:=by simp
 rw [s1];rw [if_neg (by simp),if_neg (by simp;omega),if_neg (by simp)]
 congr 2
 rw [kD];simp [List.foldl_map]
theorem JF:∀{cs:List Nat},figs cs=true->cs.takeWhile (λc=>c != 0)=cs
 | [],_=>rfl
 | c::cs,h=>by
  have hc:=mW h (c:=c) (by simp);have hr:figs cs=true:=by
   unfold figs at h ⊢;rw [List.all_cons,Bool.and_eq_true] at h;exact h.2
  have e:(c != 0)=true:=by simp;omega
  rw [List.takeWhile_cons,e];simp [JF hr]
set_option maxHeartbeats 2000000 in
theorem C7 (x:Str) (u:Tok) (h:figs x.cps.toList=true) (hn:x.cps.toList≠[]) (hl:x.length<=600):Meets (Builtin.«int.__new__» ⟨[.type "int",.str x u],[]⟩) (Made.int (kD x.cps.toList)).spec:=
 Meets.of_wp λprog w A R s hs=>by
  obtain ⟨hp,g,d,tk,os⟩:=s;have f1:=F.conv_sub_int;have f2:=F.madeHere_int;have hT:(⟨hp,g,d,tk,os⟩:Shared).TypeIs (.str x u) "str":=rfl;have g1:=C0;have g2:=C1;have g3:=C3;have a1:(x.cps.all λc=>decide (c < 128))=true:=by
   rw [<-Array.all_toList,List.all_eq_true];intro c hc;have:=mW h hc;simp;omega
  have a2:List.takeWhile (λc=>c != 0) x.cps.toList=x.cps.toList:=JF h;have a4:x.cps.toList.length=x.length:=by simp [Str.length]
  have a3:x.cps.toList.length<=640:=by omega
  have rd:∀{N:Type} (inv:N) (tl:Nat->N) (lib:N) (val:Int->N),rdN inv tl lib val 0 10 x.cps.toList=val (kD x.cps.toList):=λinv tl lib val=>C6 inv tl lib val h hn (by omega)
  repeat (any_goals (first | assumption | wp_step))
  all_goals (rw [a1];simp only [if_true,a2,if_pos a3,pure_bind])
  split
  ·rename_i m heq
   have h2:=(show rd0 _ _ _ _ 0 10 x.cps.toList=_ from heq)
   rw [sY,rd] at h2;cases h2
  ·rename_i heq
   have h2:=(show rd0 _ _ _ _ 0 10 x.cps.toList=_ from heq)
   rw [sY,rd] at h2;cases h2
  ·rename_i i heq
   have h2:=(show rd0 _ _ _ _ 0 10 x.cps.toList=_ from heq)
   rw [sY,rd] at h2;cases h2;rw [if_pos (by simp)]
   repeat (any_goals (first | assumption | wp_step))
   all_goals first | exact ⟨_,rfl,hs⟩ | skip
  ·rename_i heq
   have h2:=(show rd0 _ _ _ _ 0 10 x.cps.toList=_ from heq)
   rw [sY,rd] at h2;cases h2
section
variable {X:Cx}
theorem C8:eY X (.type "int") (λxs H Q=>∃x,xs=[.str x]/\figs x.cps.toList=true/\x.cps.toList≠[]/\x.length<=600/\Q (.int (kD x.cps.toList)) H):=by
 intro vA s σ H xs us Q I rv h;obtain ⟨x,rfl,h1,h2,h3,q⟩:=h;obtain ⟨u,rfl,ru⟩:=rv.one;obtain ⟨t,rfl⟩:=ru;refine call_int_1 (C7 x t h1 h2 h3) (show (Made.int (kD x.cps.toList)).post _ s from ⟨rfl,?_⟩);exact ⟨.int _,H,I.tok _,⟨_,rfl⟩,q⟩
end
end L3
namespace L3
open PySem PySem.Spec PyProof.Rows L2
section
variable {T:Tb} {X:Cx} {e o:Expr} {es:List Expr} {pos cpos apos p:Pos} {fe fo:Ev} {fs:Ro->Out (List D)}
@[simp] def lJ:List D->Out D
 | [.int i]=>.ok (.int i)
 | [.bl b]=>.ok (.int (if b then 1 else 0))
 | [.str x]=>if figs x.cps.toList=true/\x.cps.toList≠[]/\x.length<=600 then .ok (.int (kD x.cps.toList)) else .bad
 | _=>.bad
theorem pC:CaD T X (.type "int") lJ:=λE=>⟨λvs H Q=>((∃i,vs=[.int i]/\Q (.int i) H)∨∃k,vs=[.bl k]/\Q (.int (if k then 1 else 0)) H)∨∃x,vs=[.str x]/\figs x.cps.toList=true/\x.cps.toList≠[]/\x.length<=600/\Q (.int (kD x.cps.toList)) H,
 λvA s σ H xs us Q I rv h=>h.elim (λh=>XN (X:=X.wish E) vA s σ H xs us Q I rv h) (λh=>C8 (X:=X.wish E) vA s σ H xs us Q I rv h),λds vs σ H Q r h=>by
 unfold lJ at h
 split at h
 ·rename_i i
  obtain ⟨v,rfl,rv⟩:=r.one;exact .inl (.inl ⟨i,by rw [show v=V.int i from rv],h _ H (Same.refl H) rfl⟩)
 ·rename_i b
  obtain ⟨v,rfl,rv⟩:=r.one;exact .inl (.inr ⟨b,by rw [show v=V.bl b from rv],h _ H (Same.refl H) rfl⟩)
 ·rename_i x
  obtain ⟨v,rfl,rv⟩:=r.one;by_cases c:figs x.cps.toList=true/\x.cps.toList≠[]/\x.length<=600
  ·rw [if_pos c] at h;exact .inr ⟨x,by rw [show v=V.str x from rv],c.1,c.2.1,c.2.2,h _ H (Same.refl H) rfl⟩
  ·rw [if_neg c] at h;exact h.elim
 ·exact h.elim⟩
def fT:List D->Option (List Str)
 | []=>some []
 | .str x::ds=>(match fT ds with | some xs=>some (x::xs) | none=>none)
 | _=>none
theorem sZ {K:PySem.W.Frag} {H:Hp}:∀{ds:List D} {xs:List Str} {vs:List V},fT ds=some xs->RepL T K H ds vs->vs=xs.map V.str
 | [],xs,vs,h,r=>by cases h;exact r
 | d::ds,xs,vs,h,r=>by
  cases d with
  | str b=>
   have h:(match fT ds with | some bs=>some (b::bs) | none=>none)=some xs:=h;cases q:fT ds with
   | none=>rw [q] at h;cases h
   | some bs'=>
    rw [q] at h;cases h;obtain ⟨v,r',rfl,r1,r2⟩:=r;rw [sZ q r2,show v=V.str b from r1];rfl
  | _=>cases h
theorem JG:∀{xs:List Str} {us:List Value},Vals (xs.map V.str) us->∃l:List (Str×Tok),us=strValues l/\l.map (·.1)=xs
 | [],_,.nil=>⟨[],rfl,rfl⟩
 | x::xs,_,.cons r t=>by
  obtain ⟨l,rfl,e⟩:=JG t;obtain ⟨k,rfl⟩:=r;exact ⟨(x,k)::l,rfl,by rw [List.map_cons,e]⟩
def pD:D->List D->Out D
 | .str x,[.lst ds]=>(match fT ds with | some ts=>if JoinOk x ts=true then .ok (.str (Txt.join x ts)) else .bad | none=>.bad)
 | _,_=>.bad
theorem C9:MtD T X "str" "str.join" pD:=λE=>by
 refine ⟨λv vs H Q=>∃x a ts,v=.str x/\vs=[.ref a]/\SqL X.K H a (ts.map V.str)/\JoinOk x ts=true/\Q (.str (Txt.join x ts)) H,?_,?_⟩
 ·intro vA s σ H x xs v us Q I rx rv h;obtain ⟨z,a,ts,rfl,rfl,hq,ok,q⟩:=h;obtain ⟨t,rfl⟩:=rx;obtain ⟨u,rfl,ru⟩:=rv.one;cases ru;obtain ⟨its,r,pl,hz⟩:=I.list hq;obtain ⟨l,rfl,e⟩:=JG r;exact SC.join pl.isList e ok λt' k=>⟨.str _,H,I.tok k,⟨t',rfl⟩,q⟩
 ·intro d ds v vs σ H Q rd rl q;unfold pD at q
  split at q
  ·rename_i x ds'
   obtain ⟨w,rfl,a,ws,rfl,fz,rl'⟩:=rl.one;cases e:fT ds' with
   | none=>rw [e] at q;exact q.elim
   | some ts=>
    rw [e] at q;have q:Acc T X E σ H (if JoinOk x ts=true then .ok (.str (Txt.join x ts)) else .bad) (kE T X.K H Q):=q;obtain rfl:=sZ e rl';by_cases c:JoinOk x ts=true
    ·rw [if_pos c] at q;exact ⟨x,a,ts,rd,rfl,fz.sq,c,q _ H (Same.refl H) rfl⟩
    ·rw [if_neg c] at q;exact q.elim
  ·exact q.elim
end
theorem kY:∀{is:List Int} {us:List Value},Vals (is.map V.int) us->∃l:List (Int×Tok),us=l.map (λp=>Value.int p.1 p.2)/\l.map (·.1)=is
 | [],_,.nil=>⟨[],rfl,rfl⟩
 | x::xs,_,.cons r t=>by
  obtain ⟨l,rfl,e⟩:=kY t;obtain ⟨k,rfl⟩:=r;exact ⟨(x,k)::l,rfl,by rw [List.map_cons,e]⟩
def bN (gt:Bool) (is:List Int):Int:=is.getD (argBest (λi j=>if gt then decide (is.getD i 0 > is.getD j 0) else decide (is.getD i 0 < is.getD j 0)) (is.length-1)) 0
section
variable {X:Cx}
theorem jO (l:List (Int×Tok)) (i:Nat):numAt l.toArray i=(l.map (·.1)).getD i 0:=by
 unfold numAt;rw [List.getD_eq_getElem?_getD,List.getElem?_map];simp
theorem D0 (hc:X.calm=true):eY X (.builtin "max") (λxs H Q=>∃(a:Addr) (is:List Int),xs=[.ref a]/\SqL X.K H a (is.map V.int)/\is≠[]/\Q (.int (bN true is)) H):=by
 intro vA s σ H xs us Q I rv h;obtain ⟨a,is,rfl,hq,hne,q⟩:=h;obtain ⟨u,rfl,ru⟩:=rv.one;cases ru;obtain ⟨its,r,pl,hz⟩:=I.list hq;obtain ⟨l,rfl,e⟩:=kY r;have hi:(l.map λp=>Value.int p.1 p.2).toArray=intItems l.toArray:=by simp [intItems]
 have hl:s.heap.IsList a (intItems l.toArray):=hi ▸ pl.isList;refine max_intList (I.ok.hd hc) hl (by subst e;cases l with | nil=>exact absurd rfl hne | cons _ _=>simp) λv h' tk hv hk=>?_
 obtain ⟨t,rfl⟩:=intItems_at hv;refine ⟨.int (bN true is),H,I.kept (t':=tk) hk,⟨t,?_⟩,q⟩;subst e
 congr 1
 unfold bN;rw [jO];simp only [if_true,List.length_map]
 congr 2
 ·funext i j;rw [jO,jO]
theorem D1 (hc:X.calm=true):eY X (.builtin "min") (λxs H Q=>∃(a:Addr) (is:List Int),xs=[.ref a]/\SqL X.K H a (is.map V.int)/\is≠[]/\Q (.int (bN false is)) H):=by
 intro vA s σ H xs us Q I rv h;obtain ⟨a,is,rfl,hq,hne,q⟩:=h;obtain ⟨u,rfl,ru⟩:=rv.one;cases ru;obtain ⟨its,r,pl,hz⟩:=I.list hq;obtain ⟨l,rfl,e⟩:=kY r;have hi:(l.map λp=>Value.int p.1 p.2).toArray=intItems l.toArray:=by simp [intItems]
 have hl:s.heap.IsList a (intItems l.toArray):=hi ▸ pl.isList;refine min_intList (I.ok.hd hc) hl (by subst e;cases l with | nil=>exact absurd rfl hne | cons _ _=>simp) λv h' tk hv hk=>?_
 obtain ⟨t,rfl⟩:=intItems_at hv;refine ⟨.int (bN false is),H,I.kept (t':=tk) hk,⟨t,?_⟩,q⟩;subst e
 congr 1
 unfold bN;rw [jO];simp only [Bool.false_eq_true,if_false,List.length_map]
 congr 2
 ·funext i j;rw [jO,jO]
variable {T:Tb}
def mX:List D->Out D
 | [.lst ds]=>(match dO ds with | some is=>if is≠[] then .ok (.int (bN false is)) else .bad | none=>.bad)
 | _=>.bad
def jP:List D->Out D
 | [.lst ds]=>(match dO ds with | some is=>if is≠[] then .ok (.int (bN true is)) else .bad | none=>.bad)
 | _=>.bad
theorem zH (hc:X.calm=true):CaD T X (.builtin "max") jP:=λE=>⟨_,D0 hc,λds vs σ H Q r h=>by
 unfold jP at h
 split at h
 ·rename_i ds'
  obtain ⟨v,rfl,a,ws,rfl,fz,rl⟩:=r.one;cases q:dO ds' with
  | none=>rw [q] at h;exact h.elim
  | some is=>
   rw [q] at h;have h:Acc T X E σ H (if is≠[] then .ok (.int (bN true is)) else .bad) (kE T X.K H Q):=h;by_cases c:is≠[]
   ·rw [if_pos c] at h;obtain rfl:=mU q rl;exact ⟨a,is,rfl,fz.sq,c,h _ H (Same.refl H) rfl⟩
   ·rw [if_neg c] at h;exact h.elim
 ·exact h.elim⟩
theorem D2 (hc:X.calm=true):CaD T X (.builtin "min") mX:=λE=>⟨_,D1 hc,λds vs σ H Q r h=>by
 unfold mX at h
 split at h
 ·rename_i ds'
  obtain ⟨v,rfl,a,ws,rfl,fz,rl⟩:=r.one;cases q:dO ds' with
  | none=>rw [q] at h;exact h.elim
  | some is=>
   rw [q] at h;have h:Acc T X E σ H (if is≠[] then .ok (.int (bN false is)) else .bad) (kE T X.K H Q):=h;by_cases c:is≠[]
   ·rw [if_pos c] at h;obtain rfl:=mU q rl;exact ⟨a,is,rfl,fz.sq,c,h _ H (Same.refl H) rfl⟩
   ·rw [if_neg c] at h;exact h.elim
 ·exact h.elim⟩
end
def iS (t:D->Out Bool) (f:D->Out D):List D->Option (List D)
 | []=>some []
 | d::ds=>match t d with
  | .ok true=>(match f d with | .ok e=>(match iS t f ds with | some es=>some (e::es) | none=>none) | _=>none)
  | .ok false=>iS t f ds
  | _=>none
section
variable {T:Tb} {X:Cx} {elt iter tst:Expr} {x:Str} {px pos:Pos} {scope:Scope} {ys:List Str} {vH:List Nat} {fe:Ev} {ft:Ro->Out Bool} {cl:List (Str×Addr)} {vA:List (Addr×Obj)} {σ:L2.St} {G H2:Hp} {s2:Shared} {J:It} {fp:List Addr} {it:Addr} {tn:Nat->Heap->Prop} {ρ:Ro} {ds es:List D}
end
section
variable {T:Tb} {X:Cx} {elt iter tst:Expr} {x:Str} {px pos spos py:Pos} {scope:Scope} {ys:List Str} {vH:List Nat} {fe:Ev} {ft:Ro->Out Bool} {fl:Ro->Out (List D)}
@[simp] def mY (fl:Ro->Out (List D)) (vH:List Nat) (ft:Ro->Out Bool) (fe:Ev) (ρ:Ro):Out (List D):=(fl ρ).bind λds=>if ds.length<=1000000 then (match iS (λd=>ft (cG vH ρ d)) (λd=>fe (cG vH ρ d)) ds with | some es=>.ok es | none=>.bad) else .bad
variable {ib:Bool} {y:Str}
end
section
variable {X:Cx}
variable {T:Tb} {e o:Expr} {es:List Expr} {cpos apos:Pos} {fe fo:Ev} {fs:Ro->Out (List D)}
end
mutual
def nl:D->Bool
 | .lst _=>false
 | .tup ds=>nlL ds
 | .ins _ ds=>nlL ds
 | _=>true
def nlL:List D->Bool
 | []=>true
 | d::ds=>nl d && nlL ds
end
mutual
theorem Rep.thaw {T:Tb} {K:PySem.W.Frag} {H:Hp} {b:Addr} {ws:List V} {o:Obj} {u:HO} (h:H b=some (.frz o (.lst ws))):∀(d:D) (v:V),nl d=true->Rep T K H d v->Rep T K (upd H b u) d v
 | .non,_,_,q=>q
 | .bl _,_,_,q=>q
 | .int _,_,_,q=>q
 | .str _,_,_,q=>q
 | .tup ds,_,n,q=>by
  obtain ⟨a,vs,r1,r2,r3⟩:=q;refine ⟨a,vs,r1,?_,RepL.thaw h ds vs n r3⟩;rcases r2 with (r2 | ⟨o',r2⟩) | r2
  ·exact .inl (.inl (by rw [aM (λz=>by rw [z,h] at r2;cases r2)];exact r2))
  ·exact .inl (.inr ⟨o',by rw [aM (λz=>by rw [z,h] at r2;cases r2)];exact r2⟩)
  ·exact .inr r2
 | .lst ds,_,n,_=>by cases n
 | .ins c ds,_,n,q=>by
  obtain ⟨a,dx,fs,r1,r2,r3,r4⟩:=q;exact ⟨a,dx,fs,r1,by rw [aM (λz=>by rw [z,h] at r2;cases r2)];exact r2,r3,RepL.thaw h ds _ n r4⟩
 | .exc c,_,_,q=>by
  obtain ⟨a,o',r1,r2,r3⟩:=q;exact ⟨a,o',r1,by rw [aM (λz=>by rw [z,h] at r2;cases r2)];exact r2,r3⟩
theorem RepL.thaw {T:Tb} {K:PySem.W.Frag} {H:Hp} {b:Addr} {ws:List V} {o:Obj} {u:HO} (h:H b=some (.frz o (.lst ws))):∀(ds:List D) (vs:List V),nlL ds=true->RepL T K H ds vs->RepL T K (upd H b u) ds vs
 | [],_,_,q=>q
 | d::ds,_,n,q=>by
  obtain ⟨v,r,r1,r2,r3⟩:=q;have n:(nl d && nlL ds)=true:=n;rw [Bool.and_eq_true] at n;exact ⟨v,r,r1,Rep.thaw h d v n.1 r2,RepL.thaw h ds r n.2 r3⟩
end
section
variable {T:Tb} {ib:Bool} {X:Cx} {e:Expr} {f:Ro->Out Bool} {fe:Ev} {ff:Ro->Out (List D)}
variable {es:List Expr} {pos p:Pos} {fs:Ro->Out (List D)} {fr':Ro->Out Rv} {x:Str}
variable {K:PySem.W.Frag} {G H:Hp} {σ:L2.St} {ρ:Ro}
variable {b:Expr} {p2 p3 pc ps:Pos} {fb:Ev} {c:Int} {j:Nat}
variable {P:Program} {w:World} {A:Around}
abbrev KpH (h h':Heap):Prop:=∀b o,h.get? b=some o->h'.get? b=some o
end
open AutoSeq1 (wpAny_loadPart')
open SeqAt
end L3
namespace L3
open PySem PySem.Spec PyProof.Rows L2
section
variable {X:Cx}
variable {T:Tb}
theorem zI:∀{ds:List D} {is:List Int},dO ds=some is->ds=is.map D.int
 | [],is,h=>by cases h;rfl
 | d::ds,is,h=>by
  cases d with
  | int i=>
   have h:(match dO ds with | some bs=>some (i::bs) | none=>none)=some is:=h;cases e:dO ds with
   | none=>rw [e] at h;cases h
   | some js=>rw [e] at h;cases h;rw [List.map_cons,<-zI e]
  | _=>cases h
variable {ib:Bool} {e b:Expr} {pos pos' p p2:Pos} {fe fb:Ev} {x:Str}
end
section
variable {K:Type} [DecidableEq K]
def inK (σ:List K) (k:K):Bool:=σ.any λx=>decide (x=k)
def dR (σ:List K) (k:K):List K:=if inK σ k=true then σ else σ++[k]
def dk (ks:List K):List K:=ks.foldl dR []
theorem D3 (ks:List K) (k:K):dk (ks++[k])=dR (dk ks) k:=by
 unfold dk;rw [List.foldl_append];rfl
theorem lK {σ:List K} {k:K}:inK σ k=true↔k∈σ:=by
 unfold inK;simp
theorem D4 {σ:List K} {v k:K}:k∈dR σ v↔k∈σ∨k=v:=by
 unfold dR
 split
 ·rename_i h
  rw [lK] at h
  constructor
  ·exact .inl
  ·rintro (z | rfl)
   ·exact z
   ·exact h
 ·simp
theorem D5 (σ:List K) (v k:K):inK (dR σ v) k=(inK σ k || decide (k=v)):=by
 rw [Bool.eq_iff_iff,lK,D4,Bool.or_eq_true,lK,decide_eq_true_eq]
theorem JH (σ:List K) (v:K):(dR σ v).length=if inK σ v=true then σ.length else σ.length+1:=by
 unfold dR
 split<;>simp
theorem zJ:∀(ks σ:List K),(ks.foldl dR σ).length<=σ.length+ks.length
 | [],σ=>Nat.le_refl _
 | k::ks,σ=>by
  have h1:=zJ ks (dR σ k);have h2:=JH σ k;rw [List.foldl_cons,List.length_cons]
  split at h2<;>omega
theorem JI (ks:List K):(dk ks).length<=ks.length:=by
 have:=zJ ks [];simpa [dk] using this
theorem D6 {σ:List K} {v:K} (h:σ.Nodup):(dR σ v).Nodup:=by
 unfold dR
 split
 ·exact h
 ·rename_i z
  rw [lK] at z;rw [List.nodup_append];exact ⟨h,by simp,λa ha b hb e=>z (by rw [List.mem_singleton.mp hb] at e;exact e ▸ ha)⟩
theorem JJ:∀(ks σ:List K),(σ++ks).Nodup->ks.foldl dR σ=σ++ks
 | [],σ,_=>by simp
 | k::ks,σ,h=>by
  have hk:k∉σ:=λz=>by
   rw [List.nodup_append] at h;exact h.2.2 k z k (by simp) rfl
  have e:dR σ k=σ++[k]:=by
   unfold dR;rw [if_neg (λz=>hk (lK.mp z))]
  rw [List.foldl_cons,e,JJ ks (σ++[k]) (by simpa using h)];simp
theorem JK:∀(ks σ:List K),¬(σ++ks).Nodup->σ.Nodup->(ks.foldl dR σ).length < σ.length+ks.length
 | [],σ,h,hs=>absurd (by simpa using hs) h
 | k::ks,σ,h,hs=>by
  by_cases hk:k∈σ
  ·have e:dR σ k=σ:=by
    unfold dR;rw [if_pos (lK.mpr hk)]
   rw [List.foldl_cons,e,List.length_cons];have:=zJ ks σ;omega
  ·have e:dR σ k=σ++[k]:=by
    unfold dR;rw [if_neg (λz=>hk (lK.mp z))]
   have:=JK ks (σ++[k]) (by simpa using h) (by rw [<-e];exact D6 hs);rw [List.foldl_cons,e,List.length_cons];simp at this;omega
theorem D7 (ks:List K):(dk ks).length=ks.length↔ks.Nodup:=by
 constructor
 ·intro h;refine Classical.byContradiction λz=>?_
  have:=JK ks [] (by simpa using z) (by simp);simp only [List.length_nil,Nat.zero_add] at this;have e:ks.foldl dR []=dk ks:=rfl;rw [e] at this;omega
 ·intro h;have:=JJ ks [] (by simpa using h);have e:ks.foldl dR []=dk ks:=rfl;rw [e] at this;rw [this];simp
end
section
variable {K:Type} [DecidableEq K] {P:Program} {w:World} {knd:PySem.KeyKind P w K}
theorem JL {h:Heap} {a:Addr} {S S':K->Bool} {n n':Nat} (x:h.SetOf knd a S n) (e1:∀k,S k=S' k) (e2:n=n'):h.SetOf knd a S' n':=by
 cases funext e1;cases e2;exact x
def JM (knd:PySem.KeyKind P w K) (items:Array Value) (ks:List K):Prop:=items.size=ks.length/\∀(i:Nat) (v:Value),items[i]?=some v->∃k,ks[i]?=some k/\knd.is k v=true/\v.scannable=true
theorem D8 {ks:List K} {i:Nat} {k:K} (h:ks[i]?=some k):ks.take (i+1)=ks.take i++[k]:=by
 obtain ⟨hi,e⟩:=List.getElem?_eq_some_iff.mp h;rw [List.take_succ_eq_append_getElem hi,e]
section
variable {A:Around} {R:Result->Shared->Prop} {J:Addr} {fp wr:List Addr} {G:Array GenState->Array GenState->Prop} {St:Nat->Shared->Prop}
theorem JN {S:Addr} {G:Array GenState->Array GenState->Prop} {wr:List Addr} {s s':Shared} {f:K->Bool} {n:Nat} (h:s.heap.SetOf knd S f n) (m:Moved wr G s s') (hS:S∉wr):s'.heap.SetOf knd S f n:=by
 obtain ⟨o,es,ep,t,ho,more⟩:=h;exact ⟨o,es,ep,t,m.heap S _ hS ho,more⟩
theorem D9 {items:Array Value} {ks:List K} (W:WalksS P w A.in1 J fp wr G items.size (λi v=>items[i]?=some v) St) (S:Addr) (hSf:S∉fp) (hk:JM knd items ks) (hb:ks.length+1 < scanBound) :
 ∀(m i:Nat) (s:Shared),i+m=items.size->St i s->s.heap.SetOf knd S (inK (dk (ks.take i))) (dk (ks.take i)).length ->
  (∀s',Moved (S::wr) G s s'->s'.heap.SetOf knd S (inK (dk ks)) (dk ks).length->R (.ok (.ret .none)) s')->codeAny (model P w) A (.builtin "set.update.loop" ⟨[.ref S,.ref J],[]⟩) R s:=by
 have nw:S∉wr:=λz=>hSf (W.sub _ z)
 have more:∀b∈wr,b∈S::wr:=λb z=>List.mem_cons_of_mem _ z
 intro m
 induction m with
 | zero=>
  intro i s hi hst hset fin;obtain rfl:i=items.size:=by omega
  refine codeAny_builtin PyProof.Rows.F.entry_set_update_loop ?_;rw [Around.under_plainId PyProof.Rows.F.plain_set_update_loop _];show wpAny _ A.in1 (pyNext (.ref J) >>= _) _ _ s;refine wpAny_bind (W.done s _ _ hst λs' mv=>?_);show wpAny _ A.in1 (ret Value.none) _ _ s';refine wpAny_pure (fin s' (mv.mono more) ?_);have:=JN hset mv nw
  rwa [List.take_of_length_le (by rw [hk.1];exact Nat.le_refl _)] at this
 | succ m ih=>
  intro i s hi hst hset fin;refine codeAny_builtin PyProof.Rows.F.entry_set_update_loop ?_;rw [Around.under_plainId PyProof.Rows.F.plain_set_update_loop _];show wpAny _ A.in1 (pyNext (.ref J) >>= _) _ _ s;refine wpAny_bind (W.item i s _ _ (by omega) hst λv s' hv hst' mv=>?_);obtain ⟨k,ek,isk,sck⟩:=hk.2 i v hv;have hset':=JN hset mv nw;show wpAny _ A.in1 (holding [v] (setAdd S v) >>= _) _ _ s';refine wpAny_bind (wpAny_holding ?_);unfold setAdd;refine wpAny_holding (wpAny_bind (knd.pyHash (k:=k) isk ?_));have room:(dk (ks.take i)).length+1 < scanBound:=by
   have:=JI (ks.take i);rw [List.length_take] at this;omega
  refine wpAny_setAddHashed_of (knd:=knd) (s:={ s' with toks:=s'.toks+1 }) isk sck hset' room λh' sb hset2=>?_
  have hset3:h'.SetOf knd S (inK (dk (ks.take (i+1)))) (dk (ks.take (i+1))).length:=by
   rw [D8 ek,D3];exact JL hset2 (λq=>(D5 _ _ _).symm) (JH _ _).symm
  refine wpAny_pure ⟨plainId_quiet PyProof.Rows.F.plain_set_update_loop _,ih (i+1) _ (by omega) (W.frame _ s' _ _ hst' (Nat.le_succ _) λb hb' o e=>?_) hset3 λs2 mv2 hs2=>fin s2 ?_ hs2⟩
  ·rw [sb.2 b (λz:b=S=>hSf (z ▸ hb'))];exact e
  ·refine Moved.trans W.gtrans ((mv.mono more).then_heap (Nat.le_succ _) λb o hb' e=>?_) mv2;rw [sb.2 b (λz:b=S=>hb' (z ▸ List.mem_cons_self))];exact e
end
section
variable {A:Around} {E:Value->Shared->Prop} {s:Shared}
set_option maxHeartbeats 3200000 in
theorem E0 {l:Addr} {items:Array Value} {ks:List K} {Q:Value->Shared->Prop} (hh:A.handled=none) (hl:s.heap.IsList l items) (hk:JM knd items ks) (hb:ks.length+1 < scanBound)
 (fin:∀(h':Heap) (tk:Nat),h'.SetOf knd s.heap.objs.size (inK (dk ks)) (dk ks).length->(∀b o,s.heap.get? b=some o->h'.get? b=some o)->Q (.ref s.heap.objs.size) { s with heap:=h',toks:=tk }) :
 wpAny (model P w) A (call (.type "set") [.ref l]) Q E s:=by
 obtain ⟨c,tl,mro⟩:=PySem.F.called_set.mro;have made:=PySem.F.called_set.made;have subs:=PySem.F.called_set.sub;refine wpAny_call (codeAny_of_tree ?_);show wpAny _ _ (callAny (.type "set") _) _ _ _;refine wpAny_pure ⟨Code.quiet_builtin _ (by decide +kernel),codeAny_builtin PySem.F.entry_type_call ?_⟩;rw [Around.under_plain (weight_type_call_type "set" [.ref l] []) rfl];have notT:=PySem.F.called_set.notType;have canC:=PySem.F.called_set.canCreate;have tcall:=PySem.F.typeCall_set_1 (.ref l)
 repeat (any_goals (first | assumption | wp_step))
 refine codeAny_mono (code_set_new_1 (.ref l) (E:=E) (Q₁:=λobj s₁=>∃led:Bool,obj=.ref s.heap.objs.size/\s₁={ s with heap:=s.heap.push { cls:=.type "set",dict:=none,data:=.set #[] 0 (.fresh 0 0 led) } }) λled=>⟨led,rfl,rfl⟩) λr s₁ hr=>?_
 rcases r with e | fl
 ·exact hr
 rcases fl with _ | _ | _ | obj
 any_goals exact hr.elim
 obtain ⟨led,rfl,rfl⟩:=hr;generalize hO:({ cls:=.type "set",dict:=none,data:=.set #[] 0 (.fresh 0 0 led) }:Obj)=O;have gO:(s.heap.push O).get? s.heap.objs.size=some O:=Heap.get?_push_size _ (by rw [<-hO];rfl);have tO:Shared.TypeIs { s with heap:=s.heap.push O } (.ref s.heap.objs.size) "set":=⟨_,gO,by rw [<-hO]⟩
 have look:=PySem.F.called_set.init.lookup;have bnd:=PySem.F.called_set.init.bind (.ref s.heap.objs.size)
 repeat (any_goals (first | assumption | wp_step))
 refine codeAny_mono (codeAny_call_builtin (R:=wants (λr s₂=>r=.none/\∃h' tk,s₂={ s with heap:=h',toks:=tk }/\h'.SetOf knd s.heap.objs.size (inK (dk ks)) (dk ks).length/\∀b o,s.heap.get? b=some o->h'.get? b=some o) E) PySem.F.called_set.init.plain PySem.F.entry_set_init (check_set_init_1 tO ?_)) λr₂ s₂ hr₂=>?_
 ·obtain ⟨⟨oc,od,odt,osl⟩,ho,hc,n,hd⟩:=hl;simp only at hc hd;subst hc hd;have lt:l < s.heap.objs.size:=Heap.lt_size ho;have ho':(s.heap.push O).get? l=some { cls:=.type "list",dict:=od,data:=.seq items n,slots:=osl }:=Heap.get?_push_of_some _ ho;have n1:=PySem.F.sub_list_set;have n2:=PySem.F.sub_list_frozenset;have n3:(Value.type "list"==Value.type "dict")=false:=by decide
  have isl:(s.heap.push O).IsList l items:=⟨_,ho',rfl,n,rfl⟩
  have sz:(s.heap.push O).objs.size=s.heap.objs.size+1:=Heap.size_push ..;subst hO;unfold Builtin.«set.__init__» noKeywords Builtin.Frozenset.updateFrom;generalize hPI:pyIter=PI
  wp_walk
  subst hPI;refine wpAny_pyIter_list isl ?_;refine wpAny_bind (wpAny_runValue ?_);have h3:A.in1.in1.in1.handled=none:=by simp [hh]
  have ne1:l≠(s.heap.push { cls:=.type "set",dict:=none,data:=.set #[] 0 (.fresh 0 0 led) }).objs.size:=by rw [sz];exact Nat.ne_of_lt (Nat.lt_succ_of_lt lt)
  have nf:s.heap.objs.size∉[(s.heap.push { cls:=.type "set",dict:=none,data:=.set #[] 0 (.fresh 0 0 led) }).objs.size,l]:=by
   rw [sz];simp only [List.mem_cons,List.not_mem_nil,or_false,not_or];exact ⟨Nat.ne_of_lt (Nat.lt_succ_self _),Nat.ne_of_gt lt⟩
  refine D9 ((Walks.list h3 _ l ne1 items).toS) s.heap.objs.size nf hk hb items.size 0 _ (by simp) ⟨⟨_,Heap.get?_push_size _ rfl,rfl,rfl⟩,isl.push _⟩ ?_ λs' mv hs'=>?_
  ·exact JL ((PyProof.Rows.setObjOf_fresh (knd:=knd) led).setOf (Heap.get?_push_of_some _ gO) (by unfold scanBound;omega)) (λ_=>rfl) rfl
  ·obtain ⟨h',g',d',tk',os'⟩:=s';obtain rfl:g'=s.gens:=mv.gens;obtain rfl:d'=s.drawn:=mv.drawn;obtain rfl:os'=s.os:=mv.os;refine wpAny_pure (?_:wpAny _ _ (ret Value.none) _ _ _);refine wpAny_pure ⟨rfl,h',tk',rfl,hs',λb o e=>?_⟩;have hb0:=Heap.lt_size e;exact mv.heap b o (by rw [sz];simp only [List.mem_cons,List.not_mem_nil,or_false,not_or];exact ⟨Nat.ne_of_lt hb0,Nat.ne_of_lt (Nat.lt_succ_of_lt hb0)⟩) (Heap.get?_push_of_some _ (Heap.get?_push_of_some _ e))
 ·rcases r₂ with e | fl₂
  ·exact hr₂
  rcases fl₂ with _ | _ | _ | r
  any_goals exact hr₂.elim
  obtain ⟨rfl,h',tk,rfl,hs',kk⟩:=hr₂
  repeat (any_goals (first | assumption | wp_step))
  exact fin _ _ hs' kk
end
end
section
variable {X:Cx} {vA:List (Addr×Obj)} {σ:L2.St} {H:Hp} {s:Shared}
theorem Inv.enter {ea:Addr} {φ:Heap->Prop} {ob:Obj} (I:Inv X vA σ H s) (hn:H ea=none) (fe:Free X vA ea) (ho:s.heap.get? ea=some ob) (hφ:φ s.heap) (st:∀h1 h2:Heap,φ h1->(∀o,h1.get? ea=some o->h2.get? ea=some o)->φ h2) :
 Inv X vA σ (upd H ea (.ext φ)) s:=by
 obtain ⟨f1,f2,f3,f4⟩:=fe;have ne:∀b o,H b=some o->b≠ea:=λb o e z=>by rw [z,hn] at e;cases e
 refine ⟨I.ok,I.os,I.bare,⟨I.base.keep,I.base.slot,λb o e n hx=>?_,I.base.there,λb xs e=>?_,λb o v e=>?_,λb ps e=>?_⟩,I.loc,I.cell,?_,λy cc e=>?_,λp hp=>?_,λb o e=>?_,I.len⟩
 ·rw [aM (λz=>?_)]
  ·exact I.base.free b o e n hx
  ·rcases f1 with f1 | f1
   ·exact hx (z ▸ f1)
   ·rw [z] at e;rw [f1] at e;cases e
 ·have q:=I.base.tups b xs e;rw [aM (ne b _ q)];exact q
 ·have q:=I.base.frzs b o v e;rw [aM (ne b _ q)];exact q
 ·obtain ⟨more,q⟩:=I.base.tbls b ps e;exact ⟨more,by rw [aM (ne b _ q)];exact q⟩
 ·rw [aM (Ne.symm f2)];exact I.free
 ·rw [aM (f3 y cc e)];exact I.freeC y cc e
 ·obtain ⟨a1,a2,a3⟩:=I.pin p hp;exact ⟨a1,by rw [aM (f4 p hp)];exact a2,a3⟩
 ·have ow:∀b y,H b=some (.own y)->upd H ea (.ext φ) b=some (.own y):=λb y q=>by rw [aM (ne b _ q)];exact q
  have tu:∀b y,H b=some (.tup y)->upd H ea (.ext φ) b=some (.tup y):=λb y q=>by rw [aM (ne b _ q)];exact q
  by_cases hb:b=ea
  ·subst hb;rw [cR] at e;cases e;exact ⟨hφ,⟨ob,ho⟩,st⟩
  ·rw [aM hb] at e;exact (I.hok b o e).stay (λ_ _ _ q=>q) (λcc=>ow cc _) tu
theorem JO (I:Inv X vA σ H s) {b:Addr} (hb:s.heap.objs.size<=b):Free X vA b:=yK I (Heap.get?_none_of_le hb)
end
section
variable {K:Type} [DecidableEq K] {X:Cx} {knd:PySem.KeyKind X.prog X.w K}
def pE (knd:PySem.KeyKind X.prog X.w K) (p:Addr) (ks:List K) (h:Heap):Prop:=h.SetOf knd p (inK (dk ks)) (dk ks).length
theorem E5 {p:Addr} {ks:List K} {h1 h2:Heap} (x:pE knd p ks h1) (k:∀o,h1.get? p=some o->h2.get? p=some o):pE knd p ks h2:=by
 obtain ⟨o,es,ep,t,ho,more⟩:=x;exact ⟨o,es,ep,t,k _ ho,more⟩
theorem Free.later {vA:List (Addr×Obj)} {σ:L2.St} {H:Hp} {s:Shared} (I:Inv X vA σ H s):Free X vA s.heap.objs.size:=JO I (Nat.le_refl _)
theorem E6 {kv:K->V} (hc:X.calm=true) (hkv:∀(k:K) (v:Value),RelV (kv k) v->knd.is k v=true/\v.scannable=true):eY X (.type "set") (λxs H Q=>∃(a:Addr) (ks:List K),xs=[.ref a]/\SqL X.K H a (ks.map kv)/\ks.length<=4000/\∀p,H p=none->Q (.ref p) (upd H p (.ext (pE knd p ks)))):=by
 intro vA s σ H xs us Q I rv h;obtain ⟨a,ks,rfl,hq,hl,q⟩:=h;obtain ⟨u,rfl,ru⟩:=rv.one;cases ru;obtain ⟨its,r,pl,hz⟩:=I.list hq;have len:=r.length;rw [List.length_map] at len;have fr:=I.fresh;refine E0 (knd:=knd) (items:=its.toArray) (ks:=ks) (I.ok.hd hc) pl.isList ⟨by simp [len],λi v e=>?_⟩ (by unfold scanBound;omega) λh' tk hs kk=>?_
 ·have e':its[i]?=some v:=by simpa using e
  obtain ⟨hi,e2⟩:=List.getElem?_eq_some_iff.mp e';have hi':i < ks.length:=by omega
  obtain ⟨u,hu,ru⟩:=r.get (show (ks.map kv)[i]?=some (kv ks[i]) by simp [hi']);rw [e'] at hu;cases hu;exact ⟨ks[i],by simp [hi'],hkv _ _ ru⟩
 ·have I2:Inv X vA σ H { s with heap:=h',toks:=tk }:=I.kept kk;have f2:Free X vA s.heap.objs.size:=Free.later I;obtain ⟨o,es,ep,t,ho,more⟩:=hs;have hs':pE knd s.heap.objs.size ks h':=⟨o,es,ep,t,ho,more⟩
  exact ⟨.ref s.heap.objs.size,_,Inv.enter I2 fr f2 ho hs' (λh1 h2 x k=>E5 x k),rfl,q _ fr⟩
theorem E7:eY X (.builtin "len") (λxs H Q=>∃(a:Addr) (ks:List K) (φ:Heap->Prop),xs=[.ref a]/\H a=some (.ext φ)/\(∀h,φ h->pE knd a ks h)/\ks.length<=4000/\Q (.int (dk ks).length) H):=by
 intro vA s σ H xs us Q I rv h;obtain ⟨a,ks,φ,rfl,ha,hφ,hl,q⟩:=h;obtain ⟨u,rfl,ru⟩:=rv.one;cases ru;obtain ⟨p,_⟩:=(show ObjOk X.prog X.w H s.heap a (.ext φ) from I.hok a _ ha)
 obtain ⟨o,es,ep,t,ho,hex,hd,hel,hmem,hb,hf,hn⟩:=hφ _ p;have:=JI ks;refine call_len_set ho hex hd hf (by rw [hn];omega) ?_;rw [hn];exact ⟨.int _,H,I.tok _,⟨_,rfl⟩,q⟩
end
section
variable {T:Tb} {X:Cx} {e:Expr} {pos p pos2 p2:Pos} {fl:Ro->Out (List D)}
@[simp] def JP (fl:Ro->Out (List D)) (ρ:Ro):Out D:=(fl ρ).bind λds=>match fT ds with
 | some ts=>if ts.length<=4000 then .ok (.int (dk ts).length) else .bad
 | none=>.bad
theorem E8 (hc:X.calm=true) (hg:Gl X "len") (hm:X.mg "len" = none) (hg2:Gl X "set") (hm2:X.mg "set" = none) (hl:DL T X e fl)
 (hs:starEach [e] X.env=(false,eval e X.env)::starEach [] X.env:=by exact cM rfl) (hpl:(backTo pos2 (starEach ([]:List Expr) X.env)).any (·.1)=false:=by exact dL rfl)
 (hsO:starEach [.Call (.Name "set" p2) [e] [] pos2] X.env=(false,eval (.Call (.Name "set" p2) [e] [] pos2) X.env)::starEach [] X.env:=by exact cM rfl) (hplO:(backTo pos (starEach ([]:List Expr) X.env)).any (·.1)=false:=by exact dL rfl) :
 DE T X (.Call (.Name "len" p) [.Call (.Name "set" p2) [e] [] pos2] [] pos) (JP fl):=.mk λG E hp=>
 PE.imp (xP (X:=X.wish E) (E7 (X:=X.wish E) (knd:=strKind (X.wish E).prog (X.wish E).w)) hg hm rfl (cZ (X:=X.wish E) (mD (X:=X.wish E) (E6 (X:=X.wish E) (knd:=strKind (X.wish E).prog (X.wish E).w) (kv:=V.str) hc (λk v r=>by
  obtain ⟨t,rfl⟩:=r;exact ⟨strKind_is _ _ _ _,rfl⟩)) hg2 hm2 rfl (cZ (X:=X.wish E) (hl.run G E hp) eP hs) (by decide) (by decide) hs hpl) eP hsO) (by decide) (by decide) hsO hplO) fun σ H Q ⟨ρ,fr,h⟩=>⟨ρ,fr,Acc.mono (Acc.bind h) λds _ hd l vs H1 s1 sq r=>by
  cases q:fT ds with
  | none=>rw [q] at hd;exact hd.elim
  | some ts=>
   rw [q] at hd;have hd:Acc T X E σ H (if ts.length<=4000 then Out.ok (.int (dk ts).length) else .bad) (kE T X.K H Q):=hd;by_cases z:ts.length<=4000
   ·rw [if_pos z] at hd;obtain rfl:=sZ q r;exact ⟨l,ts,rfl,sq,z,λp hp=>⟨p,ts,_,rfl,cR,λh x=>x,z,hd _ _ (s1.trans (dP hp)) rfl⟩⟩
   ·rw [if_neg z] at hd;exact hd.elim⟩
end
def iT (tu:Bool) (l:Addr):Obj:={ cls:=.type (if tu then "tuple_iterator" else "list_iterator"),data:=.fields #[.ref l,.int 0 0] }
def eU (it:Addr) (i:Int) (old:Value):Obj:={ cls:=.type "enumerate",data:=.fields #[.none,.bool false,.ref it,rawInt i,.none,old] }
def kF (tu:Bool) (h:Heap) (l:Addr) (its:Array Value):Prop:=if tu=true then h.IsTuple l its else h.IsList l its
theorem JQ {P:Program} {w:World} {A:Around} {E:Value->Shared->Prop} {s:Shared} {tu:Bool} {l:Addr} {its:Array Value} {Q:Value->Shared->Prop} (h:kF tu s.heap l its) (q:Q (.ref s.heap.objs.size) { s with heap:=s.heap.push (iT tu l) }):wpAny (model P w) A (pyIter (.ref l)) Q E s:=by
 cases tu with
 | true=>exact wpAny_pyIter_tuple h q
 | false=>exact wpAny_pyIter_list h q
set_option maxHeartbeats 2000000 in
theorem E9 (tu:Bool) (l:Addr) (its:Array Value) (t:Tok) :
 Meets (Builtin.«enumerate.__new__» ⟨[.type "enumerate",.ref l],[(("start" : Str),.int 1 t)]⟩) (λ_ R s=>kF tu s.heap l its /\
  R (.ok (.ret (.ref (s.heap.objs.size+1)))) { s with heap:=(s.heap.push (iT tu l)).push (eU s.heap.objs.size 1 .none) }):=
 .of_wp λprog w A R s h=>by
  obtain ⟨hp,g,d,tk,os⟩:=s;obtain ⟨hl,h⟩:=h;have sub:=sub_enumerate;have sz:(hp.push (iT tu l)).objs.size=hp.objs.size+1:=Heap.size_push ..
  wp_walk
  refine wpAny_stack_any λst=>wpAny_pure ?_
  split
  ·rename_i c _ _ _ _ _
   cases (c==Value.type "enumerate")<;>(wp_walk using JQ hl;exact ⟨_,rfl,by simp only [sz];exact h⟩)
  ·wp_walk using JQ hl
   exact ⟨_,rfl,by simp only [sz];exact h⟩
def IsIt (tu:Bool) (h:Heap) (it l:Addr) (i:Nat):Prop:=if tu=true then h.IsTupleIter it l i else h.IsListIter it l i
section
variable {P:Program} {w:World} {A:Around} {E:Value->Shared->Prop} {s:Shared} {tu:Bool} {it l e:Addr} {i:Nat} {its:Array Value}
theorem IsIt.kept {h h':Heap} (x:IsIt tu h it l i) (k:∀o,h.get? it=some o->h'.get? it=some o):IsIt tu h' it l i:=by
 cases tu with
 | true=>
  obtain ⟨o,ho,r⟩:=(x:h.IsTupleIter it l i)
  exact (⟨o,k o ho,r⟩:h'.IsTupleIter it l i)
 | false=>
  obtain ⟨o,ho,r⟩:=(x:h.IsListIter it l i)
  exact (⟨o,k o ho,r⟩:h'.IsListIter it l i)
theorem IsIt.obj {h:Heap} (x:IsIt tu h it l i):∃o,h.get? it=some o/\∃vs,o.data=.fields vs:=by
 cases tu with
 | true=>
  obtain ⟨o,ho,_,d⟩:=(x:h.IsTupleIter it l i)
  exact ⟨o,ho,_,d⟩
 | false=>
  obtain ⟨o,ho,_,d⟩:=(x:h.IsListIter it l i)
  exact ⟨o,ho,_,d⟩
theorem F0 {x:Value} {Q:Value->Shared->Prop} (a:s.heap.IsTupleIter it l i) (b:s.heap.IsTuple l its) (c:its[i]?=some x) (q:∀h',h'.IsTupleIter it l (i+1)->Heap.SameBut it s.heap h'->Q x { s with heap:=h' }) :
 wpAny (model P w) A (Builtin.SmallTypes.nextOf (.ref it)) Q E s:=by
 obtain ⟨o,ho,hcl,hd⟩:=id a;obtain ⟨ot,hot,_,n,hdt⟩:=b;unfold Builtin.SmallTypes.nextOf;refine wpAny_bind (wpAny_callSpecial?_slot (name:=Str.ofString "__next__") a.typeIs PySem.F.slot_tuple_iterator_next (wpAny_call_entry PySem.F.slot_tuple_iterator_next a.typeIs PySem.F.entry_tuple_iterator_next (show wpAny _ _ (field (.ref it) 0 >>= _) _ _ s from wpAny_bind (wpAny_field ho hd (x:=.ref l) rfl ?_)) (PySem.F.args_tuple_iterator_next_1 _)));show wpAny _ _ (if (Value.ref l==.none)=true then _ else field (.ref it) 1 >>= _) _ _ s;rw [if_neg (λz=>by cases z)];refine wpAny_bind (wpAny_field ho hd (x:=.int i 0) rfl (show wpAny _ _ (seqItems? (.ref l) >>= _) _ _ s from wpAny_bind (wpAny_seqItems hot hdt ?_)));simp only [Int.toNat_natCast,c];refine wpAny_bind (wpAny_setField ho hd (by simp) (wpAny_pure ⟨x,rfl,wpAny_pure (q _ ⟨_,Heap.get?_update_self _ ho (Obj.isFreed_of_fields (Obj.data_mapFields hd _)),(Obj.cls_mapFields ..).trans hcl,?_⟩ (Heap.SameBut.update ..))⟩));rw [Obj.data_mapFields hd];simp [rawInt]
theorem G0 {Q:Value->Shared->Prop} (hh:A.handled=none) (a:s.heap.IsTupleIter it l i) (b:s.heap.IsTuple l its) (c:its[i]?=none)
 (q:∀h' e,Heap.ExtBut it s.heap h'->(∃o,h'.get? e=some o/\o.cls=.type "StopIteration")->E (.ref e) { s with heap:=h' }):wpAny (model P w) A (Builtin.SmallTypes.nextOf (.ref it)) Q E s:=by
 obtain ⟨o,ho,hcl,hd⟩:=id a;obtain ⟨ot,hot,_,n,hdt⟩:=b;unfold Builtin.SmallTypes.nextOf;refine wpAny_bind (wpAny_callSpecial?_slot (name:=Str.ofString "__next__") a.typeIs PySem.F.slot_tuple_iterator_next (wpAny_call_entry PySem.F.slot_tuple_iterator_next a.typeIs PySem.F.entry_tuple_iterator_next (show wpAny _ _ (field (.ref it) 0 >>= _) _ _ s from wpAny_bind (wpAny_field ho hd (x:=.ref l) rfl ?_)) (PySem.F.args_tuple_iterator_next_1 _)));show wpAny _ _ (if (Value.ref l==.none)=true then _ else field (.ref it) 1 >>= _) _ _ s;rw [if_neg (λz=>by cases z)];refine wpAny_bind (wpAny_field ho hd (x:=.int i 0) rfl (show wpAny _ _ (seqItems? (.ref l) >>= _) _ _ s from wpAny_bind (wpAny_seqItems hot hdt ?_)));simp only [Int.toNat_natCast,c];refine wpAny_bind (wpAny_rule (wpAny_bind (wpAny_setField ho hd (by simp) (show wpAny _ _ (newExc (.type "StopIteration") [] >>= _) _ _ _ from wpAny_bind ?_))));simp only [newExc,newTuple];refine wpAny_bind (wpAny_newObj_type (wpAny_bind (m:=firstArgMember _ _) (wpAny_of_eq (a:=Value.none) (by first | rfl | (simp only [firstArgMember];rfl)) (wpAny_newObj_type ?_ (by size_fits)))) (by size_fits));simp only [raiseNew];refine wpAny_bind (wpAny_handled ?_)
 first | rw [show A.in1.handled=none from hh] | rw [hh]
 exact wpAny_bind (wpAny_pure (wpAny_throw (q _ _ (((Heap.SameBut.update ..).extBut.push _).push _) ⟨_,Heap.get?_push_size _ rfl,rfl⟩)))
theorem G1 {x:Value} {Q:Value->Shared->Prop} (a:IsIt tu s.heap it l i) (b:kF tu s.heap l its) (c:its[i]?=some x) (q:∀h',IsIt tu h' it l (i+1)->Heap.SameBut it s.heap h'->Q x { s with heap:=h' }) :
 wpAny (model P w) A (Builtin.SmallTypes.nextOf (.ref it)) Q E s:=by
 cases tu with
 | true=>exact F0 a b c q
 | false=>exact wpAny_nextOf_list_item a b c q
theorem G2 {Q:Value->Shared->Prop} (hh:A.handled=none) (a:IsIt tu s.heap it l i) (b:kF tu s.heap l its) (c:its[i]?=none)
 (q:∀h' e,Heap.ExtBut it s.heap h'->(∃o,h'.get? e=some o/\o.cls=.type "StopIteration")->E (.ref e) { s with heap:=h' }):wpAny (model P w) A (Builtin.SmallTypes.nextOf (.ref it)) Q E s:=by
 cases tu with
 | true=>exact G0 hh a b c q
 | false=>exact wpAny_nextOf_list_end hh a b c q
def tB (it:Addr) (n:Int) (x:Value) (a:Addr):Obj:={ cls:=.type "enumerate",data:=.fields #[rawInt a,.bool false,.ref it,rawInt n,.none,x] }
theorem G3 {n:Int} {x old:Value} {Q:Option Value->Shared->Prop} (he:s.heap.get? e=some (eU it n old)) (a:IsIt tu s.heap it l i) (b:kF tu s.heap l its) (c:its[i]?=some x) (ne:e≠it)
 (q:∀h',h'.get? e=some (tB it (n+1) x s.heap.objs.size)->IsIt tu h' it l (i+1)->h'.get? s.heap.objs.size=some { cls:=.type "tuple",data:=.seq #[.int n s.toks,x] } ->
  (∀b o,b≠e->b≠it->s.heap.get? b=some o->h'.get? b=some o)->Q (some (.ref s.heap.objs.size)) { s with heap:=h',toks:=s.toks+1 }):wpAny (model P w) A (pyNext (.ref e)) Q E s:=by
 have ty:s.TypeIs (.ref e) "enumerate":=⟨_,he,rfl⟩
 unfold pyNext;refine wpAny_bind (wpAny_attempt (wpAny_callSpecial?_slot (name:=Str.ofString "__next__") ty PySem.F.slot_enumerate_next (wpAny_call_entry PySem.F.slot_enumerate_next ty PySem.F.entry_enumerate_next ?_ (PySem.F.args_enumerate_next_1 _))));obtain ⟨hp,g,d,tk,os⟩:=s;refine wpAny_bind (m:=field (.ref e) 2) (wpAny_field he rfl (x:=.ref it) rfl (wpAny_bind (G1 a b c λh1 a1 sb1=>?_)));have sb1:Heap.SameBut it hp h1:=sb1;have e1:h1.get? e=some (eU it n old):=(sb1.2 e ne).trans he;refine wpAny_bind (m:=field (.ref e) 3) (wpAny_field (s:=⟨h1,g,d,tk,os⟩) e1 rfl (x:=rawInt n) rfl (wpAny_bind (m:=field (.ref e) 4) (wpAny_field (s:=⟨h1,g,d,tk,os⟩) e1 rfl (x:=.none) rfl ?_)));refine wpAny_bind (m:=mkInt n) (wpAny_mkInt (wpAny_bind (m:=setField (.ref e) 3 (rawInt (n+1))) (wpAny_setField_rec e1 (by simp) λh2 e2 sb2=>?_)));have sb2:Heap.SameBut e h1 h2:=sb2;have e2:h2.get? e=some (eU it (n+1) old):=e2;refine wpAny_bind (m:=setField (.ref e) 4 .none) (wpAny_setField_rec (s:=⟨h2,g,d,tk+1,os⟩) e2 (by simp) λh3 e3 sb3=>?_);have sb3:Heap.SameBut e h2 h3:=sb3;have e3:h3.get? e=some (eU it (n+1) old):=e3;refine wpAny_bind (m:=newTuple [.int n tk,x]) (wpAny_newTuple ?_);have sz:h3.objs.size=hp.objs.size:=by rw [sb3.1,sb2.1,sb1.1]
 have lt:e < hp.objs.size:=Heap.lt_size he;obtain ⟨h4,hh4⟩:∃h4,h4=h3.push { cls:=.type "tuple",data:=.seq #[.int n tk,x] }:=⟨_,rfl⟩
 have e4:h4.get? e=some (eU it (n+1) old):=by rw [hh4];exact Heap.get?_push_of_some _ e3
 have t4:h4.get? hp.objs.size=some { cls:=.type "tuple",data:=.seq #[.int n tk,x] }:=by rw [hh4,<-sz];exact Heap.get?_push_size _ rfl
 have a4:IsIt tu h4 it l (i+1):=a1.kept λo ho=>by
  rw [hh4];exact Heap.get?_push_of_some _ ((sb3.2 it (Ne.symm ne)).trans ((sb2.2 it (Ne.symm ne)).trans ho))
 have k4:∀b o,b≠e->b≠it->hp.get? b=some o->h4.get? b=some o:=λb o b1 b2 hb=>by
  rw [hh4];exact Heap.get?_push_of_some _ ((sb3.2 b b1).trans ((sb2.2 b b1).trans ((sb1.2 b b2).trans hb)))
 show wpAny _ _ (Builtin.SmallTypes.ownedTupleIsFree (.ref e) >>= _) _ _ ⟨h3.push { cls:=.type "tuple",data:=.seq #[.int n tk,x] },g,d,tk+1,os⟩;rw [<-hh4,sz];clear hh4 sb1 sb2 sb3 e1 e2 e3 a1 sz;refine wpAny_bind ?_;unfold Builtin.SmallTypes.ownedTupleIsFree;refine wpAny_bind (wpAny_field (s:=⟨h4,g,d,tk+1,os⟩) e4 rfl (x:=.none) rfl (wpAny_pure ?_));simp only [if_true];refine wpAny_bind (wpAny_rule (wpAny_bind (wpAny_field (s:=⟨h4,g,d,tk+1,os⟩) e4 rfl (x:=old) rfl (wpAny_bind (wpAny_setField_rec (s:=⟨h4,g,d,tk+1,os⟩) e4 (by simp) λh5 e5 sb5=>?_)))));have sb5:Heap.SameBut e h4 h5:=sb5;have e5:h5.get? e=some (eU it (n+1) x):=e5;refine wpAny_bind (m:=Builtin.SmallTypes.ownedTupleHandOut (.ref e) (.ref hp.objs.size)) ?_;unfold Builtin.SmallTypes.ownedTupleHandOut;refine wpAny_bind (wpAny_setField_rec (s:=⟨h5,g,d,tk+1,os⟩) e5 (by simp) λh6 e6 sb6=>?_);have sb6:Heap.SameBut e h5 h6:=sb6;have e6:h6.get? e=some (tB it (n+1) x hp.objs.size):=e6;refine wpAny_setField_rec (s:=⟨h6,g,d,tk+1,os⟩) e6 (by simp) λh7 e7 sb7=>?_
 have sb7:Heap.SameBut e h6 h7:=sb7;have e7:h7.get? e=some (tB it (n+1) x hp.objs.size):=e7;have kk:∀b o,b≠e->h4.get? b=some o->h7.get? b=some o:=λb o b1 hb=>(sb7.2 b b1).trans ((sb6.2 b b1).trans ((sb5.2 b b1).trans hb))
 exact wpAny_bind (wpAny_letGo (wpAny_pure ⟨_,rfl,wpAny_pure (q h7 e7 (a4.kept λo ho=>kk it o (Ne.symm ne) ho) (kk _ _ (Nat.ne_of_gt lt) t4) λb o b1 b2 hb=>kk b o b1 (k4 b o b1 b2 hb))⟩))
theorem G4 {n:Int} {old:Value} {Q:Option Value->Shared->Prop} (hh:A.handled=none) (he:s.heap.get? e=some (eU it n old)) (a:IsIt tu s.heap it l i) (b:kF tu s.heap l its) (c:its[i]?=none)
 (q:∀h',Heap.ExtBut it s.heap h'->Q none { s with heap:=h' }):wpAny (model P w) A (pyNext (.ref e)) Q E s:=by
 have ty:s.TypeIs (.ref e) "enumerate":=⟨_,he,rfl⟩
 unfold pyNext;refine wpAny_bind (wpAny_attempt (wpAny_callSpecial?_slot (name:=Str.ofString "__next__") ty PySem.F.slot_enumerate_next (wpAny_call_entry PySem.F.slot_enumerate_next ty PySem.F.entry_enumerate_next ?_ (PySem.F.args_enumerate_next_1 _))));refine wpAny_bind (m:=field (.ref e) 2) (wpAny_field he rfl (x:=.ref it) rfl (wpAny_bind (G2 hh a b c λh' x ex ⟨o,ho,hc⟩=>?_)));exact wpAny_bind (wpAny_isInstance (T:="StopIteration") (b:=true) ⟨o,ho,hc⟩ isSubtype_stop (wpAny_pure (q _ ex)))
theorem G5 {elts:List Expr} {x1:Nat} {pos:Pos} {a:Addr} {n:Int} {x:Value} {Q:Unit->Shared->Prop} (he:s.heap.get? e=some (tB it n x a)) (q:∀h',h'.get? e=some (eU it n x)->Heap.SameBut e s.heap h'->Q () { s with heap:=h' }) :
 wpAny (model P w) A (letOwnedTupleGo (.Tuple elts x1 pos) (.ref e) (.ref a)) Q E s:=wpAny_letOwnedTupleGo_enum he q
theorem JR {n:Int} {old:Value} {Q:Value->Shared->Prop} (he:s.heap.get? e=some (eU it n old)) (h:Q (.ref e) s):wpAny (model P w) A (pyIter (.ref e)) Q E s:=wpAny_pyIter_enum he h
end
def SqE (K:PySem.W.Frag) (tu:Bool) (H:Hp) (a:Addr) (xs:List V):Prop:=if tu=true then SqT K H a xs else SqL K H a xs
theorem zK {X:Cx} {vA:List (Addr×Obj)} {σ:L2.St} {H:Hp} {s:Shared} {tu:Bool} {a:Addr} {xs:List V} (I:Inv X vA σ H s) (h:SqE X.K tu H a xs):∃its:List Value,Vals xs its/\kF tu s.heap a its.toArray/\xs.length<=sizeLine:=by
 cases tu with
 | true=>
  obtain ⟨its,r,p,z⟩:=I.tuple (show SqT X.K H a xs from h);exact ⟨its,r,p,z⟩
 | false=>
  obtain ⟨its,r,p,z⟩:=I.list (show SqL X.K H a xs from h);exact ⟨its,r,p.isList,z⟩
theorem G6 {X:Cx} {vA:List (Addr×Obj)} {σ:L2.St} {H:Hp} {s:Shared} {tu:Bool} {a:Addr} {xs ys:List V} (I:Inv X vA σ H s) (h:SqE X.K tu H a xs) (h':SqE X.K tu H a ys):xs=ys:=by
 cases tu with
 | true=>exact I.tuple_inj (show SqT X.K H a xs from h) h'
 | false=>exact I.list_inj (show SqL X.K H a xs from h) h'
def Ite (K:PySem.W.Frag) (tu:Bool) (a:Addr):It:=⟨λi H=>∃xs x,SqE K tu H a xs/\xs[i]?=some x,
 λi H v H'=>∃x p,(∀xs,SqE K tu H a xs->xs[i]?=some x)/\v=.ref p/\H p=none/\H'=upd H p (.tup [.int ((i:Int)+1),x]),
 λi H=>∃xs,SqE K tu H a xs/\xs[i]?=none⟩
theorem G7 {P:Program} {w:World} {K:PySem.W.Frag} {elts:List Expr} {x1:Nat} {tp:Pos} (tu:Bool) (a e it:Addr) (ne:e≠it) :
 Turn P w K (.Tuple elts x1 tp) (Ite K tu a) [e,it] e (λi h=>(∃old,h.get? e=some (eU it ((i:Int)+1) old))/\IsIt tu h it a i) where
 mem:=by simp
 obj:=λi h st c hc=>by
  obtain ⟨⟨old,s1⟩,s2⟩:=st;simp only [List.mem_cons,List.not_mem_nil,or_false] at hc;rcases hc with rfl | rfl
  ·exact ⟨_,s1,λv z=>by have z':Data.fields _=Data.cell v:=z;cases z'⟩
  ·obtain ⟨o,eo,vs,d⟩:=s2.obj;exact ⟨o,eo,λv z=>by rw [d] at z;cases z⟩
 keep:=λi h h' st k=>by
  obtain ⟨⟨old,s1⟩,s2⟩:=st;exact ⟨⟨old,k e (by simp) _ s1⟩,s2.kept λo eo=>k it (by simp) o eo⟩
 item:=by
  intro X hP hw hK hc i vA s σ H E I hf st hg;subst hP hw hK;obtain ⟨xs,x,hq,hx⟩:=hg;obtain ⟨⟨old,t1⟩,t2⟩:=st;obtain ⟨its,rv,pl,hz⟩:=zK I hq;obtain ⟨u,hu,ru⟩:=rv.get hx;refine G3 t1 t2 pl (x:=u) (by simpa using hu) ne λh' a1 a2 a3 a4=>⟨_,rfl,?_⟩
  refine G5 (s:={ s with heap:=h',toks:=s.toks+1 }) a1 λh'' b1 sb=>?_
  have sb:Heap.SameBut e h' h'':=sb;have hfresh:H s.heap.objs.size=none:=I.hok.fresh (Nat.le_refl _);have sze:s.heap.objs.size≠e:=λz=>absurd (Heap.lt_size t1) (by rw [<-z];exact Nat.lt_irrefl _)
  have kk:∀c o,c∉[e,it]->s.heap.get? c=some o->h''.get? c=some o:=λc o hcm q=>by
   simp only [List.mem_cons,List.not_mem_nil,or_false,not_or] at hcm;exact (sb.2 c hcm.1).trans (a4 c o hcm.1 hcm.2 q)
  have nfp:∀c v,H c=some v->c∉[e,it]:=λc v q hm=>by rw [(hf c hm).1] at q;cases q
  have nsz:∀c v,H c=some v->c≠s.heap.objs.size:=λc v q z=>by rw [z,hfresh] at q;cases q
  have tup:h''.get? s.heap.objs.size=some { cls:=.type "tuple",data:=.seq #[.int ((i:Int)+1) s.toks,u] }:=(sb.2 _ sze).trans a3;have I1:Inv X vA σ (upd H s.heap.objs.size (.tup [.int ((i:Int)+1),x])) { s with heap:=h'',toks:=s.toks+1 }:=by
   refine I.step (g':=s.gens) (d':=s.drawn) (t':=s.toks+1) (ch:=[e,it]) (λc hcm=>?_) (λc o _ _ hcm q _=>kk c o hcm q) (λc o _ _ hcm q _=>⟨o.slots,kk c o hcm q⟩) (λc o _ q n=>?_)
    (λc o hcm q=>⟨o,kk c o hcm q⟩) (λc xs q=>?_) (λc o v q=>?_) (λc ps q=>⟨#[],?_⟩) (λm hm=>?_) (λc v q=>?_) I.bare
   ·obtain ⟨f0,f1,f2,f3,f4,f5⟩:=hf c hcm;exact ⟨f3,f1,f4,f5⟩
   ·rw [aM (Nat.ne_of_lt (Heap.lt_size q))];exact n
   ·rw [aM (nsz c _ q)];exact q
   ·rw [aM (nsz c _ q)];exact q
   ·rw [aM (nsz c _ q),q];simp
   ·obtain ⟨o,es,ep,ho,r⟩:=hm;exact ⟨o,es,ep,kk _ o (λhm=>(hf _ hm).2.1 rfl) ho,r⟩
   ·by_cases hcz:c=s.heap.objs.size
    ·subst hcz;rw [cR] at q;cases q;exact ⟨by show 2<=sizeLine;decide,[.int ((i:Int)+1) s.toks,u],.cons ⟨_,rfl⟩ (.cons ru .nil),⟨_,tup,rfl,_,rfl⟩⟩
    ·rw [aM hcz] at q;refine (I.hok c v q).stay (λc' w' hc' z=>kk c' w' ?_ z) (λc' z=>?_) λc' xs z=>?_
     ·rcases hc' with hc' | hc'
      ·rw [hc'];exact nfp _ _ q
      ·exact nfp _ _ hc'
     ·rw [aM (nsz c' _ z)];exact z
     ·rw [aM (nsz c' _ z)];exact z
  refine ⟨.ref s.heap.objs.size,_,I1,rfl,⟨x,_,λws hw=>by rw [G6 I hw hq];exact hx,rfl,hfresh,rfl⟩,⟨⟨u,?_⟩,?_⟩,λc hcm=>?_⟩
  ·rw [show (((i+1:Nat):Int)+1)=(i:Int)+1+1 by omega];exact b1
  ·exact a2.kept λo eo=>(sb.2 _ (Ne.symm ne)).trans eo
  ·rw [aM]
   ·exact (hf c hcm).1
   ·rintro rfl;simp only [List.mem_cons,List.not_mem_nil,or_false] at hcm;rcases hcm with z | z
    ·exact sze z
    ·obtain ⟨o,eo,_⟩:=t2.obj;exact absurd (Heap.lt_size eo) (by rw [<-z];exact Nat.lt_irrefl _)
 done:=by
  intro X hP hw hK hc i vA s σ H E I hf st hg;subst hP hw hK;obtain ⟨xs,hq,hend⟩:=hg;obtain ⟨⟨old,t1⟩,t2⟩:=st;obtain ⟨its,rv,pl,hz⟩:=zK I hq;have l1:=rv.length;refine G4 (I.ok.hd hc) t1 t2 pl ?_ λh' ex=>⟨rfl,?_⟩
  ·rw [List.getElem?_eq_none_iff] at hend;simp;omega
  ·have kk:∀c o,c∉[e,it]->s.heap.get? c=some o->h'.get? c=some o:=λc o hcm q=>by
    simp only [List.mem_cons,List.not_mem_nil,or_false,not_or] at hcm;exact ex c o hcm.2 q
   have nfp:∀c v,H c=some v->c∉[e,it]:=λc v q hm=>by rw [(hf c hm).1] at q;cases q
   refine I.step (g':=s.gens) (d':=s.drawn) (t':=s.toks) (ch:=[e,it]) (λc hcm=>?_) (λc o _ _ hcm q _=>kk c o hcm q) (λc o _ _ hcm q _=>⟨o.slots,kk c o hcm q⟩) (λc o _ q n=>n)
    (λc o hcm q=>⟨o,kk c o hcm q⟩) (λc xs q=>q) (λc o v q=>q) (λc ps q=>⟨#[],by rw [q];simp⟩) (λm hm=>?_) (λc v q=>?_) I.bare
   ·obtain ⟨f0,f1,f2,f3,f4,f5⟩:=hf c hcm;exact ⟨f3,f1,f4,f5⟩
   ·obtain ⟨o,es,ep,ho,r⟩:=hm;exact ⟨o,es,ep,kk _ o (λhm=>(hf _ hm).2.1 rfl) ho,r⟩
   ·refine (I.hok c v q).stay (λc' w' hc' z=>kk c' w' ?_ z) (λc' z=>z) λc' xs z=>z
    rcases hc' with hc' | hc'
    ·rw [hc'];exact nfp _ _ q
    ·exact nfp _ _ hc'
 self:=λ_ _ _ _ _ st h=>by
  obtain ⟨⟨old,t1⟩,_⟩:=st;exact JR t1 h
section
variable {P:Program} {w:World} {A:Around} {E:Value->Shared->Prop} {s:Shared}
theorem G8 (v:Value) (t:Tok):checkTypeCall "enumerate" ⟨[v],[(("start" : Str),.int 1 t)]⟩=pure ():=by kernel_rfl
theorem G9 (v:Value) (t:Tok):checkBuiltinCall "enumerate.__new__" ⟨[.type "enumerate",v],[(("start" : Str),.int 1 t)]⟩=pure ():=by kernel_rfl
theorem I0 {self v:Value} {kw:List (Str×Value)} (hl:typeLookup (.type "enumerate") "__init__" = pure (some (.builtin "object.__init__"))) (hm:Bind.madeBy (.type "enumerate")=pure (some "enumerate.__new__")) :
 Meets (Builtin.«object.__init__» ⟨[self,v],kw⟩) (λ_ R s=>s.TypeIs self "enumerate"/\R (.ok (.ret .none)) s):=
 .of_wp λprog w A R s hs=>by
  obtain ⟨hT,hq⟩:=hs;have hne:(some "enumerate.__new__" != some "object.__new__")=true:=by decide
  repeat (any_goals (first | assumption | wp_step))
  exact ⟨_,rfl,hq⟩
theorem J0 (obj v:Value) (t:Tok):argsOk "object.__init__" ⟨[obj,v],[(("start" : Str),.int 1 t)]⟩:=by kernel_rfl
set_option maxHeartbeats 2000000 in
theorem J1 {tu:Bool} {l:Addr} {its:Array Value} {t:Tok} {Q:Value->Shared->Prop} (hl:kF tu s.heap l its)
 (q:∀h',h'.get? (s.heap.objs.size+1)=some (eU s.heap.objs.size 1 .none)->IsIt tu h' s.heap.objs.size l 0->(∀b o,s.heap.get? b=some o->h'.get? b=some o)->Q (.ref (s.heap.objs.size+1)) { s with heap:=h' }) :
 wpAny (model P w) A (call (.type "enumerate") [.ref l] [(("start" : Str),.int 1 t)]) Q E s:=by
 obtain ⟨c,tl,mro⟩:=PySem.F.called_enumerate.mro;have made:=PySem.F.called_enumerate.made;have subs:=PySem.F.called_enumerate.sub;refine wpAny_call (codeAny_of_tree ?_);show wpAny _ _ (callAny (.type "enumerate") _) _ _ _;refine wpAny_pure ⟨Code.quiet_builtin _ (by decide +kernel),codeAny_builtin PySem.F.entry_type_call ?_⟩;rw [Around.under_plain (weight_type_call_type "enumerate" [.ref l] _) (units_type_call_type "enumerate" [.ref l] _)];have notT:=PySem.F.called_enumerate.notType;have canC:=PySem.F.called_enumerate.canCreate;have tcall:=G8 (.ref l) t
 repeat (any_goals (first | assumption | wp_step))
 refine codeAny_mono (codeAny_call_builtin PySem.F.called_enumerate.plain PySem.F.entry_enumerate_new (wpAny_of_eq (G9 (.ref l) t) (E9 tu l its t P w A.in1 (wants (λobj s₁=>obj=.ref (s.heap.objs.size+1)/\s₁={ s with heap:=(s.heap.push (iT tu l)).push (eU s.heap.objs.size 1 .none) }) E) s ⟨hl,rfl,rfl⟩))) λr s₁ hr=>?_
 rcases r with e | fl
 ·exact hr
 rcases fl with _ | _ | _ | obj
 any_goals exact hr.elim
 obtain ⟨rfl,rfl⟩:=hr;have sz:(s.heap.push (iT tu l)).objs.size=s.heap.objs.size+1:=Heap.size_push ..;have g1:((s.heap.push (iT tu l)).push (eU s.heap.objs.size 1 .none)).get? (s.heap.objs.size+1)=some (eU s.heap.objs.size 1 .none):=by
  rw [<-sz];exact Heap.get?_push_size _ rfl
 have ty:Shared.TypeIs { s with heap:=(s.heap.push (iT tu l)).push (eU s.heap.objs.size 1 .none) } (.ref (s.heap.objs.size+1)) "enumerate":=⟨_,g1,rfl⟩
 have look:=PySem.F.called_enumerate.init.lookup;have bnd:=PySem.F.called_enumerate.init.bind (.ref (s.heap.objs.size+1))
 repeat (any_goals (first | assumption | wp_step))
 refine codeAny_mono (codeAny_call_builtin PySem.F.called_enumerate.init.plain PySem.F.entry_object_init (PySem.F.called_enumerate.init.check _ _ _ _ _ _ _ _ ty (J0 _ _ t) (I0 look made P w A.in1 (wants (λr s₂=>r=.none/\s₂={ s with heap:=(s.heap.push (iT tu l)).push (eU s.heap.objs.size 1 .none) }) E) _ ⟨ty,rfl,rfl⟩))) λr₂ s₂ hr₂=>?_
 rcases r₂ with e | fl₂
 ·exact hr₂
 rcases fl₂ with _ | _ | _ | r
 any_goals exact hr₂.elim
 obtain ⟨rfl,rfl⟩:=hr₂
 repeat (any_goals (first | assumption | wp_step))
 refine q _ g1 ?_ λb o e=>Heap.get?_push_of_some _ (Heap.get?_push_of_some _ e)
 have gi:((s.heap.push (iT tu l)).push (eU s.heap.objs.size 1 .none)).get? s.heap.objs.size=some (iT tu l):=Heap.get?_push_of_some _ (Heap.get?_push_size _ rfl);cases tu with
 | true=>exact (⟨_,gi,rfl,rfl⟩:Heap.IsTupleIter _ _ _ _)
 | false=>exact (⟨_,gi,rfl,rfl⟩:Heap.IsListIter _ _ _ _)
variable {M:Model} {env:Env}
theorem JS {pos:Pos} {T:String} {e:Expr} {rest:List Expr} {kws:List Keyword} {Q:Value->Shared->Prop}
 (h:wpAny M A (spliced (backTo pos (starEach (e::rest) env))) (λvs s₁=>wpAny M A (evalAll ((backToKw pos (keywordEach kws env)).map (·.2))) (λkvs s₂=>wpAny M A (call (.type T) vs (((backToKw pos (keywordEach kws env)).filterMap (·.1)).zip kvs)) Q E s₂) E s₁) E s)
 (he:backTo pos (starEach (e::rest) env)=(false,eval e env)::backTo pos (starEach rest env)) (hp:(backTo pos (starEach (e::rest) env)).any (·.1)=false)
 (ha:(backToKw pos (keywordEach kws env)).all (·.1.isSome)=true) (hk:(backToKw pos (keywordEach kws env)).any (·.1.isNone)=false) :
 wpAny M A (callWith pos (.type T) [] (backTo pos (starEach (e::rest) env)) (backToKw pos (keywordEach kws env))) Q E s:=by
 have h':wpAny M A (evalArgs (.type T) true (backTo pos (starEach (e::rest) env)) (backToKw pos (keywordEach kws env))) (λa s₁=>wpAny M A (call (.type T) ([]++a.pos) a.kw) Q E s₁) E s:=by
  rw [he] at h ⊢;exact evalArgs_kwB ha h
 unfold callWith;refine wpAny_bind (wpAny_holding (wpAny_mono h' (λa s₁ h₁=>wpAny_bind (wpAny_standAt ?_)) λ_ _ z=>z));rw [hp,hk];exact wpAny_bind (wpAny_pure (wpAny_bind (wpAny_mono h₁ (λr s₂ hr=>wpAny_bind (wpAny_holding (wpAny_point (wpAny_pure hr)))) λ_ _ z=>z)))
end
def fL:Int->List D->List D
 | _,[]=>[]
 | n,d::ds=>.tup [.int n,d]::fL (n+1) ds
theorem zL:∀(n:Int) (ds:List D),(fL n ds).length=ds.length
 | _,[]=>rfl
 | n,d::ds=>by simp [fL,zL (n+1) ds]
theorem JT:∀(n:Int) (ds:List D) (i:Nat),(fL n ds)[i]?=ds[i]?.map λd=>D.tup [.int (n+(i:Int)),d]
 | _,[],i=>by simp [fL]
 | n,d::ds,0=>by simp [fL]
 | n,d::ds,i+1=>by
  simp only [fL,List.getElem?_cons_succ,JT (n+1) ds i];rw [show n+1+(i:Int)=n+((i+1:Nat):Int) by omega]
section
variable {T:Tb} {X:Cx} {a:Expr} {pos p tp cp kp:Pos} {fl:Ro->Out (List D)} {fe:Ev} {elts:List Expr} {x1 ck:Nat}
def StE (K:PySem.W.Frag) (tu:Bool) (G H:Hp) (l:Addr) (vs:List V):Prop:=if tu=true then SqT K H l vs else Stb K G H l vs
theorem StE.pers {K:PySem.W.Frag} {tu:Bool} {G H H':Hp} {l:Addr} {vs:List V} (p:Pers T false H H') (h:StE K tu G H l vs):StE K tu G H' l vs:=by
 cases tu with
 | true=>exact IK p (show SqT K H l vs from h)
 | false=>exact (show Stb K G H l vs from h).pers p
theorem StE.sq {K:PySem.W.Frag} {tu:Bool} {G H:Hp} {l:Addr} {vs:List V} (h:StE K tu G H l vs) (sm:Same G H):SqE K tu H l vs:=by
 cases tu with
 | true=>exact (show SqT K H l vs from h)
 | false=>exact (show Stb K G H l vs from h).sq sm
theorem JU {tu:Bool} {G H1:Hp} {l:Addr} {vs:List V} {ds:List D} (st:StE X.K tu G H1 l vs) (r:RepL T X.K H1 ds vs):Walk T X.K G (Ite X.K tu l) (fL 1 ds) H1:=λi H p sm=>by
 have sq:=(st.pers p).sq sm;have r':=RepL.pers p _ _ r;have hl:=RepL.length _ _ r';refine ⟨λd e=>?_,λh=>⟨vs,sq,?_⟩⟩
 ·rw [JT] at e;cases ed:ds[i]? with
  | none=>rw [ed] at e;cases e
  | some d1=>
   rw [ed] at e;have e':D.tup [.int (1+(i:Int)),d1]=d:=Option.some.inj e;subst e';obtain ⟨v,e1,rd⟩:=RepL.get _ _ _ _ r' ed;refine ⟨⟨vs,v,sq,e1⟩,λx H2 ⟨x',q,h1,hx,hq,hH⟩=>?_⟩;have z1:=h1 vs sq;rw [e1] at z1;cases z1;subst hx hH;refine ⟨dP hq,q,[.int ((i:Int)+1),v],rfl,SqT.of cR,.int ((i:Int)+1),[v],rfl,?_,v,[],rfl,Rep.mono (dP hq) _ _ rd,rfl⟩;show V.int ((i:Int)+1)=.int (1+(i:Int));rw [Int.add_comm]
 ·rw [zL] at h;rw [List.getElem?_eq_none_iff];omega
theorem JV {tu:Bool} {E:Value->Shared->Prop} {vA:List (Addr×Obj)} {σ:L2.St} {H1:Hp} {s1:Shared} {l:Addr} {vs:List V} {R:It->Hp->Prop} {t:Tok} (I1:Inv (X.wish E) vA σ H1 s1) (sq:SqE X.K tu H1 l vs) (q:R (Ite X.K tu l) H1) :
 wpAny (model X.prog X.w) X.A (call (.type "enumerate") [.ref l] [(("start" : Str),.int 1 t)]) (λv s2=>wpAny (model X.prog X.w) X.A (pyIter v) (PIE (X.wish E) vA σ (.Tuple elts x1 tp) R) E s2) E s1:=by
 obtain ⟨its,rv,pl,hz⟩:=zK I1 sq;refine J1 pl λh' z1 z2 kp=>?_
 have I2:Inv (X.wish E) vA σ H1 { s1 with heap:=h' }:=I1.kept (t':=s1.toks) kp;have ne:s1.heap.objs.size+1≠s1.heap.objs.size:=Nat.succ_ne_self _;refine JR z1 ⟨_,_,_,_,H1,rfl,I2,G7 tu l _ _ ne,⟨⟨.none,?_⟩,z2⟩,λc hcm=>?_,q⟩
 ·exact z1
 ·have ge:s1.heap.objs.size<=c:=by
   simp only [List.mem_cons,List.not_mem_nil,or_false] at hcm;rcases hcm with rfl | rfl
   ·exact Nat.le_succ _
   ·exact Nat.le_refl _
  exact I1.fpOk ge (I1.hok.fresh ge)
@[simp] def mZ (fl:Ro->Out (List D)) (ρ:Ro):Out (List D):=(fl ρ).bind λds=>.ok (fL 1 ds)
theorem J2 (hg:Gl X "enumerate") (hm:X.mg "enumerate" = none) (hl:DP T X a fl) (hs:starEach [a] X.env=(false,eval a X.env)::starEach [] X.env:=by exact cM rfl) (hpl:(backTo pos (starEach ([a]:List Expr) X.env)).any (·.1)=false:=by exact dL rfl) :
 DI T X (.Tuple elts x1 tp) (.Call (.Name "enumerate" p) [a] [⟨some "start",.Constant (.int 1) ck cp,kp⟩] pos) (mZ fl):=.mk λG E hp=>by
 rintro vA s σ H R I ⟨ρ,fr,h⟩;refine wpAny_Call_Name_kw (gX (X:=X.wish E) I hg hm rfl (JS (thn ((cZ (X:=X.wish E) (hl.run G E hp) eP hs) pos vA s σ H (λus H1=>∃l vs,us=[.ref l]/\SqE X.K false H1 l vs/\R (Ite X.K false l) H1) I ⟨ρ,fr,Acc.mono (Acc.bind h) λds _ hd l vs H1 s1 st r=>⟨l,vs,rfl,st.sq (fr.same.trans s1),hd _ H1 s1 (JU (tu:=false) st r)⟩⟩) λus s1 ⟨xs,H1,I1,r1,l,vs,e1,sq,q⟩=>?_) (by rw [hs];rfl) hpl rfl rfl));subst e1;obtain ⟨u,rfl,ru⟩:=Vals.one r1;cases ru;refine kws_cons (wpAny_Constant_int (kws_nil ?_));exact JV (I1.tok _) sq q
theorem J3 (hg:Gl X "enumerate") (hm:X.mg "enumerate" = none) (hl:DE T X a fe) (hs:starEach [a] X.env=(false,eval a X.env)::starEach [] X.env:=by exact cM rfl) (hpl:(backTo pos (starEach ([a]:List Expr) X.env)).any (·.1)=false:=by exact dL rfl) :
 DI T X (.Tuple elts x1 tp) (.Call (.Name "enumerate" p) [a] [⟨some "start",.Constant (.int 1) ck cp,kp⟩] pos) (mZ (gQ fe)):=.mk λG E hp=>by
 rintro vA s σ H R I ⟨ρ,fr,h⟩;refine wpAny_Call_Name_kw (gX (X:=X.wish E) I hg hm rfl (JS (thn ((cZ (X:=X.wish E) (hl.run G E hp) eP hs) pos vA s σ H (λus H1=>∃l vs,us=[.ref l]/\SqE X.K true H1 l vs/\R (Ite X.K true l) H1) I ⟨ρ,fr,Acc.mono (Acc.bind (Acc.bind h)) λd _ hd v H1 s1 r=>?_⟩) λus s1 ⟨xs,H1,I1,r1,l,vs,e1,sq,q⟩=>?_) (by rw [hs];rfl) hpl rfl rfl))
 ·cases d with
  | tup ds=>
   obtain ⟨l,vs,rfl,sq,rl⟩:=r;exact ⟨l,vs,rfl,sq,hd _ H1 s1 (JU (tu:=true) sq rl)⟩
  | _=>exact hd.elim
 ·subst e1;obtain ⟨u,rfl,ru⟩:=Vals.one r1;cases ru;refine kws_cons (wpAny_Constant_int (kws_nil ?_));exact JV (I1.tok _) sq q
variable {ib:Bool} {e b:Expr} {p2:Pos} {fb:Ev} {x:Str}
end
end L3
namespace L3
open PySem L2
theorem J4 {is:List Int} (h:is≠[]):bN false is∈is/\∀x∈is,bN false is<=x:=by
 have l:0 < is.length:=List.length_pos_iff.mpr h;have e:bN false is=is.getD (argBest (λi j=>decide (is.getD i 0 < is.getD j 0)) (is.length-1)) 0:=by
  unfold bN;simp
 obtain ⟨a1,a2⟩:=argBest_lt (λi=>is.getD i 0) (is.length-1);rw [e];generalize argBest (λi j=>decide (is.getD i 0 < is.getD j 0)) (is.length-1)=k at *;have hk:k < is.length:=by omega
 refine ⟨?_,λx hx=>?_⟩
 ·rw [List.getD_eq_getElem?_getD,List.getElem?_eq_getElem hk];exact List.getElem_mem hk
 ·obtain ⟨j,hj,rfl⟩:=List.getElem_of_mem hx;have:=a2 j (by omega);rw [List.getD_eq_getElem?_getD (l:=is) (i:=j),List.getElem?_eq_getElem hj] at this;exact this
theorem zM {is:List Int} (h:is≠[]):bN true is∈is/\∀x∈is,x<=bN true is:=by
 have l:0 < is.length:=List.length_pos_iff.mpr h;have e:bN true is=is.getD (argBest (λi j=>decide (is.getD i 0 > is.getD j 0)) (is.length-1)) 0:=by
  unfold bN;simp
 obtain ⟨a1,a2⟩:=argBest_gt (λi=>is.getD i 0) (is.length-1);rw [e];generalize argBest (λi j=>decide (is.getD i 0 > is.getD j 0)) (is.length-1)=k at *;have hk:k < is.length:=by omega
 refine ⟨?_,λx hx=>?_⟩
 ·rw [List.getD_eq_getElem?_getD,List.getElem?_eq_getElem hk];exact List.getElem_mem hk
 ·obtain ⟨j,hj,rfl⟩:=List.getElem_of_mem hx;have:=a2 j (by omega);rw [List.getD_eq_getElem?_getD (l:=is) (i:=j),List.getElem?_eq_getElem hj] at this;exact this
theorem lL (is:List Int):dO (is.map D.int)=some is:=by
 induction is with
 | nil=>rfl
 | cons i is ih=>rw [List.map_cons,dO,ih]
theorem J5 {is:List Int} (h:is≠[]):mX [.lst (is.map D.int)]=.ok (.int (bN false is)):=by
 rw [mX,lL];show (if is≠[] then _ else _)=_;rw [if_pos h]
theorem JW {is:List Int} (h:is≠[]):jP [.lst (is.map D.int)]=.ok (.int (bN true is)):=by
 rw [jP,lL];show (if is≠[] then _ else _)=_;rw [if_pos h]
theorem J6 {is:List Int} (hl:is.length<=1000) (h:∀i∈is,-1000000000<=i/\i<=1000000000):lH is=true:=by
 unfold lH;simp only [Bool.and_eq_true,decide_eq_true_eq,List.all_eq_true];exact ⟨hl,λi hi=>h i hi⟩
theorem JX {is:List Int} (hl:is.length<=1000) (h:∀i∈is,-1000000000<=i/\i<=1000000000):fK [.lst (is.map D.int)]=.ok (.int (isum is)):=by
 rw [fK,lL];show (if _ then _ else _)=_;rw [if_pos (J6 hl h)]
theorem J7 {is:List Int} (h:∀i∈is,0<=i):0<=isum is:=by
 induction is with
 | nil=>simp [isum]
 | cons x a ih=>
  have h1:=ih λi hi=>h i (by simp [hi])
  have h2:=h x (by simp);simp only [isum];omega
theorem nA {α:Type} {f:D->Out D} {g:α->D} {k:α->D}:∀(l:List α),(∀a∈l,f (g a)=.ok (k a))->eR f (l.map g)=some (l.map k)
 | [],_=>rfl
 | a::l,h=>by
  rw [List.map_cons,eR,h a (by simp),nA l λb hb=>h b (by simp [hb])];rfl
theorem hJ {α:Type} {fl:Ro->Out (List D)} {vH:List Nat} {fe:Ev} {ρ:Ro} {g:α->D} {k:α->D} {l:List α} (h:fl ρ=.ok (l.map g)) (hl:l.length<=1000000) (he:∀a∈l,fe (cG vH ρ (g a))=.ok (k a)) :
 bJ fl vH fe ρ=.ok (l.map k):=by
 rw [bJ,h,Out.ok_bind,if_pos (by simpa using hl),nA l he]
theorem kG {i:Nat} {f:Ev} {ρ:Ro} {v:D} (h:f ρ=.ok v):aR i f ρ=.nx (ρ.set i (.sh v)):=by
 rw [aR,h,Out.ok_fl]
theorem iU {i:Nat} {f:Ro->Out Rv} {ρ:Ro} {v:List D} (h:f ρ=.ok (.fr v)):eQ i f ρ=.nx (ρ.set i (.ow v)):=by
 rw [eQ,h,Out.ok_fl]
theorem dS {α:Type} (a:α) (l:List α):atI (a::l) 0=some a:=dC (j:=0) rfl
theorem fD {α:Type} (a b:α) (l:List α):atI (a::b::l) 1=some b:=dC (j:=1) rfl
theorem iV {α:Type} (a b c:α) (l:List α):atI (a::b::c::l) 2=some c:=dC (j:=2) rfl
theorem kH {α:Type} (a b c d:α) (l:List α):atI (a::b::c::d::l) 3=some d:=dC (j:=3) rfl
theorem tD {α:Type} (a b c d e:α) (l:List α):atI (a::b::c::d::e::l) 4=some e:=dC (j:=4) rfl
theorem pF {α:Type} (a b c d e f:α) (l:List α):atI (a::b::c::d::e::f::l) 5=some f:=dC (j:=5) rfl
structure Tz (n:Nat) (z:Str):Prop where
 len:z.length<=n
 cps:∀c∈z.cps.toList,c < 128
theorem Tz.mono {n m:Nat} {z:Str} (h:Tz n z) (e:n<=m):Tz m z:=⟨Nat.le_trans h.len e,h.cps⟩
theorem Tz.repr {n:Nat} {z:Str} (h:Tz n z) (hn:n<=1000):(reprText z).length<=200000:=by
 have:=PySem.StrLaws.reprText_len z λc hc=>Nat.lt_of_lt_of_le (h.cps c hc) (by decide)
 have:=h.len;omega
theorem tH {α:Type} {xs:List α} {i:Int} (h0:0<=i) (h1:i < xs.length):∃v,atI xs i=some v/\v∈xs:=by
 obtain ⟨k,rfl⟩:=Int.eq_ofNat_of_zero_le h0;have hk:k < xs.length:=by omega
 exact ⟨xs[k],dC (by simp [hk]),List.getElem_mem hk⟩
theorem J8:(Str.ofString "")=⟨#[]⟩:=by decide +kernel
theorem JY:∀cs:List Nat,fT (cs.map λc=>D.str ⟨#[c]⟩)=some (cs.map λc=>(⟨#[c]⟩:Str))
 | []=>rfl
 | c::cs=>by rw [List.map_cons,fT,JY cs];rfl
theorem JZ (sep:Str) (hs:sep.length=0):∀(cs:List Nat) (n:Nat),(cs.map λc=>(⟨#[c]⟩:Str)).foldl (λa t=>a+t.length+sep.length) n=n+cs.length
 | [],n=>rfl
 | c::cs,n=>by
  rw [List.map_cons,List.foldl_cons,JZ sep hs cs];have:(Str.mk #[c]).length=1:=rfl;rw [this,hs];simp;omega
theorem J9 (cs:List Nat) (hl:cs.length<=100):pD (.str (Str.ofString "")) [.lst (cs.map λc=>D.str ⟨#[c]⟩)]=.ok (.str ⟨cs.toArray⟩):=by
 have s0:(Str.ofString "").length=0:=by decide +kernel
 have ok:JoinOk (Str.ofString "") (cs.map λc=>(⟨#[c]⟩:Str))=true:=by
  unfold JoinOk;rw [List.foldl_toArray',JZ _ s0]<;>try rfl
  unfold Builtin.Str.tooLong;rw [sizeLine_eq];simp;omega
 have jn:Txt.join (Str.ofString "") (cs.map λc=>(⟨#[c]⟩:Str))=⟨cs.toArray⟩:=by
  show Builtin.Str.glued (Str.ofString "") _=_;rw [PySem.StrLaws.glued_eq_join,J8];exact PyProof.Rows.join_ones cs
 rw [pD,JY];show (if _ then _ else _)=_;rw [if_pos ok,jn]
theorem KA {z:Str} {n:Nat} (h:Tz n z) (hn:n<=1000) {α:Type} {f:D->Out D} {g:α->D} {ix:α->Int}:∀(l:List α),(∀a∈l,0<=ix a/\ix a < z.length/\f (g a)=ixD (.str z) (.int (ix a)))->∃cs:List Nat,cs.length=l.length/\(∀c∈cs,c∈z.cps.toList)/\eR f (l.map g)=some (cs.map λc=>D.str ⟨#[c]⟩)
 | [],_=>⟨[],rfl,by simp,rfl⟩
 | a::l,hl=>by
  obtain ⟨cs,h1,h2,h3⟩:=KA h hn (f:=f) (g:=g) (ix:=ix) l λb hb=>hl b (by simp [hb])
  obtain ⟨p0,p1,p2⟩:=hl a (by simp);obtain ⟨c,e,m⟩:=tH (xs:=z.cps.toList) p0 (by rw [yX];exact p1);have hz:z.length<=1000000:=by have:=h.len;omega
  refine ⟨c::cs,by simp [h1],λd hd=>?_,?_⟩
  ·rcases List.mem_cons.mp hd with rfl | hd
   ·exact m
   ·exact h2 d hd
  ·rw [List.map_cons,eR,p2,h3];simp only [ixD,if_pos hz,e,List.map_cons]
theorem dI {n:Nat} {f:Ro->Fl} {ss:List Sl} {r:Rv} (ρ:Ro) (e:ss++List.replicate (n-ss.length) .no=ρ) (h:f ρ=.rt r):fnF n f ss=.ok r:=by
 rw [fnF,e,h]
theorem KB {body:Ro->D->Fl} (S:Nat->Ro->Prop):∀(n i:Nat),(∀j ρ,i<=j->j < i+n->S j ρ->∃ρ',body ρ (.int j)=.nx ρ'/\S (j+1) ρ')->∀ρ,S i ρ->∃ρ',cP body (rgD (i:Int) n) ρ=.nx ρ'/\S (i+n) ρ'
 | 0,i,_,ρ,h=>⟨ρ,by rw [y6,kB],h⟩
 | n+1,i,hb,ρ,h=>by
  obtain ⟨ρ1,e1,h1⟩:=hb i ρ (Nat.le_refl _) (by omega) h;obtain ⟨ρ2,e2,h2⟩:=KB S n (i+1) (λj ρ a b=>hb j ρ (by omega) (by omega)) ρ1 h1;refine ⟨ρ2,?_,by rw [show i+(n+1)=i+1+n by omega];exact h2⟩;rw [w9,kC e1];exact e2
theorem iW {body:Ro->D->Fl} (S:Nat->Ro->Prop) (n:Nat) (hb:∀j ρ,j < n->S j ρ->∃ρ',body ρ (.int j)=.nx ρ'/\S (j+1) ρ') {ρ:Ro} (h:S 0 ρ):∃ρ',cP body (rgD 0 n) ρ=.nx ρ'/\S n ρ':=by
 obtain ⟨ρ',e,h'⟩:=KB S n 0 (λj ρ _ b=>hb j ρ (by omega)) ρ h;exact ⟨ρ',e,by rwa [Nat.zero_add] at h'⟩
theorem KC {α:Type} {body:Ro->D->Fl} (g:α->D) (S:Nat->Ro->Prop):∀(l:List α) (i:Nat),(∀j a ρ,l[j]?=some a->S (i+j) ρ->∃ρ',body ρ (g a)=.nx ρ'/\S (i+j+1) ρ')->∀ρ,S i ρ->∃ρ',cP body (l.map g) ρ=.nx ρ'/\S (i+l.length) ρ'
 | [],i,_,ρ,h=>⟨ρ,by rw [List.map_nil,kB],h⟩
 | a::l,i,hb,ρ,h=>by
  obtain ⟨ρ1,e1,h1⟩:=hb 0 a ρ rfl h;obtain ⟨ρ2,e2,h2⟩:=KC g S l (i+1) (λj a ρ e q=>by
   have:=hb (j+1) a ρ (by simpa using e) (by rwa [show i+(j+1)=i+1+j by omega])
   rwa [show i+(j+1)=i+1+j by omega] at this) ρ1 h1
  refine ⟨ρ2,by rw [List.map_cons,kC e1,e2],?_⟩
  rwa [List.length_cons,show i+(l.length+1)=i+1+l.length by omega]
theorem iG {α:Type} {body:Ro->D->Fl} (g:α->D) (S:Nat->Ro->Prop) (l:List α) (hb:∀j a ρ,l[j]?=some a->S j ρ->∃ρ',body ρ (g a)=.nx ρ'/\S (j+1) ρ') {ρ:Ro} (h:S 0 ρ):∃ρ',cP body (l.map g) ρ=.nx ρ'/\S l.length ρ':=by
 obtain ⟨ρ',e,h'⟩:=KC g S l 0 (λj a ρ e q=>by rw [Nat.zero_add] at q ⊢; exact hb j a ρ e q) ρ h;exact ⟨ρ',e,by rwa [Nat.zero_add] at h'⟩
theorem KD {t:Ro->Out Bool} {b:Ro->Fl} (S:Nat->Ro->Prop):∀(n i m:Nat),n < m->(∀j ρ,i<=j->j < i+n->S j ρ->t ρ=.ok true/\∃ρ',b ρ=.nx ρ'/\S (j+1) ρ')->(∀ρ,S (i+n) ρ->t ρ=.ok false)->∀ρ,S i ρ->∃ρ',whD t b m ρ=.nx ρ'/\S (i+n) ρ'
 | _,_,0,h,_,_,_,_=>absurd h (by omega)
 | 0,i,m+1,_,_,he,ρ,h=>⟨ρ,by rw [whD,he ρ h];rfl,h⟩
 | n+1,i,m+1,hm,hb,he,ρ,h=>by
  obtain ⟨et,ρ1,e1,h1⟩:=hb i ρ (Nat.le_refl _) (by omega) h;obtain ⟨ρ2,e2,h2⟩:=KD S n (i+1) m (by omega) (λj ρ a b=>hb j ρ (by omega) (by omega)) (fun ρ q=>he ρ (by rwa [show i+(n+1)=i+1+n by omega])) ρ1 h1;refine ⟨ρ2,?_,by rwa [show i+(n+1)=i+1+n by omega]⟩;rw [whD,et,Out.ok_fl,if_pos rfl,e1];exact e2
theorem whR {t:Ro->Out Bool} {b:Ro->Fl} (S:Nat->Ro->Prop) (n m:Nat) (hm:n < m) (hb:∀j ρ,j < n->S j ρ->t ρ=.ok true/\∃ρ',b ρ=.nx ρ'/\S (j+1) ρ') (he:∀ρ,S n ρ->t ρ=.ok false) {ρ:Ro} (h:S 0 ρ):∃ρ',whD t b m ρ=.nx ρ'/\S n ρ':=by
 obtain ⟨ρ',e,h'⟩:=KD S n 0 m hm (λj ρ _ b=>hb j ρ (by omega)) (fun ρ q=>he ρ (by rwa [Nat.zero_add] at q)) ρ h;exact ⟨ρ',e,by rwa [Nat.zero_add] at h'⟩
theorem pick2 (a b i:Int):∃v,atI [D.int a,D.int b] (i % 2)=some (.int v)/\(v=a∨v=b):=by
 have:i % 2=0∨i % 2=1:=by omega
 rcases this with h | h<;>rw [h]
 ·exact ⟨a,dS _ _,.inl rfl⟩
 ·exact ⟨b,fD _ _ _,.inr rfl⟩
theorem pick4 (a b c d i:Int):∃v,atI [D.int a,D.int b,D.int c,D.int d] (i % 4)=some (.int v)/\(v=a∨v=b∨v=c∨v=d):=by
 have:i % 4=0∨i % 4=1∨i % 4=2∨i % 4=3:=by omega
 rcases this with h | h | h | h<;>rw [h]
 ·exact ⟨a,dS _ _,.inl rfl⟩
 ·exact ⟨b,fD _ _ _,.inr (.inl rfl)⟩
 ·exact ⟨c,iV _ _ _ _,.inr (.inr (.inl rfl))⟩
 ·exact ⟨d,kH _ _ _ _ _,.inr (.inr (.inr rfl))⟩
theorem iX {i j:Int} (h:-1000000<=i/\i<=1000000):eD i j=true:=by
 unfold eD;simp only [Bool.or_eq_true,Bool.and_eq_true,decide_eq_true_eq]
 left;constructor<;>omega
theorem KF:∀is:List Int,eT (is.map D.int)=some (is.map V.int)
 | []=>rfl
 | i::is=>by rw [List.map_cons,eT,KF is];rfl
theorem K0 (a b:Int):eqV (.int a) (.int b)=decide (a=b):=by
 show (a==b)=_;rw [Bool.eq_iff_iff,beq_iff_eq,decide_eq_true_eq]
theorem KG (i:Int):∀is:List Int,inV (.int i) (is.map V.int)=decide (i∈is)
 | []=>by simp [inV]
 | j::is=>by
  have ih:=KG i is;unfold inV at ih ⊢;rw [List.map_cons,List.any_cons,ih,K0,Bool.eq_iff_iff,Bool.or_eq_true,decide_eq_true_eq,decide_eq_true_eq,decide_eq_true_eq,List.mem_cons];exact ⟨λh=>h.elim (λe=>.inl e.symm) .inr,λh=>h.elim (λe=>.inl e.symm) .inr⟩
theorem K1 (neg:Bool) (i:Int) (is:List Int):inD neg (.int i) (.lst (is.map D.int))=.ok (.bl (if neg then !decide (i∈is) else decide (i∈is))):=by
 show (match iD (.int i),eT (is.map D.int) with | some x,some xs=>Out.ok (D.bl (if neg then !inV x xs else inV x xs)) | _,_=>.bad)=_;rw [KF,<-KG]
 rfl
end L3
namespace L3
open PySem PySem.Spec PyProof.Rows L2
section
variable {P:Program} {w:World} {A:Around} {E:Value->Shared->Prop} {s:Shared} {tu tv:Bool} {z TI TO i1 i2 l1 l2:Addr} {k:Nat} {xs ys:Array Value}
variable {T:Tb} {X:Cx} {a b:Expr} {pos p tp:Pos} {fe:Ev} {fm:Ro->Out (List D)} {elts:List Expr} {x1:Nat}
end
def lM (ts:List Str):Str:=(PyData.list (ts.map PyData.str)).shown
theorem KH {h:Heap}:∀{ts:List Str} {us:List Value},Vals (ts.map V.str) us->ReadsAll h us (ts.map PyData.str) []
 | [],_,.nil=>.nil
 | t::ts,_,.cons r q=>by
  obtain ⟨k,rfl⟩:=r;exact .cons (.str t k) (KH q)
theorem KJ:∀ts:List Str,PyData.showableAll (ts.map PyData.str)=true
 | []=>rfl
 | t::ts=>by simp [PyData.showableAll,PyData.showable,KJ ts]
theorem KK:∀ts:List Str,PyData.hasDictAll (ts.map PyData.str)=false
 | []=>rfl
 | t::ts=>by simp [PyData.hasDictAll,PyData.hasDict,KK ts]
theorem KL:∀ts:List Str,PyData.depthAll (ts.map PyData.str)=0
 | []=>rfl
 | t::ts=>by simp [PyData.depthAll,PyData.depth,KL ts]
section
variable {T:Tb} {X:Cx} {v:Expr} {es:List Expr} {pos:Pos} {fl:Ro->Out (List D)} {fs:Ro->Option (List Str)} {k:Nat}
@[simp] def tJ (fl:Ro->Out (List D)) (fs:Ro->Option (List Str)) (ρ:Ro):Option (List Str):=match fl ρ with
 | .ok ds=>(match fT ds with
  | some ts=>if (lM ts).length<=200000 then (match fs ρ with | some xs=>some (lM ts::xs) | none=>none) else none
  | none=>none)
 | _=>none
theorem K2 {ρ:Ro} {ys:List Str} (e:tJ fl fs ρ=some ys):∃ds ts xs,fl ρ=.ok ds/\fT ds=some ts/\(lM ts).length<=200000/\fs ρ=some xs/\ys=lM ts::xs:=by
 unfold tJ at e;cases ed:fl ρ with
 | ok ds=>
  rw [ed] at e;cases et:fT ds with
  | some ts=>
   simp only [et] at e;by_cases h:(lM ts).length<=200000
   ·rw [if_pos h] at e;cases ef:fs ρ with
    | some xs=>rw [ef] at e;cases e;exact ⟨ds,ts,xs,rfl,et,h,rfl,rfl⟩
    | none=>rw [ef] at e;cases e
   ·rw [if_neg h] at e;cases e
  | none=>simp only [et] at e;cases e
 | exc c=>rw [ed] at e;cases e
 | bad=>rw [ed] at e;cases e
theorem K3 (hr:Room k X.A) (he:DL T X v fl) (hj:DJ T X es fs):DJ T X (.FormattedValue v 114 none pos::es) (tJ fl fs):=.mk λG E hp vA s σ H vJ Q I ⟨ρ,ys,fr,e,z,kk⟩=>by
 obtain ⟨ds,ts,xs,ed,et,hl,ef,rfl⟩:=K2 e;refine wpAny_FormattedValue_repr (thn (he.run G E hp vA s σ H (λw H1=>∃l vs,w=.ref l/\Same H H1/\SqL X.K H1 l vs/\RepL T X.K H1 ds vs) I ⟨ρ,fr,?_⟩) λu s1 ⟨w,H1,I1,rv,l,vs,ew,sm,sq,rl⟩=>?_)
 ·rw [ed];exact λl vs H1 sm sq rl=>⟨l,vs,rfl,sm,sq,rl⟩
 ·subst ew;cases rv;obtain rfl:=sZ et rl;obtain ⟨its,r,pl,hz⟩:=I1.list sq;obtain ⟨o,ho,hc,n,hd⟩:=pl.isList;have un:=hr.un;refine pyReprObj_of_reads (d:=.list (ts.map PyData.str)) (.list ho hc hd (KH r)) (by simp [PyData.showable,KJ]) (λq=>by simp [PyData.hasDict,KK] at q) hr.gd (by simp only [PyData.depth,KL];omega) (λb o q=>q) (λh' u tk kp=>?_) (by rw [sizeLine_eq];show (lM ts).length<=_;omega);refine formatField_str (λt' tk'=>?_) (by rw [sizeLine_eq];show (lM ts).length<=_;omega);have I2:Inv (X.wish E) vA σ H1 { s1 with heap:=h',toks:=tk' }:=I1.kept kp;exact sR hp hj I2 (fr.mono sm) sm hl ef z kk
end
theorem K4:seqSlot? (.type "list") (dunderI "add")=pure (some (.builtin "list.__iadd__")):=PySem.seqSlot_of F.slot_list_iadd.lookup (by decide +kernel)
theorem K5 {M:Model} {A:Around} {s:Shared} {E:Value->Shared->Prop} {a b:Value} {Q:Value->Shared->Prop} (ha:s.TypeIs a "list") (hb:s.TypeIs b "list")
 (hc:wpAny M A (call (.builtin "list.__iadd__") [a,b]) Q E s):wpAny M A (inplaceOp .Add a b) Q E s:=by
 unfold inplaceOp;refine wpAny_holding ?_;have hfi:fillsInplaceSlot (.type "list") "add" (Operator.Add==.Add)=pure false:=by
  unfold fillsInplaceSlot;show (typeLookup (.type "list") (dunderI "add") >>= λfi=>pure (fi.isSome && !isSeqSlot fi))=pure false;rw [F.slot_list_iadd.lookup,pure_bind];exact congrArg pure (by decide +kernel)
 refine wpAny_bind (wpAny_typeOf ha (wpAny_bind (wpAny_of_eq hfi ?_)));show wpAny M A (if false=true then _ else _) Q E s;rw [if_neg Bool.false_ne_true];refine wpAny_bind (wpAny_binaryOp1_none (nm:="add") ha hb noFill_list_add ?_);refine wpAny_bind (wpAny_of_eq K4 ?_);exact wpAny_bind (wpAny_rule hc)
def K6:TIp:=λx y H Q=>∃l b xs zs,x=.ref l/\y=.ref b/\H l=some (.lst xs)/\H b=some (.lst zs)/\xs.length+zs.length<=sizeLine/\Q (.ref l) (upd H l (.lst (xs++zs)))
theorem K7 {X:Cx}:PIp X .Add K6:=by
 intro vA s σ H x y v u Q I r1 r2 h;obtain ⟨l,b,xs,zs,rfl,rfl,hH,hB,hz,q⟩:=h;cases r1;cases r2;obtain ⟨z,its,n,r,hl,e⟩:=I.lstM hH;obtain ⟨z2,its2,n2,rr,l2,e2⟩:=I.lstM hB;have hsz:its.toArray.size+its2.toArray.size<=sizeLine:=by rw [List.size_toArray,List.size_toArray];omega
 have hlong:¬(!its.toArray.isEmpty && Builtin.List.listTooLong (its.toArray.size+its2.toArray.size))=true:=by
  rw [ZM hsz,Bool.and_false];exact Bool.false_ne_true
 refine K5 ⟨_,e,rfl⟩ ⟨_,e2,rfl⟩ ?_;refine call_meets F.slot_list_iadd ⟨_,e,rfl⟩ F.entry_list_iadd (F.args_list_iadd_2 _ _)
  (AutoSeq1.list___iadd___list_list_0 l its.toArray n b its2.toArray n2 hlong (by rw [List.size_toArray];omega) (by omega)) ⟨e,e2,?_⟩
 refine ⟨.ref l,_,I.lset (its':=its++its2) hH e (by simp) (r.append rr) ?_,rfl,q⟩;rw [List.length_append];omega
section
variable {T:Tb} {ib:Bool} {X:Cx} {e:Expr} {pos pos':Pos} {x:Str}
@[simp] def nB (i:Nat) (fl:Ro->Out (List D)) (ρ:Ro):Fl:=match ρ[i]? with
 | some (.ow ds)=>(fl ρ).fl ρ λes=>if ds.length+es.length<=1000000 then .nx (ρ.set i (.ow (ds++es))) else .bad
 | _=>.bad
theorem KM {fl:Ro->Out (List D)} (i:Nat) (hN:X.N.Nodup) (he:DF T X e fl) (hi:X.N[i]?=some x:=by rfl) (hx:Loc X.env.scope x:=by walk_at "v3") (hf:X.fn x=true∨X.env.scope.names.lookup x=some .local:=by walk_at "v2") :
 DS T ib X (.AugAssign (.Name x pos') .Add e pos) (nB i fl):=.mk λG E hp=>
 PS.imp (VQ (X:=X.wish E) hN hi hx (he.run G E hp) K7 hf) λD σ H ⟨ρ,fr,h⟩=>by
  unfold nB at h
  split at h
  ·rename_i ds e0
   obtain ⟨l,vs,e1,e2,e3,r⟩:=fr.sl i _ e0;refine ⟨_,e1,ρ,fr,Acc.mono (AccS.fl fr h) λes _ hd a ws H1 s1 hn ha r1=>?_⟩;by_cases z:ds.length+es.length<=1000000
   ·rw [if_pos z] at hd;have r':=RepL.mono s1 _ _ r;refine ⟨l,a,vs,ws,rfl,rfl,s1 _ _ e2,ha,?_,?_⟩
    ·rw [RepL.length _ _ r,RepL.length _ _ r1];have:=line6 (n:=1000000) (by omega);omega
    ·have q:=hd σ _ ((fr.mono s1).own_upd e0 e1 (s1 _ _ e2) e3 (RepL.append _ _ _ _ r' r1)) ((Pers.of s1).trans (mM (s1 _ _ e2)));have:σ.set i (some (.ref l))=σ:=by
      have hl:i < σ.length:=(List.getElem?_eq_some_iff.mp e1).1;have:=(List.getElem?_eq_some_iff.mp e1).2;rw [<-this,List.set_getElem_self]
     show D.nx (σ.set i (some (.ref l))) _;rw [this];exact q
   ·rw [if_neg z] at hd;exact hd.elim
  ·exact h.elim
end
def lN (i j k:Int):Bool:=gR i j k && decide (Builtin.Range.rangeSize i j k<=1000000)
@[simp] def tK (fa fb fc:Ev) (ρ:Ro):Out (List D):=(fa ρ).bind λd=>(fb ρ).bind λd'=>(fc ρ).bind λd''=>match d,d',d'' with
 | .int i,.int j,.int k=>if lN i j k=true then .ok (rgS i k (Builtin.Range.rangeSize i j k).toNat) else .bad
 | _,_,_=>.bad
theorem KN:∀(l:List Value) (f:Nat->Int),(∀(j:Nat) (v:Value),l[j]?=some v->∃t,v=Value.int (f j) t)->Vals ((List.range l.length).map λj=>V.int (f j)) l
 | [],_,_=>.nil
 | v::l,f,h=>by
  rw [List.length_cons,List.range_succ_eq_map,List.map_cons,List.map_map];exact .cons (h 0 v rfl) (KN l (λj=>f (j+1)) λj u e=>h (j+1) u e)
theorem KO {T:Tb} {K:PySem.W.Frag} {H:Hp} (f:Nat->Int):∀(l:List Nat),RepL T K H (l.map λj=>D.int (f j)) (l.map λj=>V.int (f j))
 | []=>rfl
 | j::l=>⟨_,_,rfl,rfl,KO f l⟩
section
variable {T:Tb} {X:Cx} {a b c:Expr} {pos p p2 pos2:Pos} {fa fe fc:Ev}
theorem K8 (hcm:X.calm=true) (hgl:Gl X "list") (hml:X.mg "list" = none) (hg:Gl X "range") (hm:X.mg "range" = none) (ha:DE T X a fa) (hb:DE T X b fe) (hc:DE T X c fc) (hs:starEach [a,b,c] X.env=(false,eval a X.env)::starEach [b,c] X.env:=by exact cM rfl) (hs2:starEach [b,c] X.env=(false,eval b X.env)::starEach [c] X.env:=by exact cM rfl) (hs3:starEach [c] X.env=(false,eval c X.env)::starEach [] X.env:=by exact cM rfl)
 (hpl:(backTo pos2 (starEach [b,c] X.env)).any (·.1)=false:=by exact dL rfl) (hpl2:(backTo pos (starEach ([]:List Expr) X.env)).any (·.1)=false:=by exact dL rfl):DF T X (.Call (.Name "list" p) [.Call (.Name "range" p2) [a,b,c] [] pos2] [] pos) (tK fa fe fc):=.mk λG E hp=>by
 rintro vA s σ H Q I ⟨ρ,fr,h⟩;have hsO:starEach [.Call (.Name "range" p2) [a,b,c] [] pos2] X.env=(false,eval (.Call (.Name "range" p2) [a,b,c] [] pos2) X.env)::starEach [] X.env:=cM rfl;refine Call_ (gX (X:=X.wish E) I hgl hml (u:=.type "list") rfl (PyProof.Rows.callWith_type1 ?_ hsO hpl2));rw [show starEach [.Call (.Name "range" p2) [a,b,c] [] pos2] (X.wish E).env=(false,eval (.Call (.Name "range" p2) [a,b,c] [] pos2) X.env)::starEach [] X.env from hsO];show wpAny _ _ (spliced ((false,eval (.Call (.Name "range" p2) [a,b,c] [] pos2) X.env)::backTo pos (starEach [] X.env))) _ _ s;refine Calls.spliced_cons (Call_ (gX (X:=X.wish E) I hg hm boot_range (PyProof.Rows.callWith_type1 (thn ((cZ (X:=X.wish E) (ha.run G E hp) (cZ (X:=X.wish E) (hb.run G E hp) (cZ (X:=X.wish E) (hc.run G E hp) eP hs3) hs2) hs) pos2 vA s σ H (λvs H1=>∃i j k,vs=[.int i,.int j,.int k]/\lN i j k=true/\Same H H1/\Acc T X E σ H (.ok (rgS i k (Builtin.Range.rangeSize i j k).toNat)) (λds=>∀a vs H',Same H H'->H a=none->H' a=some (.lst vs)->RepL T X.K H' ds vs->Q (.ref a) H')) I ⟨ρ,fr,?_⟩) λus s1 ⟨vs,H1,I1,r1,i,j,k,e,ok,sm,hd⟩=>?_) hs hpl)))
 ·refine Acc.mono (Acc.bind h) λd _ hd v H1 s1 r=>⟨ρ,fr.mono s1,Acc.mono (Acc.bind (Acc.heap s1 hd)) λd' _ hd' v' H2 s2 r'=>⟨ρ,(fr.mono s1).mono s2,Acc.mono (Acc.bind (Acc.heap s2 hd')) λd'' _ hd'' v'' H3 s3 r''=>?_⟩⟩
  cases d with
  | int i=>
   cases d' with
   | int j=>
    cases d'' with
    | int k=>
     have hd2:Acc T X E σ H2 (if lN i j k=true then Out.ok (rgS i k (Builtin.Range.rangeSize i j k).toNat) else .bad) (λds=>∀a vs H',Same H H'->H a=none->H' a=some (.lst vs)->RepL T X.K H' ds vs->Q (.ref a) H'):=hd'';by_cases z:lN i j k=true
     ·rw [if_pos z] at hd2;exact ⟨i,j,k,by rw [show v=V.int i from r,show v'=V.int j from r',show v''=V.int k from r''],z,(s1.trans s2).trans s3,hd2⟩
     ·rw [if_neg z] at hd2;exact hd2.elim
    | _=>exact hd''.elim
   | _=>first | exact hd''.elim | (cases d''<;>exact hd''.elim)
  | _=>first | exact hd''.elim | (cases d'<;>first | exact hd''.elim | (cases d''<;>exact hd''.elim))
 ·subst e;cases r1 with
  | cons r rr=>
   cases rr with
   | cons r' rr=>
    cases rr with
    | cons r'' rr=>
     cases rr;obtain ⟨t,rfl⟩:=r;obtain ⟨t',rfl⟩:=r';obtain ⟨t'',rfl⟩:=r'';simp only [lN,gR,Bool.and_eq_true,decide_eq_true_eq] at ok;obtain ⟨⟨⟨⟨⟨⟨⟨o1,o2⟩,o3⟩,o4⟩,o5⟩,o6⟩,o7⟩,o8⟩:=ok;obtain ⟨k1,k2⟩:=yQ o1 o2 o3 o4 o7;refine call_range_3 o7 ?_ (.inl (PyProof.noPylong_small (by omega)));refine Calls.spliced_nil ?_;have I2:Inv (X.wish E) vA σ H1 { s1 with heap:=s1.heap.push { cls:=.type "range",data:=.fields #[.int i t,.int j t',.int k t''] } }:=I1.kept (t':=s1.toks) λb o e=>Heap.get?_push_of_some _ e
     refine call_list_range (n:=(Builtin.Range.rangeSize i j k).toNat) (I1.ok.hd hcm) (IsRange.new ..) (IL o1 o2 o3 o4 (by omega) (by omega) o7) (by omega) (by omega) λh' tk acc' c' hk hS' hacc=>?_
     obtain ⟨z1,z2⟩:=hacc;have hv:=KN acc'.toList (λ(j:Nat)=>i+(j:Int)*k) λj v e=>z2 j v (by simpa using e)
     rw [Array.length_toList,z1] at hv;have ln:((List.range (Builtin.Range.rangeSize i j k).toNat).map λ(j:Nat)=>V.int (i+(j:Int)*k)).length<=sizeLine:=by
      rw [List.length_map,List.length_range];have:=line6 (n:=1000000) (by omega);omega
     have fr2:H1 (s1.heap.push { cls:=.type "range",data:=.fields #[.int i t,.int j t',.int k t''] }).objs.size=none:=I2.hok.fresh (Nat.le_refl _);refine ⟨.ref _,_,I2.laid (t':=tk) (o:=.lst _) hk (Nat.le_refl _) ⟨ln,acc'.toList,c',hv,by simpa using hS'⟩,rfl,?_⟩;exact hd _ _ _ (sm.trans (dP fr2)) (sm.free fr2) cR (KO _ _)
end
def pG (vH:List Nat) (ρ:Ro) (d1 d2:D):Ro:=.sh d1::.sh d2::vH.map λi=>fS (ρ.getD i .no)
def tup2 {α:Type} (f:Ro->Out α) (vH:List Nat) (ρ:Ro):D->Out α
 | .tup [d1,d2]=>f (pG vH ρ d1 d2)
 | _=>.bad
theorem K9 {X:Cx} {vA:List (Addr×Obj)} {H:Hp} {s s0:Shared} {scope:Scope} {x x2:Str} {ys:List Str} {cl:List (Str×Addr)} {ex:List Addr} {C:Addr} {H0:Hp} {a:Option V} {r:L2.St}
 (I:Inv (CxC X (x::ys) scope cl C s0 H0 ex) vA (a::r) H s):Inv (CxC X (x::x2::ys) scope cl C s0 H0 ex) vA (a::none::r) H s where
 ok:=⟨I.ok.mod,I.ok.kind,I.ok.glob,I.ok.blt,I.ok.above,I.ok.inj,I.ok.has,I.ok.cab,I.ok.hd,I.ok.frames,I.ok.stk,I.ok.exf,I.ok.bs,I.ok.bsz,I.ok.noex,I.ok.exfs,I.ok.funs,I.ok.frf⟩
 os:=I.os
 bare:=I.bare
 base:=I.base
 loc:=by
  obtain ⟨m,hn,hl⟩:=I.loc;refine ⟨m,hn,λi y v e1 e2 e3=>?_⟩
  match i,e1,e2 with
  | 0,e1,e2=>exact hl 0 y v e1 e2 e3
  | 1,_,e2=>cases e2
  | i+2,e1,e2=>exact hl (i+1) y v e1 e2 e3
 cell:=I.cell
 free:=I.free
 freeC:=I.freeC
 pin:=I.pin
 hok:=I.hok
 len:=by
  have:=I.len;show (a::none::r).length=(x::x2::ys).length;have this:(a::r).length=(x::ys).length:=this;simp only [List.length_cons] at this ⊢;omega
theorem L4 {T T0:Tb} {K:PySem.W.Frag} {G H H':Hp} {σ:L2.St} {ρ:Ro} {vH:List Nat} {d1 d2:D} {v1 v2:V} (hT:T0={ T with me:=none }) (fr:FR T K G H σ ρ) (p:Pers T false H H') (r1:Rep T K H' d1 v1) (r2:Rep T K H' d2 v2) :
 FR T0 K (λ_=>none) H' (some v1::some v2::vH.map λi=>σ.getD i none) (pG vH ρ d1 d2):=by
 have f:=IR (w:=none) hT fr p r1 (vH:=vH);refine ⟨λ_ _ e=>(by cases e),by simp [pG],λi s e=>?_,λi j s t b _ e1 _ o1 _=>?_,λx e=>?_,λi c ds e=>?_⟩
 ·match i,e with
  | 0,e=>exact f.sl 0 s e
  | 1,e=>
   have e:Sl.sh d2=s:=Option.some.inj e;subst e;exact ⟨v2,rfl,hT ▸ (jI _ _).mpr r2⟩
  | i+2,e=>exact f.sl (i+1) s e
 ·exfalso
  match i,e1,o1 with
  | 0,e1,o1=>
   have e1:Sl.sh d1=s:=Option.some.inj e1;subst e1;exact o1
  | 1,e1,o1=>
   have e1:Sl.sh d2=s:=Option.some.inj e1;subst e1;exact o1
  | i+2,e1,o1=>
   have e:(vH.map λi=>fS (ρ.getD i .no))[i]?=some s:=e1;rw [List.getElem?_map] at e;cases q:vH[i]? with
   | none=>rw [q] at e;cases e
   | some k=>
    rw [q] at e;have e:fS (ρ.getD k .no)=s:=Option.some.inj e;cases z:ρ.getD k .no<;>(rw [z] at e;subst e;exact o1)
 ·subst hT;cases e
 ·exfalso
  match i,e with
  | 0,e=>cases Option.some.inj e
  | 1,e=>cases Option.some.inj e
  | i+2,e=>exact absurd (f.me0 (i+1) c ds e) (by omega)
theorem L5 {prog:Program} {w:World} {A:Around} {R:Result->Shared->Prop} {s:Shared} {elt target iter:Expr} {ifs:List Expr} {scope:Scope} {pos:Pos} {it vJ:Value} {env:Env} (I:Nat->Shared->Prop)
 (turn:∀n s,I n s->wpAny (model prog w) A (pyNext it) (λr s₁=>match r with
  | none=>R (.ok .next) s₁
  | some v=>wpAny (model prog w) A (letOwnedTupleGo target it v) (λ_ s₁=>wpAny (model prog w) A (assign target env v) (λ_ s₂=>
   wpAny (model prog w) A (forIn ifs true λc r=>if r=true then do let ok <-isTrue c env (eval c env);pure (ForInStep.yield ok) else pure (ForInStep.yield r)) (λok s₃=>
    if ok=true then wpAny (model prog w) A (eval elt env) (λx s₄=>
     wpAny (model prog w) A (call (.builtin "list.append") [vJ,x]) (λ_ s₅=>∃m,m < n/\I m s₅) (notedBy (model prog w) A env λe s'=>R (.error e) s') s₄) (notedBy (model prog w) A env λe s'=>R (.error e) s') s₃
    else ∃m,m < n/\I m s₃) (notedBy (model prog w) A env λe s'=>R (.error e) s') s₂) (notedBy (model prog w) A env λe s'=>R (.error e) s') s₁) (notedBy (model prog w) A env λe s'=>R (.error e) s') s₁) (notedBy (model prog w) A env λe s'=>R (.error e) s') s)
 (n:Nat) (h:I n s):codeAny (model prog w) A (.compLoop (.ListComp elt [⟨target,iter,ifs,0⟩] scope pos) 0 it vJ env) R s:=by
 refine codeAny_loop rfl I (λn s hI=>?_) n h;show wpAny _ A ((compTurn (.ListComp elt [⟨target,iter,ifs,0⟩] scope pos) 0 it vJ env).onRaise (λx=>do noteFrame x env;theTreesLotGoes x)) _ _ s;refine wpAny_noted ?_;rw [compTurn_list];refine wpAny_bind (wpAny_standAt (wpAny_bind (wpAny_mono (turn n s hI) (λr s₁ h₁=>?_) λ_ _ h'=>h')));cases r with
 | none=>exact wpAny_pure h₁
 | some v=>
  refine wpAny_bind (wpAny_mono h₁ (λ_ s₀ h₀=>?_) λ_ _ h'=>h');refine wpAny_bind (wpAny_mono h₀ (λ_ s₂ h₂=>wpAny_bind (wpAny_mono h₂ (λok s₃ h₃=>?_) λ_ _ h'=>h')) λ_ _ h'=>h');cases ok with
  | false=>exact wpAny_pure ⟨rfl,h₃⟩
  | true=>
   exact wpAny_bind (wpAny_bind (wpAny_mono h₃ (λx s₄ h₄=>wpAny_bind (wpAny_mono h₄ (λ_ s₅ h₅=>wpAny_pure (wpAny_pure ⟨rfl,h₅⟩)) λ_ _ h'=>h')) λ_ _ h'=>h'))
section
variable {T:Tb} {X:Cx} {elt iter tst:Expr} {x x2:Str} {px px2 pos pt:Pos} {kk:Nat} {scope:Scope} {ys:List Str} {vH:List Nat} {fe:Ev} {ft:Ro->Out Bool} {cl:List (Str×Addr)} {vA:List (Addr×Obj)} {σ:L2.St} {G H2:Hp} {s2:Shared} {J:It} {fp:List Addr} {it:Addr} {tn:Nat->Heap->Prop} {ρ:Ro} {ds es:List D}
variable {fl:Ro->Out (List D)}
@[simp] def nC (fl:Ro->Out (List D)) (vH:List Nat) (ft:Ro->Out Bool) (fe:Ev) (ρ:Ro):Out (List D):=(fl ρ).bind λds=>if ds.length<=1000000 then (match iS (tup2 ft vH ρ) (tup2 fe vH ρ) ds with | some es=>.ok es | none=>.bad) else .bad
end
section
open PySem.SeqAt
open PySem.AutoSeq1 (wpAny_loadPart')
end
section
variable {T:Tb} {X:Cx} {o e:Expr} {cpos apos:Pos} {fo fe:Ev}
end
end L3
namespace L3
open PySem PySem.Spec PyProof.Rows L2
section
variable {P:Program} {w:World} {A:Around} {E:Value->Shared->Prop} {s:Shared}
variable {T:Tb} {X:Cx} {e:Expr} {pos p pos2 p2:Pos} {fl:Ro->Out (List D)}
theorem L6 {id:String} {b:Builtin} {args:List Value} {kw:List (Str×Value)} {Q:Value->Shared->Prop} (hk:builtinKind id=none) (hp:plainId id=true)
 (hb:entryFor table id=some b) (ha:argsOk id ⟨args,kw⟩)
 (hc:wpAny (model P w) A.in1 (b ⟨args,kw⟩) (λfin s'=>match fin with
  | .done f=>(match (Except.ok f:Result) with | .ok (.ret v)=>Q v s' | .ok _=>False | .error e=>E e s')
  | .again c'=>c'.quiet=true/\codeAny (model P w) A c' (λr s'=>match r with | .ok (.ret v)=>Q v s' | .ok _=>False | .error e=>E e s') s') E s) :
 wpAny (model P w) A (call (.builtin id) args kw) Q E s:=by
 refine wpAny_call (codeAny_call_builtin hp hb ?_);simp only [checkBuiltinCall,hk];cases hsig:Manifest.signature? id with
 | none=>exact wpAny_pure hc
 | some sig=>
  simp only [argsOk,hsig] at ha;have h2:Bind.checkArgs id sig ⟨args,kw⟩=pure ():=ha;show wpAny _ A.in1 (Bind.checkArgs id sig ⟨args,kw⟩) _ _ s;rw [h2];exact wpAny_pure hc
theorem L7 (a d:Value):argsOk "max" ⟨[a],[("default",d)]⟩:=by unfold argsOk;kernel_rfl
abbrev lit (l:Addr) (k:Int):Obj:={ cls:=.type "list_iterator",data:=.fields #[.ref l,.int k 0] }
abbrev zN:Obj:={ cls:=.type "list",data:=.seq #[] }
structure Mm (h0:Heap) (l I S:Addr) (vs:Array Value) (h:Heap):Prop where
 up:∀b o,h0.get? b=some o->h.get? b=some o
 nI:h0.get? I=none
 nS:h0.get? S=none
 ne:S≠I
 lI:l≠I
 it:h.IsListIter I l 0
 ls:h.IsList l vs
 l0:∃o,h0.get? l=some o
 oS:h.get? S=some zN
theorem Mm.mk0 {l:Addr} {vs:Array Value} (hl:s.heap.IsList l vs):Mm s.heap l s.heap.objs.size (s.heap.push (lit l 0)).objs.size vs ((s.heap.push (lit l 0)).push zN):=by
 have sI:(s.heap.push (lit l 0)).objs.size=s.heap.objs.size+1:=Heap.size_push ..;have nI:s.heap.get? s.heap.objs.size=none:=Heap.get?_none_of_le (Nat.le_refl _);have up:∀b o,s.heap.get? b=some o->((s.heap.push (lit l 0)).push zN).get? b=some o:=λb o e=>Heap.get?_push_of_some _ (Heap.get?_push_of_some _ e)
 refine ⟨up,nI,Heap.get?_none_of_le (by rw [sI];exact Nat.le_succ _),by rw [sI];exact Nat.succ_ne_self _,λz=>?_,⟨_,Heap.get?_push_of_some _ (Heap.get?_push_size _ rfl),rfl,rfl⟩,hl.at λo e=>up _ o e,by obtain ⟨o,e,_⟩:=hl;exact ⟨o,e⟩,Heap.get?_push_size _ rfl⟩;obtain ⟨o,e,_⟩:=hl;rw [z,nI] at e;cases e
theorem Mm.bI {h0 h:Heap} {l I S:Addr} {vs:Array Value} (m:Mm h0 l I S vs h):∀b o,h0.get? b=some o->b∉[I]:=λb o e z=>by
 have nI:=m.nI;rw [List.mem_singleton.mp z,nI] at e;cases e
theorem Mm.bS {h0 h:Heap} {l I S:Addr} {vs:Array Value} (m:Mm h0 l I S vs h):∀b o,h0.get? b=some o->b≠S:=λb o e z=>by
 have nS:=m.nS;rw [z,nS] at e;cases e
theorem L8 {l:Addr} {vs:Array Value} {d:Value} {Q:Value->Shared->Prop} (hl:s.heap.IsList l vs)
 (h:∀(h1:Heap) (I S:Addr),Mm s.heap l I S vs h1->codeAny (model P w) A (.builtin "max.loop" ⟨[.ref I,.none,.ref S],[(("default" : Str),d)]⟩) (λr s'=>match r with | .ok (.ret v)=>Q v s' | .ok _=>False | .error e=>E e s') { s with heap:=h1 }) :
 wpAny (model P w) A (call (.builtin "max") [.ref l] [(("default" : Str),d)]) Q E s:=by
 have nm:(toString "max"++toString ".loop" : String)="max.loop":=by decide
 refine L6 F.kind_max F.plain_max F.entry_max (L7 _ _) ?_;refine wpAny_bind (wpAny_of_eq (show Builtin.Builtins.bindParams "max" ["key","default"] 0 ⟨[],[(("default" : Str),d)]⟩=pure [none,some d] from rfl) (wpAny_bind (wpAny_pure ?_)));refine wpAny_bind (wpAny_pyIter_list hl ?_);refine wpAny_bind (wpAny_newObj_type ?_);rw [nm];exact wpAny_pure ⟨plainId_quiet F.plain_max_loop _,h _ _ _ (Mm.mk0 hl)⟩
theorem L9 {l I S:Addr} {d:Value} {h0 h1:Heap} {R:Result->Shared->Prop} (hh:A.handled=none) (m:Mm h0 l I S #[] h1)
 (h:∀h' tk,KpH h0 h'->R (.ok (.ret d)) { s with heap:=h',toks:=tk }):codeAny (model P w) A (.builtin "max.loop" ⟨[.ref I,.none,.ref S],[(("default" : Str),d)]⟩) R { s with heap:=h1 }:=by
 have W:=Walks.list (prog:=P) (w:=w) (A:=A.in1) hh I l m.lI #[];refine codeAny_builtin F.entry_max_loop ?_;rw [Around.under_plainId F.plain_max_loop _];refine wpAny_bind (wpAny_seqItems m.oS rfl ?_);refine wpAny_bind (wpAny_tryCatch (W.done { s with heap:=h1 } _ _ ⟨m.it,m.ls⟩ λh2 tk k2=>?_));refine wpAny_bind (wpAny_rule (wpAny_pure ?_));exact h h2 tk λb o e=>k2 b o (m.bI b o e) (m.up b o e)
variable {a d:Expr} {kp:Pos} {fd:Ev}
end
section
variable {T:Tb} {X:Cx} {a d:Expr} {pos p px kp kp2:Pos} {fl:Ro->Out (List D)} {fv:Ev} {k:Nat} {f:Addr} {fd:FuncData} {ps:List Str} {F:Fn} {x:Str}
end
end L3
namespace L3
open PySem L2
end L3
namespace L3
open PySem PySem.Spec PyProof.Rows L2
section
variable {P:Program} {w:World} {A:Around} {E:Value->Shared->Prop} {s:Shared}
variable {K:PySem.W.Frag} {mg:Str->Option Value} {base:Heap} {T:Tb}
variable {X:Cx} {e:Expr} {es:List Expr} {pos p:Pos} {fs:Ro->Out (List Sl)} {k n:Nat} {f:Addr} {fd:FuncData} {ps:List Str} {F:Fn} {x:Str}
variable {elt a tst:Expr} {px rpos:Pos} {scope:Scope} {ys:List Str} {vH:List Nat} {fe fa:Ev} {ft:Ro->Out Bool}
end
theorem _root_.L2.Room.le {j k:Nat} {A:Around} (r:Room k A) (h:j<=k:=by decide):Room j A:=r.mono h
def FoC (T:Tb) (K:PySem.W.Frag) (at_:Str) (q:Nat×Nat):Prop:=Cls K (T.ca q.1)/\NoAttr K (T.ca q.1) at_/\(T.fl q.1).Nodup/\(T.fl q.1)[q.2]?=some at_
theorem foN {T:Tb} {K:PySem.W.Frag} {a:Str}:∀q∈([]:List (Nat×Nat)),FoC T K a q:=List.forall_mem_nil _
theorem foC {T:Tb} {K:PySem.W.Frag} {a:Str} {c j:Nat} {l:List Str} {r:List (Nat×Nat)} (cl:Cls K (T.ca c)) (na:NoAttr K (T.ca c) a) (e:T.fl c=l) (h:∀q∈r,FoC T K a q) (hd:l.Nodup:=by decide) (hj:l[j]?=some a:=by rfl):∀q∈(c,j)::r,FoC T K a q:=
 List.forall_mem_cons.mpr ⟨⟨cl,na,by show (T.fl c).Nodup;rw [e];exact hd,by show (T.fl c)[j]?=_;rw [e];exact hj⟩,h⟩
theorem flA {T:Tb} {c j:Nat} {l:List Str} {a:Str} (e:T.fl c=l) (h:l[j]?=some a:=by rfl):(T.fl c)[j]?=some a:=by rw [e];exact h
theorem flN {T:Tb} {c:Nat} {l:List Str} (e:T.fl c=l) (h:l.Nodup:=by decide):(T.fl c).Nodup:=by rw [e];exact h
@[simp] abbrev eI (i:Int):Ev:=eC (.int i)
@[simp] abbrev eS (x:Str):Ev:=eC (.str x)
@[simp] abbrev tEq (a b:Ev):Ro->Out Bool:=tB2 (λa b=>bD false (eqS a b)) a b
@[simp] abbrev tNe (a b:Ev):Ro->Out Bool:=tB2 (λa b=>bD true (eqS a b)) a b
@[simp] abbrev qLt:D->D->Out D:=i2 λi j=>.bl (decide (i < j))
@[simp] abbrev qGt:D->D->Out D:=i2 λi j=>.bl (decide (j < i))
@[simp] abbrev qLe:D->D->Out D:=i2 λi j=>.bl (decide (i<=j))
@[simp] abbrev qGe:D->D->Out D:=i2 λi j=>.bl (decide (j<=i))
@[simp] abbrev eM (a b:Ev):Ev:=e2 (i2 λi j=>.int (i-j)) a b
@[simp] abbrev eW (a b:Ev):Ev:=e2 (i2c eD λi j=>.int (i*j)) a b
@[simp] abbrev bT (a b:Ev):Ev:=e2 (i2c mG λi j=>.int (i / j)) a b
@[simp] abbrev bA (a b:Ev):Ev:=e2 (i2c mH λi j=>.int (i % j)) a b
@[simp] abbrev aX (a b:Ev):Ev:=e2 mJ a b
@[simp] abbrev eIx (a b:Ev):Ev:=e2 ixD a b
@[simp] abbrev tCh (g g':D->D->Out D) (a b c:Ev):Ro->Out Bool:=fun ρ=>(yN g g' a b c ρ).bind D.toB
@[simp] abbrev fFr (f:Ro->Out (List D)):Ro->Out Rv:=fun ρ=>(f ρ).bind λds=>.ok (.fr ds)
@[simp] abbrev rC (n:Nat) (F:Fn) (fs:Ro->Out (List Sl)):Ro->Out Rv:=oN (n:=n) F [] fs
section
variable {T:Tb} {K:PySem.W.Frag} {G H H':Hp} {σ:L2.St} {ρ:Ro} {y:Addr} {m:Option Addr} {c:Nat} {ds ks:List D}
theorem OutAt.pers {t:Bool} {a:Addr} {us:List V} (p:Pers T false H H') (h:OutAt H t a us):OutAt H' t a us:=by
 cases t with
 | true=>exact p _ _ h rfl
 | false=>
  obtain ⟨o,h⟩:=h;exact ⟨o,p _ _ h rfl⟩
theorem SlOk.hop {x:Option (Option V)} {s:Sl} {ex:Addr->Prop} (p:Pers T false H H') (hk:∀a o,H a=some o->¬ex a->H' a=some o) (hx:∀a φ,H a=some (.ext φ)->ex a->∃kvs,s≠.od kvs/\∀kvs,s≠.od kvs) (ho:∀b,eA H x b s->¬ex b) (hi:(∀ms,s≠.lm ms)∨∀b,T.me≠some b->∀c ds,InsAt T K H c b ds->¬ex b) (hm:∀c ds,s≠.me c ds) (h:SlOk T K G H x s):SlOk T K G H' x s:=by
 have oa:∀{t:Bool} {a:Addr} {us:List V},OutAt H t a us->OutAt H' t a us:=λ{t a us} q=>q.pers p
 cases s with
 | no=>trivial
 | sh d=>obtain ⟨v,z1,z2⟩:=h;exact ⟨v,z1,Rep.pers p _ _ z2⟩
 | ow es=>obtain ⟨b,ws,z1,z2,z3,z4⟩:=h;exact ⟨b,ws,z1,hk _ _ z2 (ho b z1),z3,RepL.pers p _ _ z4⟩
 | mo es=>obtain ⟨b,ws,z0,z1,z2,z3,z4⟩:=h;exact ⟨b,ws,z0,z1,hk _ _ z2 (ho b z1),z3,RepL.pers p _ _ z4⟩
 | bo es=>obtain ⟨b,ws,z1,z2,z4⟩:=h;exact ⟨b,ws,z1,z2,RepL.pers p _ _ z4⟩
 | bi c es=>obtain ⟨b,dx,fs,z1,z2,z3,z4,z5⟩:=h;exact ⟨b,dx,fs,z1,z2,z3,z4,RepL.pers p _ _ z5⟩
 | od kvs=>
  obtain ⟨b,xs,z1,z2,z3,z4,z5,z6⟩:=h;exact ⟨b,xs,z1,hk _ _ z2 (λz=>by obtain ⟨_,_,q⟩:=hx b _ z2 z;exact q kvs rfl),z3,z4,z5,λq hq=>Rep.pers p _ _ (z6 q hq)⟩
 | me c es=>exact absurd rfl (hm c es)
 | lm ms=>
  obtain ⟨c,us,z1,z2,z3,z4,z5⟩:=h;refine ⟨c,us,z1,oa z2,z3,λi m v q1 q2=>?_,z5⟩;have z:=z4 i m v q1 q2
  match m,q1,z with
  | (none,ks),q1,⟨b,ws,y1,y2,y3,y4⟩=>
   subst y1;exact ⟨b,ws,rfl,hk _ _ y2 (ho b ⟨c,us,i,ks,z1,z2,q2,q1⟩),y3,RepL.pers p _ _ y4⟩
  | (some k,ks),q1,⟨b,y1,y2,y3,dx,fs,w1,w2,w3,w4⟩=>
   refine ⟨b,y1,y2,y3,dx,fs,hk _ _ w1 ?_,w2,w3,RepL.pers p _ _ w4⟩;rcases hi with hi | hi
   ·exact absurd rfl (hi ms)
   ·exact hi b y2 k ks ⟨dx,fs,w1,w2,w3,w4⟩
 | ox t pre es post=>
  obtain ⟨c,vp,b,vq,ws,z1,z2,z3,z4,z5,z6,z7⟩:=h;exact ⟨c,vp,b,vq,ws,z1,oa z2,RepL.pers p _ _ z3,RepL.pers p _ _ z4,hk _ _ z5 (ho b (HL z1 z2 z3)),z6,RepL.pers p _ _ z7⟩
variable {z u:Option Addr}
variable {P:Program} {w:World} {mg:Str->Option Value} {base:Heap}
variable {X:Cx} {E:Value->Shared->Prop} {Q:VK} {D₀:Ends}
end
section
variable {T:Tb} {X:Cx} {e a b:Expr} {es:List Expr} {pos p p2 p3 apos:Pos} {fe fa fb:Ev} {fs:Ro->Out (List Sl)} {k n c ar:Nat} {f:Addr} {fd:FuncData} {ps:List Str} {x z:Str} {body:List Stmt} {fbo:Ro->Fl}
variable {ib:Bool} {o:Expr} {pos' p1 p4:Pos} {fl:Ro->Out (List D)}
end
section
variable {P:Program} {w:World} {h h':Heap}
def KiIs (P:Program) (w:World) (h:Heap):KI->Value->Prop
 | .inl i,v=>(intKind P w).is i v=true
 | .inr is,v=>∃t,v=.ref t/\IsTupleKey (intKind P w) h is t
inductive KItems (P:Program) (w:World) (h:Heap):List KI->List Value->Prop
 | nil:KItems P w h [] []
 | cons {k:KI} {v:Value} {ks:List KI} {vs:List Value}:KiIs P w h k v->KItems P w h ks vs->KItems P w h (k::ks) (v::vs)
def IsKey (P:Program) (w:World) (h:Heap) (ks:List KI) (a:Addr):Prop:=∃o items n,h.get? a=some o/\o.cls=.type "tuple"/\o.data=.seq items n/\KItems P w h ks items.toList
def lO (P:Program) (w:World):KI->Int
 | .inl i=>(intKind P w).hash i
 | .inr is=>tupleKeyHash (intKind P w) is
def tM:KI->Nat
 | .inl _=>1
 | .inr is=>is.length+1
def hR:List KI->Nat
 | []=>0
 | k::ks=>tM k+hR ks
theorem M0 (ks:List KI) (k:KI):hR (ks++[k])=hR ks+tM k:=by
 induction ks with
 | nil=>simp [hR]
 | cons a ks ih=>rw [List.cons_append,hR,hR,ih];omega
theorem KiIs.inj {a b:KI} {v:Value} (x:KiIs P w h a v) (y:KiIs P w h b v):a=b:=by
 cases a with
 | inl i=>
  cases b with
  | inl j=>rw [(intKind P w).inj v i j x y]
  | inr js=>
   obtain ⟨t,rfl,_⟩:=y;have:=(intKind P w).byValue i _ x;cases this
 | inr is=>
  obtain ⟨t,rfl,x⟩:=x;cases b with
  | inl j=>have:=(intKind P w).byValue j _ y;cases this
  | inr js=>
   obtain ⟨t',e,y⟩:=y;cases e;rw [x.inj y]
theorem KItems.inj {x y:List KI} {vs:List Value} (hx:KItems P w h x vs) (hy:KItems P w h y vs):x=y:=by
 induction hx generalizing y with
 | nil=>cases hy;rfl
 | cons h1 _ ih=>
  cases hy with
  | cons h2 t2=>rw [h1.inj h2,ih t2]
theorem IsKey.typeIs {s:Shared} {ks:List KI} {a:Addr} (x:IsKey P w s.heap ks a):s.TypeIs (.ref a) "tuple":=let ⟨o,_,_,ho,hc,_⟩:=x;⟨o,ho,hc⟩
theorem IsKey.inj {a:Addr} {x y:List KI} (hx:IsKey P w h x a) (hy:IsKey P w h y a):x=y:=by
 obtain ⟨o,items,n,ho,_,hd,hi⟩:=hx;obtain ⟨o',items',n',ho',_,hd',hi'⟩:=hy;obtain rfl:o=o':=Option.some.inj (ho.symm.trans ho');rw [hd] at hd'
 injection hd' with h1 _
 subst h1;exact hi.inj hi'
theorem KItems.map {x:List KI} {vs:List Value} (hx:KItems P w h x vs) (k:∀is t,IsTupleKey (intKind P w) h is t->IsTupleKey (intKind P w) h' is t):KItems P w h' x vs:=by
 induction hx with
 | nil=>exact .nil
 | @cons a v ks vs h1 _ ih=>
  refine .cons ?_ ih;cases a with
  | inl i=>exact h1
  | inr is=>
   obtain ⟨t,e,q⟩:=h1;exact ⟨t,e,k _ _ q⟩
theorem IsKey.keeps {ks:List KI} {a d:Addr} {o:Obj} {es ep} (x:IsKey P w h ks a) (ho:h.get? d=some o) (hd:o.data=.dict es ep) (hs:Heap.SameBut d h h'):IsKey P w h' ks a:=by
 obtain ⟨o',items,n,ho',hc,hd',hi⟩:=x;have hne:a≠d:=by
  rintro rfl;obtain rfl:o'=o:=Option.some.inj (ho'.symm.trans ho);rw [hd] at hd';exact nomatch hd'
 exact ⟨o',items,n,(hs.2 a hne).trans ho',hc,hd',hi.map λis t q=>q.keeps ho hd hs⟩
variable {A:Around} {E:Value->Shared->Prop} {s:Shared}
def keyHash (P:Program) (w:World) (ks:List KI):Int:=reduceHash (Builtin.Tuple.tupleHashOf (ks.map (lO P w)))
theorem M1 {k:KI} {v:Value} {Q:Int->Shared->Prop} (hu:A.units < cLine) (x:KiIs P w s.heap k v) (h:Q (lO P w k) { s with toks:=s.toks+tM k }):wpAny (model P w) A (pyHash v) Q E s:=by
 cases k with
 | inl i=>exact (intKind P w).pyHash x h
 | inr is=>
  obtain ⟨t,rfl,q⟩:=x;exact wpAny_pyHash_tuple hu q h
theorem M2 {ks:List KI} {a:Addr} {Q:Int->Shared->Prop} (hu:A.units+1 < cLine) (hk:IsKey P w s.heap ks a) (h:Q (keyHash P w ks) { s with toks:=s.toks+(hR ks+1) }) :
 wpAny (model P w) A (pyHash (.ref a)) Q E s:=by
 have hT:=hk.typeIs;obtain ⟨o,items,n,ho,_,hd,hi⟩:=hk;unfold pyHash
 first | unfold pyHashByItsType | skip
 first | refine wpAny_bind (wpAny_cRoomFor_or (.inr (by omega)) ?_) | skip
 refine wpAny_bind (wpAny_specialOf hT F.slot_tuple_hash.lookup ?_);show wpAny _ _ (if (some (Value.builtin "tuple.__hash__")==some Value.none)=true then _ else _) Q E s;rw [if_neg (by rw [beq_builtin_none];exact Bool.false_ne_true)];refine wpAny_bind (wpAny_specialOf hT F.slot_tuple_hash.lookup ?_);show wpAny _ _ (callSpecialIfBoundUnlessNone? (.ref a) "__hash__" _ >>= _) Q E s;refine wpAny_bind (wpAny_callSpecialIfBoundUnlessNone?_slot hT F.slot_tuple_hash (wpAny_call_entry F.slot_tuple_hash hT F.entry_tuple_hash ?_ (F.args_tuple_hash_1 _)));show wpAny _ _ (Builtin.Tuple.tupleItemsOf (.ref a) >>= _) _ _ s;refine wpAny_bind (wpAny_tupleItemsOf ho hd ?_);refine wpAny_bind ?_;rw [<-Array.forIn_toList];refine wpAny_forIn_list _
  (λrest (b:Array Int) s'=>∃done left,ks=done++left/\KItems P w s.heap left rest/\b.toList=done.map (lO P w)/\s'={ s with toks:=s.toks+hR done })
  _ ?_ ?_ _ _ ⟨[],ks,rfl,hi,rfl,rfl⟩
 ·rintro x rest b s' ⟨done,left,rfl,hl,hb,rfl⟩;cases hl with
  | @cons k _ ks' _ h1 hl'=>
   refine wpAny_bind (M1 (k:=k) ?_ h1 ?_)
   ·exact hu
   ·have q:({ ({ s with toks:=s.toks+hR done }:Shared) with toks:=({ s with toks:=s.toks+hR done }:Shared).toks+tM k }:Shared)={ s with toks:=s.toks+hR (done++[k]) }:=by
     rw [M0,Nat.add_assoc]
    rw [q]
    first
     | exact wpAny_pure ⟨done++[k],ks',by simp,hl',by simp [hb],rfl⟩
     | exact wpAny_bind (wpAny_pure (wpAny_pure ⟨done++[k],ks',by simp,hl',by simp [hb],rfl⟩))
 ·rintro b s' ⟨done,left,rfl,hl,hb,rfl⟩;cases hl;rw [List.append_nil] at h;show wpAny _ _ (retInt (Builtin.Tuple.tupleHashOf b.toList)) _ _ _;rw [hb];refine wpAny_ret_mkInt ?_;show wpAny _ _ (if (decide (-(2:Int) ^ 63<=Builtin.Tuple.tupleHashOf (done.map (lO P w))) && decide (Builtin.Tuple.tupleHashOf (done.map (lO P w)) < 2 ^ 63))=true then _ else _) Q E _;unfold keyHash reduceHash at h;by_cases hr:(decide (-(2:Int) ^ 63<=Builtin.Tuple.tupleHashOf (done.map (lO P w))) && decide (Builtin.Tuple.tupleHashOf (done.map (lO P w)) < 2 ^ 63))=true
  ·rw [if_pos hr];rw [if_pos hr] at h;exact wpAny_pure (by simpa [Nat.add_assoc] using h)
  ·rw [if_neg hr];rw [if_neg hr] at h;exact wpAny_bind (wpAny_rule (wpAny_pure (by simpa [Nat.add_assoc] using h)))
theorem M3 {a b:KI} {v u:Value} {Q:Bool->Shared->Prop} (hu:A.units < cLine) (x:KiIs P w s.heap a v) (y:KiIs P w s.heap b u) (hs:a.isLeft=b.isLeft) (h:Q (decide (a=b)) s):wpAny (model P w) A (eqBool v u) Q E s:=by
 cases a with
 | inl i=>
  cases b with
  | inl j=>
   refine (intKind P w).eqBool (a:=i) (b:=j) x y ?_;have:decide ((Sum.inl i:KI)=.inl j)=decide (i=j):=by
    by_cases e:i=j
    ·subst e;simp
    ·rw [decide_eq_false e,decide_eq_false (λz=>e (Sum.inl.inj z))]
   rw [<-this];exact h
  | inr js=>cases hs
 | inr is=>
  obtain ⟨t,rfl,q⟩:=x;cases b with
  | inl j=>cases hs
  | inr js=>
   obtain ⟨t',rfl,q'⟩:=y;refine wpAny_eqBool_tuple hu q q' ?_;have:decide ((Sum.inr is:KI)=.inr js)=decide (is=js):=by
    by_cases e:is=js
    ·subst e;simp
    ·rw [decide_eq_false e,decide_eq_false (λz=>e (Sum.inr.inj z))]
   rw [<-this];exact h
theorem M4 {x y:List KI} {a b:Addr} {R:Fin->Shared->Prop} (hu:A.units < cLine) (hx:IsKey P w s.heap x a) (hy:IsKey P w s.heap y b) (hsh:x.map Sum.isLeft=y.map Sum.isLeft) (h:R (.done (.ret (.bool (decide (x=y))))) s) :
 wpAny (model P w) A (Builtin.«tuple.__eq__» ⟨[.ref a,.ref b],[]⟩) R E s:=by
 have hTb:=hy.typeIs;obtain ⟨oa,xs,na,hoa,_,hda,hia⟩:=hx;obtain ⟨ob,ys,nb,hob,_,hdb,hib⟩:=hy;show wpAny _ _ (isInstance (.ref b) (.type "tuple") >>= _) _ _ s;refine wpAny_bind (wpAny_isInstance hTb isSubtype_tuple_tuple ?_);simp only [Bool.not_true,Bool.false_eq_true,if_false];refine wpAny_bind (wpAny_tupleItemsOf hoa hda ?_);refine wpAny_bind (wpAny_tupleItemsOf hob hdb ?_);refine wpAny_bind ?_;refine wpAny_forIn_list _
  (λrest r s'=>r.1=none/\s'=s/\∃x' y' xs' ys',rest=List.zip xs' ys'/\KItems P w s.heap x' xs'/\KItems P w s.heap y' ys'/\x'.map Sum.isLeft=y'.map Sum.isLeft/\decide (x'=y')=decide (x=y)/\(xs'.length==ys'.length)=(xs.size==ys.size))
  _ ?_ ?_ _ _ ⟨rfl,rfl,x,y,xs.toList,ys.toList,rfl,hia,hib,hsh,rfl,by simp⟩
 ·rintro ⟨u,v⟩ rest r s' ⟨hr,rfl,x',y',xs',ys',hz,hx',hy',hs',hdec,hlen⟩;cases hx' with
  | nil=>simp at hz
  | @cons k1 u' x'' xs'' h1 hx''=>
   cases hy' with
   | nil=>simp at hz
   | @cons k2 v' y'' ys'' h2 hy''=>
    simp only [List.zip_cons_cons,List.cons.injEq,Prod.mk.injEq] at hz;obtain ⟨⟨rfl,rfl⟩,rfl⟩:=hz;rw [List.map_cons,List.map_cons,List.cons.injEq] at hs';refine wpAny_bind (M3 (a:=k1) (b:=k2) hu h1 h2 hs'.1 ?_);by_cases hk:k1=k2
    ·subst hk;rw [decide_eq_true rfl];simp only [Bool.not_true,Bool.false_eq_true,if_false];refine wpAny_pure ⟨rfl,rfl,x'',y'',xs'',ys'',rfl,hx'',hy'',hs'.2,?_,by simpa using hlen⟩;rw [<-hdec];by_cases hxy:x''=y''
     ·simp [hxy]
     ·simp [hxy]
    ·rw [decide_eq_false hk];simp only [Bool.not_false,if_true];have hf:decide (x=y)=false:=by rw [<-hdec];simp [hk]
     rw [hf] at h;exact wpAny_bind (wpAny_pure (wpAny_pure (wpAny_pure h)))
 ·rintro ⟨r1,r2⟩ s' ⟨hr,rfl,x',y',xs',ys',hz,hx',hy',hs',hdec,hlen⟩;simp only at hr;subst hr;refine wpAny_pure ?_;have hfin:(xs.size==ys.size)=decide (x=y):=by
   rw [<-hdec,<-hlen];cases hx' with
   | nil=>
    cases hy' with
    | nil=>simp
    | cons _ _=>simp
   | cons _ _=>
    cases hy' with
    | nil=>simp
    | cons _ _=>simp at hz
  show R (.done (.ret (.bool (xs.size==ys.size)))) s';rw [hfin];exact h
theorem M5 {x y:List KI} {a b:Addr} {Q:Bool->Shared->Prop} (hu:A.units+1 < cLine) (hx:IsKey P w s.heap x a) (hy:IsKey P w s.heap y b) (hsh:x.map Sum.isLeft=y.map Sum.isLeft) (h:Q (decide (x=y)) s) :
 wpAny (model P w) A (eqBool (.ref a) (.ref b)) Q E s:=by
 unfold eqBool
 try with_reducible refine wpAny_holding ?_
 show wpAny _ _ (if (Value.ref a==Value.ref b)=true then _ else _) Q E s;by_cases hab:(Value.ref a==Value.ref b)=true
 ·rw [if_pos hab];have e:a=b:=by have:=eq_of_beq hab;injection this
  subst e;obtain rfl:=hx.inj hy;exact wpAny_bind (wpAny_rule (wpAny_pure (by simpa using h)))
 ·rw [if_neg hab];exact wpAny_bind (wpAny_richCompare_same_room (op:=.Eq) hx.typeIs hy.typeIs F.slot_tuple_eq
   (wpAny_call_entry F.slot_tuple_eq hx.typeIs F.entry_tuple_eq (M4 hu hx hy hsh ⟨_,rfl,(λe=>nomatch e),wpAny_truthy_bool h⟩) (F.args_tuple_eq_2 _ _)) (by omega))
theorem M6 {n:Nat} {ks:List Int} {a:Addr} {Q:Bool->Shared->Prop} (hk:IsTupleKey (intKind P w) s.heap ks a) (h:Q true s):wpAny (model P w) A (eqIsQuiet (n+1) (.ref a)) Q E s:=by
 have hT:=hk.typeIs;obtain ⟨o,items,m,ho,_,hd,hi⟩:=hk;unfold eqIsQuiet;refine wpAny_bind (wpAny_specialOf hT F.slot_tuple_eq.lookup ?_);show wpAny _ _ (isInstance (.ref a) (.type "tuple") >>= _) _ _ s;refine wpAny_bind (wpAny_isInstance hT isSubtype_tuple_tuple ?_);simp only [Bool.not_true,Bool.false_eq_true,if_false];refine wpAny_bind (wpAny_seqItems ho hd ?_);refine wpAny_bind ?_;show wpAny _ _ (forIn items _ _) _ _ s;rw [<-Array.forIn_toList];refine wpAny_forIn_list _ (λrest r s'=>r.1=none/\s'=s/\∀v∈rest,carriedByValue v=true) _ ?_ ?_ _ _ ⟨rfl,rfl,hi.byValue⟩
 ·rintro v rest r s' ⟨hr,rfl,hall⟩;rw [eqIsQuiet_byValue _ (hall v List.mem_cons_self)];refine wpAny_bind (wpAny_pure ?_);simp only [Bool.not_true,Bool.false_eq_true,if_false];exact wpAny_pure ⟨rfl,rfl,λu hu'=>hall u (List.mem_cons_of_mem _ hu')⟩
 ·rintro ⟨r1,r2⟩ s' ⟨hr,rfl,_⟩;simp only at hr;subst hr;exact wpAny_pure h
theorem M7 {ks:List KI} {a:Addr} {Q:Bool->Shared->Prop} (hk:IsKey P w s.heap ks a) (h:Q true s):wpAny (model P w) A (eqIsQuiet 8 (.ref a)) Q E s:=by
 have hT:=hk.typeIs;obtain ⟨o,items,m,ho,_,hd,hi⟩:=hk;unfold eqIsQuiet;refine wpAny_bind (wpAny_specialOf hT F.slot_tuple_eq.lookup ?_);show wpAny _ _ (isInstance (.ref a) (.type "tuple") >>= _) _ _ s;refine wpAny_bind (wpAny_isInstance hT isSubtype_tuple_tuple ?_);simp only [Bool.not_true,Bool.false_eq_true,if_false];refine wpAny_bind (wpAny_seqItems ho hd ?_);refine wpAny_bind ?_;show wpAny _ _ (forIn items _ _) _ _ s;rw [<-Array.forIn_toList];refine wpAny_forIn_list _ (λrest r s'=>r.1=none/\s'=s/\∃ks',KItems P w s.heap ks' rest) _ ?_ ?_ _ _ ⟨rfl,rfl,ks,hi⟩
 ·rintro v rest r s' ⟨hr,rfl,ks',hall⟩;cases hall with
  | @cons k _ ks'' _ h1 hl=>
   have go:wpAny (model P w) A (eqIsQuiet 7 v) (λb s2=>b=true/\s2=s') E s':=by
    cases k with
    | inl i=>
     rw [eqIsQuiet_byValue _ ((intKind P w).byValue i _ h1)];exact wpAny_pure ⟨rfl,rfl⟩
    | inr is=>
     obtain ⟨t,rfl,q⟩:=h1;exact M6 q ⟨rfl,rfl⟩
   refine wpAny_bind (wpAny_mono go (λb s2 ⟨e1,e2⟩=>?_) λ_ _ z=>z);subst e1 e2;simp only [Bool.not_true,Bool.false_eq_true,if_false];exact wpAny_pure ⟨rfl,rfl,ks'',hl⟩
 ·rintro ⟨r1,r2⟩ s' ⟨hr,rfl,_⟩;simp only at hr;subst hr;exact wpAny_pure h
end
theorem KP {x y:WK} (h:gI x=gI y):x=y:=by
 obtain ⟨a,b,c⟩:=x;obtain ⟨a',b',c'⟩:=y;simp at h;obtain ⟨h1,h2,h3⟩:=h;subst h1 h2 h3
 rfl
def kI (P:Program) (w:World):HeapKind P w WK where
 is:=λh k a=>IsKey P w h (gI k) a
 hash:=λk=>keyHash P w (gI k)
 draws:=λk=>hR (gI k)+1
 room:=λA=>A.units+1 < cLine
 inj:=λhx hy=>KP (hx.inj hy)
 keeps:=λx ho hd hs=>x.keeps ho hd hs
 pyHash:=λhu hk h=>M2 hu hk h
 eqBool:=λ{A E s x y a b Q} hu hx hy h=>M5 hu hx hy rfl (by
  have:decide (gI x=gI y)=decide (x=y):=by
   by_cases e:x=y
   ·subst e;simp
   ·rw [decide_eq_false e,decide_eq_false (λz=>e (KP z))]
  rw [this];exact h)
 quiet:=λhk h=>M7 hk h
theorem M8:typeLookup (.type "list") "keys" = pure none:=by rw [typeLookup_type,builtinLookup_eq_fast];kernel_rfl
theorem M9 {prog:Program} {w:World} {A:Around} {E:Value->Shared->Prop} {s:Shared} {a:Addr} {o:Obj} {xs:Array Value} {k:Nat} {Q:Option Value->Shared->Prop}
 (hx:s.heap.get? a=some o) (hc:o.cls=.type "list") (hdat:o.data=.seq xs k) (hd:o.dict=none) (hA:A.handled=none)
 (h:∀h' tk,(∀b ob,s.heap.get? b=some ob->h'.get? b=some ob)->Q none { s with heap:=h',toks:=tk }) :
 wpAny (model prog w) A (getAttr? (.ref a) "keys") Q E s:=by
 obtain ⟨c,dct,dat,sl⟩:=o;simp only at hc hdat hd;subst hc hdat hd;obtain ⟨hp,g,d,tk,os⟩:=s;have hT:∀tk',(⟨hp,g,d,tk',os⟩:Shared).TypeIs (.ref a) "list":=λ_=>⟨_,hx,rfl⟩
 have f1:=sub_AttributeError;have f3:=F.slot_list_getattribute.lookup;have f4:=F.slot_list_getattribute.bind (.ref a);have f5:=am_list_getattr_none;have hmiss:=M8;unfold getAttr? getAttrBy? getAttrBy
 repeat (any_goals (first | assumption | exact hT _ | ((with_reducible show wpAny _ _ (call (Value.builtin "list.__getattribute__") _ _) _ _ _);refine call_meets F.slot_list_getattribute (hT _) am_entry_list_getattribute (F.args_list_getattribute_2 _ _) (meets_getattribute_miss_list a xs k sl "keys" _ hmiss (by decide +kernel)) ⟨hx,hA,λh' tk' e hx'=>?_⟩) | wp_step))
 obtain ⟨t',u',he⟩:=hx'.there;show wpAny _ _ (getattributeRaised _ _ _ _ _ _ _) _ _ _;unfold getattributeRaised
 repeat (any_goals (first | assumption | wp_step))
 all_goals trace_state
 all_goals exact h _ _ hx'.keeps
namespace Fd
theorem entry_loop:entryFor table "dict.update.loop" = some Builtin.«dict.update.loop»:=entryFor_of_tree (by kernel_rfl)
theorem plain_loop:plainId "dict.update.loop" = true:=by decide +kernel
end Fd
section
variable {P:Program} {w:World} {h h':Heap}
theorem N0 {ks:List Int} {a:Addr} (k:∀b o,h.get? b=some o->h'.get? b=some o) (x:IsTupleKey (intKind P w) h ks a):IsTupleKey (intKind P w) h' ks a:=by
 obtain ⟨o,its,n,ho,more⟩:=x;exact ⟨o,its,n,k _ _ ho,more⟩
theorem IsKey.keep {ks:List KI} {a:Addr} (k:∀b o,h.get? b=some o->h'.get? b=some o) (x:IsKey P w h ks a):IsKey P w h' ks a:=by
 obtain ⟨o,its,n,ho,hc,hd,hi⟩:=x;exact ⟨o,its,n,k _ _ ho,hc,hd,hi.map λis t q=>N0 k q⟩
def TabW (P:Program) (w:World) (d:Addr) (xs:List WE) (h:Heap):Prop:=∃o es ep,h.get? d=some o/\o.ExactDict/\o.data=.dict es ep/\es.toList=xs.map (entryOfKey (kI P w))/\(xs.map (·.1)).Nodup
theorem TabW.of {d:Addr} {xs:List WE} (x:TabW P w d xs h) (hk:∀x∈xs,IsKey P w h (gI x.1) x.2.1):h.DictOfH (kI P w) d xs:=by
 obtain ⟨o,es,ep,a,b,c,e,n⟩:=x;exact ⟨o,es,ep,a,b,c,e,hk,n⟩
theorem TabW.to {d:Addr} {xs:List WE} (x:h.DictOfH (kI P w) d xs):TabW P w d xs h:=by
 obtain ⟨o,es,ep,a,b,c,e,_,n⟩:=x;exact ⟨o,es,ep,a,b,c,e,n⟩
theorem TabW.keep {d:Addr} {xs:List WE} (k:∀o,h.get? d=some o->h'.get? d=some o) (x:TabW P w d xs h):TabW P w d xs h':=by
 obtain ⟨o,es,ep,a,more⟩:=x;exact ⟨o,es,ep,k _ a,more⟩
def fU (xs kvs:List WE):List WE:=kvs.foldl (λxs x=>storedH xs x.1 x.2.1 x.2.2) xs
theorem KQ {xs:List WE} {k:WK} {a:Addr} {v:Value} {x:WE} (h:x∈storedH xs k a v):(∃y∈xs,y.1=x.1/\y.2.1=x.2.1)∨(k=x.1/\a=x.2.1):=by
 unfold storedH at h
 split at h
 ·obtain ⟨y,hy,rfl⟩:=List.mem_map.mp h;refine .inl ⟨y,hy,?_⟩;unfold putAt
  split<;>exact ⟨rfl,rfl⟩
 ·rcases List.mem_append.mp h with h | h
  ·exact .inl ⟨x,h,rfl,rfl⟩
  ·rw [List.mem_singleton.mp h];exact .inr ⟨rfl,rfl⟩
theorem zO:∀(kvs xs:List WE) (x:WE),x∈fU xs kvs->(∃y∈xs,y.1=x.1/\y.2.1=x.2.1)∨∃y∈kvs,y.1=x.1/\y.2.1=x.2.1
 | [],xs,x,h=>.inl ⟨x,h,rfl,rfl⟩
 | k::kvs,xs,x,h=>by
  rcases zO kvs _ x h with ⟨y,hy,e1,e2⟩ | ⟨y,hy,e⟩
  ·rcases KQ hy with ⟨z,hz,f1,f2⟩ | ⟨f1,f2⟩
   ·exact .inl ⟨z,hz,f1.trans e1,f2.trans e2⟩
   ·exact .inr ⟨k,by simp,f1.trans e1,f2.trans e2⟩
  ·exact .inr ⟨y,by simp [hy],e⟩
theorem N1 (xs:List WE) (k:WK) (a:Addr) (v:Value):(storedH xs k a v).length<=xs.length+1:=by
 unfold storedH
 split<;>simp
theorem KR:∀(kvs xs:List WE),(fU xs kvs).length<=xs.length+kvs.length
 | [],xs=>Nat.le_refl _
 | k::kvs,xs=>by
  have h1:=KR kvs (storedH xs k.1 k.2.1 k.2.2);have h2:=N1 xs k.1 k.2.1 k.2.2;show (fU (storedH xs k.1 k.2.1 k.2.2) kvs).length<=_;rw [List.length_cons];omega
theorem N2 (xs kvs:List WE) (k:WE):fU xs (kvs++[k])=storedH (fU xs kvs) k.1 k.2.1 k.2.2:=by
 unfold fU;rw [List.foldl_append];rfl
def KS (P:Program) (w:World) (h:Heap) (items:Array Value) (kvs:List WE):Prop:=items.size=kvs.length/\∀(i:Nat) (v:Value),items[i]?=some v->∃e,kvs[i]?=some e/\IsKey P w h (gI e.1) e.2.1 /\
 ∃p o n,v=.ref p/\h.get? p=some o/\o.cls=.type "tuple"/\o.data=.seq #[.ref e.2.1,e.2.2] n
variable {A:Around} {R:Result->Shared->Prop} {J:Addr} {fp wr:List Addr} {G:Array GenState->Array GenState->Prop} {St:Nat->Shared->Prop}
theorem N3 {items:Array Value} {kvs:List WE} {h0:Heap} (W:WalksS P w A.in1 J fp wr G items.size (λi v=>items[i]?=some v) St) (S:Addr) (hSf:S∉fp) (hu:A.units+10 < cLine) (hw:∀b∈wr,h0.get? b=none) (hS:h0.get? S=none) (hk:KS P w h0 items kvs) (hb:kvs.length<=1000000) :
 ∀(m i:Nat) (n:Int) (s:Shared),i+m=items.size->St i s->(∀b o,h0.get? b=some o->s.heap.get? b=some o)->TabW P w S (fU [] (kvs.take i)) s.heap ->
  (∀s',Moved (S::wr) G s s'->TabW P w S (fU [] kvs) s'.heap->R (.ok (.ret .none)) s')->codeAny (model P w) A (.builtin "dict.update.loop" ⟨[.ref S,.ref J,.int n 0,.none],[]⟩) R s:=by
 have nw:S∉wr:=λz=>hSf (W.sub _ z)
 have more:∀b∈wr,b∈S::wr:=λb z=>List.mem_cons_of_mem _ z
 intro m
 induction m with
 | zero=>
  intro i n s hi hst hkp hset fin;obtain rfl:i=items.size:=by omega
  refine codeAny_builtin Fd.entry_loop ?_;rw [Around.under_plainId Fd.plain_loop _];show wpAny _ A.in1 (pyNext (.ref J) >>= _) _ _ s;refine wpAny_bind (W.done s _ _ hst λs' mv=>?_);show wpAny _ A.in1 (Builtin.Dict.addKeywords S [] >>= _) _ _ s';refine wpAny_bind (wpAny_pure ?_);refine wpAny_pure (fin s' (mv.mono more) ?_);have:=hset.keep (h':=s'.heap) λo e=>mv.heap S o nw e
  rwa [List.take_of_length_le (by rw [hk.1];exact Nat.le_refl _)] at this
 | succ m ih=>
  intro i n s hi hst hkp hset fin;refine codeAny_builtin Fd.entry_loop ?_;rw [Around.under_plainId Fd.plain_loop _];show wpAny _ A.in1 (pyNext (.ref J) >>= _) _ _ s;refine wpAny_bind (W.item i s _ _ (by omega) hst λv s' hv hst' mv=>?_);obtain ⟨e,ek,ik,p,o,c,rfl,ho,hc,hd⟩:=hk.2 i v hv;have hset':=hset.keep (h':=s'.heap) λo e=>mv.heap S o nw e
  have hkp':∀b o,h0.get? b=some o->s'.heap.get? b=some o:=λb o q=>mv.heap b o (λz=>by rw [hw b z] at q;cases q) (hkp b o q)
  have hT:s'.TypeIs (.ref p) "tuple":=⟨o,hkp' _ _ ho,hc⟩
  show wpAny _ A.in1 (holding [.ref p] _ >>= _) _ _ s';refine wpAny_bind (wpAny_holding ?_);refine wpAny_bind (wpAny_tryCatch ?_);unfold Builtin.Dict.pairItems;refine wpAny_bind (wpAny_typeOf hT ?_);rw [if_pos (by decide)];refine wpAny_bind (wpAny_seqItems (hkp' _ _ ho) hd ?_);refine wpAny_pure ?_;show wpAny _ A.in1 (holding [.ref e.2.1,e.2.2] (dictSet S (.ref e.2.1) e.2.2)) _ _ s';refine wpAny_holding ?_;have tm:∀x∈fU [] (kvs.take i),IsKey P w s'.heap (gI x.1) x.2.1:=λx hx=>by
   rcases zO _ _ x hx with ⟨y,hy,_⟩ | ⟨y,hy,e1,e2⟩
   ·simp at hy
   ·obtain ⟨j,hj⟩:=List.getElem?_of_mem (List.mem_of_mem_take hy);have hl:j < items.size:=by rw [hk.1];exact (List.getElem?_eq_some_iff.mp hj).1
    obtain ⟨e',ek',ik',_⟩:=hk.2 j items[j] (by simp [hl]);rw [hj] at ek';cases ek';rw [<-e1,<-e2];exact ik'.keep hkp'
  have lt:(fU [] (kvs.take i)).length<=1000000:=by
   have:=KR (kvs.take i) [];rw [List.length_take] at this;simp only [List.length_nil] at this;omega
  refine wpAny_dictSet_heap (knd:=kI P w) (k:=e.1) (xs:=fU [] (kvs.take i)) (by show A.in1.units+1 < cLine;show A.units+1+1 < cLine;omega) (ik.keep hkp') (hset'.of tm) (λh2 hd2 sb=>?_) (by have:=line6 (n:=1000000) (by omega);omega);refine wpAny_pure ⟨plainId_quiet Fd.plain_loop _,ih (i+1) (n+1) _ (by omega) (W.frame _ s' _ _ hst' (by omega) λb hb' o q=>?_) (λb o q=>?_) ?_ λs2 mv2 hs2=>fin s2 ?_ hs2⟩
  ·rw [sb.2 b (λz:b=S=>hSf (z ▸ hb'))];exact q
  ·have ne:b≠S:=λz=>by rw [z,hS] at q;cases q
   show h2.get? b=some o;rw [sb.2 b ne];exact hkp' b o q
  ·rw [List.take_add_one,ek];show TabW P w S (fU [] (kvs.take i++[e])) h2;rw [N2];exact TabW.to hd2
  ·refine Moved.trans W.gtrans ((mv.mono more).then_heap (by show s'.toks<=_;omega) λb o hb' q=>?_) mv2;show h2.get? b=some o;rw [sb.2 b (λz:b=S=>hb' (z ▸ List.mem_cons_self))];exact q
end
section
variable {P:Program} {w:World} {A:Around} {E:Value->Shared->Prop} {s:Shared}
set_option maxHeartbeats 3200000 in
theorem N4 {l:Addr} {items:Array Value} {kvs:List WE} {Q:Value->Shared->Prop} (hh:A.handled=none) (hu:A.units+20 < cLine) (hl:∃o n,s.heap.get? l=some o/\o.cls=.type "list"/\o.dict=none/\o.data=.seq items n) (hk:KS P w s.heap items kvs) (hb:kvs.length<=1000000)
 (fin:∀(h':Heap) (tk:Nat),TabW P w s.heap.objs.size (fU [] kvs) h'->(∀b o,s.heap.get? b=some o->h'.get? b=some o)->Q (.ref s.heap.objs.size) { s with heap:=h',toks:=tk }) :
 wpAny (model P w) A (call (.type "dict") [.ref l]) Q E s:=by
 refine callType_codes (Q₁:=λobj s₁=>obj=.ref s.heap.objs.size/\s₁={ s with heap:=s.heap.push { cls:=.type "dict",data:=.dict #[] } }) F.kt_called_dict (F.kt_typeCall_dict_1 _) F.entry_dict_init (kt_code_dict_new _ ⟨rfl,rfl⟩) ?_;rintro obj s₁ ⟨rfl,rfl⟩;have hnew:(s.heap.push { cls:=.type "dict",data:=.dict #[] }).DictOfH (kI P w) s.heap.objs.size []:=Heap.DictOfH.new s.heap;obtain ⟨o,n,ho,hc,hdt,hd⟩:=hl;have lt:l < s.heap.objs.size:=Heap.lt_size ho;have ho':(s.heap.push { cls:=.type "dict",data:=.dict #[] }).get? l=some o:=Heap.get?_push_of_some _ ho;refine ⟨hnew.typeIs,F.args_dict_init_2 _ _,?_⟩;unfold Builtin.«dict.__init__»;refine wpAny_bind ?_;unfold Builtin.Dict.selfAndRest;refine wpAny_bind (wpAny_notOrdered_dict hnew.typeIs ?_);show wpAny _ _ (pure (s.heap.objs.size,[Value.ref l])) _ _ _;refine wpAny_pure ?_;show wpAny _ _ (Builtin.Dict.updateFrom "dict.__init__" s.heap.objs.size (.ref l) [] .none) _ _ _;unfold Builtin.Dict.updateFrom;refine wpAny_bind (wpAny_typeOf ⟨o,ho',hc⟩ ?_);rw [if_pos (by decide)];have h3:A.in1.in1.handled=none:=by simp [hh]
 refine wpAny_bind (M9 ho' hc hd hdt h3 λh2 tk2 k2=>?_);have hd2:h2.get? l=some o:=k2 _ _ ho';have hS2:=TabW.keep (λo e=>k2 _ o e) (TabW.to hnew);have sz2:s.heap.objs.size < h2.objs.size:=by
  obtain ⟨_,_,_,e,_⟩:=hS2;exact Heap.lt_size e
 have kk:∀b ob,s.heap.get? b=some ob->h2.get? b=some ob:=λb ob e=>k2 _ _ (Heap.get?_push_of_some _ e)
 have lt2:l < h2.objs.size:=Heap.lt_size hd2;have isl:h2.IsList l items:=⟨o,hd2,hc,n,hd⟩
 rw [if_pos (show (none:Option Value).isNone=true from rfl)];refine wpAny_bind (wpAny_rule ?_);refine wpAny_bind (wpAny_pyIter_list isl ?_);have sz3:s.heap.objs.size < h2.objs.size:=sz2;have ne1:l≠h2.objs.size:=Nat.ne_of_lt lt2;have h4:A.in1.in1.handled=none:=h3;refine wpAny_pure ⟨plainId_quiet Fd.plain_loop _,N3 (A:=A.in1) (kvs:=kvs) (h0:=s.heap) ((Walks.list h4 h2.objs.size l ne1 items).toS) s.heap.objs.size ?_ (by show A.units+1+10 < cLine;omega) ?_ (Heap.get?_none_of_le (Nat.le_refl _)) hk hb items.size 0 0 _ (by simp) ⟨⟨_,Heap.get?_push_size _ rfl,rfl,rfl⟩,isl.push _⟩ (λb o e=>Heap.get?_push_of_some _ (kk b o e)) ?_ λs' mv hs'=>?_⟩
 ·simp only [List.mem_cons,List.not_mem_nil,or_false,not_or];exact ⟨Nat.ne_of_lt sz2,Nat.ne_of_gt lt⟩
 ·intro b hb';rw [List.mem_singleton.mp hb'];exact Heap.get?_none_of_le (Nat.le_of_lt sz2)
 ·exact hS2.keep λo e=>Heap.get?_push_of_some _ e
 ·obtain ⟨h',g',d',tk',os'⟩:=s';obtain rfl:g'=s.gens:=mv.gens;obtain rfl:d'=s.drawn:=mv.drawn;obtain rfl:os'=s.os:=mv.os;refine ⟨rfl,fin h' tk' hs' λb o e=>?_⟩;have hb0:=Heap.lt_size e;exact mv.heap b o (by simp only [List.mem_cons,List.not_mem_nil,or_false,not_or];exact ⟨Nat.ne_of_lt hb0,Nat.ne_of_lt (Nat.lt_trans hb0 sz2)⟩) (Heap.get?_push_of_some _ (kk b o e))
end
@[simp] def D.toWK:D->Option WK
 | .tup [.int a,.tup ds,.int c]=>(match dO ds with | some is=>some (a,is,c) | none=>none)
 | _=>none
theorem zP {d:D} {k:WK} (h:d.toWK=some k):d=cC k:=by
 unfold D.toWK at h
 split at h
 ·rename_i a ds c
  cases q:dO ds with
  | none=>rw [q] at h;cases h
  | some is=>rw [q] at h;cases h;rw [zI q];rfl
 ·cases h
@[simp] theorem zQ (a:Int) (is:List Int) (c:Int):(D.tup [.int a,.tup (is.map D.int),.int c]).toWK=some (a,is,c):=by
 show (match dO (is.map D.int) with | some is=>some (a,is,c) | none=>none)=_;rw [lL]
def gE (kvs:List (WK×Bool)) (k:WK):Option Bool:=(kvs.find? λq=>decide (q.1=k)).map (·.2)
def gS (kvs:List (WK×Bool)) (k:WK) (b:Bool):List (WK×Bool):=if (gE kvs k).isSome then kvs.map (λq=>if q.1=k then (q.1,b) else q) else kvs++[(k,b)]
def kJ (kvs ps:List (WK×Bool)):List (WK×Bool):=ps.foldl (λxs q=>gS xs q.1 q.2) kvs
@[simp] def nD (q:WK×Bool):D:=.tup [cC q.1,.bl q.2]
def kK:List D->Option (List (WK×Bool))
 | []=>some []
 | .tup [d,.bl b]::ds=>(match d.toWK,kK ds with | some k,some r=>some ((k,b)::r) | _,_=>none)
 | _=>none
theorem KT:∀{ds:List D} {kvs:List (WK×Bool)},kK ds=some kvs->ds=kvs.map nD
 | [],_,h=>by cases h;rfl
 | d::ds,kvs,h=>by
  unfold kK at h
  split at h
  ·cases h;rename_i q;cases q
  ·rename_i d' b ds' q
   cases q;cases e:d'.toWK with
   | none=>rw [e] at h;cases h
   | some k=>
    rw [e] at h;cases e2:kK ds with
    | none=>rw [e2] at h;cases h
    | some r=>
     rw [e2] at h;cases h;rw [KT e2,zP e];rfl
  ·cases h
theorem KU:∀(kvs:List (WK×Bool)),kK (kvs.map nD)=some kvs
 | []=>rfl
 | q::kvs=>by
  show (match (cC q.1).toWK,kK (kvs.map nD) with | some k,some r=>some ((k,q.2)::r) | _,_=>none)=_;rw [KU kvs,show (cC q.1).toWK=some q.1 from zQ _ _ _]
theorem KW {q:WK×Bool} {kvs:List (WK×Bool)} {xs:List WE} (h:fA (q::kvs) xs):∃a r,xs=(q.1,a,.bool q.2)::r/\fA kvs r:=by
 unfold fA at h;cases xs with
 | nil=>cases h
 | cons x xs=>
  rw [List.map_cons,List.map_cons,List.cons.injEq] at h;obtain ⟨k,a,v⟩:=x;obtain ⟨h1,h2⟩:=h;cases h1;exact ⟨a,xs,rfl,h2⟩
theorem zR:∀{kvs:List (WK×Bool)} {xs:List WE},fA kvs xs->∀k,(atKey xs k).map (·.2)=(gE kvs k).map Value.bool
 | [],xs,h,k=>by
  have:xs=[]:=by simpa [fA] using h
  subst this;rfl
 | q::kvs,xs,h,k=>by
  obtain ⟨a,r,rfl,h'⟩:=KW h;by_cases e:q.1=k
  ·simp [atKey,gE,e]
  ·have:=zR h' k;simpa [atKey,gE,e] using this
theorem KY {kvs:List (WK×Bool)} {xs:List WE} (h:fA kvs xs) (k:WK) (a:Addr) (b:Bool):fA (gS kvs k b) (storedH xs k a (.bool b)):=by
 have e:(atKey xs k).isSome=(gE kvs k).isSome:=by
  have:=congrArg Option.isSome (zR h k);simpa using this
 unfold gS storedH fA;rw [e];by_cases z:(gE kvs k).isSome=true
 ·rw [if_pos z,if_pos z,List.map_map,List.map_map];have l:xs.map ((λe:WE=>(e.1,e.2.2)) ∘ putAt k (.bool b))=(xs.map λe:WE=>(e.1,e.2.2)).map λp=>if p.1=k then (p.1,Value.bool b) else p:=by
   rw [List.map_map];refine List.map_congr_left λx _=>?_
   by_cases q:x.1=k<;>simp [putAt,q]
  have r:kvs.map ((λq:WK×Bool=>(q.1,Value.bool q.2)) ∘ λq=>if q.1=k then (q.1,b) else q)=(kvs.map λq=>(q.1,Value.bool q.2)).map λp=>if p.1=k then (p.1,Value.bool b) else p:=by
   rw [List.map_map];refine List.map_congr_left λx _=>?_
   by_cases q:x.1=k<;>simp [q]
  rw [l,r,show xs.map (λe:WE=>(e.1,e.2.2))=_ from h]
 ·rw [if_neg z,if_neg z,List.map_append,List.map_append,show xs.map (λe:WE=>(e.1,e.2.2))=_ from h];rfl
theorem KZ:∀(ps:List (WK×Bool)) (es:List WE) {kvs:List (WK×Bool)} {xs:List WE},fA kvs xs->fA ps es->fA (kJ kvs ps) (fU xs es)
 | [],es,kvs,xs,h,g=>by
  have:es=[]:=by simpa [fA] using g
  subst this;exact h
 | p::ps,es,kvs,xs,h,g=>by
  obtain ⟨a,r,rfl,g'⟩:=KW g;exact KZ ps r (KY h p.1 a p.2) g'
theorem LA {kvs:List (WK×Bool)} {xs:List WE} (h:fA kvs xs):xs.length=kvs.length:=by
 have:=congrArg List.length h;simpa using this
section
variable {T:Tb} {X:Cx} {vA:List (Addr×Obj)} {σ:L2.St} {H:Hp} {s:Shared}
theorem LC {P:Program} {w:World}:∀{is:List Int} {its:List Value},Vals (is.map V.int) its->ItemsAre (intKind P w) is its
 | [],_,h=>by cases h;exact .nil
 | i::is,_,h=>by
  cases h with
  | cons r t=>
   obtain ⟨tk,rfl⟩:=r;exact .cons (by simp [intKind,Value.isInt]) (LC t)
theorem tQ (I:Inv X vA σ H s) {k:WK} {v:V} (r:Rep T X.K H (cC k) v):∃a,v=.ref a/\IsKey X.prog X.w s.heap (gI k) a:=by
 obtain ⟨a,vs,rfl,sq,v1,r1,rfl,h1,v2,r2,rfl,h2,v3,r3,rfl,h3,h4⟩:=r;cases h1;cases h3;cases h4;obtain ⟨b,ws,rfl,sq2,hw⟩:=h2;obtain rfl:=mU (lL k.2.1) hw;obtain ⟨its,rv,⟨o,ho,hc,n,hd⟩,_⟩:=I.tuple sq;obtain ⟨its2,rv2,⟨o2,ho2,hc2,n2,hd2⟩,_⟩:=I.tuple sq2;refine ⟨a,rfl,o,_,n,ho,hc,hd,?_⟩;cases rv with
 | cons q1 t1=>
  cases t1 with
  | cons q2 t2=>
   cases t2 with
   | cons q3 t3=>
    cases t3;obtain ⟨k1,rfl⟩:=q1;cases q2;obtain ⟨k3,rfl⟩:=q3;exact .cons (by simp [KiIs,intKind,Value.isInt]) (.cons ⟨b,rfl,o2,_,n2,ho2,hc2,hd2,by simpa using LC rv2⟩ (.cons (by simp [KiIs,intKind,Value.isInt]) .nil))
theorem zS (I:Inv X vA σ H s) {d:Addr} {xs:List WE} (e:H d=some (.ext (fX d xs))) (r:∀e∈xs,Rep T X.K H (cC e.1) (.ref e.2.1)):s.heap.DictOfH (kI X.prog X.w) d xs:=by
 obtain ⟨q,_⟩:=(show ObjOk X.prog X.w H s.heap d (.ext (fX d xs)) from I.hok d _ e)
 refine TabW.of (show TabW X.prog X.w d xs s.heap from q) λx hx=>?_
 obtain ⟨a,ea,hk⟩:=tQ I (r x hx);cases ea;exact hk
theorem LD {d:Addr} {xs:List WE} {h1 h2:Heap} (x:fX d xs h1) (k:∀o,h1.get? d=some o->h2.get? d=some o):fX d xs h2:=by
 obtain ⟨o,es,ep,e,more⟩:=x;exact ⟨o,es,ep,k _ e,more⟩
theorem LE (I:Inv X vA σ H s):∀(kvs:List (WK×Bool)) (vs:List V) (its:List Value),RepL T X.K H (kvs.map nD) vs->Vals vs its ->
 ∃es:List WE,fA kvs es/\(∀e∈es,Rep T X.K H (cC e.1) (.ref e.2.1))/\its.length=es.length/\∀(i:Nat) (v:Value),its[i]?=some v->∃e,es[i]?=some e/\IsKey X.prog X.w s.heap (gI e.1) e.2.1 /\
  ∃p o n,v=.ref p/\s.heap.get? p=some o/\o.cls=.type "tuple"/\o.data=.seq #[.ref e.2.1,e.2.2] n
 | [],vs,its,r,rv=>by
  cases r;cases rv;exact ⟨[],rfl,λ_ z=>(nomatch z),rfl,λi v z=>by simp at z⟩
 | q::kvs,vs,its,r,rv=>by
  obtain ⟨v,vr,rfl,r1,r2⟩:=r;cases rv with
  | @cons _ u _ us ru rv=>
   obtain ⟨es,g1,g2,g3,g4⟩:=LE I kvs vr us r2 rv;obtain ⟨p,ws,rfl,sq,w1,t1,rfl,h1,w2,t2,rfl,h2,h3⟩:=r1;cases h3;cases h2;obtain ⟨a,rfl,hk⟩:=tQ I h1;obtain ⟨its2,rv2,⟨o,ho,hc,n,hd⟩,_⟩:=I.tuple sq;cases rv2 with
   | cons x1 y1=>
    cases y1 with
    | cons x2 y2=>
     cases y2;cases x1;cases x2;cases ru;refine ⟨(q.1,a,.bool q.2)::es,?_,λe he=>?_,by simp [g3],λi v hv=>?_⟩
     ·show _::_=_::_;rw [List.cons.injEq];exact ⟨rfl,g1⟩
     ·rcases List.mem_cons.mp he with rfl | he
      ·exact h1
      ·exact g2 e he
     ·cases i with
      | zero=>
       cases hv;exact ⟨_,rfl,hk,p,o,n,rfl,ho,hc,hd⟩
      | succ i=>exact g4 i v hv
theorem big (I:Inv X vA σ H s):sysModules < s.heap.objs.size:=by
 have h:mainGlobals < s.heap.objs.size:=(I.mod.glob.keeps I.bk).lt;exact Nat.lt_trans (by decide) h
variable {K:PySem.W.Frag} {G H':Hp} {ρ:Ro}
theorem LF {b:Bool} {d:Addr} {φ:Heap->Prop} {o:HO} (h:H d=some (.ext φ)):Pers T b H (upd H d o):=λc u e st=>by
 rw [aM (λz=>by rw [z,h] at e;cases e;cases st)];exact e
theorem SlOk.back2 {x:Option (Option V)} {s:Sl} {b:Addr} (k:∀t a us,OutAt H t a us->OutAt H' t a us) (h:SlOk T K G H x s) (o:eA H' x b s):eA H x b s:=by
 cases s with
 | ox t pre ds post=>
  obtain ⟨a,vp,c,vq,ws,e1,e2,_⟩:=h;obtain ⟨a',us,o1,o2,o3⟩:=o;rw [e1] at o1;cases o1;have:=(k _ _ _ e2).uniq o2;subst this;exact ⟨a,_,e1,e2,o3⟩
 | lm ms=>
  obtain ⟨a,us,e1,e2,_⟩:=h;obtain ⟨a',us',i,ks,o1,o2,o3,o4⟩:=o;rw [e1] at o1;cases o1;have:=(k _ _ _ e2).uniq o2;subst this;exact ⟨a,us,i,ks,e1,e2,o3,o4⟩
 | _=>exact o
theorem N5 {i:Nat} {kvs kvs':List (WK×Bool)} {d:Addr} {xs xs':List WE} (fr:FR T K G H σ ρ) (e:ρ[i]?=some (.od kvs)) (alone:∀j q,ρ[j]?=some (.od q)->j=i) (e1:σ[i]?=some (some (.ref d)))
 (e2:H d=some (.ext (fX d xs))) (e3:G d=none) (e4:(d==sysModules)=false) (r:fA kvs' xs') (rr:∀e∈xs',Rep T K H (cC e.1) (.ref e.2.1)):FR T K G (upd H d (.ext (fX d xs'))) σ (ρ.set i (.od kvs')):=by
 have p:Pers T false H (upd H d (.ext (fX d xs'))):=LF e2;have hl:i < ρ.length:=(List.getElem?_eq_some_iff.mp e).1;have at_:∀{m:Nat} {z:Sl},(ρ.set i (.od kvs'))[m]?=some z->(m=i/\z=.od kvs')∨(m≠i/\ρ[m]?=some z):=λ{m z} q=>by
  by_cases hm:m=i
  ·subst hm;rw [List.getElem?_set_self hl] at q;exact .inl ⟨rfl,(Option.some.inj q).symm⟩
  ·rw [List.getElem?_set_ne (Ne.symm hm)] at q;exact .inr ⟨hm,q⟩
 refine ⟨λa o q=>?_,by simp [fr.len],λj s q=>?_,λj k s1 s2 b hjk q1 q2 o1 o2=>?_,fr.me,λj c es q=>?_⟩
 ·rw [aM (λz=>by rw [z,e3] at q;cases q)];exact fr.same _ _ q
 ·rcases at_ q with ⟨rfl,rfl⟩ | ⟨hj,q⟩
  ·exact ⟨d,xs',e1,cR,e3,e4,r,λy hy=>Rep.pers p _ _ (rr y hy)⟩
  ·have ok:=fr.sl j s q;by_cases hm:∃c es,s=.me c es
   ·obtain ⟨c,es,rfl⟩:=hm;obtain ⟨a,dx,fs,z1,z2,z3,z4,z5,z6⟩:=ok;exact ⟨a,dx,fs,z1,z2,by rw [aM (λz=>by rw [z,e2] at z3;cases z3)];exact z3,z4,z5,RepL.pers p _ _ z6⟩
   ·refine SlOk.hop (ex:=λb=>b=d) p (λa o z ne=>by rw [aM ne];exact z) (λa φ _ _=>⟨[],λz=>?_,λq' z=>?_⟩) (λb o z=>?_) (.inr λb _ c es ⟨dx,fs,w,_⟩ z=>?_) (λc es z=>hm ⟨c,es,z⟩) ok
    ·subst z;exact hj (alone j _ q)
    ·subst z;exact hj (alone j _ q)
    ·obtain ⟨⟨ws,w⟩,_⟩:=ok.own o;rw [z,e2] at w;cases w
    ·rw [z,e2] at w;cases w
 ·rcases at_ q1 with ⟨rfl,rfl⟩ | ⟨hj,q1⟩
  ·exact o1
  ·rcases at_ q2 with ⟨rfl,rfl⟩ | ⟨hj2,q2⟩
   ·exact o2
   ·exact fr.ne j k s1 s2 b hjk q1 q2 ((fr.sl j s1 q1).back2 (λ_ _ _ w=>w.pers p) o1) ((fr.sl k s2 q2).back2 (λ_ _ _ w=>w.pers p) o2)
 ·rcases at_ q with ⟨_,z⟩ | ⟨_,q⟩
  ·cases z
  ·exact fr.me0 j c es q
theorem N6 (hu:X.A.units+20 < cLine) (hc:X.calm=true):eY X (.type "dict") (λxs H Q=>∃(a:Addr) (kvs:List (WK×Bool)) (vs:List V),xs=[.ref a]/\SqL X.K H a vs/\RepL T X.K H (kvs.map nD) vs/\kvs.length<=1000000 /\
 ∀d es,H d=none->(d==sysModules)=false->fA (kJ [] kvs) es->(∀e∈es,Rep T X.K H (cC e.1) (.ref e.2.1))->Q (.ref d) (upd H d (.ext (fX d es)))):=by
 intro vA s σ H xs us Q I rv h;obtain ⟨a,kvs,vs,rfl,sq,rl,hb,q⟩:=h;obtain ⟨u,rfl,ru⟩:=rv.one;cases ru;obtain ⟨its,r,⟨o,n,ho,hcl,hdi,hda⟩,hz⟩:=I.list sq;obtain ⟨es,g1,g2,g3,g4⟩:=LE I kvs vs its rl r;have fr:=I.fresh;have len:=LA g1;refine N4 (items:=its.toArray) (kvs:=es) (I.ok.hd hc) hu ⟨o,n,ho,hcl,hdi,hda⟩ ⟨by simp [g3],λi v e=>g4 i v (by simpa using e)⟩ (by omega) λh' tk hs kk=>?_
 have I2:Inv X vA σ H { s with heap:=h',toks:=tk }:=I.kept kk;obtain ⟨ob,_,_,hob,_⟩:=id hs;refine ⟨.ref s.heap.objs.size,_,Inv.enter I2 fr (JO I (Nat.le_refl _)) hob (show fX s.heap.objs.size (fU [] es) h' from hs) (λh1 h2 x k=>LD x k),rfl,q _ _ fr ?_ (KZ kvs es rfl g1) λe he=>?_⟩
 ·have:=big I;exact beq_eq_false_iff_ne.mpr (Nat.ne_of_gt this)
 ·rcases zO _ _ e he with ⟨y,hy,_⟩ | ⟨y,hy,e1,e2⟩
  ·cases hy
  ·rw [<-e1,<-e2];exact g2 y hy
def N7 (T:Tb) (X:Cx):V->V->V->Hp->(Hp->Prop)->Prop:=λo i v H Q=>∃d xs k a b,o=.ref d/\i=.ref a/\v=.bl b/\H d=some (.ext (fX d xs))/\xs.length<=1000000/\Rep T X.K H (cC k) (.ref a)/\(∀e∈xs,Rep T X.K H (cC e.1) (.ref e.2.1)) /\
 Q (upd H d (.ext (fX d (storedH xs k a (.bool b)))))
theorem N8 (hu:X.A.units+20 < cLine):xG X (N7 T X):=by
 intro vA s σ H o i v ov iv u Q I ro ri rv h;obtain ⟨d,xs,k,a,b,rfl,rfl,rfl,hd,hl,rk,rr,q⟩:=h;cases ro;cases ri;cases rv;obtain ⟨a',ea,hk⟩:=tQ I rk;cases ea;refine wpAny_setItem_heap (knd:=kI X.prog X.w) (k:=k) (hsz:=by have:=line6 (n:=1000000) (by omega);omega) (by show X.A.in1.units+1 < cLine;show X.A.units+1+1 < cLine;omega) hk (zS I hd rr) λh' dd' hs=>?_
 refine ⟨_,I.write (x:=d) (e:=d) (o:=.ext (fX d (storedH xs k a (.bool b)))) (by rw [hd];exact trivial) (.inl rfl) (λc w hc hw=>(hs.2 c hc).trans hw) ?_ ⟨?_,?_,λh1 h2 x k=>LD x k⟩,q⟩
 ·obtain ⟨q,_,_,hq,_⟩:=dd';exact ⟨q,hq⟩
 ·exact (show TabW X.prog X.w d _ h' from TabW.to dd')
 ·obtain ⟨q,_,_,hq,_⟩:=dd';exact ⟨q,hq⟩
variable {ib:Bool} {e ew:Expr} {pos p p2 p3 p4 pos':Pos} {fl:Ro->Out (List D)} {fe ff:Ev} {k:Nat}
@[simp] def zT (i:Nat) (fl:Ro->Out (List D)) (ρ:Ro):Fl:=(fl ρ).fl ρ λds=>if ds.length<=1000000 then (match kK ds with | some kvs=>.nx (ρ.set i (.od (kJ [] kvs))) | none=>.bad) else .bad
theorem N9 (i:Nat) {x:Str} (hr:Room k X.A) (hc:X.calm=true) (hN:X.N.Nodup) (hl:DL T X e fl) (hg:Gl X "dict") (hm:X.mg "dict" = none) (hi:X.N[i]?=some x:=by rfl) (hx:Loc X.env.scope x:=by walk_at "v3")
 (hs:swapsWith (.Call (.Name "dict" p) [e] [] p2) (some (.Name x pos')) pos.line X.env=pure false:=by exact jT rfl) (hf:X.fn x=true∨X.env.scope.names.lookup x=some .local:=by walk_at "v2")
 (hz:T.me=none∨i≠0:=by walk_at "v1") (hst:starEach [e] X.env=(false,eval e X.env)::starEach [] X.env:=by exact cM rfl) (hpl:(backTo p2 (starEach ([]:List Expr) X.env)).any (·.1)=false:=by exact dL rfl) :
 DS T ib X (.Assign [.Name x pos'] (.Call (.Name "dict" p) [e] [] p2) pos) (zT i fl):=.mk λG E hp=>
 PS.imp (xL (X:=X.wish E) hN hi hx (mD (X:=X.wish E) (N6 (T:=T) (X:=X.wish E) (by have:=hr.units;show X.A.units+20 < _;omega) hc) hg hm rfl (cZ (X:=X.wish E) (hl.run G E hp) eP hst) (by decide) (by decide) hst hpl) hs hf) λD σ H ⟨ρ,fr,h⟩=>
  ⟨ρ,fr,Acc.mono (AccS.fl fr h) λds _ hd l vs H1 s1 sq r=>by
   by_cases z:ds.length<=1000000
   ·rw [if_pos z] at hd;cases q:kK ds with
    | none=>rw [q] at hd;exact hd.elim
    | some kvs=>
     rw [q] at hd;obtain rfl:=KT q;refine ⟨l,kvs,vs,rfl,sq,r,by simpa using z,λd es hn hsy ho hr=>?_⟩;have sm:Same H1 (upd H1 d (.ext (fX d es))):=dP hn;exact hd _ _ (((fr.mono s1).mono sm).set_own (.od (kJ [] kvs)) (λ_=>⟨d,es,rfl,cR,(fr.mono s1).same.free hn,hsy,ho,λe he=>Rep.mono sm _ _ (hr e he)⟩) (λ_ _ _ _ _ o=>o.elim) (λ_ _ z=>by cases z) hz) ((Pers.of s1).trans (Pers.of sm))
   ·rw [if_neg z] at hd;exact hd.elim⟩
@[simp] def dg2 (kvs:List (WK×Bool)) (d v:D):Out D:=match d.toWK with
 | some k=>(match v with | .bl b=>.ok (.bl ((gE kvs k).getD b)) | _=>.bad)
 | none=>.bad
@[simp] def pH (i:Nat) (fe ff:Ev) (ρ:Ro):Out D:=match ρ[i]? with
 | some (.od kvs)=>(fe ρ).bind λd=>(ff ρ).bind λv=>dg2 kvs d v
 | _=>.bad
theorem O0 (i:Nat) {x:Str} (hr:Room k X.A) (he:DE T X e fe) (hf:DE T X ew ff) (hN:X.N[i]?=some x:=by rfl) (hv:Vis X.env.scope x:=by walk_at "v0") (hd:(x==("__debug__" : Str))=false:=by decide)
 (hcd:(x==("__classdict__" : Str))=false:=by decide) (hst:[e,ew].all kZ=true:=by rfl) (hline:(p2.endLine==p3.line)=true:=by rfl) (hbase:attributeBase (.Name x p) "get" X.env (eval (.Name x p) X.env)=eval (.Name x p) X.env:=by rfl) :
 DE T X (.Call (.Attribute (.Name x p) "get" p2) [e,ew] [] p3) (pH i fe ff):=.mk λG E hp vA s σ H Q I ⟨ρ,fr,h⟩=>by
 have hu:=hr.units;unfold pH at h
 split at h
 ·rename_i kvs e0
  obtain ⟨d,xs,e1,e2,e3,e4,e5,e6⟩:=fr.sl i _ e0;have tr:backTo p3 (starEach [e,ew] X.env)=[(false,eval e X.env),(false,eval ew X.env)]:=by
   rw [List.all_cons,Bool.and_eq_true] at hst;rw [cM hst.1];rw [List.all_cons,Bool.and_eq_true] at hst;rw [cM hst.2.1];rfl
  refine wpAny_Call_method hbase (xV hst rfl) hline PySem.F.plainAttrs_dict PySem.F.slot_dict_get PySem.F.type_dict_get (thn (gW (X:=X.wish E) hN hv hd hcd vA s σ H (λx H1=>x=.ref d/\H1=H) I ⟨_,e1,rfl,rfl⟩) λu s1 ⟨x,H1,I1,rx,ex,eh⟩=>?_);subst ex;subst eh;cases rx;have dd:=zS I1 e2 e6;refine ⟨dd.typeIs,λb q=>?_,?_⟩
  ·cases q;obtain ⟨ob,_,_,h1,h2,_⟩:=dd;exact ⟨ob,h1,h2.2.1⟩
  rw [show X.env=(X.wish E).env from rfl,tr];refine Calls.callWith_builtin rfl (Calls.evalArgs_plain (Calls.spliced_cons (thn (he.run G E hp vA s1 σ H1 (λy H2=>Same H1 H2/\∃d,Rep T X.K H2 d y/\Acc T X E σ H1 ((ff ρ).bind λv=>dg2 kvs d v) (kE T X.K H1 Q)) I1 ⟨ρ,fr,Acc.mono (Acc.bind h) λd _ hd v H2 s2 r2=>⟨s2,d,r2,hd⟩⟩) λiv s2 ⟨y,H2,I2,ry,sm2,dk,r2,q2⟩=>
   Calls.spliced_cons (thn (hf.run G E hp vA s2 σ H2 (λy H3=>Same H2 H3/\∃d,Rep T X.K H3 d y/\Acc T X E σ H2 (dg2 kvs dk d) (kE T X.K H1 Q)) I2 ⟨ρ,fr.mono sm2,Acc.mono (Acc.bind (Acc.heap sm2 q2)) λd _ hd v H3 s3 r3=>⟨s3,d,r3,hd⟩⟩) λfv s3 ⟨z,H3,I3,rz,sm3,dv,r3,q3⟩=>Calls.spliced_nil ?_))))
  unfold dg2 at q3;cases ek:dk.toWK with
  | none=>rw [ek] at q3;exact q3.elim
  | some k=>
   rw [ek] at q3;cases dv with
   | bl b=>
    have q3:kE T X.K H1 Q (.bl ((gE kvs k).getD b)):=q3;cases r3;cases rz;obtain rfl:=zP ek;obtain ⟨a,rfl,hk⟩:=tQ I3 (Rep.mono sm3 _ _ r2);cases ry;have sm:=sm2.trans sm3;have dd3:=zS I3 (sm _ _ e2) λe he=>Rep.mono sm _ _ (e6 e he)
    refine call_meetsIn PySem.F.slot_dict_get dd3.typeIs PySem.F.entry_dict_get (PySem.F.args_dict_get_3 _ _ _) (meetsH_dict_get_default (kI X.prog X.w) d a e4 (.bool b)) ⟨by show X.A.units+1+1 < cLine;omega,k,xs,hk,dd3,?_⟩;rw [zR e5];refine ⟨.bl ((gE kvs k).getD b),H3,I3.tok _,?_,q3 _ _ sm rfl⟩;cases gE kvs k<;>rfl
   | _=>exact q3.elim
 ·exact h.elim
@[simp] def kL:Sl->Bool
 | .od _=>true
 | _=>false
@[simp] def zU (i:Nat) (fk fv:Ev) (ρ:Ro):Fl:=(fv ρ).fl ρ λv=>match ρ[i]? with
 | some (.od kvs)=>(fk ρ).fl ρ λd=>match d.toWK with
  | some k=>(match v with | .bl b=>if (ρ.eraseIdx i).all (λs=>!kL s)=true/\kvs.length<=1000000 then .nx (ρ.set i (.od (gS kvs k b))) else .bad | _=>.bad)
  | none=>.bad
 | _=>.bad
theorem O1 (i:Nat) {x:Str} (hr:Room k X.A) (hk:DE T X e fe) (hv:DE T X ew ff) (hN:X.N[i]?=some x:=by rfl) (hvis:Vis X.env.scope x:=by walk_at "v0") (hd:(x==("__debug__" : Str))=false:=by decide)
 (hcd:(x==("__classdict__" : Str))=false:=by decide) (hs:swapsWithSole [.Subscript (.Name x p) e p2] ew pos.line X.env=pure false:=by first | exact IM rfl | rfl)
 (ha:∀v,assign (.Subscript (.Name x p) e p2) X.env v=(do
  let ov <-holding [v] (eval (.Name x p) X.env)
  let iv <-holding [v,ov] (eval e X.env)
  standAt p2
  holding [v,ov,iv] (setItem ov iv v)
  release [v,ov,iv] []):=by intro _;rfl) :
 DS T ib X (.Assign [.Subscript (.Name x p) e p2] ew pos) (zU i fe ff):=.mk λG E hp=>
 PS.imp (xK (X:=X.wish E) (hv.run G E hp) (FU (X:=X.wish E) (gW (X:=X.wish E) hN hvis hd hcd) (hk.run G E hp) (N8 (T:=T) (X:=X.wish E) (by have:=hr.units;show X.A.units+20 < _;omega)) ha) hs) λD σ H ⟨ρ,fr,h⟩=>
  ⟨ρ,fr,Acc.mono (AccS.fl fr h) λv _ hd vv H1 s1 r1=>by
   have fr1:=fr.mono s1;have hd1:=AccS.heap (Pers.of s1) hd
   split at hd1
   ·rename_i kvs e0
    obtain ⟨d,xs,e1,e2,e3,e4,e5,e6⟩:=fr1.sl i _ e0;refine ⟨_,e1,ρ,fr1,Acc.mono (AccS.fl fr1 hd1) λkd _ hk kv H2 s2 r2=>?_⟩;cases ek:kd.toWK with
    | none=>rw [ek] at hk;exact hk.elim
    | some k=>
     rw [ek] at hk;cases v with
     | bl b=>
      have hk:AccS T ib X G E H1 (if (ρ.eraseIdx i).all (λs=>!kL s)=true/\kvs.length<=1000000 then .nx (ρ.set i (.od (gS kvs k b))) else .bad) D:=hk;by_cases w:(ρ.eraseIdx i).all (λs=>!kL s)=true/\kvs.length<=1000000
      ·rw [if_pos w] at hk;cases r1;obtain rfl:=zP ek;obtain ⟨a,vs,rfl,more⟩:=id r2;have rr2:∀e∈xs,Rep T X.K H2 (cC e.1) (.ref e.2.1):=λe he=>Rep.mono s2 _ _ (e6 e he)
       refine ⟨d,xs,k,a,b,rfl,rfl,rfl,s2 _ _ e2,by rw [LA e5];exact w.2,r2,rr2,hk _ _ (N5 (fr1.mono s2) e0 (λj q hq=>?_) e1 (s2 _ _ e2) e3 e4 (KY e5 k a b) λe he=>?_) ((Pers.of s2).trans (LF (s2 _ _ e2)))⟩
       ·by_cases hj:j=i
        ·exact hj
        ·have:=List.all_eq_true.mp w.1 _ (List.mem_eraseIdx_iff_getElem?.mpr ⟨j,hj,hq⟩);cases this
       ·rcases KQ he with ⟨y,hy,f1,f2⟩ | ⟨f1,f2⟩
        ·rw [<-f1,<-f2];exact rr2 y hy
        ·rw [<-f1,<-f2];exact r2
      ·rw [if_neg w] at hk;exact hk.elim
     | _=>exact hk.elim
   ·exact hd1.elim⟩
end
end L3
set_option maxHeartbeats 1600000
namespace L3
open PySem PySem.Spec PyProof.Rows L2
section
variable {P:Program} {w:World} {A:Around} {R:Result->Shared->Prop} {l I S:Addr} {xs:Array (Int×Tok)} {d:Value} {h0:Heap}
abbrev iH (xs:Array (Int×Tok)) (i j:Nat):Bool:=decide (numAt xs i > numAt xs j)
theorem O2 (hh:A.handled=none) (lI:l≠I) (lS:l≠S) (ne:S≠I) (nI:h0.get? I=none) (nS:h0.get? S=none) :
 ∀(m i:Nat) (s:Shared) (b:Value) (c:Nat),i+1+m=xs.size->(∀a o,h0.get? a=some o->s.heap.get? a=some o)->s.heap.IsListIter I l (i+1)->s.heap.IsList l (intItems xs) ->
  (intItems xs)[argBest (iH xs) i]?=some b->s.heap.get? S=some ⟨.type "list",none,.seq #[b,b] c,#[]⟩ ->
  (∀v h' tk,(intItems xs)[argBest (iH xs) (xs.size-1)]?=some v->KpH h0 h'->R (.ok (.ret v)) { s with heap:=h',toks:=tk }) ->
  codeAny (model P w) A (.builtin "max.loop" ⟨[.ref I,.none,.ref S],[(("default" : Str),d)]⟩) R s:=by
 have nm:(toString "max"++toString ".loop" : String)="max.loop":=by decide
 have W:=Walks.list (prog:=P) (w:=w) (A:=A.in1) hh I l lI (intItems xs);have sz:(intItems xs).size=xs.size:=by simp [intItems]
 have bI:∀b o,h0.get? b=some o->b∉[I]:=λb o e z=>by rw [List.mem_singleton.mp z,nI] at e;cases e
 have bS:∀b o,h0.get? b=some o->b≠S:=λb o e z=>by rw [z,nS] at e;cases e
 have SI:S∉[I]:=by simpa using ne
 have cmp:=CmpOf.ints_gt (prog:=P) (w:=w) (A:=A.in1) (P:=λi v=>(intItems xs)[i]?=some v) (numAt xs) (λ_ _=>intItems_at);intro m
 induction m with
 | zero=>
  intro i s b c hm up it ls hb oS fin;refine codeAny_builtin F.entry_max_loop ?_;rw [Around.under_plainId F.plain_max_loop _];refine wpAny_bind (wpAny_seqItems oS rfl ?_);refine wpAny_bind (wpAny_tryCatch (W.done s _ _ ⟨by rw [sz,<-hm];exact it,ls⟩ λh5 tk5 k5=>?_));have oS5:=k5 S _ SI oS;refine wpAny_bind ?_;refine wpAny_updateSeq oS5 rfl (wpAny_bind (wpAny_letGo (wpAny_pure ?_)));refine fin b _ tk5 (by rw [<-hm];exact hb) λa o e=>?_
  exact (Heap.get?_update_other _ _ (Ne.symm (bS a o e))).trans (k5 a o (bI a o e) (up a o e))
 | succ m ih=>
  intro i s b c hm up it ls hb oS fin;refine codeAny_builtin F.entry_max_loop ?_;rw [Around.under_plainId F.plain_max_loop _];refine wpAny_bind (wpAny_seqItems oS rfl ?_);refine wpAny_bind (wpAny_tryCatch (W.item (i+1) s _ _ (by omega) ⟨it,ls⟩ λv h3 tk hv st3 k3=>?_));have oS3:=k3 S _ SI oS;show wpAny _ A.in1 (tryCatch (holding [v,v] (richCompare .Gt v b >>= _)) _ >>= _) _ _ _;refine wpAny_bind (wpAny_tryCatch (wpAny_holding (wpAny_bind (cmp (i+1) (argBest (iH xs) i) v b _ _ _ hv hb ?_))));refine wpAny_bind (wpAny_holding (wpAny_truthy_bool ?_));refine wpAny_bind (wpAny_letGo (wpAny_pure ?_));have up3:∀a o,h0.get? a=some o->h3.get? a=some o:=λa o e=>k3 a o (bI a o e) (up a o e)
  by_cases hbt:numAt xs (i+1) > numAt xs (argBest (iH xs) i)
  ·rw [if_pos (decide_eq_true hbt)];refine wpAny_bind ?_;refine wpAny_updateSeq oS3 rfl (wpAny_bind (wpAny_letGo ?_));rw [nm];have ot:∀a,a≠S->(h3.update S (Obj.mapSeq λ_=>#[v,v])).get? a=h3.get? a:=λa z=>Heap.get?_update_other _ _ (Ne.symm z)
   refine wpAny_pure ⟨plainId_quiet F.plain_max_loop _,ih (i+1) _ v _ (by omega) (λa o e=>(ot a (bS a o e)).trans (up3 a o e)) (st3.1.at λo e=>(ot _ (Ne.symm ne)).trans e) (st3.2.at λo e=>(ot _ lS).trans e) ?_ (Heap.get?_update_self _ oS3 rfl) λv' h' tk'=>fin v' h' tk'⟩;rw [show argBest (iH xs) (i+1)=i+1 by rw [argBest,iH,if_pos (decide_eq_true hbt)]];exact hv
  ·have hbf:¬(iH xs (i+1) (argBest (iH xs) i))=true:=λz=>hbt (of_decide_eq_true z)
   rw [if_neg hbf];refine wpAny_bind (wpAny_letGo ?_);rw [nm];refine wpAny_pure ⟨plainId_quiet F.plain_max_loop _,ih (i+1) _ b c (by omega) up3 st3.1 st3.2 ?_ oS3 λv' h' tk'=>fin v' h' tk'⟩;rw [show argBest (iH xs) (i+1)=argBest (iH xs) i by rw [argBest,if_neg hbf]];exact hb
theorem O3 {s:Shared} {h1:Heap} (hh:A.handled=none) (m:Mm h0 l I S (intItems xs) h1) (hne:0 < xs.size)
 (h:∀v h' tk,(intItems xs)[argBest (iH xs) (xs.size-1)]?=some v->KpH h0 h'->R (.ok (.ret v)) { s with heap:=h',toks:=tk }):codeAny (model P w) A (.builtin "max.loop" ⟨[.ref I,.none,.ref S],[(("default" : Str),d)]⟩) R { s with heap:=h1 }:=by
 have nm:(toString "max"++toString ".loop" : String)="max.loop":=by decide
 have W:=Walks.list (prog:=P) (w:=w) (A:=A.in1) hh I l m.lI (intItems xs);have sz:(intItems xs).size=xs.size:=by simp [intItems]
 refine codeAny_builtin F.entry_max_loop ?_;rw [Around.under_plainId F.plain_max_loop _];refine wpAny_bind (wpAny_seqItems m.oS rfl ?_);refine wpAny_bind (wpAny_tryCatch (W.item 0 { s with heap:=h1 } _ _ (by omega) ⟨m.it,m.ls⟩ λy h3 tk hy st3 k3=>?_));have oS:=k3 S _ (by simpa using m.ne) m.oS;show wpAny (model P w) A.in1 (updateSeq S (λ_=>#[y,y]) >>= _) _ _ _;refine wpAny_bind (wpAny_updateSeq oS rfl ?_);rw [nm];have ot:∀b,b≠S->(h3.update S (Obj.mapSeq λ_=>#[y,y])).get? b=h3.get? b:=λb z=>Heap.get?_update_other _ _ (Ne.symm z)
 have nl:l≠S:=λz=>by
  obtain ⟨o,e⟩:=m.l0;exact m.bS l o e z
 refine wpAny_pure ⟨plainId_quiet F.plain_max_loop _,O2 hh m.lI nl m.ne m.nI m.nS (xs.size-1) 0 _ y _ (by omega) (λb o e=>?_) (st3.1.at λo e=>(ot _ (Ne.symm m.ne)).trans e) (st3.2.at λo e=>(ot _ nl).trans e) hy (Heap.get?_update_self _ oS rfl) λv h' tk' e k=>h v h' tk' e k⟩;show (h3.update S (Obj.mapSeq λ_=>#[y,y])).get? b=some o;rw [ot b (m.bS b o e)];exact k3 b o (m.bI b o e) (m.up b o e)
end
section
variable {T:Tb} {X:Cx} {a d:Expr} {pos p kp:Pos} {fl:Ro->Out (List D)} {fd:Ev}
@[simp] def nE (ds:List D) (d:D):Out D:=match ds with
 | []=>.ok d
 | _=>(match dO ds with | some is=>.ok (.int (bN true is)) | none=>.bad)
@[simp] def LG (fl:Ro->Out (List D)) (fd:Ev) (ρ:Ro):Out D:=(fl ρ).bind λds=>(fd ρ).bind λd=>nE ds d
theorem O4 (hc:X.calm=true) (hg:Gl X "max") (hm:X.mg "max" = none) (ha:DL T X a fl) (hd:DE T X d fd) (hs:starEach [a] X.env=(false,eval a X.env)::starEach [] X.env:=by exact cM rfl) (hpl:(backTo pos (starEach ([a]:List Expr) X.env)).any (·.1)=false:=by exact dL rfl) :
 DE T X (.Call (.Name "max" p) [a] [⟨some "default",d,kp⟩] pos) (LG fl fd):=.mk λG E hp=>by
 rintro vA s σ H Q I ⟨ρ,fr,h⟩;refine wpAny_Call_Name_kw (gX (X:=X.wish E) I hg hm boot_max (callWith_kw (thn ((cZ (X:=X.wish E) (ha.run G E hp) eP hs) pos vA s σ H (λus H1=>∃l vs ds,us=[.ref l]/\Same H H1/\SqL X.K H1 l vs/\RepL T X.K H1 ds vs/\Acc T X E σ H ((fd ρ).bind λd=>nE ds d) (kE T X.K H Q)) I ⟨ρ,fr,Acc.mono (Acc.bind h) λds _ hd l vs H1 s1 sq r=>⟨l,vs,ds,rfl,s1,sq,r,hd⟩⟩) λus s1 ⟨xs,H1,I1,r1,l,vs,ds,e1,sm,sq,r,hq⟩=>?_) (by rw [hs];rfl) hpl rfl rfl));subst e1;obtain ⟨u,rfl,ru⟩:=Vals.one r1;cases ru;refine kws_cons (thn (hd.run G E hp vA s1 σ H1 (λv H2=>Same H1 H2/\∃d,Rep T X.K H2 d v/\Acc T X E σ H1 (nE ds d) (kE T X.K H Q)) I1 ⟨ρ,fr.mono sm,Acc.mono (Acc.bind (Acc.heap sm hq)) λd _ hd' v H2 s2 r2=>⟨s2,d,r2,hd'⟩⟩) λdv s2 ⟨v,H2,I2,r2,s12,d,rd,q2⟩=>kws_nil ?_);obtain ⟨its,rv,pl,hz⟩:=I2.list (s12.seq sq);have rl:=RepL.mono s12 _ _ r;refine L8 pl.isList λh1 It S m=>?_
 match ds,rl,q2 with
 | [],rl,q2=>
  cases rl;cases rv;exact L9 (I2.ok.hd hc) m λh' tk k=>⟨v,H2,I2.kept (t':=tk) k,r2,q2 v H2 (sm.trans s12) rd⟩
 | x::r,rl,q2=>
  have q2:Acc T X E σ H1 (match dO (x::r) with | some is=>.ok (.int (bN true is)) | none=>.bad) (kE T X.K H Q):=q2;cases e:dO (x::r) with
  | none=>rw [e] at q2;exact q2.elim
  | some is=>
   rw [e] at q2;obtain rfl:=mU e rl;obtain ⟨li,rfl,ei⟩:=kY rv;have hi:(li.map λp=>Value.int p.1 p.2).toArray=intItems li.toArray:=by simp [intItems]
   rw [hi] at m;have ln:0 < li.toArray.size:=by
    have hx:=zI e;have:is≠[]:=λz=>by rw [z] at hx;cases hx
    rw [<-ei] at this;cases li with
    | nil=>exact absurd rfl this
    | cons _ _=>simp
   refine O3 (I2.ok.hd hc) m ln λw h' tk hw k=>?_
   obtain ⟨t,rfl⟩:=intItems_at hw;refine ⟨.int (bN true is),H2,I2.kept (t':=tk) k,⟨t,?_⟩,q2 _ H2 (sm.trans s12) rfl⟩;subst ei
   congr 1
   unfold bN;rw [jO];simp only [if_true,List.length_map]
   congr 2
   ·funext i j;show decide _=_;rw [jO,jO]
variable {step:D->Option (Option D)}
def cS (step:D->Option (Option D)):List D->Option (List D)
 | []=>some []
 | d::ds=>match step d with
  | some r=>(match cS step ds with | some es=>some (r.toList++es) | none=>none)
  | none=>none
theorem LH:∀{a b es:List D},cS step (a++b)=some es->∃xs,cS step a=some xs
 | [],_,_,_=>⟨[],rfl⟩
 | d::a,b,es,h=>by
  rw [List.cons_append,cS] at h;cases e:step d with
  | none=>rw [e] at h;cases h
  | some r=>
   rw [e] at h;cases e2:cS step (a++b) with
   | none=>simp only [e2] at h;cases h
   | some ys=>
    obtain ⟨xs,q⟩:=LH e2;exact ⟨r.toList++xs,by rw [cS,e,q]⟩
theorem LI {d:D}:∀{a xs es:List D},cS step a=some xs->cS step (a++[d])=some es->∃r,step d=some r/\es=xs++r.toList
 | [],xs,es,h,h2=>by
  cases h;cases e:step d with
  | none=>rw [List.nil_append,cS,e] at h2;cases h2
  | some r=>rw [List.nil_append,cS,e] at h2;cases h2;exact ⟨r,rfl,by simp⟩
 | c::a,xs,es,h,h2=>by
  rw [List.cons_append,cS] at h2;rw [cS] at h;cases e:step c with
  | none=>rw [e] at h;cases h
  | some q=>
   rw [e] at h h2;cases e1:cS step a with
   | none=>simp only [e1] at h;cases h
   | some ys=>
    cases e2:cS step (a++[d]) with
    | none=>simp only [e2] at h2;cases h2
    | some zs=>
     simp only [e1] at h;simp only [e2] at h2;cases h;cases h2;obtain ⟨r,er,rfl⟩:=LI e1 e2;exact ⟨r,er,by rw [List.append_assoc]⟩
theorem LJ:∀{a xs:List D},cS step a=some xs->xs.length<=a.length
 | [],xs,h=>by cases h;exact Nat.le_refl _
 | c::a,xs,h=>by
  rw [cS] at h;cases e:step c with
  | none=>rw [e] at h;cases h
  | some q=>
   rw [e] at h;cases e1:cS step a with
   | none=>simp only [e1] at h;cases h
   | some ys=>
    simp only [e1] at h;cases h;have:=LJ e1;cases q<;>simp<;>omega
end
def tU (X:Cx) (T:Tb) (N:List Str) (scope:Scope) (cl:List (Str×Addr)) (fp:List Addr) (H2:Hp) (cs:L2.St) (pre:Nat) (tg elt:Expr) (ifs:List Expr) (step:D->Option (Option D)):Prop:=
 ∀(C:Addr) (s₀:Shared) (H₀:Hp) (pn:List (Addr×Obj)) (w:L2.St) (H5:Hp) (s5:Shared) (y:V) (u:Value) (d:D) (r:Option D),w.length=pre->Inv ((CxC X N scope cl C s₀ H₀ fp).wish λ_ _=>False) pn (w++cs) H5 s5->RelV y u->Rep T X.K H5 d y->Same H2 H5->step d=some r ->
  wpAny (model X.prog X.w) X.A (assign tg (compEnvC scope cl C X.env) u) (λ_ s6=>wpAny (model X.prog X.w) X.A (forIn ifs true λc r=>if r=true then do let ok <-isTrue c (compEnvC scope cl C X.env) (eval c (compEnvC scope cl C X.env));pure (ForInStep.yield ok) else pure (ForInStep.yield r)) (λok s7=>
   ∃(w':L2.St) (H7:Hp),w'.length=pre/\Inv ((CxC X N scope cl C s₀ H₀ fp).wish λ_ _=>False) pn (w'++cs) H7 s7/\Same H5 H7/\(match r with
    | none=>ok=false
    | some e=>ok=true/\wpAny (model X.prog X.w) X.A (eval elt (compEnvC scope cl C X.env)) (λu7 s8=>∃v7 H8,Inv ((CxC X N scope cl C s₀ H₀ fp).wish λ_ _=>False) pn (w'++cs) H8 s8/\RelV v7 u7/\Same H7 H8/\Rep T X.K H8 e v7) (λ_ _=>False) s7)) (λ_ _=>False) s6) (λ_ _=>False) s5
section
variable {T:Tb} {X:Cx} {elt tg iter:Expr} {ifs:List Expr} {x:Str} {N ys:List Str} {pos:Pos} {pre:Nat} {scope:Scope} {vH:List Nat} {step:D->Option (Option D)} {cl:List (Str×Addr)} {vA:List (Addr×Obj)} {σ:L2.St} {G H2:Hp} {s2:Shared} {J:It} {fp:List Addr} {it:Addr} {tn:Nat->Heap->Prop} {ρ:Ro} {ds es:List D}
theorem O5 {RR:Value->Addr->Result->Shared->Prop} {E:Value->Shared->Prop} (hc:X.calm=true) (cp:Cap X scope x ys vH) (h1:∀y c,cl.lookup y=some c->X.env.cells.lookup y=some c) (h2:∀y∈scope.names,y.2=.free->∃c,cl.lookup y.1=some c)
 (hI:∀{C:Addr} {s₀:Shared} {H₀ H:Hp} {s:Shared},Inv (CxC X (x::ys) scope cl C s₀ H₀ fp) [] (none::vH.map λi=>σ.getD i none) H s->∃w0:L2.St,w0.length=pre/\Inv (CxC X N scope cl C s₀ H₀ fp) [] (w0++vH.map λi=>σ.getD i none) H s)
 (body:tU X T N scope cl fp H2 (vH.map λi=>σ.getD i none) pre tg elt ifs step)
 (hun:∀{C:Addr} {s₀ s':Shared} {H₀ H':Hp} {σ':L2.St},Inv X vA σ H₀ s₀->Inv (CxC X N scope cl C s₀ H₀ fp) [] σ' H' s'->(∀b∈fp,eX X vA H₀ b)->Inv X vA σ H' s')
 (I2:Inv X vA σ H2 s2) (Tn:Turn X.prog X.w X.K tg J fp it tn) (t0:tn 0 s2.heap) (f2:∀b∈fp,eX X vA H2 b)
 (fr:Same G H2) (wk:Walk T X.K G J ds H2) (hm:cS step ds=some es) (hl:ds.length<=1000000)
 (hRR:∀(a C:Addr) (s':Shared) (m':Str->Option Value) (Hn:Hp) (vs:List V),Inv X vA σ Hn s'->eX X vA Hn C->s'.heap.Ns C m'->Same H2 Hn->H2 a=none->Hn a=some (.lst vs)->RepL T X.K Hn es vs->RR (.ref a) C (.ok .next) s') :
 wpAny (model X.prog X.w) X.A (newList []) (λvJ s3=>wpAny (model X.prog X.w) X.A (newFunctionEnv scope X.env.globals cl [] X.env.qual none .none (some X.env)) (λcenv s4=>
  codeAny (model X.prog X.w) X.A (.compStart (.ListComp elt [⟨tg,iter,ifs,0⟩] scope pos) 0 (.ref it) vJ { cenv with scope:=relabel scope X.env }) (RR vJ cenv.locals) s4) E s3) E s2:=by
 refine wpAny_newList (wpAny_newFunctionEnv cp.nocell (by intro y hy;simp at hy) (λh' hns hsb=>?_) cp.kind);have I3:Inv X vA σ (upd H2 s2.heap.objs.size (.lst [])) { s2 with heap:=s2.heap.push { cls:=.type "list",data:=.seq ([]:List Value).toArray } }:=I2.lnew (t':=s2.toks) .nil (Nat.zero_le _);have bl:∀b∈fp,b < s2.heap.objs.size:=λb hb=>by
  obtain ⟨o,e,_⟩:=Tn.obj 0 _ t0 b hb;exact Heap.lt_size e
 have ha0:H2 s2.heap.objs.size=none:=I2.hok.fresh (Nat.le_refl _);generalize hA:s2.heap.objs.size=a at *;have f3:∀b∈fp,eX X vA (upd H2 a (.lst [])) b:=λb hb=>⟨by rw [aM (Nat.ne_of_lt (bl b hb))];exact (f2 b hb).1,(f2 b hb).2⟩
 have hs3:(s2.heap.push { cls:=.type "list",data:=.seq ([]:List Value).toArray }).objs.size=a+1:=by rw [Heap.size_push,hA]
 generalize hH:s2.heap.push { cls:=.type "list",data:=.seq ([]:List Value).toArray }=hp3 at *;have up3:∀b o,s2.heap.get? b=some o->hp3.get? b=some o:=λb o e=>hH ▸ Heap.get?_push_of_some _ e
 have k3:∀b o,hp3.get? b=some o->h'.get? b=some o:=λb o e=>
  hsb.extBut b o (Nat.ne_of_lt (Heap.lt_size e)) (Heap.get?_push_of_some _ e)
 have t1:tn 0 h':=Tn.keep 0 _ _ t0 λb hb o e=>k3 b o (up3 b o e)
 generalize hC:hp3.objs.size=C at *;have I4:∃w0:L2.St,w0.length=pre/\Inv (CxC X N scope cl C { s2 with heap:=hp3 } (upd H2 a (.lst [])) fp) [] (w0++vH.map λi=>σ.getD i none) (upd H2 a (.lst [])) { s2 with heap:=h',toks:=s2.toks+([]:List (Str×Value)).length }:=by
  have:=A3 (ex:=fp) (tk:=s2.toks+([]:List (Str×Value)).length) (h':=h') I3 cp h1 h2 (λb hb=>⟨f3 b hb,by show b < hp3.objs.size;rw [hC,hs3];exact Nat.lt_succ_of_lt (bl b hb)⟩) (by show h'.Ns hp3.objs.size _;rw [hC];exact hns) k3;have e:({ s2 with heap:=hp3 }:Shared).heap.objs.size=C:=hC;rw [e] at this;exact hI this
 obtain ⟨w0,hw0,I4⟩:=I4;have sm0:Same H2 (upd H2 a (.lst [])):=λb o e=>by
  have:b≠a:=λz=>by rw [z,ha0] at e;cases e
  rw [aM this];exact e
 have Icf:eX X vA (upd H2 a (.lst [])) C:=I3.fpOk (by show hp3.objs.size<=C;rw [hC];exact Nat.le_refl _) I4.free;have fpc:∀{pn:List (Addr×Obj)} {H:Hp},(∀b∈fp,H b=none)->(∀b∈fp,∀p∈pn,p.1≠b)->∀b∈fp,eX (CxC X N scope cl C { s2 with heap:=hp3 } (upd H2 a (.lst [])) fp) pn H b:=λhn hp b hb=>
  ⟨hn b hb,(I4.ok.exf b hb).1,I4.ok.exfs b hb,.inl hb,(I4.ok.exf b hb).2,hp b hb⟩
 have loop:∀s':Shared,s'={ s2 with heap:=h',toks:=s2.toks+([]:List (Str×Value)).length } ->
  codeAny (model X.prog X.w) X.A (.compLoop (.ListComp elt [⟨tg,iter,ifs,0⟩] scope pos) 0 (.ref it) (.ref a) (compEnvC scope cl C X.env)) (RR (.ref a) C) s':=by
  rintro s' rfl;refine L5 (λn s'=>∃(i:Nat) (w:L2.St) (H':Hp) (vs:List V),n=ds.length-i/\i<=ds.length/\w.length=pre/\Inv (CxC X N scope cl C { s2 with heap:=hp3 } (upd H2 a (.lst [])) fp) [] (w++vH.map λi=>σ.getD i none) H' s'/\tn i s'.heap/\(∀b∈fp,H' b=none) /\
   Same H2 H'/\H' a=some (.lst vs)/\∃xs,cS step (ds.take i)=some xs/\RepL T X.K H' xs vs) ?_ ds.length ⟨0,w0,_,[],rfl,Nat.zero_le _,hw0,I4,t1,λb hb=>(f3 b hb).1,sm0,cR,[],by rw [List.take_zero];rfl,rfl⟩
  rintro n s' ⟨i,w,H',vs,rfl,hi,hw,I',ti,fn,sm,hv,xs,ex,rp⟩;obtain ⟨w1,w2⟩:=wk i H' (Pers.of sm) (fr.trans sm);by_cases hlt:i < ds.length
  ·obtain ⟨d,e1⟩:∃d,ds[i]?=some d:=⟨ds[i],by simp [hlt]⟩
   obtain ⟨go,yl⟩:=w1 d e1;have tk1:ds.take (i+1)=ds.take i++[d]:=by
    obtain ⟨q1,q2⟩:=List.getElem?_eq_some_iff.mp e1;rw [List.take_succ_eq_append_getElem q1,q2]
   obtain ⟨xs',ex'⟩:=LH (a:=ds.take (i+1)) (b:=ds.drop (i+1)) (by rw [List.take_append_drop];exact hm);have stp:=LI ex (by rw [<-tk1];exact ex');refine wpAny_mono (Tn.item ((CxC X N scope cl C { s2 with heap:=hp3 } (upd H2 a (.lst [])) fp).wish λ_ _=>False) rfl rfl rfl hc i [] s' _ H' (λ_ _=>False) (I'.wish _) (fpc fn λ_ _ p hp=>by cases hp) ti go) (λr s1 h=>?_) λ_ _ z=>z.elim
   obtain ⟨u,rfl,h⟩:=h;refine wpAny_mono h (λ_ s5 h5=>?_) λ_ _ z=>z.elim
   obtain ⟨y,H5,I5,r5,y5,t5,f5⟩:=h5;obtain ⟨s5',rd⟩:=yl y H5 y5;have I5':=I5.pinned (fpc f5 λ_ _ p hp=>by cases hp) (Tn.obj _ _ t5);obtain ⟨r,er,rfl⟩:=stp;have lv:vs.length<=i:=by rw [RepL.length _ _ rp];exact Nat.le_trans (LJ ex) (by rw [List.length_take];exact Nat.min_le_left _ _)
   refine wpAny_mono (body C { s2 with heap:=hp3 } (upd H2 a (.lst [])) _ w H5 s5 y u d r hw I5' r5 rd (sm.trans s5') er) (λ_ s6 h6=>wpAny_mono h6 (λok s7 h7=>?_) λ_ _ z=>z.elim) λ_ _ z=>z.elim
   obtain ⟨w',H7,hw',I7,sm7,h7⟩:=h7;cases r with
   | none=>
    obtain rfl:ok=false:=h7;show ∃m,m < ds.length-i/\_;refine ⟨ds.length-(i+1),by omega,i+1,w',H7,vs,rfl,hlt,hw',I7.unwish.unpinned,?_,λb hb=>?_,λb o q=>sm7 _ _ (s5' _ _ (sm _ _ q)),sm7 _ _ (s5' _ _ hv),_,ex',by rw [Option.toList_none,List.append_nil];exact RepL.mono sm7 _ _ (RepL.mono s5' _ _ rp)⟩
    ·exact Tn.keep _ _ _ t5 λb hb o q=>(I7.pin (b,o) (List.mem_append_right _ (List.mem_append_right _ (mB hb q)))).1
    ·obtain ⟨o,q,d'⟩:=Tn.obj _ _ t5 b hb;exact (I7.pin (b,o) (List.mem_append_right _ (List.mem_append_right _ (mB hb q)))).2.1
   | some e=>
    obtain ⟨rfl,h7⟩:ok=true/\_:=h7;show wpAny (model X.prog X.w) X.A (eval elt (compEnvC scope cl C X.env)) _ _ s7;refine wpAny_mono h7 (λu7 s8 h8=>?_) λ_ _ z=>z.elim
    obtain ⟨v7,H8,I8,r7,sm8,rp7⟩:=h8;have hv7:H8 a=some (.lst vs):=sm8 _ _ (sm7 _ _ (s5' _ _ hv));refine wpAny_mono (GV (X:=(CxC X N scope cl C { s2 with heap:=hp3 } (upd H2 a (.lst [])) fp).wish λ_ _=>False) _ s8 _ H8 (.ref a) [v7] (.ref a) [u7] (λ_ H9=>H9=upd H8 a (.lst (vs++[v7]))) I8 rfl (.cons r7 .nil) ⟨a,vs,v7,rfl,rfl,hv7,Nat.lt_of_le_of_lt lv (Nat.lt_of_lt_of_le hlt (Nat.le_trans hl (by unfold sizeLine;decide))),rfl⟩) (λ_ s9 h9=>?_) λ_ _ z=>z.elim
    obtain ⟨_,H9,I9,_,rfl⟩:=h9;have p8:Pers T false H8 (upd H8 a (.lst (vs++[v7]))):=mM hv7;refine ⟨ds.length-(i+1),by omega,i+1,w',_,vs++[v7],rfl,hlt,hw',I9.unwish.unpinned,?_,λb hb=>?_,λb o q=>?_,cR,xs++[e],ex',?_⟩
    ·exact Tn.keep _ _ _ t5 λb hb o q=>(I9.pin (b,o) (List.mem_append_right _ (List.mem_append_right _ (mB hb q)))).1
    ·obtain ⟨o,q,d'⟩:=Tn.obj _ _ t5 b hb;exact (I9.pin (b,o) (List.mem_append_right _ (List.mem_append_right _ (mB hb q)))).2.1
    ·have:b≠a:=λz=>by rw [z,ha0] at q;cases q
     rw [aM this];exact sm8 _ _ (sm7 _ _ (s5' _ _ (sm _ _ q)))
    ·exact RepL.append _ _ _ _ (RepL.pers p8 _ _ (RepL.mono sm8 _ _ (RepL.mono sm7 _ _ (RepL.mono s5' _ _ rp)))) ⟨v7,[],rfl,Rep.pers p8 _ _ rp7,rfl⟩
  ·have e:i=ds.length:=by omega
   refine wpAny_mono (Tn.done ((CxC X N scope cl C { s2 with heap:=hp3 } (upd H2 a (.lst [])) fp).wish λ_ _=>False) rfl rfl rfl hc i [] s' _ H' (λ_ _=>False) (I'.wish _) (fpc fn λ_ _ p hp=>by cases hp) ti (w2 (by omega))) (λr s1 h=>?_) λ_ _ z=>z.elim
   obtain ⟨rfl,I1⟩:=h;have I1:=I1.unwish;obtain ⟨m',hn,_⟩:=I1.loc;refine hRR a C s1 m' H' vs (hun I3 I1 f3) ⟨I1.free,Icf.2⟩ hn sm ha0 hv ?_;have:ds.take i=ds:=by rw [List.take_of_length_le (by omega)]
   rw [this,hm] at ex;cases ex;exact rp
 exact codeAny_compStart_list (loop _ rfl) (Tn.self _ 0 _ _ _ t1 (loop _ rfl))
end
@[simp] def iI:Out D->Option (Option D)
 | .ok e=>some (some e)
 | _=>none
@[simp] def pI (ft:Ro->Out Bool) (fe:Ev) (ρ:Ro):Option (Option D):=match ft ρ with
 | .ok true=>iI (fe ρ)
 | .ok false=>some none
 | _=>none
theorem LK (f:D->Out D):∀ds:List D,eR f ds=cS (λd=>iI (f d)) ds
 | []=>rfl
 | d::ds=>by
  rw [eR,cS,LK f ds];cases f d with
  | ok e=>show _=(match cS (λd=>iI (f d)) ds with | some es=>some ([e]++es) | none=>none);cases cS (λd=>iI (f d)) ds<;>rfl
  | exc c=>rfl
  | bad=>rfl
def tV (t:D->Out Bool) (f:D->Out D) (d:D):Option (Option D):=match t d with
 | .ok true=>iI (f d)
 | .ok false=>some none
 | _=>none
theorem zV (t:D->Out Bool) (f:D->Out D):∀ds:List D,iS t f ds=cS (tV t f) ds
 | []=>rfl
 | d::ds=>by
  rw [iS,cS,zV t f ds];generalize cS (tV t f) ds=z;unfold tV;cases t d with
  | ok b=>
   cases b with
   | false=>cases z<;>rfl
   | true=>
    cases f d with
    | ok e=>cases z<;>rfl
    | exc c=>rfl
    | bad=>rfl
  | exc c=>rfl
  | bad=>rfl
@[simp] def tW (stp:Ro->Option (Option D)) (vH:List Nat) (ρ:Ro):D->Option (Option D)
 | .tup [d1,d2]=>stp (pG vH ρ d1 d2)
 | _=>none
section
variable {T T0:Tb} {X:Cx} {elt iter tst:Expr} {ifs:List Expr} {x x2:Str} {px px2 pos pt:Pos} {kk pre:Nat} {N ys:List Str} {scope:Scope} {vH:List Nat} {stp:Ro->Option (Option D)} {cl:List (Str×Addr)} {σ cs:L2.St} {G H2:Hp} {fp:List Addr} {ρ:Ro} {fe:Ev} {ft:Ro->Out Bool}
def Tail (X:Cx) (T T0:Tb) (N:List Str) (scope:Scope) (cl:List (Str×Addr)) (fp:List Addr) (elt:Expr) (ifs:List Expr) (stp:Ro->Option (Option D)):Prop:=
 ∀(C:Addr) (s₀:Shared) (H₀:Hp) (pn:List (Addr×Obj)) (w:L2.St) (H6:Hp) (s6:Shared) (ρ6:Ro) (r:Option D),Inv ((CxC X N scope cl C s₀ H₀ fp).wish λ_ _=>False) pn w H6 s6->FR T0 X.K (λ_=>none) H6 w ρ6->stp ρ6=some r ->
  wpAny (model X.prog X.w) X.A (forIn ifs true λc r=>if r=true then do let ok <-isTrue c (compEnvC scope cl C X.env) (eval c (compEnvC scope cl C X.env));pure (ForInStep.yield ok) else pure (ForInStep.yield r)) (λok s7=>
   ∃(H7:Hp),Inv ((CxC X N scope cl C s₀ H₀ fp).wish λ_ _=>False) pn w H7 s7/\Same H6 H7/\(match r with
    | none=>ok=false
    | some e=>ok=true/\wpAny (model X.prog X.w) X.A (eval elt (compEnvC scope cl C X.env)) (λu7 s8=>∃v7 H8,Inv ((CxC X N scope cl C s₀ H₀ fp).wish λ_ _=>False) pn w H8 s8/\RelV v7 u7/\Same H7 H8/\Rep T X.K H8 e v7) (λ_ _=>False) s7)) (λ_ _=>False) s6
theorem LM (hT:T0={ T with me:=none }) (he:∀(cl:List (Str×Addr)) (C:Addr) (s₀:Shared) (H₀:Hp) (ex:List Addr),DE T0 (CxC X N scope cl C s₀ H₀ ex) elt fe) {C:Addr} {s₀:Shared} {H₀ H6:Hp} {pn:List (Addr×Obj)} {w:L2.St} {s6:Shared} {ρ6:Ro} {e:D}
 (I6:Inv ((CxC X N scope cl C s₀ H₀ fp).wish λ_ _=>False) pn w H6 s6) (fr6:FR T0 X.K (λ_=>none) H6 w ρ6) (ef:fe ρ6=.ok e) :
 wpAny (model X.prog X.w) X.A (eval elt (compEnvC scope cl C X.env)) (λu7 s8=>∃v7 H8,Inv ((CxC X N scope cl C s₀ H₀ fp).wish λ_ _=>False) pn w H8 s8/\RelV v7 u7/\Same H6 H8/\Rep T X.K H8 e v7) (λ_ _=>False) s6:=by
 refine wpAny_mono ((he cl C s₀ H₀ fp).run (λ_=>none) (λ_ _=>False) PassesOwn.never pn s6 w H6 (λv H7=>Same H6 H7/\Rep T0 X.K H7 e v) I6 ⟨ρ6,fr6,by rw [ef];exact λv H7 s7 r7=>⟨s7,r7⟩⟩) (λu7 s7 h7=>?_) λ_ _ z=>z.elim
 obtain ⟨v7,H7,I7,r7,sm7,rp7⟩:=h7;exact ⟨v7,H7,I7,r7,sm7,by subst hT;exact (jI _ _).mp rp7⟩
theorem tail0 (hT:T0={ T with me:=none }) (he:∀(cl:List (Str×Addr)) (C:Addr) (s₀:Shared) (H₀:Hp) (ex:List Addr),DE T0 (CxC X N scope cl C s₀ H₀ ex) elt fe):Tail X T T0 N scope cl fp elt [] fun ρ6=>iI (fe ρ6):=λC s₀ H₀ pn w H6 s6 ρ6 r I6 fr6 er=>by
 have er:iI (fe ρ6)=some r:=er;cases ef:fe ρ6 with
 | ok e=>
  rw [ef] at er;cases er;exact wpAny_pure ⟨H6,I6,Same.refl H6,rfl,LM hT he I6 fr6 ef⟩
 | exc c=>rw [ef] at er;cases er
 | bad=>rw [ef] at er;cases er
theorem tail1 (hT:T0={ T with me:=none }) (he:∀(cl:List (Str×Addr)) (C:Addr) (s₀:Shared) (H₀:Hp) (ex:List Addr),DE T0 (CxC X N scope cl C s₀ H₀ ex) elt fe)
 (ht:∀(cl:List (Str×Addr)) (C:Addr) (s₀:Shared) (H₀:Hp) (ex:List Addr),DT T0 (CxC X N scope cl C s₀ H₀ ex) tst ft):Tail X T T0 N scope cl fp elt [tst] (pI ft fe):=λC s₀ H₀ pn w H6 s6 ρ6 r I6 fr6 er=>by
 have tst1:∀k,ft ρ6=.ok k->wpAny (model X.prog X.w) X.A (isTrue tst (compEnvC scope cl C X.env) (eval tst (compEnvC scope cl C X.env))) (λb s7=>b=k/\∃H7,Inv ((CxC X N scope cl C s₀ H₀ fp).wish λ_ _=>False) pn w H7 s7/\Same H6 H7) (λ_ _=>False) s6:=λk hk=>by
  refine wpAny_mono ((ht cl C s₀ H₀ fp).run (λ_=>none) (λ_ _=>False) PassesOwn.never pn s6 w H6 (λb H7=>b=k/\Same H6 H7) I6 ⟨ρ6,fr6,by rw [hk];exact λH7 s7=>⟨rfl,s7⟩⟩) (λb s7 h7=>?_) λ_ _ z=>z
  obtain ⟨H7,I7,q1,q2⟩:=h7;exact ⟨q1,H7,I7,q2⟩
 unfold pI at er;cases et:ft ρ6 with
 | ok k=>
  rw [et] at er;refine wpAny_bind (wpAny_bind (wpAny_mono (tst1 k et) (λb s7 h7=>?_) λ_ _ z=>z));obtain ⟨rfl,H7,I7,sm⟩:=h7;refine wpAny_pure (wpAny_pure ?_);cases b with
  | false=>cases er;exact ⟨H7,I7,sm,rfl⟩
  | true=>
   cases ef:fe ρ6 with
   | ok e=>
    simp only [ef,iI] at er;cases er;exact ⟨H7,I7,sm,rfl,LM hT he I7 (fr6.mono sm) ef⟩
   | exc c=>simp only [ef,iI] at er;cases er
   | bad=>simp only [ef,iI] at er;cases er
 | exc c=>rw [et] at er;cases er
 | bad=>rw [et] at er;cases er
theorem head1 (hT:T0={ T with me:=none }) (cp:Cap X scope x ys vH) (fr:FR T X.K G H2 σ ρ) (tl:Tail X T T0 (x::ys) scope cl fp elt ifs stp):tU X T (x::ys) scope cl fp H2 (vH.map λi=>σ.getD i none) 1 (.Name x px) elt ifs (λd=>stp (cG vH ρ d)):=λC s₀ H₀ pn w H5 s5 y u d r hw I5 r5 rd sm er=>by
 obtain ⟨w0,rfl⟩:=List.length_eq_one_iff.mp hw;have own:(CxC X (x::ys) scope cl C s₀ H₀ fp).env.scope.names.lookup x=some .local:=lookup_relabel_local cp.own;refine wpAny_mono (lZ (X:=(CxC X (x::ys) scope cl C s₀ H₀ fp).wish λ_ _=>False) (i:=0) cp.nodup rfl (.inl own) (.inr own) pn s5 _ H5 y u (fun σ' H''=>σ'=some y::vH.map (λi=>σ.getD i none)/\H''=H5) I5 r5 ⟨rfl,rfl⟩) (λ_ s6 h6=>?_) λ_ _ z=>z.elim
 obtain ⟨σ6,H6,I6,rfl,rfl⟩:=h6;refine wpAny_mono (tl C s₀ H₀ pn _ H6 s6 (cG vH ρ d) r I6 (IR (w:=w0) hT fr (Pers.of sm) rd) er) (λok s7 h7=>?_) λ_ _ z=>z
 obtain ⟨H7,I7,sm7,h7⟩:=h7;exact ⟨[some y],H7,rfl,I7,sm7,h7⟩
theorem head2 (hT:T0={ T with me:=none }) (hc:X.calm=true) (cp:Cap X scope x ys vH) (own2:scope.names.lookup x2=some .local) (nd2:(x::x2::ys).Nodup) (fr:FR T X.K G H2 σ ρ) (tl:Tail X T T0 (x::x2::ys) scope cl fp elt ifs stp) :
 tU X T (x::x2::ys) scope cl fp H2 (vH.map λi=>σ.getD i none) 2 (.Tuple [.Name x px,.Name x2 px2] kk pt) elt ifs (tW stp vH ρ):=λC s₀ H₀ pn w H5 s5 y u d r hw I5 r5 rd sm er=>by
 have own:(CxC X (x::x2::ys) scope cl C s₀ H₀ fp).env.scope.names.lookup x=some .local:=lookup_relabel_local cp.own;have own2':(CxC X (x::x2::ys) scope cl C s₀ H₀ fp).env.scope.names.lookup x2=some .local:=lookup_relabel_local own2;unfold tW at er
 split at er
 ·rename_i d1 d2
  obtain ⟨p,vs2,rfl,sq,v1,r1,rfl,rd1,v2,r2,rfl,rd2,rfl⟩:=rd;obtain ⟨a0,b0,rfl⟩:∃a0 b0,w=[a0,b0]:=by
   match w,hw with
   | [a0,b0],_=>exact ⟨a0,b0,rfl⟩
  refine wpAny_mono (FT (X:=(CxC X (x::x2::ys) scope cl C s₀ H₀ fp).wish λ_ _=>False) (n:=2) hc (xI (lZ (X:=(CxC X (x::x2::ys) scope cl C s₀ H₀ fp).wish λ_ _=>False) (i:=0) nd2 rfl (.inl own) (.inr own)) (xI (lZ (X:=(CxC X (x::x2::ys) scope cl C s₀ H₀ fp).wish λ_ _=>False) (i:=1) nd2 rfl (.inl own2') (.inr own2')) FS)) rfl rfl pn s5 _ H5 _ u (fun σ' H''=>σ'=some v1::some v2::vH.map (λi=>σ.getD i none)/\H''=H5) I5 r5 ⟨p,[v1,v2],rfl,sq,rfl,v1,[v2],rfl,v2,[],rfl,rfl,rfl,rfl⟩) (λ_ s6 h6=>?_) λ_ _ z=>z.elim
  obtain ⟨σ6,H6,I6,rfl,rfl⟩:=h6;refine wpAny_mono (tl C s₀ H₀ pn _ H6 s6 (pG vH ρ d1 d2) r I6 (L4 hT fr (Pers.of sm) rd1 rd2) er) (λok s7 h7=>?_) λ_ _ z=>z
  obtain ⟨H7,I7,sm7,h7⟩:=h7;exact ⟨[some v1,some v2],H7,rfl,I7,sm7,h7⟩
 ·cases er
end
structure DC (T:Tb) (X:Cx) (e:Expr) (scope:Scope) (gs:List Comprehension) (pos:Pos) (f:Ro->Out (List D)):Prop where
 mk ::
 run:∀(G:Hp) (E:Value->Shared->Prop),PassesOwn (model X.prog X.w) X.A X.env E->CompOk (X.wish E) (.ListComp e gs scope pos) scope (firstIterPos gs pos) (firstIter gs X.env) (tF T X G E f)
def lP (fl:Ro->Out (List D)) (step:Ro->D->Option (Option D)) (ρ:Ro):Out (List D):=(fl ρ).bind λds=>if ds.length<=1000000 then (match cS (step ρ) ds with | some es=>.ok es | none=>.bad) else .bad
section
variable {T T0:Tb} {X:Cx} {elt tg iter tst:Expr} {ifs:List Expr} {x x2 y:Str} {px px2 pos pt py spos:Pos} {kk:Nat} {N ys zs:List Str} {pre:Nat} {scope:Scope} {vH:List Nat} {fe:Ev} {ft:Ro->Out Bool} {fl f:Ro->Out (List D)} {step:Ro->D->Option (Option D)} {gs:List Comprehension}
theorem zW (hc:X.calm=true) (hi:DI T X tg iter fl) (cp:Cap X scope x ys vH)
 (hI:∀{cl:List (Str×Addr)} {fp:List Addr} {cs:L2.St} {C:Addr} {s₀:Shared} {H₀ H:Hp} {s:Shared},Inv (CxC X (x::ys) scope cl C s₀ H₀ fp) [] (none::cs) H s->∃w0:L2.St,w0.length=pre/\Inv (CxC X (x::zs) scope cl C s₀ H₀ fp) [] (w0++cs) H s)
 (body:∀{cl:List (Str×Addr)} {fp:List Addr} {G H2:Hp} {σ:L2.St} {ρ:Ro},FR T X.K G H2 σ ρ->tU X T (x::zs) scope cl fp H2 (vH.map λi=>σ.getD i none) pre tg elt ifs (step ρ))
 (hs:∀x,foldedSetIterable iter X.env x=pure x):DC T X elt scope [⟨tg,iter,ifs,0⟩] pos (lP fl step):=.mk λG E hp=>by
 rintro vA s σ H Q use QQ I ⟨ρ,fr,h⟩ k;obtain ⟨cl,hclos,h1,h2⟩:=A1 X.env scope λy hy hf=>I.ok.has y.1 (cp.free y hy hf)
 refine wpAny_comprehension_free rfl hs hclos cp.kind cp.names ?_;refine wpAny_mono (hi.run G E hp vA s σ H (λJ H'=>∃ds es,Same H H'/\Walk T X.K G J ds H'/\cS (step ρ) ds=some es/\ds.length<=1000000/\∀a vs H'',Same H H''->H a=none->H'' a=some (.lst vs)->RepL T X.K H'' es vs->Q (.ref a) H'') I
  ⟨ρ,fr,Acc.mono (Acc.bind h) λds _ hd J H1 s1 wk=>?_⟩) (λv s1 h1'=>wpAny_mono h1' (λitv s2 h2'=>?_) λ_ _ z=>z) λ_ _ z=>z
 ·by_cases hl:ds.length<=1000000
  ·rw [if_pos hl] at hd;cases hm:cS (step ρ) ds with
   | none=>rw [hm] at hd;exact hd.elim
   | some es=>
    rw [hm] at hd;exact ⟨ds,es,s1,wk,hm,hl,hd⟩
  ·rw [if_neg hl] at hd;exact hd.elim
 ·obtain ⟨it,fp,tn,J,H2,rfl,I2,Tn,t0,f2,ds,es,sm,wk,hm,hl,kq⟩:=h2';refine O5 (X:=X) (E:=E) (G:=G) (RR:=λvJ C=>compPost (model X.prog X.w) X.A E use QQ vJ C) hc cp h1 h2 hI (body (fr.mono sm)) (λa b c=>A4 a b c) I2.unwish Tn t0 f2 (fr.same.trans sm) wk hm hl ?_;intro a C s' m' Hn vs I' f hn smn ha hv rp;exact k a C s' m' Hn (I'.wish E) f hn (kq a vs Hn (sm.trans smn) (sm.free ha) hv rp)
theorem O6 (fl:Ro->Out (List D)) (vH:List Nat) (fe:Ev):bJ fl vH fe=lP fl fun ρ d=>iI (fe (cG vH ρ d)):=by
 funext ρ
 unfold bJ lP;simp only [LK]<;>rfl
theorem O7 (fl:Ro->Out (List D)) (vH:List Nat) (ft:Ro->Out Bool) (fe:Ev):mY fl vH ft fe=lP fl fun ρ d=>pI ft fe (cG vH ρ d):=by
 funext ρ
 unfold mY lP;simp only [zV]<;>rfl
theorem O8 (fl:Ro->Out (List D)) (vH:List Nat) (ft:Ro->Out Bool) (fe:Ev):nC fl vH ft fe=lP fl fun ρ=>tW (pI ft fe) vH ρ:=by
 funext ρ
 unfold nC lP;simp only [zV];have e:tV (tup2 ft vH ρ) (tup2 fe vH ρ)=tW (pI ft fe) vH ρ:=by
  funext d
  match d with
  | .tup [_,_]=>rfl
  | .tup []=>rfl
  | .tup [_]=>rfl
  | .tup (_::_::_::_)=>rfl
  | .non=>rfl
  | .bl _=>rfl
  | .int _=>rfl
  | .str _=>rfl
  | .lst _=>rfl
  | .ins _ _=>rfl
  | .exc _=>rfl
 rw [e]<;>rfl
theorem dX (hT:T0={ T with me:=none }) (hc:X.calm=true) (hi:DI T X (.Name x px) iter fl) (cp:Cap X scope x ys vH)
 (he:∀(cl:List (Str×Addr)) (C:Addr) (s₀:Shared) (H₀:Hp) (ex:List Addr),DE T0 (CxC X (x::ys) scope cl C s₀ H₀ ex) elt fe) (hs:∀x,foldedSetIterable iter X.env x=pure x:=by intro _;rfl):DC T X elt scope [⟨.Name x px,iter,[],0⟩] pos (bJ fl vH fe):=by
 rw [O6];exact zW hc hi cp (λI=>⟨[none],rfl,I⟩) (λfr=>head1 hT cp fr (tail0 hT he)) hs
theorem O9 (hT:T0={ T with me:=none }) (hc:X.calm=true) (hi:DI T X (.Name x px) iter fl) (cp:Cap X scope x ys vH)
 (he:∀(cl:List (Str×Addr)) (C:Addr) (s₀:Shared) (H₀:Hp) (ex:List Addr),DE T0 (CxC X (x::ys) scope cl C s₀ H₀ ex) elt fe) (ht:∀(cl:List (Str×Addr)) (C:Addr) (s₀:Shared) (H₀:Hp) (ex:List Addr),DT T0 (CxC X (x::ys) scope cl C s₀ H₀ ex) tst ft)
 (hs:∀x,foldedSetIterable iter X.env x=pure x:=by intro _;rfl):DC T X elt scope [⟨.Name x px,iter,[tst],0⟩] pos (mY fl vH ft fe):=by
 rw [O7];exact zW hc hi cp (λI=>⟨[none],rfl,I⟩) (λfr=>head1 hT cp fr (tail1 hT he ht)) hs
theorem P0 (hT:T0={ T with me:=none }) (hc:X.calm=true) (hi:DI T X (.Tuple [.Name x px,.Name x2 px2] kk pt) iter fl) (cp:Cap X scope x ys vH)
 (he:∀(cl:List (Str×Addr)) (C:Addr) (s₀:Shared) (H₀:Hp) (ex:List Addr),DE T0 (CxC X (x::x2::ys) scope cl C s₀ H₀ ex) elt fe) (ht:∀(cl:List (Str×Addr)) (C:Addr) (s₀:Shared) (H₀:Hp) (ex:List Addr),DT T0 (CxC X (x::x2::ys) scope cl C s₀ H₀ ex) tst ft)
 (own2:scope.names.lookup x2=some .local:=by rfl) (nd2:(x::x2::ys).Nodup:=by decide) (hs:∀x,foldedSetIterable iter X.env x=pure x:=by intro _;rfl):DC T X elt scope [⟨.Tuple [.Name x px,.Name x2 px2] kk pt,iter,[tst],0⟩] pos (nC fl vH ft fe):=by
 rw [O8];exact zW hc hi cp (λI=>⟨[none,none],rfl,K9 I⟩) (λfr=>head2 hT hc cp own2 nd2 fr (tail1 hT he ht)) hs
theorem DC.df (h:DC T X elt scope gs pos f) (ha:firstAsync gs=false:=by rfl):DF T X (.ListComp elt gs scope pos) f:=.mk λG E hp=>CompOk.pe (X:=X.wish E) (h.run G E hp) ha
variable {ib:Bool}
theorem DC.set (i:Nat) (hN:X.N.Nodup) (h:DC T X elt scope gs pos f) (hiN:X.N[i]?=some y:=by rfl) (hy:Loc X.env.scope y:=by walk_at "v3")
 (hf:X.fn y=true∨X.env.scope.names.lookup y=some .local:=by walk_at "v2")
 (hz:T.me=none∨i≠0:=by walk_at "v1")
 (hsw:swapsWith (.ListComp elt gs scope pos) (some (.Name y py)) spos.line X.env=pure true:=by rfl) (ha:firstAsync gs=false:=by rfl) :
 DS T ib X (.Assign [.Name y py] (.ListComp elt gs scope pos) spos) (eQ i (fun ρ=>(f ρ).bind λds=>.ok (.fr ds))):=.mk λG E hp=>
 PS.imp (CompOk.ps (X:=X.wish E) (i:=i) (h.run G E hp) hN hiN hy hf hsw ha) λD σ H ⟨ρ,fr,h⟩=>⟨ρ,fr,Acc.mono (Acc.bind (AccS.fl fr h)) λds _ hd a vs H1 s1 ha ha' r=>
  hd _ _ ((fr.mono s1).set_ow ha' (fr.same.free ha) r (λj es _ e=>yF (H1:=H1) fr s1 ha j es e) hz) (Pers.of s1)⟩
theorem DC.setF (i:Nat) (hN:X.N.Nodup) (h:DC T X elt scope gs pos f) (hiN:X.N[i]?=some y:=by rfl) (hy:Loc X.env.scope y:=by walk_at "v3")
 (hf:X.fn y=true∨X.env.scope.names.lookup y=some .local:=by walk_at "v2")
 (hz:T.me=none∨i≠0:=by walk_at "v1")
 (hsw:swapsWith (.ListComp elt gs scope pos) (some (.Name y py)) spos.line X.env=pure true:=by rfl) (ha:firstAsync gs=false:=by rfl) :
 DS T ib X (.Assign [.Name y py] (.ListComp elt gs scope pos) spos) (aR i (aS f)):=.mk λG E hp=>
 PS.imp (CompOk.ps (X:=X.wish E) (i:=i) (CompOk.freeze (h.run G E hp)) hN hiN hy hf hsw ha) λD σ H ⟨ρ,fr,h⟩=>⟨ρ,fr,Acc.mono (Acc.bind (AccS.fl fr h)) λds _ hd a vs H1 s1 ha ha' r=>⟨a,vs,rfl,ha',λo=>by
  have s2:Same H (upd H1 a (.frz o (.lst vs))):=λb u e=>by
   rw [aM (λz=>by rw [z,ha] at e;cases e)];exact s1 b u e
  exact hd _ _ ((fr.mono s2).set_sh ⟨a,vs,rfl,.inl ⟨o,cR⟩,RepL.froz ha' _ _ r⟩ hz) (Pers.of s2)⟩⟩
end
structure Cal (K:PySem.W.Frag) (mg:Str->Option Value) (f:Addr) (fd:FuncData) (x:Str) (ps:List Str):Prop where
 m:mg x=some (.ref f)
 k:PySem.W.keepIn K (.ref f)=true
 b:Binds K fd ps []
theorem aU {T:Tb} {X:Cx} {e:Expr} {es:List Expr} {pos p:Pos} {fs:Ro->Out (List Sl)} {k n:Nat} {f:Addr} {fd:FuncData} {ps:List Str} {F:Fn} {x:Str} (FO:bB X.prog X.w X.K X.mg X.base (CXE T X.prog X.w) k f fd ps (spD T X.K ps.length F)) (hr:Room k X.A) (c:Cal X.K X.mg f fd x ps) (ha:DG T X (e::es) fs)
 (hg:Gl X x:=by rfl) (hn:n=ps.length:=by rfl) (hdb:(x==("__debug__" : Str))=false:=by decide) (he:starEach (e::es) X.env=(false,eval e X.env)::starEach es X.env:=by exact cM rfl) (hpl:(backTo pos (starEach es X.env)).any (·.1)=false:=by exact dL rfl) :
 DR T X (.Call (.Name x p) (e::es) [] pos) (oN (n:=n) F [] fs):=d6 FO hr hg c.m c.k c.b .nil (λ_=>rfl) hn ha hdb he hpl
end L3
namespace L3
open PySem L2
theorem P1 {l:PySem.W.OpenLaw} {k:Nat} {q:Program} {loose:List Str} {XP:(Str->Option Value)->Heap->Prop} {YP:World->Heap->Prop} {d:DefRec} {x:Str} {F:Fn}
 (hn:l.most=some 63) (hdf:d.params.defaults=[]) (hr:Room k callerA)
 (FF:∀(w:World) (mg:Str->Option Value) (fa:Addr) (h:Heap),YP w h->h.Ns mainGlobals mg->mg d.name=some (.ref fa) ->
  ∃K:PySem.W.Frag,K.In h/\∃fd:FuncData,(∀(s:Shared) (u:Value),BindsTo s fd ⟨[u],[]⟩ [(x,u)])/\∃T:Tb,∀base:Heap,K.In base->base.Ns mainGlobals mg->bB l.prog w K mg base (CXE T l.prog w) k fa fd [x] (spD T K 1 F))
 (hL:∀ns:List Int,ns.length<=63->F [.sh (.lst (ns.map D.int))]=.ok (.sh (.bl true))) :
 PySem.W.WalkO q loose XP YP l.row.toRowW d [] (λf vs=>PySem.call f vs):=by
 refine Att.attach_call hn hdf λw s₀ s₁ mg mb fa o pm cd doc a vs ns G Y ho hd hcd hmg hobj hints hlen hg=>?_
 obtain ⟨K,KX,fd,hb,T,hF⟩:=FF w mg fa _ Y G.T.g hmg;refine ZT KX G.T.g G.T.b G.T.builtins G.T.nolimit hg hobj hints (Nat.le_trans hlen (by rw [sizeLine_eq];decide)) hr hF hb (λH hO hS=>?_) λH e s' h=>?_
 ·refine ⟨[.sh (.lst (ns.map D.int))],⟨_,[],rfl,⟨a,ns.map V.int,rfl,?_,RepL.ints ns⟩,rfl⟩,rfl,?_⟩
  ·rcases hS with (h | ⟨ob,h⟩) | h
   ·rcases hO a with z | ⟨_,_,z⟩
    ·rw [h] at z;cases z
    ·rw [h] at z;cases z
   ·exact .inl ⟨ob,h⟩
   ·exact .inr h
  ·rw [hL ns hlen];exact λv H' _ r=>r
 ·obtain ⟨_,_,_,_,_,_,_,_,_,z⟩:=h;exact z
end L3
namespace Lw
open PySem L2 L3
structure Tx (K:PySem.W.Frag) (mg:Str->Option Value) (fa:Nat->Addr) (fd:Nat->FuncData) (T:Tb):Prop where
 me:T.me=none
 F1:L2.Fun K "check_name" "check_name" s_1 (fa 1) (fd 1)
 c1:Cal K mg (fa 1) (fd 1) "check_name" ["name"]
 F2:L2.Fun K "check_number" "check_number" s_2 (fa 2) (fd 2)
 c2:Cal K mg (fa 2) (fd 2) "check_number" ["number","lowest","highest"]
 F3:L2.Fun K "check_count" "check_count" s_3 (fa 3) (fd 3)
 c3:Cal K mg (fa 3) (fd 3) "check_count" ["count","lowest","highest"]
 F4:L2.Fun K "check_batch" "check_batch" s_4 (fa 4) (fd 4)
 c4:Cal K mg (fa 4) (fd 4) "check_batch" ["batch","count"]
 F5:L2.Fun K "__init__" "Oven.__init__" s_5 (fa 5) (fd 5)
 b5:Binds K (fd 5) ["self","room","rate","heat"] []
 F6:L2.Fun K "__init__" "Order.__init__" s_6 (fa 6) (fd 6)
 b6:Binds K (fd 6) ["self","bread","loaves","due"] []
 F7:L2.Fun K "__init__" "Batch.__init__" s_7 (fa 7) (fd 7)
 b7:Binds K (fd 7) ["self","order","first","loaves"] []
 F8:L2.Fun K "greatest" "greatest" s_8 (fa 8) (fd 8)
 c8:Cal K mg (fa 8) (fd 8) "greatest" ["bakery"]
 F9:L2.Fun K "check_due" "check_due" s_9 (fa 9) (fd 9)
 c9:Cal K mg (fa 9) (fd 9) "check_due" ["due","night"]
 F10:L2.Fun K "accept" "accept" qL (fa 10) (fd 10)
 c10:Cal K mg (fa 10) (fd 10) "accept" ["bakery","orders"]
 F11:L2.Fun K "batches_of" "batches_of" qM (fa 11) (fd 11)
 c11:Cal K mg (fa 11) (fd 11) "batches_of" ["orders","most"]
 F12:L2.Fun K "cut" "cut" qN (fa 12) (fd 12)
 c12:Cal K mg (fa 12) (fd 12) "cut" ["bakery","orders"]
 F13:zD K "__init__" "Run.__init__" qO (fa 13) (fd 13)
 b13:Binds K (fd 13) ["self","begin","lengths","oven"] []
 F16:L2.Fun K "bread_in" "bread_in" qP (fa 16) (fd 16)
 c16:Cal K mg (fa 16) (fd 16) "bread_in" ["bakery","orders","batch"]
 F17:L2.Fun K "narrow" "narrow" qQ (fa 17) (fd 17)
 c17:Cal K mg (fa 17) (fd 17) "narrow" ["bakery","orders"]
 F18:L2.Fun K "steps" "steps" qR (fa 18) (fd 18)
 c18:Cal K mg (fa 18) (fd 18) "steps" ["lowest","highest"]
 F19:L2.Fun K "lengths_within" "lengths_within" qS (fa 19) (fd 19)
 c19:Cal K mg (fa 19) (fd 19) "lengths_within" ["stages","minutes"]
 F20:L2.Fun K "ovens_for" "ovens_for" qT (fa 20) (fd 20)
 c20:Cal K mg (fa 20) (fd 20) "ovens_for" ["bakery","bread","loaves"]
 F21:L2.Fun K "ways_of" "ways_of" qU (fa 21) (fd 21)
 c21:Cal K mg (fa 21) (fd 21) "ways_of" ["bakery","orders","batch"]
 F22:L2.Fun K "ways" "ways" qV (fa 22) (fd 22)
 c22:Cal K mg (fa 22) (fd 22) "ways" ["bakery","orders","batch"]
 F23:L2.Fun K "__init__" "Bakery.__init__" qW (fa 23) (fd 23)
 b23:Binds K (fd 23) ["self","night","hands","benches","ovens","breads"] []
 F24:L2.Fun K "bread_of" "Bakery.bread_of" qX (fa 24) (fd 24)
 b24:Binds K (fd 24) ["self","name"] []
 mt24:Meth K (T.ca 15) "bread_of" (fa 24)
 F25:L2.Fun K "check_names_apart" "check_names_apart" qY (fa 25) (fd 25)
 c25:Cal K mg (fa 25) (fd 25) "check_names_apart" ["names"]
 F26:zD K "__init__" "Stage.__init__" qZ (fa 26) (fd 26)
 b26:Binds K (fd 26) ["self","name","least","most","want","heat"] []
 F27:L2.Fun K "__init__" "Bread.__init__" rA (fa 27) (fd 27)
 b27:Binds K (fd 27) ["self","name","stages"] []
 F30:L2.Fun K "bakes" "Bread.bakes" rB (fa 30) (fd 30)
 b30:Binds K (fd 30) ["self"] []
 mt30:Meth K (T.ca 17) "bakes" (fa 30)
 F31:L2.Fun K "_law_at" "_law_at" rE (fa 31) (fd 31)
 c31:Cal K mg (fa 31) (fd 31) "_law_at" ["_law_script","_law_k"]
 F32:L2.Fun K "_law_whole" "_law_whole" rF (fa 32) (fd 32)
 c32:Cal K mg (fa 32) (fd 32) "_law_whole" ["_law_found"]
 F33:L2.Fun K "_law_is" "_law_is" rG (fa 33) (fd 33)
 c33:Cal K mg (fa 33) (fd 33) "_law_is" ["_law_found","_law_due"]
 F34:L2.Fun K "_law_names" "_law_names" rH (fa 34) (fd 34)
 c34:Cal K mg (fa 34) (fd 34) "_law_names" ["_law_cell","_law_many"]
 F35:L2.Fun K "_law_kilns" "_law_kilns" rJ (fa 35) (fd 35)
 c35:Cal K mg (fa 35) (fd 35) "_law_kilns" ["_law_script"]
 F36:L2.Fun K "_law_stages" "_law_stages" rK (fa 36) (fd 36)
 c36:Cal K mg (fa 36) (fd 36) "_law_stages" ["_law_script","_law_base","_law_many"]
 F37:L2.Fun K "_law_free" "_law_free" rL (fa 37) (fd 37)
 c37:Cal K mg (fa 37) (fd 37) "_law_free" ["_law_script","_law_base","_law_many"]
 F38:L2.Fun K "_law_wishes" "_law_wishes" rM (fa 38) (fd 38)
 c38:Cal K mg (fa 38) (fd 38) "_law_wishes" ["_law_script","_law_night","_law_most","_law_kinds","_law_free_here"]
 F39:L2.Fun K "_law_scene" "_law_scene" rN (fa 39) (fd 39)
 c39:Cal K mg (fa 39) (fd 39) "_law_scene" ["_law_script"]
 F40:L2.Fun K "_law_bakery" "_law_bakery" rO (fa 40) (fd 40)
 c40:Cal K mg (fa 40) (fd 40) "_law_bakery" ["_law_scene_here","_law_names_here"]
 F41:L2.Fun K "_law_orders" "_law_orders" rP (fa 41) (fd 41)
 c41:Cal K mg (fa 41) (fd 41) "_law_orders" ["_law_asked_here","_law_names_here"]
 F42:L2.Fun K "_law_stayed" "_law_stayed" rQ (fa 42) (fd 42)
 c42:Cal K mg (fa 42) (fd 42) "_law_stayed" ["_law_orders_here","_law_asked_here","_law_names_here"]
 F43:L2.Fun K "_law_batches" "_law_batches" rR (fa 43) (fd 43)
 c43:Cal K mg (fa 43) (fd 43) "_law_batches" ["_law_scene_here"]
 F44:L2.Fun K "_law_lengths" "_law_lengths" rS (fa 44) (fd 44)
 c44:Cal K mg (fa 44) (fd 44) "_law_lengths" ["_law_stages_here","_law_left"]
 F45:L2.Fun K "_law_ways" "_law_ways" rT (fa 45) (fd 45)
 c45:Cal K mg (fa 45) (fd 45) "_law_ways" ["_law_scene_here","_law_batch"]
 F46:L2.Fun K "_law_asked" "_law_asked" rV (fa 46) (fd 46)
 c46:Cal K mg (fa 46) (fd 46) "_law_asked" ["_law_bakery_here","_law_orders_here","_law_batch"]
 F47:L2.Fun K "_law_right" "_law_right" rW (fa 47) (fd 47)
 c47:Cal K mg (fa 47) (fd 47) "_law_right" ["_law_found","_law_lot"]
 F48:L2.Fun K "law" "law" rX (fa 48) (fd 48)
 c48:Cal K mg (fa 48) (fd 48) "law" ["_law_script"]
 mC0:mg "DoughError" = some (.ref (T.ca 0))
 xc0:gC K (T.ca 0)
 mC1:mg "BadName" = some (.ref (T.ca 1))
 xc1:gC K (T.ca 1)
 mC2:mg "BadWant" = some (.ref (T.ca 2))
 xc2:gC K (T.ca 2)
 mC3:mg "BadNumber" = some (.ref (T.ca 3))
 xc3:gC K (T.ca 3)
 mC4:mg "BadCount" = some (.ref (T.ca 4))
 xc4:gC K (T.ca 4)
 mC5:mg "TwiceNamed" = some (.ref (T.ca 5))
 xc5:gC K (T.ca 5)
 mC6:mg "NoBread" = some (.ref (T.ca 6))
 xc6:gC K (T.ca 6)
 mC7:mg "BeyondNight" = some (.ref (T.ca 7))
 xc7:gC K (T.ca 7)
 mC8:mg "TooMany" = some (.ref (T.ca 8))
 xc8:gC K (T.ca 8)
 mC9:mg "NoBatch" = some (.ref (T.ca 9))
 xc9:gC K (T.ca 9)
 mC10:mg "TooWide" = some (.ref (T.ca 10))
 xc10:gC K (T.ca 10)
 mC11:mg "Oven" = some (.ref (T.ca 11))
 cC11:Cls K (T.ca 11)
 mk11:Mk K (T.ca 11) (fa 5)
 fl11:T.fl 11=(["room","rate","heat"]:List Str)
 na11_room:NoAttr K (T.ca 11) "room"
 na11_rate:NoAttr K (T.ca 11) "rate"
 na11_heat:NoAttr K (T.ca 11) "heat"
 mC12:mg "Order" = some (.ref (T.ca 12))
 cC12:Cls K (T.ca 12)
 mk12:Mk K (T.ca 12) (fa 6)
 fl12:T.fl 12=(["bread","loaves","due"]:List Str)
 na12_bread:NoAttr K (T.ca 12) "bread"
 na12_loaves:NoAttr K (T.ca 12) "loaves"
 na12_due:NoAttr K (T.ca 12) "due"
 mC13:mg "Batch" = some (.ref (T.ca 13))
 cC13:Cls K (T.ca 13)
 mk13:Mk K (T.ca 13) (fa 7)
 fl13:T.fl 13=(["order","first","loaves"]:List Str)
 na13_order:NoAttr K (T.ca 13) "order"
 na13_first:NoAttr K (T.ca 13) "first"
 na13_loaves:NoAttr K (T.ca 13) "loaves"
 mC14:mg "Run" = some (.ref (T.ca 14))
 cC14:Cls K (T.ca 14)
 mk14:Mk K (T.ca 14) (fa 13)
 fl14:T.fl 14=(["begin","lengths","oven"]:List Str)
 na14_begin:NoAttr K (T.ca 14) "begin"
 na14_lengths:NoAttr K (T.ca 14) "lengths"
 na14_oven:NoAttr K (T.ca 14) "oven"
 ii14:sM K (T.ca 14)
 mC15:mg "Bakery" = some (.ref (T.ca 15))
 cC15:Cls K (T.ca 15)
 mk15:Mk K (T.ca 15) (fa 23)
 fl15:T.fl 15=(["night","hands","benches","ovens","breads"]:List Str)
 na15_night:NoAttr K (T.ca 15) "night"
 na15_hands:NoAttr K (T.ca 15) "hands"
 na15_benches:NoAttr K (T.ca 15) "benches"
 na15_ovens:NoAttr K (T.ca 15) "ovens"
 na15_breads:NoAttr K (T.ca 15) "breads"
 mC16:mg "Stage" = some (.ref (T.ca 16))
 cC16:Cls K (T.ca 16)
 mk16:Mk K (T.ca 16) (fa 26)
 fl16:T.fl 16=(["name","least","most","want","heat"]:List Str)
 na16_name:NoAttr K (T.ca 16) "name"
 na16_least:NoAttr K (T.ca 16) "least"
 na16_most:NoAttr K (T.ca 16) "most"
 na16_want:NoAttr K (T.ca 16) "want"
 na16_heat:NoAttr K (T.ca 16) "heat"
 mC17:mg "Bread" = some (.ref (T.ca 17))
 cC17:Cls K (T.ca 17)
 mk17:Mk K (T.ca 17) (fa 27)
 fl17:T.fl 17=(["name","stages"]:List Str)
 na17_name:NoAttr K (T.ca 17) "name"
 na17_stages:NoAttr K (T.ca 17) "stages"
 exm0_9:PySem.W.exmOne K (.ref (T.ca 0)) (.ref (T.ca 9))=some false
 exm1_9:PySem.W.exmOne K (.ref (T.ca 1)) (.ref (T.ca 9))=some false
 exm2_9:PySem.W.exmOne K (.ref (T.ca 2)) (.ref (T.ca 9))=some false
 exm3_9:PySem.W.exmOne K (.ref (T.ca 3)) (.ref (T.ca 9))=some false
 exm4_9:PySem.W.exmOne K (.ref (T.ca 4)) (.ref (T.ca 9))=some false
 exm5_9:PySem.W.exmOne K (.ref (T.ca 5)) (.ref (T.ca 9))=some false
 exm6_9:PySem.W.exmOne K (.ref (T.ca 6)) (.ref (T.ca 9))=some false
 exm7_9:PySem.W.exmOne K (.ref (T.ca 7)) (.ref (T.ca 9))=some false
 exm8_9:PySem.W.exmOne K (.ref (T.ca 8)) (.ref (T.ca 9))=some false
 exm9_9:PySem.W.exmOne K (.ref (T.ca 9)) (.ref (T.ca 9))=some true
 exm10_9:PySem.W.exmOne K (.ref (T.ca 10)) (.ref (T.ca 9))=some false
 c_FASTEST:∃t,mg "FASTEST" = some (.int 300 t)
 c_HOTTEST:∃t,mg "HOTTEST" = some (.int 300 t)
 c_LETTERS:∃t,mg "LETTERS" = some (.str "abcdefghijklmnopqrstuvwxyz" t)
 c_LONGEST_NAME:∃t,mg "LONGEST_NAME" = some (.int 12 t)
 c_MOST_BATCHES:∃t,mg "MOST_BATCHES" = some (.int 24 t)
 c_MOST_BENCHES:∃t,mg "MOST_BENCHES" = some (.int 6 t)
 c_MOST_BREADS:∃t,mg "MOST_BREADS" = some (.int 8 t)
 c_MOST_HANDS:∃t,mg "MOST_HANDS" = some (.int 6 t)
 c_MOST_LOAVES:∃t,mg "MOST_LOAVES" = some (.int 60 t)
 c_MOST_ORDERS:∃t,mg "MOST_ORDERS" = some (.int 12 t)
 c_MOST_OVENS:∃t,mg "MOST_OVENS" = some (.int 3 t)
 c_MOST_PLANNED:∃t,mg "MOST_PLANNED" = some (.int 3 t)
 c_MOST_ROOM:∃t,mg "MOST_ROOM" = some (.int 30 t)
 c_MOST_STAGES:∃t,mg "MOST_STAGES" = some (.int 6 t)
 c_MOST_STEPPED:∃t,mg "MOST_STEPPED" = some (.int 4 t)
 c_NIGHT:∃t,mg "NIGHT" = some (.int 720 t)
 c_STEP:∃t,mg "STEP" = some (.int 5 t)
 c_WANTS:zC K mg "WANTS" [.str "nothing",.str "hands",.str "bench",.str "oven"]
 c_WIDEST:∃t,mg "WIDEST" = some (.int 120 t)
 n_all:mg "all" = none
 n_any:mg "any" = none
 n_bool:mg "bool" = none
 n_dict:mg "dict" = none
 n_enumerate:mg "enumerate" = none
 n_int:mg "int" = none
 n_isinstance:mg "isinstance" = none
 n_len:mg "len" = none
 n_list:mg "list" = none
 n_max:mg "max" = none
 n_min:mg "min" = none
 n_range:mg "range" = none
 n_set:mg "set" = none
 n_sum:mg "sum" = none
 n_tuple:mg "tuple" = none
local macro_rules | `(tactic| walk_at "sc")=>`(tactic| exact ⟨rfl,rfl,rfl,by decide +kernel,rfl,by decide +kernel,by decide +kernel⟩)
section
variable {P:Program} {w:World} {K:PySem.W.Frag} {mg:Str->Option Value} {base:Heap} {fa:Nat->Addr} {fd:Nat->FuncData} {T:Tb}
theorem fo0 (x:Tx K mg fa fd T):∀q∈[(16,0),(17,0)],FoC T K "name" q:=foC x.cC16 x.na16_name x.fl16 (foC x.cC17 x.na17_name x.fl17 foN)
theorem fo1 (x:Tx K mg fa fd T):∀q∈[(12,0)],FoC T K "bread" q:=foC x.cC12 x.na12_bread x.fl12 foN
theorem fo2 (x:Tx K mg fa fd T):∀q∈[(17,1)],FoC T K "stages" q:=foC x.cC17 x.na17_stages x.fl17 foN
theorem fo3 (x:Tx K mg fa fd T):∀q∈[(15,0)],FoC T K "night" q:=foC x.cC15 x.na15_night x.fl15 foN
theorem fo4 (x:Tx K mg fa fd T):∀q∈[(12,2)],FoC T K "due" q:=foC x.cC12 x.na12_due x.fl12 foN
theorem fo5 (x:Tx K mg fa fd T):∀q∈[(15,4)],FoC T K "breads" q:=foC x.cC15 x.na15_breads x.fl15 foN
theorem fo6 (x:Tx K mg fa fd T):∀q∈[(12,1),(13,2)],FoC T K "loaves" q:=foC x.cC12 x.na12_loaves x.fl12 (foC x.cC13 x.na13_loaves x.fl13 foN)
theorem fo7 (x:Tx K mg fa fd T):∀q∈[(15,3)],FoC T K "ovens" q:=foC x.cC15 x.na15_ovens x.fl15 foN
theorem fo8 (x:Tx K mg fa fd T):∀q∈[(11,0)],FoC T K "room" q:=foC x.cC11 x.na11_room x.fl11 foN
theorem fo9 (x:Tx K mg fa fd T):∀q∈[(13,0)],FoC T K "order" q:=foC x.cC13 x.na13_order x.fl13 foN
theorem fo10 (x:Tx K mg fa fd T):∀q∈[(16,3)],FoC T K "want" q:=foC x.cC16 x.na16_want x.fl16 foN
theorem fo11 (x:Tx K mg fa fd T):∀q∈[(16,2)],FoC T K "most" q:=foC x.cC16 x.na16_most x.fl16 foN
theorem fo12 (x:Tx K mg fa fd T):∀q∈[(16,1)],FoC T K "least" q:=foC x.cC16 x.na16_least x.fl16 foN
theorem fo13 (x:Tx K mg fa fd T):∀q∈[(14,1)],FoC T K "lengths" q:=foC x.cC14 x.na14_lengths x.fl14 foN
theorem fo14 (x:Tx K mg fa fd T):∀q∈[(14,0)],FoC T K "begin" q:=foC x.cC14 x.na14_begin x.fl14 foN
theorem fo15 (x:Tx K mg fa fd T):∀q∈[(14,2)],FoC T K "oven" q:=foC x.cC14 x.na14_oven x.fl14 foN
theorem P2:bO ["_law_script","_law_k"] ["_law_script","_law_k"] (aZ rE):=by walk_at "sc"
def zX (ρ:Ro):Fl:=(dA (eIx (aA 0) (aA 1))) ρ
def zY (ρ:Ro):Fl:=(dA (eI 0)) ρ
def zZ (ρ:Ro):Fl:=((sIf (tB2 qLt (aA 1) (eCB cW (aD (aA 0) aI))) zX Fl.nx) ρ).bind zY
def cY:Fn:=fnF 2 zZ
theorem dY (x:Tx K mg fa fd T):bB P w K mg base (CXE T P w) 1 (fa 31) (fd 31) ["_law_script","_law_k"] (spD T K 2 cY):=
 have hT:=x.me;have hT0:=bX x.me
 cF x.me x.F31 P2 λvK A outer s H E hr=>
  (aH (cO (dF HD (aB 1) (cA dN rfl x.n_len rfl (aG (aB 0) aK)) (nomark _)) (aL (dG (aO (aB 0) (aB 1)))) cN)
   (aL (dG aC)))
theorem nF:bO ["_law_script","_law_rows","_law_k","_law_cell","_law_rate","_law_heat"] ["_law_script"] (aZ rJ):=by walk_at "sc"
def LN (ρ:Ro):Fl:=(iC 1 (fC (aD (aX (eI 1) (bA (aX (bT (rD (rC 2 cY (gSh (aA 0) (gSh (eI 2) gN0)))) (eI 4)) (eW (eI 11) (aA 2))) (eI 30))) (aD (aA 4) (aD (aA 5) aI))))) ρ
def LO (ρ:Ro):Fl:=((aR 5 (eIx (aS (bF (aD (eI 0) (aD (eI 200) (aD (eI 230) (aD (bA (bT (aA 3) (eI 16)) (eI 301)) aI)))))) (bA (bT (aA 3) (eI 4)) (eI 4)))) ρ).bind LN
def LP (ρ:Ro):Fl:=((aR 4 (eIx (aS (bF (aD (eI 40) (aD (eI 300) (aD (eI 10) (aD (aX (eI 1) (bA (bT (aA 3) (eI 8)) (eI 300))) aI)))))) (bA (aA 3) (eI 4)))) ρ).bind LO
def tX (ρ:Ro):Fl:=((aR 3 (rD (rC 2 cY (gSh (aA 0) (gSh (aX (eI 3) (aA 2)) gN0))))) ρ).bind LP
def LQ (ρ:Ro):Fl:=(iO 1) ρ
def AA (ρ:Ro):Fl:=((cQ (dH (n1 (eIx (aS (bF (fQ [.int 1,.int 2,.int 1,.int 3]))) (bA (rD (rC 2 cY (gSh (aA 0) (gSh (eI 2) gN0)))) (eI 4))))) (aV 2) tX) ρ).bind LQ
def LR (ρ:Ro):Fl:=((eQ 1 (fFr (bF aI))) ρ).bind AA
def tY:Fn:=fnF 6 LR
theorem P3 (x:Tx K mg fa fd T):bB P w K mg base (CXE T P w) 2 (fa 35) (fd 35) ["_law_script"] (spD T K 1 tY):=
 have hT:=x.me;have hT0:=bX x.me
 cF x.me x.F35 nF λvK A outer s H E hr=>
  (aH (gK 1 nF.nd (DF.dr (bM aK)))
   (aH (cU rfl (fR (fO rfl x.n_range (aO (DF.de (bM (gP rfl))) (aF bE (DR.de (aU (dY x) hr.le x.c31 (aE (aB 0) (aE aC aQ)))) aC)))) (dB 2 nF.nd) (aH (aW 3 nF.nd (DR.de (aU (dY x) hr.le x.c31 (aE (aB 0) (aE (aF bG aC (aB 2)) aQ)))))
   (aH (aW 4 nF.nd (aO (DF.de (bM (aG aC (aG aC (aG aC (aG (aF bG aC (aF bE (aF cB (aB 3) aC) aC)) aK)))))) (aF bE (aB 3) aC)))
   (aH (aW 5 nF.nd (aO (DF.de (bM (aG aC (aG aC (aG aC (aG (aF bE (aF cB (aB 3) aC) aC) aK)))))) (aF bE (aF cB (aB 3) aC) aC)))
   (aL (jN 1 (hW (aG (aF bG aC (aF bE (aF bG (aF cB (DR.de (aU (dY x) hr.le x.c31 (aE (aB 0) (aE aC aQ)))) aC) (aF gA aC (aB 2))) aC)) (aG (aB 4) (aG (aB 5) aK))))))))))
   (aL (jV 1))))
theorem kM:bO ["_law_script","_law_base","_law_many","_law_rows","_law_k","_law_cell","_law_more","_law_size","_law_reach","_law_heat"] ["_law_script","_law_base","_law_many"] (aZ rK):=by walk_at "sc"
def LS (ρ:Ro):Fl:=(iC 3 (fC (aD (eM (aA 7) (bA (bT (aA 6) (eI 4)) (eI 5))) (aD (aX (aA 7) (aA 8)) (aD (eIx (aS (bF (fQ [.int 1,.int 3,.int 2,.int 3,.int 1,.int 0,.int 3,.int 2]))) (bA (aA 5) (eI 8))) (aD (aA 9) aI)))))) ρ
def LT (ρ:Ro):Fl:=((aR 9 (eIx (aS (bF (aD (eI 200) (aD (eI 230) (aD (eI 250) (aD (bA (bT (aA 6) (eI 20)) (eI 301)) aI)))))) (bA (aA 6) (eI 4)))) ρ).bind LS
def LU (ρ:Ro):Fl:=((aR 8 (aX (eIx (aS (bF (fQ [.int 0,.int 0,.int 5,.int 10]))) (bA (bT (aA 5) (eI 24)) (eI 4))) (bA (bT (aA 5) (eI 96)) (eI 5)))) ρ).bind LT
def LV (ρ:Ro):Fl:=((aR 7 (aX (eI 5) (eW (bA (bT (aA 5) (eI 8)) (eI 3)) (eI 5)))) ρ).bind LU
def LW (ρ:Ro):Fl:=((aR 6 (rD (rC 2 cY (gSh (aA 0) (gSh (aX (aX (aA 1) (eW (eI 2) (aA 4))) (eI 1)) gN0))))) ρ).bind LV
def tZ (ρ:Ro):Fl:=((aR 5 (rD (rC 2 cY (gSh (aA 0) (gSh (aX (aA 1) (eW (eI 2) (aA 4))) gN0))))) ρ).bind LW
def LX (ρ:Ro):Fl:=(iO 3) ρ
def AB (ρ:Ro):Fl:=((cQ (dH (n1 (aA 2))) (aV 4) tZ) ρ).bind LX
def LY (ρ:Ro):Fl:=((eQ 3 (fFr (bF aI))) ρ).bind AB
def pJ:Fn:=fnF 10 LY
theorem LZ (x:Tx K mg fa fd T):bB P w K mg base (CXE T P w) 2 (fa 36) (fd 36) ["_law_script","_law_base","_law_many"] (spD T K 3 pJ):=
 have hT:=x.me;have hT0:=bX x.me
 cF x.me x.F36 kM λvK A outer s H E hr=>
  (aH (gK 3 kM.nd (DF.dr (bM aK)))
   (aH (cU rfl (fR (fO rfl x.n_range (aB 2))) (dB 4 kM.nd) (aH (aW 5 kM.nd (DR.de (aU (dY x) hr.le x.c31 (aE (aB 0) (aE (aF bG (aB 1) (aF gA aC (aB 4))) aQ)))))
   (aH (aW 6 kM.nd (DR.de (aU (dY x) hr.le x.c31 (aE (aB 0) (aE (aF bG (aF bG (aB 1) (aF gA aC (aB 4))) aC) aQ)))))
   (aH (aW 7 kM.nd (aF bG aC (aF gA (aF bE (aF cB (aB 5) aC) aC) aC)))
   (aH (aW 8 kM.nd (aF bG (aO (DF.de (bM (gP rfl))) (aF bE (aF cB (aB 5) aC) aC)) (aF bE (aF cB (aB 5) aC) aC)))
   (aH (aW 9 kM.nd (aO (DF.de (bM (aG aC (aG aC (aG aC (aG (aF bE (aF cB (aB 6) aC) aC) aK)))))) (aF bE (aB 6) aC)))
   (aL (jN 3 (hW (aG (aF fZ (aB 7) (aF bE (aF cB (aB 6) aC) aC)) (aG (aF bG (aB 7) (aB 8)) (aG (aO (DF.de (bM (gP rfl))) (aF bE (aB 5) aC)) (aG (aB 9) aK)))))))))))))
   (aL (jV 3))))
theorem kN:bO ["_law_script","_law_base","_law_many","_law_rows","_law_k","_law_cell","_law_more","_law_least","_law_reach","_law_heat"] ["_law_script","_law_base","_law_many"] (aZ rL):=by walk_at "sc"
def pK (ρ:Ro):Fl:=(iC 3 (fC (aD (aA 7) (aD (aX (aA 7) (aA 8)) (aD (eIx (aS (bF (fQ [.int 1,.int 3,.int 2,.int 3,.int 1,.int 0,.int 3,.int 2]))) (bA (aA 5) (eI 8))) (aD (aA 9) aI)))))) ρ
def pL (ρ:Ro):Fl:=((aR 9 (eIx (aS (bF (aD (eI 200) (aD (eI 230) (aD (eI 250) (aD (bA (bT (aA 6) (eI 20)) (eI 301)) aI)))))) (bA (aA 6) (eI 4)))) ρ).bind pK
def pM (ρ:Ro):Fl:=((aR 8 (bA (bT (aA 6) (eI 4)) (eIx (aS (bF (fQ [.int 10,.int 40]))) (eCB lJ (aD (e2 (λa b=>bD false (eqS a b)) (aA 4) (eI 0)) aI))))) ρ).bind pL
def pN (ρ:Ro):Fl:=((aR 7 (aX (eI 1) (bA (bT (aA 5) (eI 8)) (eIx (aS (bF (fQ [.int 40,.int 110]))) (eCB lJ (aD (e2 (λa b=>bD false (eqS a b)) (aA 2) (eI 1)) aI)))))) ρ).bind pM
def pO (ρ:Ro):Fl:=((aR 6 (rD (rC 2 cY (gSh (aA 0) (gSh (aX (eI 15) (bA (aX (aX (aA 1) (eW (eI 3) (aA 4))) (eI 1)) (eI 14))) gN0))))) ρ).bind pN
def lQ (ρ:Ro):Fl:=((aR 5 (rD (rC 2 cY (gSh (aA 0) (gSh (aX (eI 15) (bA (aX (aA 1) (eW (eI 3) (aA 4))) (eI 14))) gN0))))) ρ).bind pO
def MA (ρ:Ro):Fl:=(iO 3) ρ
def AC (ρ:Ro):Fl:=((cQ (dH (n1 (aA 2))) (aV 4) lQ) ρ).bind MA
def MB (ρ:Ro):Fl:=((eQ 3 (fFr (bF aI))) ρ).bind AC
def nG:Fn:=fnF 10 MB
theorem P4 (x:Tx K mg fa fd T):bB P w K mg base (CXE T P w) 2 (fa 37) (fd 37) ["_law_script","_law_base","_law_many"] (spD T K 3 nG):=
 have hT:=x.me;have hT0:=bX x.me
 cF x.me x.F37 kN λvK A outer s H E hr=>
  (aH (gK 3 kN.nd (DF.dr (bM aK)))
   (aH (cU rfl (fR (fO rfl x.n_range (aB 2))) (dB 4 kN.nd) (aH (aW 5 kN.nd (DR.de (aU (dY x) hr.le x.c31 (aE (aB 0) (aE (aF bG aC (aF bE (aF bG (aB 1) (aF gA aC (aB 4))) aC)) aQ)))))
   (aH (aW 6 kN.nd (DR.de (aU (dY x) hr.le x.c31 (aE (aB 0) (aE (aF bG aC (aF bE (aF bG (aF bG (aB 1) (aF gA aC (aB 4))) aC) aC)) aQ)))))
   (aH (aW 7 kN.nd (aF bG aC (aF bE (aF cB (aB 5) aC) (aO (DF.de (bM (gP rfl))) (oP pC rfl x.n_int rfl (aG (lC hY (aB 2) aC (nomark _)) aK))))))
   (aH (aW 8 kN.nd (aF bE (aF cB (aB 6) aC) (aO (DF.de (bM (gP rfl))) (oP pC rfl x.n_int rfl (aG (lC hY (aB 4) aC (nomark _)) aK)))))
   (aH (aW 9 kN.nd (aO (DF.de (bM (aG aC (aG aC (aG aC (aG (aF bE (aF cB (aB 6) aC) aC) aK)))))) (aF bE (aB 6) aC)))
   (aL (jN 3 (hW (aG (aB 7) (aG (aF bG (aB 7) (aB 8)) (aG (aO (DF.de (bM (gP rfl))) (aF bE (aB 5) aC)) (aG (aB 9) aK)))))))))))))
   (aL (jV 3))))
theorem gT:bO ["_law_script","_law_night","_law_most","_law_kinds","_law_free_here","_law_asked_here","_law_left","_law_k","_law_one","_law_two","_law_kind","_law_short","_law_due","_law_loaves","_law_many"] ["_law_script","_law_night","_law_most","_law_kinds","_law_free_here"] (aZ rM):=by walk_at "sc"
def uA (ρ:Ro):Fl:=(aR 13 (eCB gM (aD (eI 60) (aD (aX (aA 13) (eW (aA 2) (bA (bT (aA 8) (eI 8)) (eI 3)))) aI)))) ρ
def MC (ρ:Ro):Fl:=(aR 6 (eM (aA 6) (aA 14))) ρ
def MD (ρ:Ro):Fl:=((iC 5 (fC (aD (aA 10) (aD (aA 13) (aD (aA 12) aI))))) ρ).bind MC
def AD (ρ:Ro):Fl:=(sIf (tB2 qLe (aA 14) (aA 6)) MD Fl.nx) ρ
def nH (ρ:Ro):Fl:=((aR 14 (bT (eM (aX (aA 13) (aA 2)) (eI 1)) (aA 2))) ρ).bind AD
def pP (ρ:Ro):Fl:=((sIf (jU (tEq (bA (bT (aA 8) (eI 64)) (eI 4)) (eI 1)) (fB (aA 4))) uA Fl.nx) ρ).bind nH
def lR (ρ:Ro):Fl:=((aR 13 (aX (eI 1) (bA (bT (aA 8) (eI 2)) (eIx (aS (bF (aD (eCB gM (aD (eI 3) (aD (aA 2) aI))) (aD (aA 2) aI)))) (bA (rD (rC 2 cY (gSh (aA 0) (gSh (eI 3) gN0)))) (eI 2)))))) ρ).bind pP
def nJ (ρ:Ro):Fl:=((aR 12 (eIx (aS (bF (aD (eCB gM (aD (aA 1) (aD (aX (aX (aA 11) (eW (eI 5) (aX (eI 1) (bA (aA 9) (eI 7))))) (bA (bT (aA 9) (eI 7)) (eI 5))) aI))) (aD (bA (aA 9) (aX (aA 1) (eI 1))) aI)))) (eCB lJ (aD (aA 4) aI)))) ρ).bind lR
def pQ (ρ:Ro):Fl:=((aR 11 (eCB fK (aD (aS (bJ (bC (jY (fY 3) (aA 10))) [] (eW (bT (aX (eIx (aA 0) (eI 0)) (eI 4)) (eI 5)) (eI 5)))) aI))) ρ).bind nJ
def ME (ρ:Ro):Fl:=((aR 10 (bA (aA 8) (oQ (fY 3)))) ρ).bind pQ
def MF (ρ:Ro):Fl:=((aR 9 (rD (rC 2 cY (gSh (aA 0) (gSh (aX (eI 8) (eW (eI 2) (aA 7))) gN0))))) ρ).bind ME
def nK (ρ:Ro):Fl:=((aR 8 (rD (rC 2 cY (gSh (aA 0) (gSh (aX (eI 7) (eW (eI 2) (aA 7))) gN0))))) ρ).bind MF
def MG (ρ:Ro):Fl:=(iO 5) ρ
def AE (ρ:Ro):Fl:=((cQ (dH (n1 (eIx (aS (bF (aD (eIx (aS (bF (fQ [.int 3,.int 3,.int 2,.int 3,.int 2,.int 3,.int 1]))) (bA (rD (rC 2 cY (gSh (aA 0) (gSh (eI 6) gN0)))) (eI 7))) (aD (eIx (aS (bF (fQ [.int 2,.int 3,.int 1,.int 0]))) (bA (rD (rC 2 cY (gSh (aA 0) (gSh (eI 6) gN0)))) (eI 4))) aI)))) (eCB lJ (aD (aA 4) aI))))) (aV 7) nK) ρ).bind MG
def MH (ρ:Ro):Fl:=((aR 6 (eI 3)) ρ).bind AE
def MI (ρ:Ro):Fl:=((eQ 5 (fFr (bF aI))) ρ).bind MH
def uB:Fn:=fnF 15 MI
theorem P5 (x:Tx K mg fa fd T):bB P w K mg base (CXE T P w) 2 (fa 38) (fd 38) ["_law_script","_law_night","_law_most","_law_kinds","_law_free_here"] (spD T K 5 uB):=
 have hT:=x.me;have hT0:=bX x.me
 cF x.me x.F38 gT λvK A outer s H E hr=>
  (aH (gK 5 gT.nd (DF.dr (bM aK)))
   (aH (aW 6 gT.nd aC)
   (aH (cU rfl (fR (fO rfl x.n_range (aO (DF.de (bM (aG (aO (DF.de (bM (gP rfl))) (aF bE (DR.de (aU (dY x) hr.le x.c31 (aE (aB 0) (aE aC aQ)))) aC)) (aG (aO (DF.de (bM (gP rfl))) (aF bE (DR.de (aU (dY x) hr.le x.c31 (aE (aB 0) (aE aC aQ)))) aC)) aK)))) (oP pC rfl x.n_int rfl (aG (aB 4) aK))))) (dB 7 gT.nd) (aH (aW 8 gT.nd (DR.de (aU (dY x) hr.le x.c31 (aE (aB 0) (aE (aF bG aC (aF gA aC (aB 7))) aQ)))))
   (aH (aW 9 gT.nd (DR.de (aU (dY x) hr.le x.c31 (aE (aB 0) (aE (aF bG aC (aF gA aC (aB 7))) aQ)))))
   (aH (aW 10 gT.nd (aF bE (aB 8) (sL rfl x.n_len (lA 3))))
   (aH (aW 11 gT.nd (cA (pA rfl) rfl x.n_sum rfl (aG (DF.de (DC.df (dX hT0 rfl (dE (DE.dp (HS (lA 3) (aB 10)))) cap0 (λcl C s₀ H₀ ex=>(aF gA (aF cB (aF bG (aO (aB 0) aC) aC) aC) aC))))) aK)))
   (aH (aW 12 gT.nd (aO (DF.de (bM (aG (cA (jW rfl) rfl x.n_min rfl (aG (aB 1) (aG (aF bG (aF bG (aB 11) (aF gA aC (aF bG aC (aF bE (aB 9) aC)))) (aF bE (aF cB (aB 9) aC) aC)) aK))) (aG (aF bE (aB 9) (aF bG (aB 1) aC)) aK)))) (oP pC rfl x.n_int rfl (aG (aB 4) aK))))
   (aH (aW 13 gT.nd (aF bG aC (aF bE (aF cB (aB 8) aC) (aO (DF.de (bM (aG (cA (jW rfl) rfl x.n_min rfl (aG aC (aG (aB 2) aK))) (aG (aB 2) aK)))) (aF bE (DR.de (aU (dY x) hr.le x.c31 (aE (aB 0) (aE aC aQ)))) aC)))))
   (aH (cO (DW.dt (lD (dF hY (aF bE (aF cB (aB 8) aC) aC) aC (nomark _)) (mI (gJ (aB 4))))) (aL (aW 13 gT.nd (cA (jW rfl) rfl x.n_min rfl (aG aC (aG (aF bG (aB 13) (aF gA (aB 2) (aF bE (aF cB (aB 8) aC) aC))) aK))))) cN)
   (aH (aW 14 gT.nd (aF cB (aF fZ (aF bG (aB 13) (aB 2)) aC) (aB 2)))
   (aL (cO (dF hV (aB 14) (aB 6) (nomark _)) (aH (jN 5 (hW (aG (aB 10) (aG (aB 13) (aG (aB 12) aK)))))
   (aL (aW 6 gT.nd (aF fZ (aB 6) (aB 14))))) cN)))))))))))
   (aL (jV 5)))))
theorem fV:bO ["_law_script","_law_first","_law_free_here","_law_night","_law_cell","_law_hands","_law_benches","_law_kilns_here","_law_kinds","_law_asked_here","_law_k"] ["_law_script"] (aZ rN):=by walk_at "sc"
def uC (ρ:Ro):Fl:=(eQ 8 (fun ρ=>(bJ (dH (n1 (aX (eI 1) (bA (bT (aA 4) (eI 16)) (eI 8))))) [0,4] (rD (rC 3 nG (gSh (aA 1) (gSh (eW (eI 5) (aA 0)) (gSh (aX (eI 1) (bA (aX (bT (aA 2) (eI 4)) (aA 0)) (eI 4))) gN0))))) ρ).bind λds=>.ok (.fr ds))) ρ
def uD (ρ:Ro):Fl:=((aR 3 (aX (eI 1) (bA (bT (aA 1) (eI 3)) (eI 120)))) ρ).bind uC
def nL (ρ:Ro):Fl:=(yU 8 (aA 10) (aS (bJ (bC (jY (fY 8) (aA 10))) [] (fC (aD (eIx (aA 0) (eI 0)) (aD (eIx (aA 0) (eI 1)) (aD (eIx (aS (bF (fQ [.int 0,.int 3,.int 0,.int 3]))) (eIx (aA 0) (eI 2))) (aD (eIx (aA 0) (eI 3)) aI)))))))) ρ
def uE (ρ:Ro):Fl:=(cQ (dH (n1 (oQ (fY 8)))) (aV 10) nL) ρ
def uF (ρ:Ro):Fl:=((aR 7 (aS (bF (aD (fC (aD (eIx (eIx (aA 7) (eI 0)) (eI 0)) (aD (eIx (aS (bF (fQ [.int 6,.int 10,.int 3,.int 5]))) (bA (bT (rD (rC 2 cY (gSh (aA 0) (gSh (eI 5) gN0)))) (eI 3)) (eI 4))) (aD (eIx (aS (bF (fQ [.int 200,.int 230]))) (bA (bT (rD (rC 2 cY (gSh (aA 0) (gSh (eI 5) gN0)))) (eI 12)) (eI 2))) aI)))) aI)))) ρ).bind uE
def MJ (ρ:Ro):Fl:=(fH (fFr (bF (aD (aA 3) (aD (aA 5) (aD (aA 6) (aD (aA 7) (aD (aA 8) (aD (aA 9) aI))))))))) ρ
def MK (ρ:Ro):Fl:=oO 8 MJ ρ
def nM (ρ:Ro):Fl:=((aR 9 (rD (rC 5 uB (gSh (aA 0) (gSh (aA 3) (gSh (eCB jP (aD (aS (bJ (bC (aA 7)) [] (eIx (aA 0) (eI 0)))) aI)) (gBo 8 (gSh (aA 2) gN0)))))))) ρ).bind MK
def lT (ρ:Ro):Fl:=((sIf (tEq (bA (rD (rC 2 cY (gSh (aA 0) (gSh (eI 5) gN0)))) (eI 3)) (eI 1)) uF Fl.nx) ρ).bind nM
def nN (ρ:Ro):Fl:=((sIf (fB (aA 2)) uD Fl.nx) ρ).bind lT
def AF (ρ:Ro):Fl:=((eQ 8 (fFr (bF (aD (rD (rC 3 pJ (gSh (aA 0) (gSh (eI 15) (gSh (aX (eI 1) (bA (bT (aA 4) (eI 7)) (eI 3))) gN0))))) (aD (rD (rC 3 pJ (gSh (aA 0) (gSh (eI 21) (gSh (aX (eI 1) (bA (bT (aA 4) (eI 21)) (eI 4))) gN0))))) aI))))) ρ).bind nN
def AG (ρ:Ro):Fl:=((aR 4 (rD (rC 2 cY (gSh (aA 0) (gSh (eI 6) gN0))))) ρ).bind AF
def AH (ρ:Ro):Fl:=((aR 7 (rD (rC 1 tY (gSh (aA 0) gN0)))) ρ).bind AG
def AI (ρ:Ro):Fl:=((aR 6 (eIx (aS (bF (aD (eI 1) (aD (eI 2) (aD (eI 1) (aD (aX (eI 1) (bA (bT (aA 4) (eI 16)) (eI 6))) aI)))))) (bA (bT (aA 4) (eI 4)) (eI 4)))) ρ).bind AH
def AJ (ρ:Ro):Fl:=((aR 5 (eIx (aS (bF (aD (eI 1) (aD (eI 2) (aD (eI 1) (aD (aX (eI 1) (bA (bT (aA 4) (eI 16)) (eI 6))) aI)))))) (bA (aA 4) (eI 4)))) ρ).bind AI
def AK (ρ:Ro):Fl:=((aR 4 (rD (rC 2 cY (gSh (aA 0) (gSh (eI 1) gN0))))) ρ).bind AJ
def AL (ρ:Ro):Fl:=((aR 3 (eIx (aS (bF (aD (aX (eI 30) (bA (bT (aA 1) (eI 3)) (eI 41))) (aD (eI 120) aI)))) (eCB lJ (aD (e2 (λa b=>bD false (eqS a b)) (bA (bT (aA 1) (eI 123)) (eI 6)) (eI 5)) aI)))) ρ).bind AK
def AM (ρ:Ro):Fl:=((aR 2 (e2 (λa b=>bD false (eqS a b)) (bA (aA 1) (eI 3)) (eI 2))) ρ).bind AL
def pR (ρ:Ro):Fl:=((aR 1 (rD (rC 2 cY (gSh (aA 0) (gSh (eI 0) gN0))))) ρ).bind AM
def uG:Fn:=fnF 11 pR
theorem P6 (x:Tx K mg fa fd T):bB P w K mg base (CXE T P w) 3 (fa 39) (fd 39) ["_law_script"] (spD T K 1 uG):=
 have hT:=x.me;have hT0:=bX x.me
 cF x.me x.F39 fV λvK A outer s H E hr=>
  (aH (aW 1 fV.nd (DR.de (aU (dY x) hr.le x.c31 (aE (aB 0) (aE aC aQ)))))
   (aH (aW 2 fV.nd (lC hY (aF bE (aB 1) aC) aC (nomark _)))
   (aH (aW 3 fV.nd (aO (DF.de (bM (aG (aF bG aC (aF bE (aF cB (aB 1) aC) aC)) (aG aC aK)))) (oP pC rfl x.n_int rfl (aG (lC hY (aF bE (aF cB (aB 1) aC) aC) aC (nomark _)) aK))))
   (aH (aW 4 fV.nd (DR.de (aU (dY x) hr.le x.c31 (aE (aB 0) (aE aC aQ)))))
   (aH (aW 5 fV.nd (aO (DF.de (bM (aG aC (aG aC (aG aC (aG (aF bG aC (aF bE (aF cB (aB 4) aC) aC)) aK)))))) (aF bE (aB 4) aC)))
   (aH (aW 6 fV.nd (aO (DF.de (bM (aG aC (aG aC (aG aC (aG (aF bG aC (aF bE (aF cB (aB 4) aC) aC)) aK)))))) (aF bE (aF cB (aB 4) aC) aC)))
   (aH (aW 7 fV.nd (DR.de (aU (P3 x) hr.le x.c35 (aE (aB 0) aQ))))
   (aH (aW 4 fV.nd (DR.de (aU (dY x) hr.le x.c31 (aE (aB 0) (aE aC aQ)))))
   (aH (gK 8 fV.nd (DF.dr (bM (aG (DR.de (aU (LZ x) hr.le x.c36 (aE (aB 0) (aE aC (aE (aF bG aC (aF bE (aF cB (aB 4) aC) aC)) aQ))))) (aG (DR.de (aU (LZ x) hr.le x.c36 (aE (aB 0) (aE aC (aE (aF bG aC (aF bE (aF cB (aB 4) aC) aC)) aQ))))) aK)))))
   (aH (cO (gJ (aB 2)) (aH (aW 3 fV.nd (aF bG aC (aF bE (aF cB (aB 1) aC) aC)))
   (aL (DC.set 8 fV.nd (dX hT0 rfl (fR (fO rfl x.n_range (aF bG aC (aF bE (aF cB (aB 4) aC) aC)))) (iE ["_law_script","_law_cell"] [0,4] (hc:=(eL rfl rfl rfl (eL rfl rfl rfl iF)))) (λcl C s₀ H₀ ex=>(DR.de (aU (P4 x) hr.le x.c37 (aE (aB 1) (aE (aF gA aC (aB 0)) (aE (aF bG aC (aF bE (aF bG (aF cB (aB 2) aC) (aB 0)) aC)) aQ)))))))))) cN)
   (aH (cO (dF hY (aF bE (DR.de (aU (dY x) hr.le x.c31 (aE (aB 0) (aE aC aQ)))) aC) aC (nomark _)) (aH (aW 7 fV.nd (DF.de (bM (aG (hW (aG (aO (aO (aB 7) aC) aC) (aG (aO (DF.de (bM (gP rfl))) (aF bE (aF cB (DR.de (aU (dY x) hr.le x.c31 (aE (aB 0) (aE aC aQ)))) aC) aC)) (aG (aO (DF.de (bM (gP rfl))) (aF bE (aF cB (DR.de (aU (dY x) hr.le x.c31 (aE (aB 0) (aE aC aQ)))) aC) aC)) aK)))) aK))))
   (aL (cU rfl (fR (fO rfl x.n_range (sL rfl x.n_len (lA 8)))) (dB 10 fV.nd) (aL (u8 8 (DF.de (DC.df (dX hT0 rfl (dE (DE.dp (HS (lA 8) (aB 10)))) cap0 (λcl C s₀ H₀ ex=>(hW (aG (aO (aB 0) aC) (aG (aO (aB 0) aC) (aG (aO (DF.de (bM (gP rfl))) (aO (aB 0) aC)) (aG (aO (aB 0) aC) aK))))))))) (aB 10)))))) cN)
   (aH (aW 9 fV.nd (DR.de (aU (P5 x) hr.le x.c38 (aE (aB 0) (aE (aB 3) (aE (cA (zH rfl) rfl x.n_max rfl (aG (DF.de (DC.df (dX hT0 rfl (dE (DE.dp (aB 7))) cap0 (λcl C s₀ H₀ ex=>(aO (aB 0) aC))))) aK)) (yA 8 (aE (aB 2) aQ))))))))
   (yG 8 (aL (gL (DF.dr (bM (aG (aB 3) (aG (aB 5) (aG (aB 6) (aG (aB 7) (aG (aB 8) (aG (aB 9) aK)))))))))))))))))))))))
theorem nO:bO ["_law_cell","_law_many","_law_letters","_law_shift","_law_stem","_law_place","_law_row"] ["_law_cell","_law_many"] (aZ rH):=by walk_at "sc"
def uH (ρ:Ro):Fl:=(fH (fFr (bJ (dH (n1 (aA 1))) [6,0] (mS (aA 1) oNo (oSo (aX (aX (aA 0) (eI 1)) (bA (bT (aA 2) (eI 2)) (eI 3)))))))) ρ
def ML (ρ:Ro):Fl:=((aR 6 (aX (mS (aA 2) (oSo (aA 3)) oNo) (mS (aA 2) oNo (oSo (aA 3))))) ρ).bind uH
def uI (ρ:Ro):Fl:=(fH (fFr (bJ (dH (n1 (aA 1))) [4,2,5,3] (aX (aX (mS (aA 1) oNo (oSo (aA 3))) (eIx (aA 2) (bA (aX (aA 4) (aA 0)) (eI 26)))) (mS (aA 1) (oSo (aA 3)) oNo))))) ρ
def MM (ρ:Ro):Fl:=((aR 5 (bA (bT (aA 0) (eI 24)) (aX (eCB cW (aD (aA 4) aI)) (eI 1)))) ρ).bind uI
def uJ (ρ:Ro):Fl:=((aR 4 (eMt sU pD (eS "") (aD (aS (bJ (dH (n1 (bA (bT (aA 0) (eI 2)) (eI 12)))) [2,0] (eIx (aA 1) (bA (aX (bT (aA 2) (eI 7)) (eW (aA 0) (aX (aA 0) (eI 2)))) (eI 26))))) aI))) ρ).bind MM
def AN (ρ:Ro):Fl:=((sIf (tEq (bA (aA 0) (eI 2)) (eI 1)) ML Fl.nx) ρ).bind uJ
def AO (ρ:Ro):Fl:=((aR 3 (bA (bT (aA 0) (eI 288)) (eI 26))) ρ).bind AN
def AQ (ρ:Ro):Fl:=((aR 2 (eS "abcdefghijklmnopqrstuvwxyz")) ρ).bind AO
def pS:Fn:=fnF 7 AQ
theorem P7 (x:Tx K mg fa fd T):bB P w K mg base (CXE T P w) 1 (fa 34) (fd 34) ["_law_cell","_law_many"] (spD T K 2 pS):=
 have hT:=x.me;have hT0:=bX x.me
 cF x.me x.F34 nO λvK A outer s H E hr=>
  (aH (aW 2 nO.nd lB)
   (aH (aW 3 nO.nd (aF bE (aF cB (aB 0) aC) aC))
   (aH (cO (dF hY (aF bE (aB 0) aC) aC (nomark _)) (aH (aW 6 nO.nd (aF bG (oZ (aB 2) (mP (aB 3)) mO) (oZ (aB 2) mO (mP (aB 3)))))
   (aL (gL (DF.dr (DC.df (dX hT0 rfl (fR (fO rfl x.n_range (aB 1))) (iE ["_law_row","_law_cell"] [6,0] (hc:=(eL rfl rfl rfl (eL rfl rfl rfl iF)))) (λcl C s₀ H₀ ex=>(oZ (aB 1) mO (mP (aF bG (aF bG (aB 0) aC) (aF bE (aF cB (aB 2) aC) aC))))))))))) cN)
   (aH (aW 4 nO.nd (t8 C9 PySem.F.slot_str_join PySem.F.type_str_join lB (aG (DF.de (DC.df (dX hT0 rfl (fR (fO rfl x.n_range (aF bE (aF cB (aB 0) aC) aC))) (iE ["_law_letters","_law_cell"] [2,0] (hc:=(eL rfl rfl rfl (eL rfl rfl rfl iF)))) (λcl C s₀ H₀ ex=>(aO (aB 1) (aF bE (aF bG (aF cB (aB 2) aC) (aF gA (aB 0) (aF bG (aB 0) aC))) aC)))))) aK)))
   (aH (aW 5 nO.nd (aF bE (aF cB (aB 0) aC) (aF bG (cA dN rfl x.n_len rfl (aG (aB 4) aK)) aC)))
   (aL (gL (DF.dr (DC.df (dX hT0 rfl (fR (fO rfl x.n_range (aB 1))) (iE ["_law_stem","_law_letters","_law_place","_law_shift"] [4,2,5,3] (hc:=(eL rfl rfl rfl (eL rfl rfl rfl (eL rfl rfl rfl (eL rfl rfl rfl iF)))))) (λcl C s₀ H₀ ex=>(aF bG (aF bG (oZ (aB 1) mO (mP (aB 3))) (aO (aB 2) (aF bE (aF bG (aB 4) (aB 0)) aC))) (oZ (aB 1) (mP (aB 3)) mO)))))))))))))
theorem P8:bO ["name"] ["name"] (aZ s_1):=by walk_at "sc"
def uK (ρ:Ro):Fl:=(gZ 1 (aD (eJ (dW oT (aA 0) (fI " is not 1 to " (dW fP (eI 12) (fI " small letters" jN0))))) aI)) ρ
def uL (ρ:Ro):Fl:=(sIf (jU (eK (tCh qLe qLe (eI 1) (eCB cW (aD (aA 0) aI)) (eI 12))) (eK (fB (eCB mV (aD (aS (bJ (mT (aA 0)) [] (e2 (inD false) (aA 0) (eS "abcdefghijklmnopqrstuvwxyz")))) aI))))) uK Fl.nx) ρ
def F_1:Fn:=fnF 1 uL
theorem MN (x:Tx K mg fa fd T):bB P w K mg base (CXE T P w) 1 (fa 1) (fd 1) ["name"] (spD T K 1 F_1):=
 have hT:=x.me;have hT0:=bX x.me
 cF x.me x.F1 P8 λvK A outer s H E hr=>
  (aL (cO (DW.dt (lD (fG (oU hV hV aC (cA dN rfl x.n_len rfl (aG (aB 0) aK)) (cX rfl x.c_LONGEST_NAME))) (mI (fG (gJ (cA (B3 rfl) rfl x.n_all rfl (aG (DF.de (DC.df (dX hT0 rfl (A7 (aB 0)) cap0 (λcl C s₀ H₀ ex=>(lC IZ (aB 0) (r8 rfl x.c_LETTERS) rfl))))) aK))))))) (aL (iA (c:=1) rfl x.xc1 rfl x.mC1 (aG (jL (yJ (aB 0) (gB (gN (cX rfl x.c_LONGEST_NAME) (gB jK))))) aK) hsh1)) cN))
theorem P9:bO ["number","lowest","highest"] ["number","lowest","highest"] (aZ s_2):=by walk_at "sc"
def AR (ρ:Ro):Fl:=(gZ 3 (aD (eJ (dW fP (aA 0) (fI " does not lie from " (dW fP (aA 1) (fI " to " (dW fP (aA 2) jN0)))))) aI)) ρ
def uM (ρ:Ro):Fl:=(sIf (eK (tCh qLe qLe (aA 1) (aA 0) (aA 2))) AR Fl.nx) ρ
def F_2:Fn:=fnF 3 uM
theorem iY (x:Tx K mg fa fd T):bB P w K mg base (CXE T P w) 1 (fa 2) (fd 2) ["number","lowest","highest"] (spD T K 3 F_2):=
 have hT:=x.me;have hT0:=bX x.me
 cF x.me x.F2 P9 λvK A outer s H E hr=>
  (aL (cO (fG (oU hV hV (aB 1) (aB 0) (aB 2))) (aL (iA (c:=3) rfl x.xc3 rfl x.mC3 (aG (jL (gN (aB 0) (gB (gN (aB 1) (gB (gN (aB 2) jK)))))) aK) hsh1)) cN))
theorem Q0:bO ["self","name","least","most","want","heat"] ["self","name","least","most","want","heat"] (aZ qZ):=by walk_at "sc"
def Q1 (ρ:Ro):Fl:=(gZ 2 (aD (eJ (fI "a stage can't want " (dW oT (aA 4) jN0))) aI)) ρ
def MO (ρ:Ro):Fl:=(cT 16 4 (aA 5)) ρ
def MP (ρ:Ro):Fl:=((cT 16 3 (aA 4)) ρ).bind MO
def MQ (ρ:Ro):Fl:=((cT 16 2 (aA 3)) ρ).bind MP
def MR (ρ:Ro):Fl:=((cT 16 1 (aA 2)) ρ).bind MQ
def MS (ρ:Ro):Fl:=((cT 16 0 (aA 1)) ρ).bind MR
def MT (ρ:Ro):Fl:=((dM (rD (rC 3 F_2 (gSh (aA 5) (gSh (eI 0) (gSh (eI 300) gN0)))))) ρ).bind MS
def MU (ρ:Ro):Fl:=((dM (rD (rC 3 F_2 (gSh (aA 3) (gSh (aA 2) (gSh (eI 720) gN0)))))) ρ).bind MT
def MV (ρ:Ro):Fl:=((dM (rD (rC 3 F_2 (gSh (aA 2) (gSh (eI 1) (gSh (eI 720) gN0)))))) ρ).bind MU
def MW (ρ:Ro):Fl:=((sIf (tB2 (inD true) (aA 4) (eC (.tup [.str "nothing",.str "hands",.str "bench",.str "oven"]))) Q1 Fl.nx) ρ).bind MV
def MX (ρ:Ro):Fl:=((dM (rD (rC 1 F_1 (gSh (aA 1) gN0)))) ρ).bind MW
def uN:Fn:=iB 6 16 5 MX
theorem Q2 (x:Tx K mg fa fd T):bB P w K mg base (CXE T P w) 2 (fa 26) (fd 26) ["self","name","least","most","want","heat"] (spI T K 16 6 uN):=
 have hT0:=bX x.me
 lE x.me (by rw [x.fl16];rfl) x.F26.ex Q0 λy vK A outer s H E hr=>
  (aH (dQ (DR.de (aU (fJ (MN x)) hr.le x.c1 (aE (aB 1) aQ))))
   (aH (cO (dF B6 (aB 4) (B7 rfl x.c_WANTS) rfl) (aL (iA (c:=2) rfl x.xc2 rfl x.mC2 (aG (jL (gB (yJ (aB 4) jK))) aK) hsh1)) cN)
   (aH (dQ (DR.de (aU (fJ (iY x)) hr.le x.c2 (aE (aB 2) (aE aC (aE (cX rfl x.c_NIGHT) aQ))))))
   (aH (dQ (DR.de (aU (fJ (iY x)) hr.le x.c2 (aE (aB 3) (aE (aB 2) (aE (cX rfl x.c_NIGHT) aQ))))))
   (aH (dQ (DR.de (aU (fJ (iY x)) hr.le x.c2 (aE (aB 5) (aE aC (aE (cX rfl x.c_HOTTEST) aQ))))))
   (aH (dD (c:=16) 0 x.cC16 x.na16_name (flA x.fl16) (flN x.fl16) (by decide) (aB 1))
   (aH (dD (c:=16) 1 x.cC16 x.na16_least (flA x.fl16) (flN x.fl16) (by decide) (aB 2))
   (aH (dD (c:=16) 2 x.cC16 x.na16_most (flA x.fl16) (flN x.fl16) (by decide) (aB 3))
   (aH (dD (c:=16) 3 x.cC16 x.na16_want (flA x.fl16) (flN x.fl16) (by decide) (aB 4))
   (aL (dD (c:=16) 4 x.cC16 x.na16_heat (flA x.fl16) (flN x.fl16) (by decide) (aB 5))))))))))))
theorem Q3:bO ["count","lowest","highest"] ["count","lowest","highest"] (aZ s_3):=by walk_at "sc"
def AS (ρ:Ro):Fl:=(gZ 4 (aD (eJ (dW fP (aA 0) (fI " of them, not " (dW fP (aA 1) (fI " to " (dW fP (aA 2) jN0)))))) aI)) ρ
def uO (ρ:Ro):Fl:=(sIf (eK (tCh qLe qLe (aA 1) (aA 0) (aA 2))) AS Fl.nx) ρ
def F_3:Fn:=fnF 3 uO
theorem uP (x:Tx K mg fa fd T):bB P w K mg base (CXE T P w) 1 (fa 3) (fd 3) ["count","lowest","highest"] (spD T K 3 F_3):=
 have hT:=x.me;have hT0:=bX x.me
 cF x.me x.F3 Q3 λvK A outer s H E hr=>
  (aL (cO (fG (oU hV hV (aB 1) (aB 0) (aB 2))) (aL (iA (c:=4) rfl x.xc4 rfl x.mC4 (aG (jL (gN (aB 0) (gB (gN (aB 1) (gB (gN (aB 2) jK)))))) aK) hsh1)) cN))
theorem Q4:bO ["self","name","stages"] ["self","name","stages"] (aZ rA):=by walk_at "sc"
def MY (ρ:Ro):Fl:=(cT 17 1 (mR (bC (aA 2)))) ρ
def MZ (ρ:Ro):Fl:=((cT 17 0 (aA 1)) ρ).bind MY
def NA (ρ:Ro):Fl:=((dM (rD (rC 3 F_3 (gSh (eCB cW (aD (aA 2) aI)) (gSh (eI 1) (gSh (eI 6) gN0)))))) ρ).bind MZ
def NB (ρ:Ro):Fl:=((dM (rD (rC 1 F_1 (gSh (aA 1) gN0)))) ρ).bind NA
def uQ:Fn:=iB 3 17 2 NB
theorem Q5 (x:Tx K mg fa fd T):bB P w K mg base (CXE T P w) 2 (fa 27) (fd 27) ["self","name","stages"] (spI T K 17 3 uQ):=
 have hT0:=bX x.me
 lE x.me (by rw [x.fl17];rfl) (oW x.F27) Q4 λy vK A outer s H E hr=>
  (aH (dQ (DR.de (aU (fJ (MN x)) hr.le x.c1 (aE (aB 1) aQ))))
   (aH (dQ (DR.de (aU (fJ (uP x)) hr.le x.c3 (aE (cA dN rfl x.n_len rfl (aG (aB 2) aK)) (aE aC (aE (cX rfl x.c_MOST_STAGES) aQ))))))
   (aH (dD (c:=17) 0 x.cC17 x.na17_name (flA x.fl17) (flN x.fl17) (by decide) (aB 1))
   (aL (dD (c:=17) 1 x.cC17 x.na17_stages (flA x.fl17) (flN x.fl17) (by decide) (oY rfl x.n_tuple (DE.dl (aB 2))))))))
theorem Q6:bO ["self","room","rate","heat"] ["self","room","rate","heat"] (aZ s_5):=by walk_at "sc"
def NC (ρ:Ro):Fl:=(cT 11 2 (aA 3)) ρ
def ND (ρ:Ro):Fl:=((cT 11 1 (aA 2)) ρ).bind NC
def NE (ρ:Ro):Fl:=((cT 11 0 (aA 1)) ρ).bind ND
def NF (ρ:Ro):Fl:=((dM (rD (rC 3 F_2 (gSh (aA 3) (gSh (eI 0) (gSh (eI 300) gN0)))))) ρ).bind NE
def NG (ρ:Ro):Fl:=((dM (rD (rC 3 F_2 (gSh (aA 2) (gSh (eI 1) (gSh (eI 300) gN0)))))) ρ).bind NF
def NH (ρ:Ro):Fl:=((dM (rD (rC 3 F_2 (gSh (aA 1) (gSh (eI 1) (gSh (eI 30) gN0)))))) ρ).bind NG
def F_5:Fn:=iB 4 11 3 NH
theorem Q7 (x:Tx K mg fa fd T):bB P w K mg base (CXE T P w) 2 (fa 5) (fd 5) ["self","room","rate","heat"] (spI T K 11 4 F_5):=
 have hT0:=bX x.me
 lE x.me (by rw [x.fl11];rfl) (oW x.F5) Q6 λy vK A outer s H E hr=>
  (aH (dQ (DR.de (aU (fJ (iY x)) hr.le x.c2 (aE (aB 1) (aE aC (aE (cX rfl x.c_MOST_ROOM) aQ))))))
   (aH (dQ (DR.de (aU (fJ (iY x)) hr.le x.c2 (aE (aB 2) (aE aC (aE (cX rfl x.c_FASTEST) aQ))))))
   (aH (dQ (DR.de (aU (fJ (iY x)) hr.le x.c2 (aE (aB 3) (aE aC (aE (cX rfl x.c_HOTTEST) aQ))))))
   (aH (dD (c:=11) 0 x.cC11 x.na11_room (flA x.fl11) (flN x.fl11) (by decide) (aB 1))
   (aH (dD (c:=11) 1 x.cC11 x.na11_rate (flA x.fl11) (flN x.fl11) (by decide) (aB 2))
   (aL (dD (c:=11) 2 x.cC11 x.na11_heat (flA x.fl11) (flN x.fl11) (by decide) (aB 3))))))))
theorem Q8:bO ["names"] ["names"] (aZ qY):=by walk_at "sc"
def Q9 (ρ:Ro):Fl:=(gZ 5 (aD (eJ (fI "two breads of one name among " (tJ (bC (aA 0)) jN0))) aI)) ρ
def NI (ρ:Ro):Fl:=(sIf (tNe (JP (bC (aA 0))) (eCB cW (aD (aA 0) aI))) Q9 Fl.nx) ρ
def uR:Fn:=fnF 1 NI
theorem R0 (x:Tx K mg fa fd T):bB P w K mg base (CXE T P w) 1 (fa 25) (fd 25) ["names"] (spD T K 1 uR):=
 have hT:=x.me;have hT0:=bX x.me
 cF x.me x.F25 Q8 λvK A outer s H E hr=>
  (aL (cO (dF sN (E8 rfl rfl x.n_len rfl x.n_set (DE.dl (aB 0))) (cA dN rfl x.n_len rfl (aG (aB 0) aK)) (nomark _)) (aL (iA (c:=5) rfl x.xc5 rfl x.mC5 (aG (jL (gB (K3 hr (DE.dl (aB 0)) jK))) aK) hsh1)) cN))
theorem R1:bO ["self","night","hands","benches","ovens","breads"] ["self","night","hands","benches","ovens","breads"] (aZ qW):=by walk_at "sc"
def NJ (ρ:Ro):Fl:=(cT 15 4 (mR (fY 5))) ρ
def NK (ρ:Ro):Fl:=((cT 15 3 (mR (bC (aA 4)))) ρ).bind NJ
def NL (ρ:Ro):Fl:=((cT 15 2 (aA 3)) ρ).bind NK
def NM (ρ:Ro):Fl:=((cT 15 1 (aA 2)) ρ).bind NL
def NN (ρ:Ro):Fl:=((cT 15 0 (aA 1)) ρ).bind NM
def NO (ρ:Ro):Fl:=((dM (rD (rC 1 uR (gSh (aS (bJ (sK 5) [] (aY [(16,0),(17,0)] (aA 0)))) gN0)))) ρ).bind NN
def NP (ρ:Ro):Fl:=((dM (rD (rC 3 F_3 (gSh (oQ (fY 5)) (gSh (eI 1) (gSh (eI 8) gN0)))))) ρ).bind NO
def NQ (ρ:Ro):Fl:=((dM (rD (rC 3 F_3 (gSh (eCB cW (aD (aA 4) aI)) (gSh (eI 1) (gSh (eI 3) gN0)))))) ρ).bind NP
def NR (ρ:Ro):Fl:=((dM (rD (rC 3 F_2 (gSh (aA 3) (gSh (eI 1) (gSh (eI 6) gN0)))))) ρ).bind NQ
def NS (ρ:Ro):Fl:=((dM (rD (rC 3 F_2 (gSh (aA 2) (gSh (eI 1) (gSh (eI 6) gN0)))))) ρ).bind NR
def NT (ρ:Ro):Fl:=((dM (rD (rC 3 F_2 (gSh (aA 1) (gSh (eI 1) (gSh (eI 720) gN0)))))) ρ).bind NS
def uS:Fn:=iB 6 15 5 NT
theorem R3 (x:Tx K mg fa fd T):bB P w K mg base (CXE T P w) 2 (fa 23) (fd 23) ["self","night","hands","benches","ovens","breads"] (spI T K 15 6 uS):=
 have hT0:=bX x.me
 lE x.me (by rw [x.fl15];rfl) (oW x.F23) R1 λy vK A outer s H E hr=>
  (aH (dQ (DR.de (aU (fJ (iY x)) hr.le x.c2 (aE (aB 1) (aE aC (aE (cX rfl x.c_NIGHT) aQ))))))
   (aH (dQ (DR.de (aU (fJ (iY x)) hr.le x.c2 (aE (aB 2) (aE aC (aE (cX rfl x.c_MOST_HANDS) aQ))))))
   (aH (dQ (DR.de (aU (fJ (iY x)) hr.le x.c2 (aE (aB 3) (aE aC (aE (cX rfl x.c_MOST_BENCHES) aQ))))))
   (aH (dQ (DR.de (aU (fJ (uP x)) hr.le x.c3 (aE (cA dN rfl x.n_len rfl (aG (aB 4) aK)) (aE aC (aE (cX rfl x.c_MOST_OVENS) aQ))))))
   (aH (dQ (DR.de (aU (fJ (uP x)) hr.le x.c3 (aE (sL rfl x.n_len (lA 5)) (aE aC (aE (cX rfl x.c_MOST_BREADS) aQ))))))
   (aH (dQ (DR.de (aU (fJ (R0 x)) hr.le x.c25 (aE (DF.de (DC.df (dX hT0 rfl (dE (HN 5)) cap0 (λcl C s₀ H₀ ex=>(cD (aB 0) (fo0 x)))))) aQ))))
   (aH (dD (c:=15) 0 x.cC15 x.na15_night (flA x.fl15) (flN x.fl15) (by decide) (aB 1))
   (aH (dD (c:=15) 1 x.cC15 x.na15_hands (flA x.fl15) (flN x.fl15) (by decide) (aB 2))
   (aH (dD (c:=15) 2 x.cC15 x.na15_benches (flA x.fl15) (flN x.fl15) (by decide) (aB 3))
   (aH (dD (c:=15) 3 x.cC15 x.na15_ovens (flA x.fl15) (flN x.fl15) (by decide) (oY rfl x.n_tuple (DE.dl (aB 4))))
   (aL (dD (c:=15) 4 x.cC15 x.na15_breads (flA x.fl15) (flN x.fl15) (by decide) (oY rfl x.n_tuple (lA 5))))))))))))))
theorem nP:bO ["_law_scene_here","_law_names_here","_law_wants","_law_kinds","_law_k","_law_kilns_here","_law_rows"] ["_law_scene_here","_law_names_here"] (aZ rO):=by walk_at "sc"
def NU (ρ:Ro):Fl:=(iC 3 (rD (rC 2 uQ (gSh (eIx (aA 1) (aA 4)) (gSh (aA 6) gN0))))) ρ
def nQ (ρ:Ro):Fl:=((aR 6 (aS (bJ (bC (eIx (eIx (aA 0) (eI 4)) (aA 4))) [2] (rD (rC 5 uN (gSh (eS "stage") (gSh (eIx (aA 0) (eI 0)) (gSh (eIx (aA 0) (eI 1)) (gSh (eIx (aA 1) (eIx (aA 0) (eI 2))) (gSh (eIx (aA 0) (eI 3)) gN0)))))))))) ρ).bind NU
def NV (ρ:Ro):Fl:=(fH (rC 5 uS (gSh (eIx (aA 0) (eI 0)) (gSh (eIx (aA 0) (eI 1)) (gSh (eIx (aA 0) (eI 2)) (gSh (aA 5) (gBo 3 gN0))))))) ρ
def NW (ρ:Ro):Fl:=((aR 5 (aS (bJ (bC (eIx (aA 0) (eI 3))) [] (rD (rC 3 F_5 (gSh (eIx (aA 0) (eI 0)) (gSh (eIx (aA 0) (eI 1)) (gSh (eIx (aA 0) (eI 2)) gN0)))))))) ρ).bind NV
def uT (ρ:Ro):Fl:=((cQ (dH (n1 (eCB cW (aD (eIx (aA 0) (eI 4)) aI)))) (aV 4) nQ) ρ).bind NW
def NX (ρ:Ro):Fl:=((eQ 3 (fFr (bF aI))) ρ).bind uT
def AT (ρ:Ro):Fl:=((aR 2 (aS (bF (fQ [.str "nothing",.str "hands",.str "bench",.str "oven"])))) ρ).bind NX
def uU:Fn:=fnF 7 AT
theorem R4 (x:Tx K mg fa fd T):bB P w K mg base (CXE T P w) 4 (fa 40) (fd 40) ["_law_scene_here","_law_names_here"] (spD T K 2 uU):=
 have hT:=x.me;have hT0:=bX x.me
 cF x.me x.F40 nP λvK A outer s H E hr=>
  (aH (aW 2 nP.nd (DF.de (bM (gP rfl))))
   (aH (gK 3 nP.nd (DF.dr (bM aK)))
   (aH (cU rfl (fR (fO rfl x.n_range (cA dN rfl x.n_len rfl (aG (aO (aB 0) aC) aK)))) (dB 4 nP.nd) (aH (DC.setF 6 nP.nd (dX hT0 rfl (dE (DE.dp (aO (aO (aB 0) aC) (aB 4)))) (iE ["_law_wants"] [2] (hc:=(eL rfl rfl rfl iF))) (λcl C s₀ H₀ ex=>(DR.de (lF x.mk16 (Q2 x) lG hr.le rfl x.mC16 x.b26 .nil (λ_=>rfl) rfl (aE lB (aE (aO (aB 0) aC) (aE (aO (aB 0) aC) (aE (aO (aB 1) (aO (aB 0) aC)) (aE (aO (aB 0) aC) aQ))))))))))
   (aL (jN 3 (DR.de (lF x.mk17 (Q5 x) lG hr.le rfl x.mC17 x.b27 .nil (λ_=>rfl) rfl (aE (aO (aB 1) (aB 4)) (aE (aB 6) aQ))))))))
   (aH (DC.setF 5 nP.nd (dX hT0 rfl (dE (DE.dp (aO (aB 0) aC))) cap0 (λcl C s₀ H₀ ex=>(DR.de (lF x.mk11 (Q7 x) lG hr.le rfl x.mC11 x.b5 .nil (λ_=>rfl) rfl (aE (aO (aB 0) aC) (aE (aO (aB 0) aC) (aE (aO (aB 0) aC) aQ))))))))
   (aL (gL (lF x.mk15 (R3 x) lG hr.le rfl x.mC15 x.b23 .nil (λ_=>rfl) rfl (aE (aO (aB 0) aC) (aE (aO (aB 0) aC) (aE (aO (aB 0) aC) (aE (aB 5) (yA 3 aQ))))))))))))
theorem R5:bO ["self","bread","loaves","due"] ["self","bread","loaves","due"] (aZ s_6):=by walk_at "sc"
def NY (ρ:Ro):Fl:=(cT 12 2 (aA 3)) ρ
def NZ (ρ:Ro):Fl:=((cT 12 1 (aA 2)) ρ).bind NY
def OA (ρ:Ro):Fl:=((cT 12 0 (aA 1)) ρ).bind NZ
def AU (ρ:Ro):Fl:=((dM (rD (rC 3 F_2 (gSh (aA 2) (gSh (eI 1) (gSh (eI 60) gN0)))))) ρ).bind OA
def F_6:Fn:=iB 4 12 3 AU
theorem R6 (x:Tx K mg fa fd T):bB P w K mg base (CXE T P w) 2 (fa 6) (fd 6) ["self","bread","loaves","due"] (spI T K 12 4 F_6):=
 have hT0:=bX x.me
 lE x.me (by rw [x.fl12];rfl) (oW x.F6) R5 λy vK A outer s H E hr=>
  (aH (dQ (DR.de (aU (fJ (iY x)) hr.le x.c2 (aE (aB 2) (aE aC (aE (cX rfl x.c_MOST_LOAVES) aQ))))))
   (aH (dD (c:=12) 0 x.cC12 x.na12_bread (flA x.fl12) (flN x.fl12) (by decide) (aB 1))
   (aH (dD (c:=12) 1 x.cC12 x.na12_loaves (flA x.fl12) (flN x.fl12) (by decide) (aB 2))
   (aL (dD (c:=12) 2 x.cC12 x.na12_due (flA x.fl12) (flN x.fl12) (by decide) (aB 3))))))
theorem R7:bO ["_law_asked_here","_law_names_here"] ["_law_asked_here","_law_names_here"] (aZ rP):=by walk_at "sc"
def AV (ρ:Ro):Fl:=(fH (fFr (bJ (bC (aA 0)) [1] (rD (rC 3 F_6 (gSh (eIx (aA 1) (eIx (aA 0) (eI 0))) (gSh (eIx (aA 0) (eI 1)) (gSh (eIx (aA 0) (eI 2)) gN0)))))))) ρ
def pT:Fn:=fnF 2 AV
theorem R8 (x:Tx K mg fa fd T):bB P w K mg base (CXE T P w) 4 (fa 41) (fd 41) ["_law_asked_here","_law_names_here"] (spD T K 2 pT):=
 have hT:=x.me;have hT0:=bX x.me
 cF x.me x.F41 R7 λvK A outer s H E hr=>
  (aL (gL (DF.dr (DC.df (dX hT0 rfl (dE (DE.dp (aB 0))) (iE ["_law_names_here"] [1] (hc:=(eL rfl rfl rfl iF))) (λcl C s₀ H₀ ex=>(DR.de (lF x.mk12 (R6 x) lG hr.le rfl x.mC12 x.b6 .nil (λ_=>rfl) rfl (aE (aO (aB 1) (aO (aB 0) aC)) (aE (aO (aB 0) aC) (aE (aO (aB 0) aC) aQ)))))))))))
theorem nR:bO ["_law_scene_here","_law_most","_law_rows","_law_k","_law_left"] ["_law_scene_here"] (aZ rR):=by walk_at "sc"
def OB (ρ:Ro):Fl:=(aR 4 (eM (aA 4) (aA 1))) ρ
def AW (ρ:Ro):Fl:=((iC 2 (fC (aD (aA 3) (aD (eCB gM (aD (aA 1) (aD (aA 4) aI))) aI)))) ρ).bind OB
def uV (ρ:Ro):Fl:=(fun ρ=>whD (tB2 qGt (aA 4) (eI 0)) AW 100000 ρ) ρ
def pU (ρ:Ro):Fl:=((aR 4 (eIx (eIx (eIx (aA 0) (eI 5)) (aA 3)) (eI 1))) ρ).bind uV
def OC (ρ:Ro):Fl:=(iO 2) ρ
def AX (ρ:Ro):Fl:=((cQ (dH (n1 (eCB cW (aD (eIx (aA 0) (eI 5)) aI)))) (aV 3) pU) ρ).bind OC
def OD (ρ:Ro):Fl:=((eQ 2 (fFr (bF aI))) ρ).bind AX
def AY (ρ:Ro):Fl:=((aR 1 (eCB jP (aD (aS (bJ (bC (eIx (aA 0) (eI 3))) [] (eIx (aA 0) (eI 0)))) aI))) ρ).bind OD
def nT:Fn:=fnF 5 AY
theorem OE (x:Tx K mg fa fd T):bB P w K mg base (CXE T P w) 1 (fa 43) (fd 43) ["_law_scene_here"] (spD T K 1 nT):=
 have hT:=x.me;have hT0:=bX x.me
 cF x.me x.F43 nR λvK A outer s H E hr=>
  (aH (aW 1 nR.nd (cA (zH rfl) rfl x.n_max rfl (aG (DF.de (DC.df (dX hT0 rfl (dE (DE.dp (aO (aB 0) aC))) cap0 (λcl C s₀ H₀ ex=>(aO (aB 0) aC))))) aK)))
   (aH (gK 2 nR.nd (DF.dr (bM aK)))
   (aH (cU rfl (fR (fO rfl x.n_range (cA dN rfl x.n_len rfl (aG (aO (aB 0) aC) aK)))) (dB 3 nR.nd) (aH (aW 4 nR.nd (aO (aO (aO (aB 0) aC) (aB 3)) aC))
   (aL (g0 100000 (dF oM (aB 4) aC (nomark _)) (aH (jN 2 (hW (aG (aB 3) (aG (cA (jW rfl) rfl x.n_min rfl (aG (aB 1) (aG (aB 4) aK))) aK))))
   (aL (aW 4 nR.nd (aF fZ (aB 4) (aB 1)))))))))
   (aL (jV 2)))))
theorem R9:bO ["_law_found","_law_due"] ["_law_found","_law_due"] (aZ rG):=by walk_at "sc"
def OF (ρ:Ro):Fl:=(dA (sJ (jJ sO (aA 0)) (sJ (yC (jJ sP (aA 0))) (e2 (λa b=>bD false (eqS a b)) (aA 0) (aA 1))))) ρ
def nU:Fn:=fnF 2 OF
theorem AZ (x:Tx K mg fa fd T):bB P w K mg base (CXE T P w) 1 (fa 33) (fd 33) ["_law_found","_law_due"] (spD T K 2 nU):=
 have hT:=x.me;have hT0:=bX x.me
 cF x.me x.F33 R9 λvK A outer s H E hr=>
  (aL (dG (yE (oR rfl x.n_isinstance (aB 0) rfl x.n_int rfl HV HX) (yE (HJ (oR rfl x.n_isinstance (aB 0) rfl x.n_bool rfl HW HY)) (HI (lC hY (aB 0) (aB 1) (nomark _)))))))
theorem OG:bO ["self","name","bread"] ["self","name"] (aZ qX):=by walk_at "sc"
def BA (ρ:Ro):Fl:=(dA (aA 2)) ρ
def uW (ρ:Ro):Fl:=(sIf (tEq (aY [(16,0),(17,0)] (aA 2)) (aA 1)) BA Fl.nx) ρ
def OH (ρ:Ro):Fl:=(gZ 6 (aD (eJ (fI "the bakery has no bread " (dW oT (aA 1) jN0))) aI)) ρ
def uX (ρ:Ro):Fl:=((cQ (gQ (aY [(15,4)] (aA 0))) (aV 2) uW) ρ).bind OH
def kO:Fn:=fnF 3 uX
theorem BC (x:Tx K mg fa fd T):bB P w K mg base (CXE T P w) 1 (fa 24) (fd 24) ["self","name"] (spD T K 2 kO):=
 have hT:=x.me;have hT0:=bX x.me
 cF x.me x.F24 OG λvK A outer s H E hr=>
  (aH (cU rfl (sV (cD (aB 0) (fo5 x))) (dB 2 OG.nd) (aL (cO (dF hY (cD (aB 2) (fo0 x)) (aB 1) (nomark _)) (aL (dG (aB 2))) cN)))
   (aL (iA (c:=6) rfl x.xc6 rfl x.mC6 (aG (jL (gB (yJ (aB 1) jK))) aK) hsh1)))
theorem S0:bO ["due","night"] ["due","night"] (aZ s_9):=by walk_at "sc"
def S1 (ρ:Ro):Fl:=(gZ 7 (aD (eJ (fI "minute " (dW fP (aA 0) (fI " does not lie from 0 to " (dW fP (aA 1) jN0))))) aI)) ρ
def OI (ρ:Ro):Fl:=(sIf (eK (tCh qLe qLe (eI 0) (aA 0) (aA 1))) S1 Fl.nx) ρ
def F_9:Fn:=fnF 2 OI
theorem S2 (x:Tx K mg fa fd T):bB P w K mg base (CXE T P w) 1 (fa 9) (fd 9) ["due","night"] (spD T K 2 F_9):=
 have hT:=x.me;have hT0:=bX x.me
 cF x.me x.F9 S0 λvK A outer s H E hr=>
  (aL (cO (fG (oU hV hV aC (aB 0) (aB 1))) (aL (iA (c:=7) rfl x.xc7 rfl x.mC7 (aG (jL (gB (gN (aB 0) (gB (gN (aB 1) jK))))) aK) hsh1)) cN))
theorem S3:bO ["self","order","first","loaves"] ["self","order","first","loaves"] (aZ s_7):=by walk_at "sc"
def OJ (ρ:Ro):Fl:=(cT 13 2 (aA 3)) ρ
def OK (ρ:Ro):Fl:=((cT 13 1 (aA 2)) ρ).bind OJ
def OL (ρ:Ro):Fl:=((cT 13 0 (aA 1)) ρ).bind OK
def F_7:Fn:=iB 4 13 3 OL
theorem S4 (x:Tx K mg fa fd T):bB P w K mg base (CXE T P w) 1 (fa 7) (fd 7) ["self","order","first","loaves"] (spI T K 13 4 F_7):=
 have hT0:=bX x.me
 lE x.me (by rw [x.fl13];rfl) (oW x.F7) S3 λy vK A outer s H E hr=>
  (aH (dD (c:=13) 0 x.cC13 x.na13_order (flA x.fl13) (flN x.fl13) (by decide) (aB 1))
   (aH (dD (c:=13) 1 x.cC13 x.na13_first (flA x.fl13) (flN x.fl13) (by decide) (aB 2))
   (aL (dD (c:=13) 2 x.cC13 x.na13_loaves (flA x.fl13) (flN x.fl13) (by decide) (aB 3)))))
theorem nV:bO ["orders","most","row","number","order","first","left"] ["orders","most"] (aZ qM):=by walk_at "sc"
def OM (ρ:Ro):Fl:=(iC 2 (rD (rC 3 F_7 (gSh (aA 3) (gSh (aA 5) (gSh (eCB gM (aD (aA 1) (aD (aA 6) aI))) gN0)))))) ρ
def BD (ρ:Ro):Fl:=((aR 6 (aX (eM (aY [(12,1),(13,2)] (aA 4)) (aA 5)) (eI 1))) ρ).bind OM
def BE (ρ:Ro):Fl:=(cQ (jZ (eI 1) (aX (aY [(12,1),(13,2)] (aA 4)) (eI 1)) (aA 1)) (aV 5) BD) ρ
def ON (ρ:Ro):Fl:=(iO 2) ρ
def uY (ρ:Ro):Fl:=((cQ (mZ (bC (aA 0))) (iQ [3,4]) BE) ρ).bind ON
def OO (ρ:Ro):Fl:=((eQ 2 (fFr (bF aI))) ρ).bind uY
def pV:Fn:=fnF 7 OO
theorem OP (x:Tx K mg fa fd T):bB P w K mg base (CXE T P w) 3 (fa 11) (fd 11) ["orders","most"] (spD T K 2 pV):=
 have hT:=x.me;have hT0:=bX x.me
 cF x.me x.F11 nV λvK A outer s H E hr=>
  (aH (gK 2 nV.nd (DF.dr (bM aK)))
   (aH (cU rfl (J2 rfl x.n_enumerate (DE.dp (aB 0))) (yP rfl (jM 3 nV.nd (jM 4 nV.nd yO))) (aL (cU rfl (yR rfl x.n_range aC (aF bG (cD (aB 4) (fo6 x)) aC) (aB 1)) (dB 5 nV.nd) (aH (aW 6 nV.nd (aF bG (aF fZ (cD (aB 4) (fo6 x)) (aB 5)) aC))
   (aL (jN 2 (DR.de (lF x.mk13 (S4 x) lG hr.le rfl x.mC13 x.b7 .nil (λ_=>rfl) rfl (aE (aB 3) (aE (aB 5) (aE (cA (jW rfl) rfl x.n_min rfl (aG (aB 1) (aG (aB 6) aK))) aQ)))))))))))
   (aL (jV 2))))
theorem S5:bO ["bakery"] ["bakery"] (aZ s_8):=by walk_at "sc"
def OQ (ρ:Ro):Fl:=(dA (eCB jP (aD (aS (bJ (gQ (aY [(15,3)] (aA 0))) [] (aY [(11,0)] (aA 0)))) aI))) ρ
def F_8:Fn:=fnF 1 OQ
theorem OR (x:Tx K mg fa fd T):bB P w K mg base (CXE T P w) 1 (fa 8) (fd 8) ["bakery"] (spD T K 1 F_8):=
 have hT:=x.me;have hT0:=bX x.me
 cF x.me x.F8 S5 λvK A outer s H E hr=>
  (aL (dG (cA (zH rfl) rfl x.n_max rfl (aG (DF.de (DC.df (dX hT0 rfl (sV (cD (aB 0) (fo7 x))) cap0 (λcl C s₀ H₀ ex=>(cD (aB 0) (fo8 x)))))) aK))))
theorem uZ:bO ["bakery","orders","order","count"] ["bakery","orders"] (aZ qL):=by walk_at "sc"
def BF (ρ:Ro):Fl:=(dM (rD (pB (n:=2) 15 kO (aA 0) (gSh (aY [(12,0)] (aA 2)) gN0)))) ρ
def BG (ρ:Ro):Fl:=(dM (rD (rC 2 F_9 (gSh (aY [(12,2)] (aA 2)) (gSh (aY [(15,0)] (aA 0)) gN0))))) ρ
def S6 (ρ:Ro):Fl:=(gZ 8 (aD (eJ (dW fP (aA 3) (fI " batches, not at most " (dW fP (eI 24) jN0)))) aI)) ρ
def OT (ρ:Ro):Fl:=(sIf (tB2 qGt (aA 3) (eI 24)) S6 Fl.nx) ρ
def BH (ρ:Ro):Fl:=((aR 3 (eCB cW (aD (rD (rC 2 pV (gSh (aA 1) (gSh (rD (rC 1 F_8 (gSh (aA 0) gN0))) gN0)))) aI))) ρ).bind OT
def OU (ρ:Ro):Fl:=((cQ (bC (aA 1)) (aV 2) BG) ρ).bind BH
def vN (ρ:Ro):Fl:=((cQ (bC (aA 1)) (aV 2) BF) ρ).bind OU
def OV (ρ:Ro):Fl:=((dM (rD (rC 3 F_3 (gSh (eCB cW (aD (aA 1) aI)) (gSh (eI 0) (gSh (eI 12) gN0)))))) ρ).bind vN
def vO:Fn:=fnF 4 OV
theorem S7 (x:Tx K mg fa fd T):bB P w K mg base (CXE T P w) 4 (fa 10) (fd 10) ["bakery","orders"] (spD T K 2 vO):=
 have hT:=x.me;have hT0:=bX x.me
 cF x.me x.F10 uZ λvK A outer s H E hr=>
  (aH (dQ (DR.de (aU (uP x) hr.le x.c3 (aE (cA dN rfl x.n_len rfl (aG (aB 1) aK)) (aE aC (aE (cX rfl x.c_MOST_ORDERS) aQ))))))
   (aH (cU rfl (dE (DE.dp (aB 1))) (dB 2 uZ.nd) (aL (dQ (DR.de (zG (aB 0) x.cC15 x.mt24 (by rw [x.fl15];decide) (BC x) hr.le x.b24 rfl (aE (cD (aB 2) (fo1 x)) aQ))))))
   (aH (cU rfl (dE (DE.dp (aB 1))) (dB 2 uZ.nd) (aL (dQ (DR.de (aU (S2 x) hr.le x.c9 (aE (cD (aB 2) (fo4 x)) (aE (cD (aB 0) (fo3 x)) aQ)))))))
   (aH (aW 3 uZ.nd (cA dN rfl x.n_len rfl (aG (DR.de (aU (OP x) hr.le x.c11 (aE (aB 1) (aE (DR.de (aU (OR x) hr.le x.c8 (aE (aB 0) aQ))) aQ)))) aK)))
   (aL (cO (dF oM (aB 3) (cX rfl x.c_MOST_BATCHES) (nomark _)) (aL (iA (c:=8) rfl x.xc8 rfl x.mC8 (aG (jL (gN (aB 3) (gB (gN (cX rfl x.c_MOST_BATCHES) jK)))) aK) hsh1)) cN))))))
theorem S8:bO ["bakery","orders"] ["bakery","orders"] (aZ qN):=by walk_at "sc"
def OW (ρ:Ro):Fl:=(fH (rC 2 pV (gSh (aA 1) (gSh (rD (rC 1 F_8 (gSh (aA 0) gN0))) gN0)))) ρ
def OX (ρ:Ro):Fl:=((dM (rD (rC 2 vO (gSh (aA 0) (gSh (aA 1) gN0))))) ρ).bind OW
def pW:Fn:=fnF 2 OX
theorem S9 (x:Tx K mg fa fd T):bB P w K mg base (CXE T P w) 5 (fa 12) (fd 12) ["bakery","orders"] (spD T K 2 pW):=
 have hT:=x.me;have hT0:=bX x.me
 cF x.me x.F12 S8 λvK A outer s H E hr=>
  (aH (dQ (DR.de (aU (S7 x) hr.le x.c10 (aE (aB 0) (aE (aB 1) aQ)))))
   (aL (gL (aU (OP x) hr.le x.c11 (aE (aB 1) (aE (DR.de (aU (OR x) hr.le x.c8 (aE (aB 0) aQ))) aQ))))))
theorem BI:bO ["bakery","orders","batches","stages"] ["bakery","orders"] (aZ qQ):=by walk_at "sc"
def T1 (ρ:Ro):Fl:=(gZ 10 (aD (eS "the night, the batches or a bread's stages are more than the planner goes through") aI)) ρ
def OY (ρ:Ro):Fl:=(dA (aA 2)) ρ
def vP (ρ:Ro):Fl:=((sIf (jU (tB2 qGt (aY [(15,0)] (aA 0)) (eI 120)) (jU (tB2 qGt (eCB cW (aD (aA 2) aI)) (eI 3)) (tB2 qGt (LG (bC (aA 3)) (eI 0)) (eI 4)))) T1 Fl.nx) ρ).bind OY
def vQ (ρ:Ro):Fl:=((aR 3 (aS (bJ (bC (aA 1)) [0] (eCB cW (aD (aY [(17,1)] (rD (pB (n:=2) 15 kO (aA 1) (gSh (aY [(12,0)] (aA 0)) gN0)))) aI))))) ρ).bind vP
def BJ (ρ:Ro):Fl:=((aR 2 (rD (rC 2 pW (gSh (aA 0) (gSh (aA 1) gN0))))) ρ).bind vQ
def vR:Fn:=fnF 4 BJ
theorem T2 (x:Tx K mg fa fd T):bB P w K mg base (CXE T P w) 6 (fa 17) (fd 17) ["bakery","orders"] (spD T K 2 vR):=
 have hT:=x.me;have hT0:=bX x.me
 cF x.me x.F17 BI λvK A outer s H E hr=>
  (aH (aW 2 BI.nd (DR.de (aU (S9 x) hr.le x.c12 (aE (aB 0) (aE (aB 1) aQ)))))
   (aH (DC.setF 3 BI.nd (dX hT0 rfl (dE (DE.dp (aB 1))) (iE ["bakery"] [0] (hc:=(eL rfl rfl rfl iF))) (λcl C s₀ H₀ ex=>(cA dN rfl x.n_len rfl (aG (cD (DR.de (zG (aB 1) x.cC15 x.mt24 (by rw [x.fl15];decide) (BC x) hr.le x.b24 rfl (aE (cD (aB 0) (fo1 x)) aQ))) (fo2 x)) aK)))))
   (aH (cO (DW.dt (lD (dF oM (cD (aB 0) (fo3 x)) (cX rfl x.c_WIDEST) (nomark _)) (lD (dF oM (cA dN rfl x.n_len rfl (aG (aB 2) aK)) (cX rfl x.c_MOST_PLANNED) (nomark _)) (mI (dF oM (O4 rfl rfl x.n_max (DE.dl (aB 3)) aC) (cX rfl x.c_MOST_STEPPED) (nomark _)))))) (aL (iA (c:=10) rfl x.xc10 rfl x.mC10 (aG lB aK) hsh1)) cN)
   (aL (dG (aB 2))))))
theorem T3:bO ["batch","count"] ["batch","count"] (aZ s_4):=by walk_at "sc"
def BK (ρ:Ro):Fl:=(gZ 9 (aD (eJ (fI "no batch " (dW fP (aA 0) (fI " among " (dW fP (aA 1) jN0))))) aI)) ρ
def vS (ρ:Ro):Fl:=(sIf (eK (tCh qLe qLe (eI 1) (aA 0) (aA 1))) BK Fl.nx) ρ
def F_4:Fn:=fnF 2 vS
theorem T4 (x:Tx K mg fa fd T):bB P w K mg base (CXE T P w) 1 (fa 4) (fd 4) ["batch","count"] (spD T K 2 F_4):=
 have hT:=x.me;have hT0:=bX x.me
 cF x.me x.F4 T3 λvK A outer s H E hr=>
  (aL (cO (fG (oU hV hV aC (aB 0) (aB 1))) (aL (iA (c:=9) rfl x.xc9 rfl x.mC9 (aG (jL (gB (gN (aB 0) (gB (gN (aB 1) jK))))) aK) hsh1)) cN))
theorem T5:bO ["bakery","orders","batch"] ["bakery","orders","batch"] (aZ qP):=by walk_at "sc"
def BL (ρ:Ro):Fl:=(fH (pB (n:=2) 15 kO (aA 0) (gSh (aY [(12,0)] (eIx (aA 1) (eM (aY [(13,0)] (aA 2)) (eI 1)))) gN0))) ρ
def vT:Fn:=fnF 3 BL
theorem T6 (x:Tx K mg fa fd T):bB P w K mg base (CXE T P w) 2 (fa 16) (fd 16) ["bakery","orders","batch"] (spD T K 3 vT):=
 have hT:=x.me;have hT0:=bX x.me
 cF x.me x.F16 T5 λvK A outer s H E hr=>
  (aL (gL (zG (aB 0) x.cC15 x.mt24 (by rw [x.fl15];decide) (BC x) hr.le x.b24 rfl (aE (cD (aO (aB 1) (aF fZ (cD (aB 2) (fo9 x)) aC)) (fo1 x)) aQ))))
theorem T7:bO ["self"] ["self"] (aZ rB):=by walk_at "sc"
def BM (ρ:Ro):Fl:=(dA (eCB sX (aD (aS (bJ (gQ (aY [(17,1)] (aA 0))) [] (e2 (λa b=>bD false (eqS a b)) (aY [(16,3)] (aA 0)) (eS "oven")))) aI))) ρ
def pX:Fn:=fnF 1 BM
theorem T8 (x:Tx K mg fa fd T):bB P w K mg base (CXE T P w) 1 (fa 30) (fd 30) ["self"] (spD T K 1 pX):=
 have hT:=x.me;have hT0:=bX x.me
 cF x.me x.F30 T7 λvK A outer s H E hr=>
  (aL (dG (cA (B4 rfl) rfl x.n_any rfl (aG (DF.de (DC.df (dX hT0 rfl (sV (cD (aB 0) (fo2 x))) cap0 (λcl C s₀ H₀ ex=>(lC hY (cD (aB 0) (fo10 x)) lB (nomark _)))))) aK))))
theorem T9:bO ["bakery","bread","loaves"] ["bakery","bread","loaves"] (aZ qT):=by walk_at "sc"
def U0 (ρ:Ro):Fl:=(fH (fFr (bF (aD (eI 0) aI)))) ρ
def BN (ρ:Ro):Fl:=(fH (fFr (nC (mZ (gQ (aY [(15,3)] (aA 0)))) [2] (tB2 qGe (aY [(11,0)] (aA 1)) (aA 2)) (aA 0)))) ρ
def BO (ρ:Ro):Fl:=((sIf (eK (fB (rD (zF 17 pX (aA 1))))) U0 Fl.nx) ρ).bind BN
def vU:Fn:=fnF 3 BO
theorem U1 (x:Tx K mg fa fd T):bB P w K mg base (CXE T P w) 2 (fa 20) (fd 20) ["bakery","bread","loaves"] (spD T K 3 vU):=
 have hT:=x.me;have hT0:=bX x.me
 cF x.me x.F20 T9 λvK A outer s H E hr=>
  (aH (cO (fG (gJ (DR.de (B9 (aB 1) x.cC17 x.mt30 (by rw [x.fl17];decide) (T8 x) hr.le x.b30 rfl)))) (aL (gL (DF.dr (bM (aG aC aK))))) cN)
   (aL (gL (DF.dr (DC.df (P0 hT0 rfl (J3 rfl x.n_enumerate (cD (aB 0) (fo7 x))) (iE ["loaves"] [2] (hc:=(eL rfl rfl rfl iF))) (λcl C s₀ H₀ ex=>(aB 0)) (λcl C s₀ H₀ ex=>(dF xY (cD (aB 1) (fo8 x)) (aB 2) (nomark _)))))))))
theorem OZ:bO ["lowest","highest","first"] ["lowest","highest"] (aZ qR):=by walk_at "sc"
def vV (ρ:Ro):Fl:=(fH (fFr (tK (aA 2) (aX (aA 1) (eI 1)) (eI 5)))) ρ
def BP (ρ:Ro):Fl:=((aR 2 (eW (bT (eM (aX (aA 0) (eI 5)) (eI 1)) (eI 5)) (eI 5))) ρ).bind vV
def kP:Fn:=fnF 3 BP
theorem PB (x:Tx K mg fa fd T):bB P w K mg base (CXE T P w) 1 (fa 18) (fd 18) ["lowest","highest"] (spD T K 2 kP):=
 have hT:=x.me;have hT0:=bX x.me
 cF x.me x.F18 OZ λvK A outer s H E hr=>
  (aH (aW 2 OZ.nd (aF gA (aF cB (aF fZ (aF bG (aB 0) (cX rfl x.c_STEP)) aC) (cX rfl x.c_STEP)) (cX rfl x.c_STEP)))
   (aL (gL (DF.dr (K8 rfl rfl x.n_list rfl x.n_range (aB 2) (aF bG (aB 1) aC) (cX rfl x.c_STEP))))))
theorem lU:bO ["stages","minutes","rows","stage","longer","row"] ["stages","minutes"] (aZ qS):=by walk_at "sc"
def vW (ρ:Ro):Fl:=(nB 4 (bJ (bC (rD (rC 2 kP (gSh (aY [(16,1)] (aA 3)) (gSh (eCB gM (aD (aY [(16,2)] (aA 3)) (aD (eM (aA 1) (eCB fK (aD (aA 5) aI))) aI))) gN0))))) [5] (aS (kA (bC (aA 1)) (bF (aD (aA 0) aI)))))) ρ
def PC (ρ:Ro):Fl:=(aR 2 (aA 4)) ρ
def PD (ρ:Ro):Fl:=oO 4 PC ρ
def BQ (ρ:Ro):Fl:=((cQ (bC (aA 2)) (aV 5) vW) ρ).bind PD
def pY (ρ:Ro):Fl:=((eQ 4 (fFr (bF aI))) ρ).bind BQ
def PF (ρ:Ro):Fl:=(dA (aA 2)) ρ
def BR (ρ:Ro):Fl:=((cQ (gQ (aA 0)) (aV 3) pY) ρ).bind PF
def BS (ρ:Ro):Fl:=((aR 2 (aS (bF (aD (aS (bF aI)) aI)))) ρ).bind BR
def vX:Fn:=fnF 6 BS
theorem U2 (x:Tx K mg fa fd T):bB P w K mg base (CXE T P w) 2 (fa 19) (fd 19) ["stages","minutes"] (spD T K 2 vX):=
 have hT:=x.me;have hT0:=bX x.me
 cF x.me x.F19 lU λvK A outer s H E hr=>
  (aH (aW 2 lU.nd (DF.de (bM (aG (DF.de (bM aK)) aK))))
   (aH (cU rfl (sV (aB 0)) (dB 3 lU.nd) (aH (gK 4 lU.nd (DF.dr (bM aK)))
   (aH (cU rfl (dE (DE.dp (aB 2))) (dB 5 lU.nd) (aL (KM 4 lU.nd (DC.df (dX hT0 rfl (dE (DE.dp (DR.de (aU (PB x) hr.le x.c18 (aE (cD (aB 3) (fo12 x)) (aE (cA (jW rfl) rfl x.n_min rfl (aG (cD (aB 3) (fo11 x)) (aG (aF fZ (aB 1) (cA (pA rfl) rfl x.n_sum rfl (aG (aB 5) aK))) aK))) aQ)))))) (iE ["row"] [5] (hc:=(eL rfl rfl rfl iF))) (λcl C s₀ H₀ ex=>(DF.de (oX (DE.dl (aB 1)) (DF.dl (bM (aG (aB 0) aK)))))))))))
   (yG 4 (aL (aW 2 lU.nd (aB 4)))))))
   (aL (dG (aB 2)))))
theorem U3:bO ["self","begin","lengths","oven"] ["self","begin","lengths","oven"] (aZ qO):=by walk_at "sc"
def PH (ρ:Ro):Fl:=(gZ 3 (aD (eS "a run has no number below 0") aI)) ρ
def PJ (ρ:Ro):Fl:=(cT 14 2 (aA 3)) ρ
def PK (ρ:Ro):Fl:=((cT 14 1 (mR (bC (aA 2)))) ρ).bind PJ
def PL (ρ:Ro):Fl:=((cT 14 0 (aA 1)) ρ).bind PK
def BU (ρ:Ro):Fl:=((sIf (tB2 qLt (eCB mX (aD (aS (kA (bF (aD (aA 1) (aD (aA 3) aI))) (IP (bC (aA 2))))) aI)) (eI 0)) PH Fl.nx) ρ).bind PL
def nW:Fn:=iB 4 14 3 BU
theorem U4 (x:Tx K mg fa fd T):bB P w K mg base (CXE T P w) 1 (fa 13) (fd 13) ["self","begin","lengths","oven"] (spI T K 14 4 nW):=
 have hT0:=bX x.me
 lE x.me (by rw [x.fl14];rfl) x.F13.ex U3 λy vK A outer s H E hr=>
  (aH (cO (dF HD (cA (D2 rfl) rfl x.n_min rfl (aG (DF.de (oX (DF.dl (bM (aG (aB 1) (aG (aB 3) aK)))) (DF.dl (v5 rfl x.n_list (DE.dl (aB 2)))))) aK)) aC (nomark _)) (aL (iA (c:=3) rfl x.xc3 rfl x.mC3 (aG lB aK) hsh1)) cN)
   (aH (dD (c:=14) 0 x.cC14 x.na14_begin (flA x.fl14) (flN x.fl14) (by decide) (aB 1))
   (aH (dD (c:=14) 1 x.cC14 x.na14_lengths (flA x.fl14) (flN x.fl14) (by decide) (oY rfl x.n_tuple (DE.dl (aB 2))))
   (aL (dD (c:=14) 2 x.cC14 x.na14_oven (flA x.fl14) (flN x.fl14) (by decide) (aB 3))))))
theorem kQ:bO ["bakery","orders","batch","bread","due","ovens","row","lengths","begin"] ["bakery","orders","batch"] (aZ qU):=by walk_at "sc"
def vY (ρ:Ro):Fl:=(nB 6 (bJ (bC (aA 5)) [8,7] (rD (rC 3 nW (gSh (aA 1) (gSh (aA 2) (gSh (aA 0) gN0))))))) ρ
def pZ (ρ:Ro):Fl:=(cQ (bC (rD (rC 2 kP (gSh (eI 0) (gSh (eM (aA 4) (eCB fK (aD (aA 7) aI))) gN0))))) (aV 8) vY) ρ
def PM (ρ:Ro):Fl:=(iO 6) ρ
def BV (ρ:Ro):Fl:=((cQ (bC (rD (rC 2 vX (gSh (aY [(17,1)] (aA 3)) (gSh (aA 4) gN0))))) (aV 7) pZ) ρ).bind PM
def vZ (ρ:Ro):Fl:=((eQ 6 (fFr (bF aI))) ρ).bind BV
def PN (ρ:Ro):Fl:=((aR 5 (rD (rC 3 vU (gSh (aA 0) (gSh (aA 3) (gSh (aY [(12,1),(13,2)] (aA 2)) gN0)))))) ρ).bind vZ
def PP (ρ:Ro):Fl:=((aR 4 (aY [(12,2)] (eIx (aA 1) (eM (aY [(13,0)] (aA 2)) (eI 1))))) ρ).bind PN
def BW (ρ:Ro):Fl:=((aR 3 (rD (rC 3 vT (gSh (aA 0) (gSh (aA 1) (gSh (aA 2) gN0)))))) ρ).bind PP
def wA:Fn:=fnF 9 BW
theorem U5 (x:Tx K mg fa fd T):bB P w K mg base (CXE T P w) 3 (fa 21) (fd 21) ["bakery","orders","batch"] (spD T K 3 wA):=
 have hT:=x.me;have hT0:=bX x.me
 cF x.me x.F21 kQ λvK A outer s H E hr=>
  (aH (aW 3 kQ.nd (DR.de (aU (T6 x) hr.le x.c16 (aE (aB 0) (aE (aB 1) (aE (aB 2) aQ))))))
   (aH (aW 4 kQ.nd (cD (aO (aB 1) (aF fZ (cD (aB 2) (fo9 x)) aC)) (fo4 x)))
   (aH (aW 5 kQ.nd (DR.de (aU (U1 x) hr.le x.c20 (aE (aB 0) (aE (aB 3) (aE (cD (aB 2) (fo6 x)) aQ))))))
   (aH (gK 6 kQ.nd (DF.dr (bM aK)))
   (aH (cU rfl (dE (DE.dp (DR.de (aU (U2 x) hr.le x.c19 (aE (cD (aB 3) (fo2 x)) (aE (aB 4) aQ)))))) (dB 7 kQ.nd) (aL (cU rfl (dE (DE.dp (DR.de (aU (PB x) hr.le x.c18 (aE aC (aE (aF fZ (aB 4) (cA (pA rfl) rfl x.n_sum rfl (aG (aB 7) aK))) aQ)))))) (dB 8 kQ.nd) (aL (KM 6 kQ.nd (DC.df (dX hT0 rfl (dE (DE.dp (aB 5))) (iE ["begin","lengths"] [8,7] (hc:=(eL rfl rfl rfl (eL rfl rfl rfl iF)))) (λcl C s₀ H₀ ex=>(DR.de (lF x.mk14 (U4 x) lG hr.le rfl x.mC14 x.b13 .nil (λ_=>rfl) rfl (aE (aB 1) (aE (aB 2) (aE (aB 0) aQ)))))))))))))
   (aL (jV 6)))))))
theorem PQ:bO ["bakery","orders","batch","batches"] ["bakery","orders","batch"] (aZ qV):=by walk_at "sc"
def PR (ρ:Ro):Fl:=(fH (rC 3 wA (gSh (aA 0) (gSh (aA 1) (gSh (eIx (aA 3) (eM (aA 2) (eI 1))) gN0))))) ρ
def BX (ρ:Ro):Fl:=((dM (rD (rC 2 F_4 (gSh (aA 2) (gSh (eCB cW (aD (aA 3) aI)) gN0))))) ρ).bind PR
def wB (ρ:Ro):Fl:=((aR 3 (rD (rC 2 vR (gSh (aA 0) (gSh (aA 1) gN0))))) ρ).bind BX
def nX:Fn:=fnF 4 wB
theorem U6 (x:Tx K mg fa fd T):bB P w K mg base (CXE T P w) 7 (fa 22) (fd 22) ["bakery","orders","batch"] (spD T K 3 nX):=
 have hT:=x.me;have hT0:=bX x.me
 cF x.me x.F22 PQ λvK A outer s H E hr=>
  (aH (aW 3 PQ.nd (DR.de (aU (T2 x) hr.le x.c17 (aE (aB 0) (aE (aB 1) aQ)))))
   (aH (dQ (DR.de (aU (T4 x) hr.le x.c4 (aE (aB 2) (aE (cA dN rfl x.n_len rfl (aG (aB 3) aK)) aQ)))))
   (aL (gL (aU (U5 x) hr.le x.c21 (aE (aB 0) (aE (aB 1) (aE (aO (aB 3) (aF fZ (aB 2) aC)) aQ))))))))
theorem U7:bO ["_law_bakery_here","_law_orders_here","_law_batch"] ["_law_bakery_here","_law_orders_here","_law_batch"] (aZ rV):=by walk_at "sc"
def BY (ρ:Ro):Fl:=(fH (rC 3 nX (gSh (aA 0) (gSh (aA 1) (gSh (aA 2) gN0))))) ρ
def PU (ρ:Ro):Fl:=(dA (eC .non)) ρ
def qA (ρ:Ro):Fl:=(iP BY (mK (λc=>List.lookup c [(0,false),(1,false),(2,false),(3,false),(4,false),(5,false),(6,false),(7,false),(8,false),(9,true),(10,false)]) PU (λ_ _=>.bad))) ρ
def kR:Fn:=fnF 3 qA
theorem PV (x:Tx K mg fa fd T):bB P w K mg base (CXE T P w) 8 (fa 46) (fd 46) ["_law_bakery_here","_law_orders_here","_law_batch"] (spD T K 3 kR):=
 have hT:=x.me;have hT0:=bX x.me
 cF x.me x.F46 U7 λvK A outer s H E hr=>
  (aL (m9 rfl rfl (λpn=>(aL (gL (aU (U6 x) hr.le x.c22 (aE (aB 0) (aE (aB 1) (aE (aB 2) aQ))))))) (m8 (k:=9) (m:=λc=>List.lookup c [(0,false),(1,false),(2,false),(3,false),(4,false),(5,false),(6,false),(7,false),(8,false),(9,true),(10,false)]) rfl x.mC9 (r9 (List.forall_mem_cons.mpr ⟨x.exm0_9,List.forall_mem_cons.mpr ⟨x.exm1_9,List.forall_mem_cons.mpr ⟨x.exm2_9,List.forall_mem_cons.mpr ⟨x.exm3_9,List.forall_mem_cons.mpr ⟨x.exm4_9,List.forall_mem_cons.mpr ⟨x.exm5_9,List.forall_mem_cons.mpr ⟨x.exm6_9,List.forall_mem_cons.mpr ⟨x.exm7_9,List.forall_mem_cons.mpr ⟨x.exm8_9,List.forall_mem_cons.mpr ⟨x.exm9_9,List.forall_mem_cons.mpr ⟨x.exm10_9,List.forall_mem_nil _⟩⟩⟩⟩⟩⟩⟩⟩⟩⟩⟩)) (λu=>(aL (dG xW))) j8)))
theorem U8:bO ["_law_found"] ["_law_found"] (aZ rF):=by walk_at "sc"
def PX (ρ:Ro):Fl:=(dA (sJ (jJ sO (aA 0)) (yC (jJ sP (aA 0))))) ρ
def wC:Fn:=fnF 1 PX
theorem U9 (x:Tx K mg fa fd T):bB P w K mg base (CXE T P w) 1 (fa 32) (fd 32) ["_law_found"] (spD T K 1 wC):=
 have hT:=x.me;have hT0:=bX x.me
 cF x.me x.F32 U8 λvK A outer s H E hr=>
  (aL (dG (yE (oR rfl x.n_isinstance (aB 0) rfl x.n_int rfl HV HX) (HI (HJ (oR rfl x.n_isinstance (aB 0) rfl x.n_bool rfl HW HY))))))
theorem wD:bO ["_law_found","_law_lot","_law_table","_law_run","_law_number"] ["_law_found","_law_lot"] (aZ rW):=by walk_at "sc"
def V0 (ρ:Ro):Fl:=(dA (eC (.bl false))) ρ
def V1 (ρ:Ro):Fl:=(dA (eC (.bl false))) ρ
def V2 (ρ:Ro):Fl:=(dA (eC (.bl false))) ρ
def BZ (ρ:Ro):Fl:=(sIf (eK (fB (rD (rC 1 wC (gSh (aA 4) gN0))))) V2 Fl.nx) ρ
def V3 (ρ:Ro):Fl:=(dA (eC (.bl false))) ρ
def CA (ρ:Ro):Fl:=(zU 2 (fC (aD (aY [(14,0)] (aA 3)) (aD (aY [(14,1)] (aA 3)) (aD (aY [(14,2)] (aA 3)) aI)))) (eC (.bl false))) ρ
def CB (ρ:Ro):Fl:=((sIf (eK (fB (pH 2 (fC (aD (aY [(14,0)] (aA 3)) (aD (aY [(14,1)] (aA 3)) (aD (aY [(14,2)] (aA 3)) aI)))) (eC (.bl false))))) V3 Fl.nx) ρ).bind CA
def wE (ρ:Ro):Fl:=((cQ (bC (aS (kA (bF (aD (aY [(14,0)] (aA 3)) (aD (aY [(14,2)] (aA 3)) aI))) (gQ (aY [(14,1)] (aA 3)))))) (aV 4) BZ) ρ).bind CB
def qB (ρ:Ro):Fl:=((sIf (jU (eK (fB (jJ (sS 14) (aA 3)))) (eK (fB (jJ yI (aY [(14,1)] (aA 3)))))) V1 Fl.nx) ρ).bind wE
def V4 (ρ:Ro):Fl:=(dA (eC (.bl true))) ρ
def PY (ρ:Ro):Fl:=((cQ (sK 0) (aV 3) qB) ρ).bind V4
def wF (ρ:Ro):Fl:=((zT 2 (bJ (bC (aA 1)) [] (fC (aD (aA 0) (aD (eC (.bl true)) aI))))) ρ).bind PY
def CC (ρ:Ro):Fl:=((sIf (jU (eK (fB (yW 0))) (tNe (oQ (fY 0)) (eCB cW (aD (aA 1) aI)))) V0 Fl.nx) ρ).bind wF
def qC:Fn:=fnF 5 CC
theorem V5 (x:Tx K mg fa fd T):bB P w K mg base (CXE T P w) 2 (fa 47) (fd 47) ["_law_found","_law_lot"] (spD T K 2 qC):=
 have hT:=x.me;have hT0:=bX x.me
 cF x.me x.F47 wD λvK A outer s H E hr=>
  (aH (cO (DW.dt (lD (fG (gJ (v9 0 rfl x.n_isinstance rfl x.n_list))) (mI (dF sN (sL rfl x.n_len (lA 0)) (cA dN rfl x.n_len rfl (aG (aB 1) aK)) (nomark _))))) (aL (dG fF)) cN)
   (aH (N9 2 hr rfl wD.nd (DF.dl (DC.df (dX hT0 rfl (dE (DE.dp (aB 1))) cap0 (λcl C s₀ H₀ ex=>(hW (aG (aB 0) (aG fF aK))))))) rfl x.n_dict)
   (aH (cU rfl (dE (HN 0)) (dB 3 wD.nd) (aH (cO (DW.dt (lD (fG (gJ (p7 rfl x.n_isinstance (aB 3) rfl x.mC14 (o9 x.ii14) (p5 _)))) (mI (fG (gJ (oR rfl x.n_isinstance (cD (aB 3) (fo13 x)) rfl x.n_tuple rfl g7 g9)))))) (aL (dG fF)) cN)
   (aH (cU rfl (dE (DE.dp (DF.de (oX (DF.dl (bM (aG (cD (aB 3) (fo14 x)) (aG (cD (aB 3) (fo15 x)) aK)))) (DF.dl (v8 rfl x.n_list (cD (aB 3) (fo13 x)))))))) (dB 4 wD.nd) (aL (cO (fG (gJ (DR.de (aU (U9 x) hr.le x.c32 (aE (aB 4) aQ))))) (aL (dG fF)) cN)))
   (aH (cO (fG (gJ (O0 2 hr (hW (aG (cD (aB 3) (fo14 x)) (aG (cD (aB 3) (fo13 x)) (aG (cD (aB 3) (fo15 x)) aK)))) fF))) (aL (dG fF)) cN)
   (aL (O1 2 hr (hW (aG (cD (aB 3) (fo14 x)) (aG (cD (aB 3) (fo13 x)) (aG (cD (aB 3) (fo15 x)) aK)))) fF))))))
   (aL (dG fF)))))
theorem iZ:bO ["_law_stages_here","_law_left","_law_rows","_law_least","_law_most","_law_want","_law_heat","_law_longer","_law_row","_law_length"] ["_law_stages_here","_law_left"] (aZ rS):=by walk_at "sc"
def PZ (ρ:Ro):Fl:=(iC 7 (aS (kA (bC (aA 8)) (bF (aD (aA 9) aI))))) ρ
def wG (ρ:Ro):Fl:=(sIf (tB2 qGe (aA 9) (aA 3)) PZ Fl.nx) ρ
def wH (ρ:Ro):Fl:=(cQ (jZ (eI 5) (aX (eCB gM (aD (aA 4) (aD (eM (aA 1) (eCB fK (aD (aA 8) aI))) aI))) (eI 1)) (eI 5)) (aV 9) wG) ρ
def QA (ρ:Ro):Fl:=(aR 2 (aA 7)) ρ
def QB (ρ:Ro):Fl:=oO 7 QA ρ
def CD (ρ:Ro):Fl:=((cQ (bC (aA 2)) (aV 8) wH) ρ).bind QB
def CF (ρ:Ro):Fl:=((eQ 7 (fFr (bF aI))) ρ).bind CD
def QC (ρ:Ro):Fl:=(dA (aA 2)) ρ
def CG (ρ:Ro):Fl:=((cQ (bC (aA 0)) (iQ [3,4,5,6]) CF) ρ).bind QC
def CH (ρ:Ro):Fl:=((aR 2 (aS (bF (aD (aS (bF aI)) aI)))) ρ).bind CG
def wI:Fn:=fnF 10 CH
theorem V6 (x:Tx K mg fa fd T):bB P w K mg base (CXE T P w) 1 (fa 44) (fd 44) ["_law_stages_here","_law_left"] (spD T K 2 wI):=
 have hT:=x.me;have hT0:=bX x.me
 cF x.me x.F44 iZ λvK A outer s H E hr=>
  (aH (aW 2 iZ.nd (DF.de (bM (aG (DF.de (bM aK)) aK))))
   (aH (cU rfl (dE (DE.dp (aB 0))) (yP rfl (jM 3 iZ.nd (jM 4 iZ.nd (jM 5 iZ.nd (jM 6 iZ.nd yO))))) (aH (gK 7 iZ.nd (DF.dr (bM aK)))
   (aH (cU rfl (dE (DE.dp (aB 2))) (dB 8 iZ.nd) (aL (cU rfl (yR rfl x.n_range aC (aF bG (cA (jW rfl) rfl x.n_min rfl (aG (aB 4) (aG (aF fZ (aB 1) (cA (pA rfl) rfl x.n_sum rfl (aG (aB 8) aK))) aK))) aC) aC) (dB 9 iZ.nd) (aL (cO (dF xY (aB 9) (aB 3) (nomark _)) (aL (jN 7 (DF.de (oX (DE.dl (aB 8)) (DF.dl (bM (aG (aB 9) aK))))))) cN)))))
   (yG 7 (aL (aW 2 iZ.nd (aB 7)))))))
   (aL (dG (aB 2)))))
theorem iJ:bO ["_law_scene_here","_law_batch","_law_kind","_law_loaves","_law_due","_law_stages_here","_law_fit","_law_rows","_law_lengths_here","_law_begin","_law_oven"] ["_law_scene_here","_law_batch"] (aZ rT):=by walk_at "sc"
def QD (ρ:Ro):Fl:=(aR 6 (aS (mY (dH (n1 (eCB cW (aD (eIx (aA 0) (eI 3)) aI)))) [1,0] (tB2 qGe (eIx (eIx (eIx (aA 2) (eI 3)) (aA 0)) (eI 0)) (eIx (aA 1) (eI 1))) (aX (aA 0) (eI 1))))) ρ
def CI (ρ:Ro):Fl:=(iC 7 (fC (aD (aA 9) (aD (mR (bC (aA 8))) (aD (aA 10) aI))))) ρ
def wJ (ρ:Ro):Fl:=(cQ (bC (aA 6)) (aV 10) CI) ρ
def qD (ρ:Ro):Fl:=(cQ (jZ (eI 0) (aX (eM (aA 4) (eCB fK (aD (aA 8) aI))) (eI 1)) (eI 5)) (aV 9) wJ) ρ
def QE (ρ:Ro):Fl:=(iO 7) ρ
def CJ (ρ:Ro):Fl:=((cQ (bC (rD (rC 2 wI (gSh (aA 5) (gSh (aA 4) gN0))))) (aV 8) qD) ρ).bind QE
def qE (ρ:Ro):Fl:=((eQ 7 (fFr (bF aI))) ρ).bind CJ
def qF (ρ:Ro):Fl:=((sIf (tB2 (inD false) (eI 3) (aS (bJ (bC (aA 5)) [] (eIx (aA 0) (eI 2))))) QD Fl.nx) ρ).bind qE
def QF (ρ:Ro):Fl:=((aR 6 (aS (bF (aD (eI 0) aI)))) ρ).bind qF
def QG (ρ:Ro):Fl:=((aR 5 (eIx (eIx (aA 0) (eI 4)) (aA 2))) ρ).bind QF
def wK (ρ:Ro):Fl:=((IJ [2,3,4] (eIx (eIx (aA 0) (eI 5)) (eIx (aA 1) (eI 0)))) ρ).bind QG
def nY:Fn:=fnF 11 wK
theorem V7 (x:Tx K mg fa fd T):bB P w K mg base (CXE T P w) 2 (fa 45) (fd 45) ["_law_scene_here","_law_batch"] (spD T K 2 nY):=
 have hT:=x.me;have hT0:=bX x.me
 cF x.me x.F45 iJ λvK A outer s H E hr=>
  (aH (r6 (aO (aO (aB 0) aC) (aO (aB 1) aC)) (yP rfl (jM 2 iJ.nd (jM 3 iJ.nd (jM 4 iJ.nd yO)))))
   (aH (aW 5 iJ.nd (aO (aO (aB 0) aC) (aB 2)))
   (aH (aW 6 iJ.nd (DF.de (bM (aG aC aK))))
   (aH (cO (dF IZ aC (DF.de (DC.df (dX hT0 rfl (dE (DE.dp (aB 5))) cap0 (λcl C s₀ H₀ ex=>(aO (aB 0) aC))))) rfl) (aL (DC.setF 6 iJ.nd (O9 hT0 rfl (fR (fO rfl x.n_range (cA dN rfl x.n_len rfl (aG (aO (aB 0) aC) aK)))) (iE ["_law_batch","_law_scene_here"] [1,0] (hc:=(eL rfl rfl rfl (eL rfl rfl rfl iF)))) (λcl C s₀ H₀ ex=>(aF bG (aB 0) aC)) (λcl C s₀ H₀ ex=>(dF xY (aO (aO (aO (aB 2) aC) (aB 0)) aC) (aO (aB 1) aC) (nomark _)))))) cN)
   (aH (gK 7 iJ.nd (DF.dr (bM aK)))
   (aH (cU rfl (dE (DE.dp (DR.de (aU (V6 x) hr.le x.c44 (aE (aB 5) (aE (aB 4) aQ)))))) (dB 8 iJ.nd) (aL (cU rfl (yR rfl x.n_range aC (aF bG (aF fZ (aB 4) (cA (pA rfl) rfl x.n_sum rfl (aG (aB 8) aK))) aC) aC) (dB 9 iJ.nd) (aL (cU rfl (dE (DE.dp (aB 6))) (dB 10 iJ.nd) (aL (jN 7 (hW (aG (aB 9) (aG (oY rfl x.n_tuple (DE.dl (aB 8))) (aG (aB 10) aK)))))))))))
   (aL (jV 7))))))))
theorem CK:bO ["_law_orders_here","_law_asked_here","_law_names_here","_law_k","_law_row"] ["_law_orders_here","_law_asked_here","_law_names_here"] (aZ rQ):=by walk_at "sc"
def V8 (ρ:Ro):Fl:=(dA (eC (.bl false))) ρ
def V9 (ρ:Ro):Fl:=(dA (eC (.bl false))) ρ
def W0 (ρ:Ro):Fl:=(dA (eC (.bl false))) ρ
def QH (ρ:Ro):Fl:=(sIf (eK (fB (rD (rC 2 nU (gSh (aY [(12,2)] (eIx (aA 0) (aA 3))) (gSh (eIx (aA 4) (eI 2)) gN0)))))) W0 Fl.nx) ρ
def QI (ρ:Ro):Fl:=((sIf (jU (tNe (aY [(12,0)] (eIx (aA 0) (aA 3))) (eIx (aA 2) (eIx (aA 4) (eI 0)))) (eK (fB (rD (rC 2 nU (gSh (aY [(12,1),(13,2)] (eIx (aA 0) (aA 3))) (gSh (eIx (aA 4) (eI 1)) gN0))))))) V9 Fl.nx) ρ).bind QH
def CL (ρ:Ro):Fl:=((aR 4 (eIx (aA 1) (aA 3))) ρ).bind QI
def QJ (ρ:Ro):Fl:=(dA (eC (.bl true))) ρ
def wL (ρ:Ro):Fl:=((cQ (dH (n1 (eCB cW (aD (aA 1) aI)))) (aV 3) CL) ρ).bind QJ
def CM (ρ:Ro):Fl:=((sIf (tNe (eCB cW (aD (aA 0) aI)) (eCB cW (aD (aA 1) aI))) V8 Fl.nx) ρ).bind wL
def qG:Fn:=fnF 5 CM
theorem W1 (x:Tx K mg fa fd T):bB P w K mg base (CXE T P w) 2 (fa 42) (fd 42) ["_law_orders_here","_law_asked_here","_law_names_here"] (spD T K 3 qG):=
 have hT:=x.me;have hT0:=bX x.me
 cF x.me x.F42 CK λvK A outer s H E hr=>
  (aH (cO (dF sN (cA dN rfl x.n_len rfl (aG (aB 0) aK)) (cA dN rfl x.n_len rfl (aG (aB 1) aK)) (nomark _)) (aL (dG fF)) cN)
   (aH (cU rfl (fR (fO rfl x.n_range (cA dN rfl x.n_len rfl (aG (aB 1) aK)))) (dB 3 CK.nd) (aH (aW 4 CK.nd (aO (aB 1) (aB 3)))
   (aH (cO (DW.dt (lD (dF sN (cD (aO (aB 0) (aB 3)) (fo1 x)) (aO (aB 2) (aO (aB 4) aC)) (nomark _)) (mI (fG (gJ (DR.de (aU (AZ x) hr.le x.c33 (aE (cD (aO (aB 0) (aB 3)) (fo6 x)) (aE (aO (aB 4) aC) aQ))))))))) (aL (dG fF)) cN)
   (aL (cO (fG (gJ (DR.de (aU (AZ x) hr.le x.c33 (aE (cD (aO (aB 0) (aB 3)) (fo4 x)) (aE (aO (aB 4) aC) aQ)))))) (aL (dG fF)) cN)))))
   (aL (dG fF))))
theorem fW:bO ["_law_script","_law_scene_here","_law_names_here","_law_bakery_here","_law_orders_here","_law_batches_here","_law_cell","_law_turned","_law_others","_law_k","_law_place","_law_turn","_law_number","_law_one","_law_found"] ["_law_script"] (aZ rX):=by walk_at "sc"
def W2 (ρ:Ro):Fl:=(dA (eC (.bl false))) ρ
def W3 (ρ:Ro):Fl:=(dA (eC (.bl false))) ρ
def wM (ρ:Ro):Fl:=(yS 14) ρ
def wN (ρ:Ro):Fl:=((sIf (eK (fB (rD (rC 2 qC (gBo 14 (gSh (rD (rC 2 nY (gSh (aA 13) (gSh (eIx (eIx (aS (bF (aD (aA 5) (aD (aA 8) (aD (aA 5) aI))))) (aA 11)) (aA 10)) gN0)))) gN0)))))) W3 Fl.nx) ρ).bind wM
def wO (ρ:Ro):Fl:=((eQ 14 (rC 3 kR (gSh (aA 3) (gSh (eIx (aS (bF (aD (aA 4) (aD (aS (yV (bC (aA 4)))) (aD (aA 4) aI))))) (aA 11)) (gSh (aX (aA 10) (eI 1)) gN0))))) ρ).bind wN
def nZ (ρ:Ro):Fl:=((aR 13 (eIx (aS (bF (aD (aA 1) (aD (aA 7) (aD (aA 1) aI))))) (aA 11))) ρ).bind wO
def wP (ρ:Ro):Fl:=(cQ (dH (n1 (eI 3))) (aV 11) nZ) ρ
def wQ (ρ:Ro):Fl:=((aR 10 (bA (aX (bT (aA 6) (eI 5)) (aA 9)) (eCB cW (aD (aA 5) aI)))) ρ).bind wP
def W4 (ρ:Ro):Fl:=(dA (eC (.bl false))) ρ
def QK (ρ:Ro):Fl:=(sIf (tB2 (isD true) (rD (rC 3 kR (gSh (aA 3) (gSh (aA 4) (gSh (aA 12) gN0))))) (eC .non)) W4 Fl.nx) ρ
def QL (ρ:Ro):Fl:=((aR 12 (eIx (aS (bF (aD (eI 0) (aD (aX (eCB cW (aD (aA 5) aI)) (eI 1)) (aD (eM (eI 0) (bA (bT (aA 6) (eI 5)) (e2 (i2c sG λi j=>.int (i ^ j.toNat)) (eI 10) (eI 20)))) (aD (aX (eI 4) (bA (bT (aA 6) (eI 5)) (e2 (i2c sG λi j=>.int (i ^ j.toNat)) (eI 10) (eI 20)))) aI)))))) (bA (bT (aA 6) (eI 20)) (eI 4)))) ρ).bind QK
def oA (ρ:Ro):Fl:=(fH (rC 3 qG (gSh (aA 4) (gSh (eIx (aA 1) (eI 5)) (gSh (aA 2) gN0))))) ρ
def wR (ρ:Ro):Fl:=((sIf (tEq (bA (aA 6) (eI 5)) (eI 4)) QL Fl.nx) ρ).bind oA
def wS (ρ:Ro):Fl:=((cQ (dH (n1 (eCB gM (aD (eI 2) (aD (eCB cW (aD (aA 5) aI)) aI))))) (aV 9) wQ) ρ).bind wR
def QM (ρ:Ro):Fl:=((aR 8 (rD (rC 1 nT (gSh (aA 7) gN0)))) ρ).bind wS
def QN (ρ:Ro):Fl:=((aR 7 (aS (kA (IN (bC (aA 1)) oNo (oSo (eI 5))) (bF (aD (aS (yV (bC (eIx (aA 1) (eI 5))))) aI))))) ρ).bind QM
def QO (ρ:Ro):Fl:=((sIf (eK (fB (rD (rC 2 nU (gSh (eI 5) (gSh (eI 5) gN0)))))) W2 Fl.nx) ρ).bind QN
def QP (ρ:Ro):Fl:=((aR 6 (rD (rC 2 cY (gSh (aA 0) (gSh (eI 14) gN0))))) ρ).bind QO
def QR (ρ:Ro):Fl:=((aR 5 (rD (rC 1 nT (gSh (aA 1) gN0)))) ρ).bind QP
def QS (ρ:Ro):Fl:=((aR 4 (rD (rC 2 pT (gSh (eIx (aA 1) (eI 5)) (gSh (aA 2) gN0))))) ρ).bind QR
def QT (ρ:Ro):Fl:=((aR 3 (rD (rC 2 uU (gSh (aA 1) (gSh (aA 2) gN0))))) ρ).bind QS
def QU (ρ:Ro):Fl:=((aR 2 (rD (rC 2 pS (gSh (rD (rC 2 cY (gSh (aA 0) (gSh (eI 13) gN0)))) (gSh (eCB cW (aD (eIx (aA 1) (eI 4)) aI)) gN0))))) ρ).bind QT
def CN (ρ:Ro):Fl:=((aR 1 (rD (rC 1 uG (gSh (aA 0) gN0)))) ρ).bind QU
def wT:Fn:=fnF 15 CN
theorem W5 (x:Tx K mg fa fd T):bB P w K mg base (CXE T P w) 9 (fa 48) (fd 48) ["_law_script"] (spD T K 1 wT):=
 have hT:=x.me;have hT0:=bX x.me
 cF x.me x.F48 fW λvK A outer s H E hr=>
  (aH (aW 1 fW.nd (DR.de (aU (P6 x) hr.le x.c39 (aE (aB 0) aQ))))
   (aH (aW 2 fW.nd (DR.de (aU (P7 x) hr.le x.c34 (aE (DR.de (aU (dY x) hr.le x.c31 (aE (aB 0) (aE aC aQ)))) (aE (cA dN rfl x.n_len rfl (aG (aO (aB 1) aC) aK)) aQ)))))
   (aH (aW 3 fW.nd (DR.de (aU (R4 x) hr.le x.c40 (aE (aB 1) (aE (aB 2) aQ)))))
   (aH (aW 4 fW.nd (DR.de (aU (R8 x) hr.le x.c41 (aE (aO (aB 1) aC) (aE (aB 2) aQ)))))
   (aH (aW 5 fW.nd (DR.de (aU (OE x) hr.le x.c43 (aE (aB 1) aQ))))
   (aH (aW 6 fW.nd (DR.de (aU (dY x) hr.le x.c31 (aE (aB 0) (aE aC aQ)))))
   (aH (cO (fG (gJ (DR.de (aU (AZ x) hr.le x.c33 (aE (cX rfl x.c_STEP) (aE aC aQ)))))) (aL (dG fF)) cN)
   (aH (aW 7 fW.nd (DF.de (oX (DF.dl (u9 (DE.dl (aB 1)) mO (mP aC))) (DF.dl (bM (aG (DF.de (IQ (DE.dl (aO (aB 1) aC)) (IB aC))) aK))))))
   (aH (aW 8 fW.nd (DR.de (aU (OE x) hr.le x.c43 (aE (aB 7) aQ))))
   (aH (cU rfl (fR (fO rfl x.n_range (cA (jW rfl) rfl x.n_min rfl (aG aC (aG (cA dN rfl x.n_len rfl (aG (aB 5) aK)) aK))))) (dB 9 fW.nd) (aH (aW 10 fW.nd (aF bE (aF bG (aF cB (aB 6) aC) (aB 9)) (cA dN rfl x.n_len rfl (aG (aB 5) aK))))
   (aL (cU rfl (fR (fO rfl x.n_range aC)) (dB 11 fW.nd) (aH (aW 13 fW.nd (aO (DF.de (bM (aG (aB 1) (aG (aB 7) (aG (aB 1) aK))))) (aB 11)))
   (aH (gK 14 fW.nd (aU (PV x) hr.le x.c46 (aE (aB 3) (aE (aO (DF.de (bM (aG (aB 4) (aG (DF.de (IQ (DE.dl (aB 4)) (IB aC))) (aG (aB 4) aK))))) (aB 11)) (aE (aF bG (aB 10) aC) aQ)))))
   (aH (cO (fG (gJ (DR.de (aU (V5 x) hr.le x.c47 (yA 14 (aE (DR.de (aU (V7 x) hr.le x.c45 (aE (aB 13) (aE (aO (aO (DF.de (bM (aG (aB 5) (aG (aB 8) (aG (aB 5) aK))))) (aB 11)) (aB 10)) aQ)))) aQ)))))) (aL (dG fF)) cN)
   (aL (u6 14)))))))))
   (aH (cO (dF hY (aF bE (aB 6) aC) aC (nomark _)) (aH (aW 12 fW.nd (aO (DF.de (bM (aG aC (aG (aF bG (cA dN rfl x.n_len rfl (aG (aB 5) aK)) aC) (aG (aF fZ aC (aF bE (aF cB (aB 6) aC) (aF HC aC aC))) (aG (aF bG aC (aF bE (aF cB (aB 6) aC) (aF HC aC aC))) aK)))))) (aF bE (aF cB (aB 6) aC) aC)))
   (aL (cO (dF r0 (DR.de (aU (PV x) hr.le x.c46 (aE (aB 3) (aE (aB 4) (aE (aB 12) aQ))))) xW (nomark _)) (aL (dG fF)) cN))) cN)
   (aL (gL (aU (W1 x) hr.le x.c42 (aE (aB 4) (aE (aO (aB 1) aC) (aE (aB 2) aQ)))))))))))))))))
end
end Lw
open PySem L2 L3
namespace Lw
theorem at_ (ns:List Int) (k:Nat):cY [.sh (.lst (ns.map D.int)),.sh (.int k)]=.ok (.sh (.int (ns.getD k 0))):=by
 by_cases h:k < ns.length
 ·have e:atI (ns.map D.int) (k:Int)=some (.int ns[k]):=dC (by simp [h]);simp [cY,zZ,zY,zX,h,e]
 ·simp [cY,zZ,zY,zX,h]
theorem is_ (i j:Int):nU [.sh (.int i),.sh (.int j)]=.ok (.sh (.bl (decide (i=j)))):=by simp [nU,OF]
theorem gF {n:Int} (h:n.natAbs < 2 ^ 200):n.natAbs.log2 < 1920:=by
 by_cases h0:n.natAbs=0
 ·rw [h0];decide
 ·rw [Nat.log2_lt h0];exact Nat.lt_of_lt_of_le h (Nat.pow_le_pow_right (by decide) (by decide))
theorem chkn (n lo hi:Int) (hn:n.natAbs.log2 < 1920) (hl:lo.natAbs.log2 < 1920) (hh:hi.natAbs.log2 < 1920):F_2 [.sh (.int n),.sh (.int lo),.sh (.int hi)]=if lo<=n/\n<=hi then .ok (.sh .non) else .exc 3:=by
 have l1:Str.length " does not lie from "<=200000:=by decide
 have l2:Str.length " to "<=200000:=by decide
 by_cases h1:lo<=n
 ·by_cases h2:n<=hi
  ·simp [F_2,uM,h1,h2]
  ·simp [F_2,uM,AR,h1,h2,hn,hl,hh,l1,l2]
 ·simp [F_2,uM,AR,h1,hn,hl,hh,l1,l2]
abbrev abc:Str:="abcdefghijklmnopqrstuvwxyz"
theorem QV:Tz 26 abc:=⟨by decide +kernel,by decide +kernel⟩
theorem W6:abc.length=26:=by decide +kernel
def oc (c:Nat):Bool:=!(Builtin.Str.occurrences abc ⟨#[c]⟩ 0 abc.length 1).isEmpty
def good (z:Str):Prop:=(1<=(z.length:Int)/\(z.length:Int)<=12)/\z.cps.toList.all oc=true
theorem QW (ρ:Ro):∀cs:List Nat,eR (λd=>e2 (inD false) (aA 0) (eC (.str abc)) (cG [] ρ d)) (cs.map λc=>D.str ⟨#[c]⟩)=some ((cs.map oc).map D.bl)
 | []=>rfl
 | c::cs=>by
  rw [List.map_cons,eR,QW ρ cs]
  rfl
theorem CO:∀bs:List Bool,iR (bs.map D.bl)=some bs
 | []=>rfl
 | b::bs=>by rw [List.map_cons,iR,CO bs]
theorem W7 (z:Str) (hz:z.length<=1000) (ρ:Ro) (h0:aA 0 ρ=.ok (.str z)):eCB mV (aD (aS (bJ (mT (aA 0)) [] (e2 (inD false) (aA 0) (eC (.str abc))))) aI) ρ=.ok (.bl (z.cps.toList.all oc)):=by
 have e1:bJ (mT (aA 0)) [] (e2 (inD false) (aA 0) (eC (.str abc))) ρ=.ok ((z.cps.toList.map oc).map D.bl):=by
  rw [bJ,mT,h0,Out.ok_bind,D.toS,Out.ok_bind];rw [if_pos (by simp [signs,Str.length] at hz ⊢; omega),signs,QW]
 rw [eCB,aD,aS,e1,Out.ok_bind,Out.ok_bind,aI,Out.ok_bind,Out.ok_bind];rw [mV,CO];simp [List.all_map]
theorem W8 (z:Str) (hz:Tz 1000 z):F_1 [.sh (.str z)]=open Classical in if good z then .ok (.sh .non) else .exc 1:=by
 have hl:z.length<=1000000:=by have:=hz.len;omega
 have al:=W7 z hz.len [.sh (.str z)] rfl;have l1:Str.length " is not 1 to "<=200000:=by decide
 have l2:Str.length " small letters"<=200000:=by decide
 have rp:=hz.repr (Nat.le_refl _);have m12:Nat.log2 12 < 1920:=by decide
 have bad:uK [.sh (.str z)]=.exc 1 [.sh (.str z)]:=by
  simp [uK,l1,l2,rp,m12]
 have step:∀b:Bool,z.cps.toList.all oc=b->uL [.sh (.str z)]=if (1<=(z.length:Int)/\(z.length:Int)<=12)/\b=true then .nx [.sh (.str z)] else .exc 1 [.sh (.str z)]:=by
  intro b hb;rw [hb] at al;rw [<-bad,uL];generalize uK=G;generalize hA:eCB mV (aD (aS (bJ (mT (aA 0)) [] (e2 (inD false) (aA 0) (eC (.str "abcdefghijklmnopqrstuvwxyz"))))) aI)=A;have al:A [.sh (.str z)]=.ok (.bl b):=by rw [<-hA];exact al
  clear hA;by_cases h1:1<=(z.length:Int)
  ·by_cases h2:(z.length:Int)<=12
   ·cases b<;>simp [hl,h1,h2,al]
   ·simp [hl,h1,h2]
  ·simp [hl,h1]
 have st:=step _ rfl;rw [F_1,fnF];show (match uL [.sh (.str z)] with | .nx _=>_ | .rt r=>_ | .exc c _=>_ | _=>_)=_;rw [st];by_cases h:good z
 ·rw [if_pos h,if_pos (show _/\_ from h)]
 ·rw [if_neg h,if_neg (show ¬(_/\_) from h)]
theorem chkc (n lo hi:Int) (hn:n.natAbs.log2 < 1920) (hl:lo.natAbs.log2 < 1920) (hh:hi.natAbs.log2 < 1920):F_3 [.sh (.int n),.sh (.int lo),.sh (.int hi)]=if lo<=n/\n<=hi then .ok (.sh .non) else .exc 4:=by
 have l1:Str.length " of them, not "<=200000:=by decide
 have l2:Str.length " to "<=200000:=by decide
 by_cases h1:lo<=n
 ·by_cases h2:n<=hi
  ·simp [F_3,uO,h1,h2]
  ·simp [F_3,uO,AS,h1,h2,hn,hl,hh,l1,l2]
 ·simp [F_3,uO,AS,h1,hn,hl,hh,l1,l2]
theorem small2 {n:Nat} (h:n<=1000000):(n:Int).natAbs.log2 < 1920:=gF (by simp;omega)
def wOk (w:Str):Bool:=inV (.str w) [V.str "nothing",V.str "hands",V.str "bench",V.str "oven"]
theorem W9 (w:Str):inD true (.str w) (.tup [.str "nothing",.str "hands",.str "bench",.str "oven"])=.ok (.bl (!wOk w)):=rfl
structure Wd (n:Nat) (z:Str):Prop where
 tz:Tz n z
 pos:1<=z.length
 oc:z.cps.toList.all oc=true
theorem Wd.good {z:Str} (h:Wd 12 z):good z:=⟨⟨by have:=h.pos;omega,by have:=h.tz.len;omega⟩,h.oc⟩
theorem QX {z:Str} (h:Wd 12 z):F_1 [.sh (.str z)]=.ok (.sh .non):=by
 have:=W8 z (h.tz.mono (by decide));rw [if_pos h.good] at this;exact this
theorem X0 (z w:Str) (a b h:Int) (hz:Wd 12 z) (hw:wOk w=true) (h1:1<=a) (h2:a<=b) (h3:b<=720) (h4:0<=h) (h5:h<=300):uN [.sh (.str z),.sh (.int a),.sh (.int b),.sh (.str w),.sh (.int h)]=.ok (.sh (.ins 16 [.str z,.int a,.int b,.str w,.int h])):=by
 have n0:=QX hz;have la:a.natAbs.log2 < 1920:=gF (by omega);have lb:b.natAbs.log2 < 1920:=gF (by omega);have c1:=chkn a 1 720 la (by decide) (by decide);have c2:=chkn b a 720 lb la (by decide);have c3:=chkn h 0 300 (gF (by omega)) (by decide) (by decide);rw [if_pos ⟨by omega,by omega⟩] at c1 c2 c3;have iw:=W9 w;rw [hw] at iw;simp [uN,MX,MW,MV,MU,MT,MS,MR,MQ,MP,MO,n0,iw,c1,c2,c3]
theorem X1 (z:Str) (ss:List D) (hz:Wd 12 z) (h1:1<=ss.length) (h2:ss.length<=6):uQ [.sh (.str z),.sh (.lst ss)]=.ok (.sh (.ins 17 [.str z,.tup ss])):=by
 have n0:=QX hz;have c1:=chkc (ss.length:Int) 1 6 (small2 (by omega)) (by decide) (by decide);rw [if_pos ⟨by omega,by omega⟩] at c1;simp [uQ,NB,NA,MZ,MY,n0,c1]
theorem X2 (a b h:Int) (h1:1<=a/\a<=30) (h2:1<=b/\b<=300) (h3:0<=h/\h<=300):F_5 [.sh (.int a),.sh (.int b),.sh (.int h)]=.ok (.sh (.ins 11 [.int a,.int b,.int h])):=by
 have c1:=chkn a 1 30 (gF (by omega)) (by decide) (by decide);have c2:=chkn b 1 300 (gF (by omega)) (by decide) (by decide);have c3:=chkn h 0 300 (gF (by omega)) (by decide) (by decide);rw [if_pos (by assumption)] at c1 c2 c3;simp [F_5,NH,NG,NF,NE,ND,NC,c1,c2,c3]
def brd (b:Str×List D):D:=.ins 17 [.str b.1,.tup b.2]
theorem QY:∀ts:List Str,fT (ts.map D.str)=some ts
 | []=>rfl
 | t::ts=>by rw [List.map_cons,fT,QY ts]
theorem X3 (ts:List Str) (h:ts.Nodup) (hl:ts.length<=4000):uR [.sh (.lst (ts.map D.str))]=.ok (.sh .non):=by
 have e:=(D7 ts).mpr h;have s:=QY ts;have hm:(ts.map D.str).length=ts.length:=by simp
 generalize ts.map D.str=zs at *;simp [uR,NI,s,hl,e,hm]
theorem X4 (n h b:Int) (os:List D) (bs:List (Str×List D)) (hn:1<=n/\n<=720) (hh:1<=h/\h<=6) (hb:1<=b/\b<=6) (ho:1<=os.length) (ho':os.length<=3) (hl:1<=bs.length) (hl':bs.length<=8) (nd:(bs.map (·.1)).Nodup) :
 uS [.sh (.int n),.sh (.int h),.sh (.int b),.sh (.lst os),.bo (bs.map brd)]=.ok (.sh (.ins 15 [.int n,.int h,.int b,.tup os,.tup (bs.map brd)])):=by
 have c1:=chkn n 1 720 (gF (by omega)) (by decide) (by decide);have c2:=chkn h 1 6 (gF (by omega)) (by decide) (by decide);have c3:=chkn b 1 6 (gF (by omega)) (by decide) (by decide);rw [if_pos (by assumption)] at c1 c2 c3;have c4:=chkc (os.length:Int) 1 3 (small2 (by omega)) (by decide) (by decide);have c5:=chkc ((bs.map brd).length:Int) 1 8 (small2 (by simp;omega)) (by decide) (by decide);rw [if_pos ⟨by omega,by omega⟩] at c4;rw [if_pos ⟨by simp;omega,by simp;omega⟩] at c5;have ap:=X3 (bs.map (·.1)) nd (by simp;omega);have mp:∀ρ:Ro,eR (λd=>aY [(16,0),(17,0)] (aA 0) (cG [] ρ d)) (bs.map brd)=some ((bs.map (·.1)).map D.str):=by
  intro ρ;rw [List.map_map];exact nA bs λx _=>by simp [cG,brd,List.lookup]
 have lb:(bs.map brd).length<=1000000:=by simp;omega
 generalize bs.map brd=bb at *;generalize (bs.map (·.1)).map D.str=zz at *;simp only [aY,aA] at mp;simp [uS,NT,NS,NR,NQ,NP,NO,NN,NM,NL,NK,NJ,c1,c2,c3,c4,c5,mp,lb,ap]
theorem QZ (me:Sl) (z:Str):∀(bs:List (Str×List D)) (x:Sl),∃x',cP (aP (aV 2) uW) (bs.map brd) [me,.sh (.str z),x]=(match bs.find? (λb=>decide (b.1=z)) with | some b=>.rt (.sh (brd b)) | none=>.nx [me,.sh (.str z),x'])
 | [],x=>⟨x,by rw [List.map_nil,kB];rfl⟩
 | b::bs,x=>by
  obtain ⟨x',e⟩:=QZ me z bs (.sh (brd b));refine ⟨x',?_⟩;by_cases h:b.1=z
  ·rw [List.map_cons,w8 (r:=.sh (brd b)),List.find?_cons_of_pos (by simpa using h)];simp [aP,uW,BA,brd,List.lookup,h]
  ·rw [List.map_cons,kC (ρ':=[me,.sh (.str z),.sh (brd b)]),List.find?_cons_of_neg (by simpa using h),e];simp [aP,uW,BA,brd,List.lookup,h]
theorem bread_of (n h b:D) (os:List D) (bs:List (Str×List D)) (z:Str) (hz:Tz 1000 z):kO [.sh (.ins 15 [n,h,b,.tup os,.tup (bs.map brd)]),.sh (.str z)]=(match bs.find? (λb=>decide (b.1=z)) with | some b=>.ok (.sh (brd b)) | none=>.exc 6):=by
 obtain ⟨x',e⟩:=QZ (.sh (.ins 15 [n,h,b,.tup os,.tup (bs.map brd)])) z bs .no;have rp:=hz.repr (Nat.le_refl _);have l1:Str.length "the bakery has no bread "<=200000:=by decide
 have k:uX [.sh (.ins 15 [n,h,b,.tup os,.tup (bs.map brd)]),.sh (.str z),.no]=(match bs.find? (λb=>decide (b.1=z)) with | some b=>.rt (.sh (brd b)) | none=>.exc 6 [.sh (.ins 15 [n,h,b,.tup os,.tup (bs.map brd)]),.sh (.str z),x']):=by
  rw [uX,cV (ds:=bs.map brd) (by simp),e];cases bs.find? (λb=>decide (b.1=z)) with
  | some b=>rfl
  | none=>simp [OH,rp,l1]
 rw [kO,fnF];show (match uX [.sh (.ins 15 [n,h,b,.tup os,.tup (bs.map brd)]),.sh (.str z),.no] with | .nx _=>_ | .rt r=>_ | .exc c _=>_ | _=>_)=_;rw [k];cases bs.find? (λb=>decide (b.1=z))<;>rfl
theorem CP {x:Str} {n:Nat} (h:n<=x.length):Txt.slice x none (some (n:Int))=⟨(x.cps.toList.take n).toArray⟩:=by
 have:=PyProof.Rows.slice_closes_toL (x:=x) (j:=(n:Int)) (by omega) (by omega);rw [beq_iff_eq] at this;rw [this];simp
theorem RA {x:Str} {n:Nat} (h:n<=x.length):Txt.slice x (some (n:Int)) none=⟨(x.cps.toList.drop n).toArray⟩:=by
 have:=PyProof.Rows.slice_from_eq (x:=x) (i:=(n:Int)) (b:=x.length) (by omega) (by omega) rfl;rw [this];have l:x.cps.toList.length=x.length:=yX x
 congr 2
 rw [List.take_of_length_le (by rw [List.length_drop,l];omega)];simp
theorem X5:abc.cps.toList.Nodup:=by decide +kernel
theorem X6:∀c∈abc.cps.toList,oc c=true:=by decide +kernel
theorem RB {n:Nat} (cs:List Nat) (h1:1<=cs.length) (h2:cs.length<=n) (h:∀c∈cs,c∈abc.cps.toList):Wd n ⟨cs.toArray⟩:=
 ⟨⟨by show cs.toArray.size<=n;simpa using h2,λc hc=>QV.cps c (h c (by simpa using hc))⟩,by show 1<=cs.toArray.size;simpa using h1,by
  rw [List.all_eq_true];intro c hc;exact X6 c (h c (by simpa using hc))⟩
theorem RC {as bs:List Nat} (h:(⟨as.toArray⟩:Str)=⟨bs.toArray⟩):as=bs:=by
 injection h with h
 simpa using h
theorem wU (as bs:List Nat):((⟨as.toArray⟩:Str)++(⟨bs.toArray⟩:Str))=⟨(as++bs).toArray⟩:=w5 (by rw [w6])
theorem hU (as:List Nat):(⟨as.toArray⟩:Str).length=as.length:=by simp [Str.length]
theorem CQ {α:Type} (n:Nat) (f:Nat->α) (h:∀i j,i < j->j < n->f i≠f j):((List.range n).map f).Nodup:=by
 unfold List.Nodup;rw [List.pairwise_map];exact List.pairwise_lt_range.imp_of_mem λ{a b} ha hb hab=>h a b hab (by simpa using hb)
theorem X7 (cell:Int) (n:Nat) (hn:n<=10):∃zs:List Str,zs.length=n/\zs.Nodup/\(∀z∈zs,Wd 12 z)/\pS [.sh (.int cell),.sh (.int n)]=.ok (.fr (zs.map D.str)):=by
 obtain ⟨sh,hsh,esh⟩:∃sh:Nat,sh < 26/\cell / 288 % 26=(sh:Int):=⟨(cell / 288 % 26).toNat,by omega,by omega⟩
 have al:abc.length=26:=W6;have ll:abc.cps.toList.length=26:=by rw [yX,al]
 have rg:∀ρ:Ro,ρ[1]?=some (.sh (.int n))->dH (n1 (aA 1)) ρ=.ok ((List.range n).map λk:Nat=>D.int (0+(k:Int))):=fun ρ h=>by
  rw [gD (n:=n) (by simp [h]) (by omega)];rfl
 by_cases ho:cell % 2=1
 ·obtain ⟨c3,hc3,e3⟩:∃c3:Nat,c3<=2/\cell / 2 % 3=(c3:Int):=⟨(cell / 2 % 3).toNat,by omega,by omega⟩
  let row:List Nat:=abc.cps.toList.drop sh++abc.cps.toList.take sh
  have hrow:row.length=26:=by simp [row,ll];omega
  have mrow:∀c∈row,c∈abc.cps.toList:=by
   intro c hc;rcases List.mem_append.mp hc with hc | hc
   ·exact List.mem_of_mem_drop hc
   ·exact List.mem_of_mem_take hc
  let f:Nat->Str:=λk=>⟨(row.take (k+1+c3)).toArray⟩
  refine ⟨(List.range n).map f,by simp,CQ n f λi j hij hj e=>?_,λz hz=>?_,?_⟩
  ·have:=congrArg List.length (RC e);rw [List.length_take,List.length_take,hrow] at this;omega
  ·obtain ⟨k,hk,rfl⟩:=List.mem_map.mp hz;have hk:k < n:=by simpa using hk
   exact RB _ (by rw [List.length_take,hrow];omega) (by rw [List.length_take,hrow];omega) λc hc=>mrow c (List.mem_of_mem_take hc)
  ·have g1:uH [.sh (.int cell),.sh (.int n),.sh (.str abc),.sh (.int sh),.no,.no,.sh (.str ⟨row.toArray⟩)]=.rt (.fr (((List.range n).map f).map D.str)):=by
    rw [uH];show Out.fl (Out.bind (bJ _ _ _ _) _) _ _=_;rw [hJ (rg _ rfl) (by simp;omega) (k:=λk=>D.str (f k))]
    ·rw [List.map_map];rfl
    ·intro k hk;have hk:k < n:=by simpa using hk
     have sl:Txt.slice ⟨row.toArray⟩ none (some ((k:Int)+1+(c3:Int)))=f k:=by
      rw [show (k:Int)+1+(c3:Int)=((k+1+c3:Nat):Int) by omega];exact CP (by rw [hU,hrow];omega)
     have lr:(⟨row.toArray⟩:Str).length<=1000000:=by rw [hU,hrow];decide
     generalize (⟨row.toArray⟩:Str)=R at *;simp [cG,fS,lr,e3,sl]
   have s1:=RA (x:=abc) (n:=sh) (by rw [al];omega);have s2:=CP (x:=abc) (n:=sh) (by rw [al];omega);have ap:=wU (abc.cps.toList.drop sh) (abc.cps.toList.take sh);have hz:abc.length<=1000000:=by rw [al];decide
   have z1:(⟨(abc.cps.toList.drop sh).toArray⟩:Str).length+(⟨(abc.cps.toList.take sh).toArray⟩:Str).length<=1000000:=by
    rw [hU,hU,List.length_drop,List.length_take];omega
   generalize hG:uH=G at *;generalize ((List.range n).map f).map D.str=Z at *;have hrw:(⟨row.toArray⟩:Str)=⟨(abc.cps.toList.drop sh).toArray⟩++⟨(abc.cps.toList.take sh).toArray⟩:=ap.symm;rw [hrw] at g1;generalize (⟨(abc.cps.toList.drop sh).toArray⟩:Str)=A at *;generalize (⟨(abc.cps.toList.take sh).toArray⟩:Str)=B at *;generalize hL:abc=L at *;have hL':Str.ofString "abcdefghijklmnopqrstuvwxyz" = L:=hL;simp [pS,AQ,AO,AN,ML,ho,esh,hL',hz,s1,s2,z1,hG,g1]
 ·obtain ⟨m,hm,em⟩:∃m:Nat,m<=11/\cell / 2 % 12=(m:Int):=⟨(cell / 2 % 12).toNat,by omega,by omega⟩
  obtain ⟨cs,c1,c2,c3⟩:=KA QV (by decide) (f:=λd=>e2 ixD (aA 1) (e2 (i2c mH λi j=>.int (i % j)) (e2 mJ (e2 (i2c mG λi j=>.int (i / j)) (aA 2) (eC (.int 7))) (e2 (i2c eD λi j=>.int (i*j)) (aA 0) (e2 mJ (aA 0) (eC (.int 2))))) (eC (.int 26))) (cG [2,0] [.sh (.int cell),.sh (.int n),.sh (.str abc),.sh (.int sh),.no,.no,.no] d)) (g:=λk:Nat=>D.int (0+(k:Int))) (ix:=λk=>(cell / 7+(k:Int)*((k:Int)+2)) % 26) (List.range m) (by
   intro k hk;have hk:k < m:=by simpa using hk
   have mo:eD (k:Int) ((k:Int)+2)=true:=by
    unfold eD;simp only [Bool.or_eq_true,Bool.and_eq_true,decide_eq_true_eq]
    left;constructor<;>omega
   refine ⟨by omega,by rw [al];omega,?_⟩;generalize abc=L;simp [cG,fS,mo])
  rw [List.length_range] at c1;obtain ⟨p,hp,ep⟩:∃p:Nat,p<=m/\cell / 24 % ((m:Int)+1)=(p:Int):=by
   have h0:=Int.emod_nonneg (cell / 24) (b:=(m:Int)+1) (by omega);have h1:=Int.emod_lt_of_pos (cell / 24) (b:=(m:Int)+1) (by omega);exact ⟨(cell / 24 % ((m:Int)+1)).toNat,by omega,by omega⟩
  have lt:∀k:Nat,(sh+k) % 26 < abc.cps.toList.length:=λk=>by rw [ll];exact Nat.mod_lt _ (by decide)
  let f:Nat->Str:=λk=>⟨(cs.take p++[abc.cps.toList[(sh+k) % 26]'(lt k)]++cs.drop p).toArray⟩
  have fl:∀k,(cs.take p++[abc.cps.toList[(sh+k) % 26]'(lt k)]++cs.drop p).length=m+1:=λk=>by
   simp [c1];omega
  refine ⟨(List.range n).map f,by simp,CQ n f λi j hij hj e=>?_,λz hz=>?_,?_⟩
  ·have e:=RC e;rw [List.append_assoc,List.append_assoc] at e;have e:=List.append_cancel_left e;have e:abc.cps.toList[(sh+i) % 26]'(lt i)=abc.cps.toList[(sh+j) % 26]'(lt j):=by
    have:=congrArg (λl=>l[0]?) e;simpa using this
   have:=(List.getElem_inj X5).mp e;omega
  ·obtain ⟨k,hk,rfl⟩:=List.mem_map.mp hz;refine RB _ (by rw [fl];omega) (by rw [fl];omega) λc hc=>?_
   rcases List.mem_append.mp hc with hc | hc
   ·rcases List.mem_append.mp hc with hc | hc
    ·exact c2 c (List.mem_of_mem_take hc)
    ·rw [List.mem_singleton.mp hc];exact List.getElem_mem _
   ·exact c2 c (List.mem_of_mem_drop hc)
  ·have g3:uI [.sh (.int cell),.sh (.int n),.sh (.str abc),.sh (.int sh),.sh (.str ⟨cs.toArray⟩),.sh (.int p),.no]=.rt (.fr (((List.range n).map f).map D.str)):=by
    rw [uI];show Out.fl (Out.bind (bJ _ _ _ _) _) _ _=_;rw [hJ (rg _ rfl) (by simp;omega) (k:=λk=>D.str (f k))]
    ·rw [List.map_map];rfl
    ·intro k hk;have hk:k < n:=by simpa using hk
     have s1:=CP (x:=⟨cs.toArray⟩) (n:=p) (by rw [hU];omega);have s2:=RA (x:=⟨cs.toArray⟩) (n:=p) (by rw [hU];omega);have lr:(⟨cs.toArray⟩:Str).length<=1000000:=by rw [hU];omega
     have ix:atI abc.cps.toList (((sh:Int)+(0+(k:Int))) % 26)=some (abc.cps.toList[(sh+k) % 26]'(lt k)):=by
      rw [show ((sh:Int)+(0+(k:Int))) % 26=(((sh+k) % 26:Nat):Int) by omega];exact dC (by simp [lt k])
     have hz:abc.length<=1000000:=by rw [al];decide
     have eq1:f k=⟨(cs.take p).toArray⟩++⟨#[abc.cps.toList[(sh+k) % 26]'(lt k)]⟩++⟨(cs.drop p).toArray⟩:=by
      show (⟨_⟩:Str)=_;rw [show (⟨#[abc.cps.toList[(sh+k) % 26]'(lt k)]⟩:Str)=⟨[abc.cps.toList[(sh+k) % 26]'(lt k)].toArray⟩ from rfl,wU,wU]
     have z1:(⟨(cs.take p).toArray⟩:Str).length+(⟨#[abc.cps.toList[(sh+k) % 26]'(lt k)]⟩:Str).length<=1000000:=by
      rw [show (⟨#[abc.cps.toList[(sh+k) % 26]'(lt k)]⟩:Str)=⟨[abc.cps.toList[(sh+k) % 26]'(lt k)].toArray⟩ from rfl,hU,hU];simp;omega
     have z2:((⟨(cs.take p).toArray⟩:Str)++⟨#[abc.cps.toList[(sh+k) % 26]'(lt k)]⟩).length+(⟨(cs.drop p).toArray⟩:Str).length<=1000000:=by
      rw [show (⟨#[abc.cps.toList[(sh+k) % 26]'(lt k)]⟩:Str)=⟨[abc.cps.toList[(sh+k) % 26]'(lt k)].toArray⟩ from rfl,wU,hU,hU];simp;omega
     rw [eq1];generalize abc.cps.toList[(sh+k) % 26]'(lt k)=q at *;clear eq1 fl;generalize (⟨(cs.take p).toArray⟩:Str)=A at *;generalize (⟨(cs.drop p).toArray⟩:Str)=B at *;generalize (⟨cs.toArray⟩:Str)=C at *;generalize hL:abc=L at *;generalize hI:((sh:Int)+(0+(k:Int))) % 26=I at *;have hI':((sh:Int)+(k:Int)) % 26=I:=by rw [<-hI];congr 2;omega
     simp [cG,fS,lr,s1,s2,hz,ix,hI',z1,z2]
   have fc:bJ (dH (n1 (e2 (i2c mH λi j=>.int (i % j)) (e2 (i2c mG λi j=>.int (i / j)) (aA 0) (eC (.int 2))) (eC (.int 12))))) [2,0] (e2 ixD (aA 1) (e2 (i2c mH λi j=>.int (i % j)) (e2 mJ (e2 (i2c mG λi j=>.int (i / j)) (aA 2) (eC (.int 7))) (e2 (i2c eD λi j=>.int (i*j)) (aA 0) (e2 mJ (aA 0) (eC (.int 2))))) (eC (.int 26)))) [.sh (.int cell),.sh (.int n),.sh (.str abc),.sh (.int sh),.no,.no,.no]=.ok (cs.map λc=>D.str ⟨#[c]⟩):=by
    rw [bJ,gD (n:=m) (by rw [<-em];simp) (by omega),Out.ok_bind,if_pos (by simp [rgD];omega)];show (match eR _ ((List.range m).map _) with | some es=>Out.ok es | none=>.bad)=_;rw [show eR _ ((List.range m).map λk:Nat=>D.int (0+(k:Int)))=_ from c3]
   have jn:=J9 cs (by omega);have ln:(⟨cs.toArray⟩:Str).length=m:=by rw [hU,c1]
   have g5:uJ [.sh (.int cell),.sh (.int n),.sh (.str abc),.sh (.int sh),.no,.no,.no]=.rt (.fr (((List.range n).map f).map D.str)):=by
    rw [uJ,kG (v:=.str ⟨cs.toArray⟩)]
    ·rw [Fl.nx_bind];generalize hG:uI=G at *;generalize ((List.range n).map f).map D.str=Z at *;generalize (⟨cs.toArray⟩:Str)=C at *;have lz:C.length<=1000000:=by omega
     have mp:0 < (m:Int)+1:=by omega
     have m6:m<=1000000:=by omega
     simp [MM,lz,m6,ln,ep,mp,hG,g3]
    ·show (Out.ok (D.str "")).bind _=_;rw [Out.ok_bind];show Out.bind (Out.bind (Out.bind (bJ _ _ _ _) _) _) _=_;rw [fc];exact jn
   generalize hG:uJ=G at *;generalize ((List.range n).map f).map D.str=Z at *;generalize hL:abc=L at *;have hL':Str.ofString "abcdefghijklmnopqrstuvwxyz" = L:=hL;simp [pS,AQ,AO,AN,ho,esh,hL',hG,g5]
theorem X8 (z:Str) (l d:Int) (hl:l.natAbs.log2 < 1920):F_6 [.sh (.str z),.sh (.int l),.sh (.int d)]=if 1<=l/\l<=60 then .ok (.sh (.ins 12 [.str z,.int l,.int d])) else .exc 3:=by
 have c1:=chkn l 1 60 hl (by decide) (by decide);by_cases h1:1<=l/\l<=60
 ·simp [F_6,AU,OA,NZ,NY,c1,h1]
 ·simp [F_6,AU,c1,h1]
def ord (o:Str×Int×Int):D:=.ins 12 [.str o.1,.int o.2.1,.int o.2.2]
def bat (b:Int×Int×Int):D:=.ins 13 [.int b.1,.int b.2.1,.int b.2.2]
def ovn (o:Int×Int×Int):D:=.ins 11 [.int o.1,.int o.2.1,.int o.2.2]
def nb (most ls:Int):Nat:=((ls-1) / most+1).toNat
def iK (most n ls:Int) (t:Nat):Int×Int×Int:=(n,1+(t:Int)*most,if ls-(1+(t:Int)*most)+1 < most then ls-(1+(t:Int)*most)+1 else most)
def jQ (most n ls:Int):List (Int×Int×Int):=(List.range (nb most ls)).map (iK most n ls)
def cH (most:Int):Int->List Int->List (Int×Int×Int)
 | _,[]=>[]
 | n,l::ls=>jQ most n l++cH most (n+1) ls
theorem CS (most n ls:Int):(jQ most n ls).length=nb most ls:=by simp [jQ]
theorem CT {most ls:Int} (h:1<=most) (h1:1<=ls) (h2:ls<=60):nb most ls<=60:=by
 unfold nb;have:(ls-1) / most<=ls-1:=Int.ediv_le_self _ (by omega);omega
theorem RD (most:Int) (h:1<=most):∀(ls:List Int) (n:Int),(∀l∈ls,1<=l/\l<=60)->(cH most n ls).length<=60*ls.length
 | [],n,_=>by simp [cH]
 | l::ls,n,hl=>by
  have h1:=RD most h ls (n+1) λx hx=>hl x (by simp [hx])
  have h2:=CT h (hl l (by simp)).1 (hl l (by simp)).2;rw [cH,List.length_append,CS,List.length_cons];omega
theorem X9 (a b c:Int):F_7 [.sh (.int a),.sh (.int b),.sh (.int c)]=.ok (.sh (.ins 13 [.int a,.int b,.int c])):=by
 simp [F_7,OL,OK,OJ]
theorem Y0 {fa fb fc:Ev} {ρ:Ro} {ls most:Int} (ha:fa ρ=.ok (.int 1)) (hb:fb ρ=.ok (.int (ls+1))) (hc:fc ρ=.ok (.int most)) (h:1<=most/\most<=1000) (h1:1<=ls/\ls<=1000) :
 jZ fa fb fc ρ=.ok ((List.range (nb most ls)).map λ(t:Nat)=>D.int (1+(t:Int)*most)):=by
 have ok:gR 1 (ls+1) most=true:=by
  unfold gR;simp only [Bool.and_eq_true,decide_eq_true_eq];refine ⟨⟨⟨⟨⟨⟨?_,?_⟩,?_⟩,?_⟩,?_⟩,?_⟩,?_⟩<;>omega
 have sz:(Builtin.Range.rangeSize 1 (ls+1) most).toNat=nb most ls:=by
  unfold Builtin.Range.rangeSize nb;rw [if_pos (by omega),if_pos (by omega),show ls+1-1-1=ls-1 by omega]
 rw [jZ,ha,Out.ok_bind,hb,Out.ok_bind,hc,Out.ok_bind];show (if gR 1 (ls+1) most=true then Out.ok (rgS 1 most _) else .bad)=_;rw [if_pos ok,sz]
 rfl
theorem RE (os:Sl) (most n:Int) (o:Str×Int×Int):∀(ts:List Nat) (row:List D) (x y:Sl),row.length+ts.length<=900000->∃x' y',cP (aP (aV 5) BD) (ts.map λ(t:Nat)=>D.int (1+(t:Int)*most)) [os,.sh (.int most),.ow row,.sh (.int n),.sh (ord o),x,y] =
 .nx [os,.sh (.int most),.ow (row++(ts.map (iK most n o.2.1)).map bat),.sh (.int n),.sh (ord o),x',y']
 | [],row,x,y,_=>⟨x,y,by simp [kB]⟩
 | t::ts,row,x,y,hl=>by
  have hr:row.length < 1000000:=by simp at hl;omega
  obtain ⟨x',y',e⟩:=RE os most n o ts (row++[bat (iK most n o.2.1 t)]) (.sh (.int (1+(t:Int)*most))) (.sh (.int (o.2.1-(1+(t:Int)*most)+1))) (by simp at hl ⊢; omega);refine ⟨x',y',?_⟩;have bm:=X9 n (1+(t:Int)*most) (if o.2.1-(1+(t:Int)*most)+1 < most then o.2.1-(1+(t:Int)*most)+1 else most);rw [List.map_cons,kC (ρ':=[os,.sh (.int most),.ow (row++[bat (iK most n o.2.1 t)]),.sh (.int n),.sh (ord o),.sh (.int (1+(t:Int)*most)),.sh (.int (o.2.1-(1+(t:Int)*most)+1))]),e]
  ·simp
  ·generalize hF:1+(t:Int)*most=f at *;simp [aP,BD,OM,ord,List.lookup,bm,hr,bat,iK,hF]
theorem RF {is:List Nat} {f:Ro->Fl} {ρ ρ':Ro} {d:D} (h:iQ is ρ d=.ok ρ'):aP (iQ is) f ρ d=f ρ':=by
 rw [aP,h]
theorem RG (os:Sl) (most:Int) (hm:1<=most/\most<=1000):∀(ol:List (Str×Int×Int)) (n:Int) (row:List D) (p q x y:Sl),(∀o∈ol,1<=o.2.1/\o.2.1<=60)->row.length+60*ol.length<=900000->∃p' q' x' y',cP (aP (iQ [3,4]) BE) (fL n (ol.map ord)) [os,.sh (.int most),.ow row,p,q,x,y] =
 .nx [os,.sh (.int most),.ow (row++(cH most n (ol.map (·.2.1))).map bat),p',q',x',y']
 | [],n,row,p,q,x,y,_,_=>⟨p,q,x,y,by simp [kB,fL,cH]⟩
 | o::ol,n,row,p,q,x,y,ho,hl=>by
  have h1:=ho o (by simp);have hn:=CT hm.1 h1.1 h1.2;obtain ⟨x1,y1,e1⟩:=RE os most n o (List.range (nb most o.2.1)) row x y (by simp at hl ⊢; omega);obtain ⟨p',q',x',y',e2⟩:=RG os most hm ol (n+1) (row++(jQ most n o.2.1).map bat) (.sh (.int n)) (.sh (ord o)) x1 y1 (λz hz=>ho z (by simp [hz])) (by simp [CS] at hl ⊢; omega);refine ⟨p',q',x',y',?_⟩;rw [List.map_cons,fL,kC (ρ':=[os,.sh (.int most),.ow (row++(jQ most n o.2.1).map bat),.sh (.int n),.sh (ord o),x1,y1]),e2]
  ·simp [cH]
  ·rw [RF (ρ':=[os,.sh (.int most),.ow row,.sh (.int n),.sh (ord o),x,y]) (by simp [oV]),BE,cV (Y0 (ls:=o.2.1) (most:=most) ?_ ?_ ?_ hm ⟨h1.1,by omega⟩),e1]
   ·rfl
   ·simp
   ·simp [ord,List.lookup]
   ·simp
theorem RH (most:Int) (hm:1<=most/\most<=1000) (ol:List (Str×Int×Int)) (ho:∀o∈ol,1<=o.2.1/\o.2.1<=60) (hl:ol.length<=1000):pV [.sh (.lst (ol.map ord)),.sh (.int most)]=.ok (.fr ((cH most 1 (ol.map (·.2.1))).map bat)):=by
 obtain ⟨p',q',x',y',e⟩:=RG (.sh (.lst (ol.map ord))) most hm ol 1 [] .no .no .no .no ho (by simp;omega);have k:uY [.sh (.lst (ol.map ord)),.sh (.int most),.ow [],.no,.no,.no,.no]=.rt (.fr ((cH most 1 (ol.map (·.2.1))).map bat)):=by
  rw [uY,cV (ds:=fL 1 (ol.map ord)) (by simp),e];simp [ON]
 generalize hG:uY=G at *;simp [pV,OO,k,hG]
theorem RI (n h b bb:D) (rs:List (Int×Int×Int)) (hr:rs≠[]) (hl:rs.length<=3):F_8 [.sh (.ins 15 [n,h,b,.tup (rs.map ovn),bb])]=.ok (.sh (.int (bN true (rs.map (·.1))))):=by
 have mp:∀ρ:Ro,eR (λd=>aY [(11,0)] (aA 0) (cG [] ρ d)) (rs.map ovn)=some ((rs.map (·.1)).map D.int):=by
  intro ρ;rw [List.map_map];exact nA rs λx _=>by simp [cG,ovn,List.lookup]
 have mx:=JW (is:=rs.map (·.1)) (by simpa using hr);have lz:(rs.map ovn).length<=1000000:=by simp;omega
 simp only [aY,aA] at mp;generalize rs.map ovn=oo at *;generalize (rs.map (·.1)).map D.int=zz at *;simp [F_8,OQ,mp,mx,lz]
theorem Y1 (d n:Int) (h:0<=d/\d<=n):F_9 [.sh (.int d),.sh (.int n)]=.ok (.sh .non):=by
 simp [F_9,OI,h.1,h.2]
structure Taken (vC:Int) (bs:List (Str×List D)) (rs:List (Int×Int×Int)) (ol:List (Str×Int×Int)):Prop where
 len:ol.length<=12
 name:∀o∈ol,o.1∈bs.map (·.1)
 tz:∀o∈ol,Tz 1000 o.1
 vL:∀o∈ol,0<=o.2.2/\o.2.2<=vC
 lv:∀o∈ol,1<=o.2.1/\o.2.1<=60
 few:(cH (bN true (rs.map (·.1))) 1 (ol.map (·.2.1))).length<=24
structure RsOk (rs:List (Int×Int×Int)):Prop where
 ne:rs≠[]
 len:rs.length<=3
 room:∀r∈rs,1<=r.1/\r.1<=30
theorem RsOk.most {rs:List (Int×Int×Int)} (h:RsOk rs):1<=bN true (rs.map (·.1))/\bN true (rs.map (·.1))<=30:=by
 obtain ⟨h1,h2⟩:=zM (is:=rs.map (·.1)) (by simpa using h.ne);obtain ⟨r,hr,e⟩:=List.mem_map.mp h1;rw [<-e];exact h.room r hr
abbrev bkr (n h b:Int) (rs:List (Int×Int×Int)) (bs:List (Str×List D)):D:=.ins 15 [.int n,.int h,.int b,.tup (rs.map ovn),.tup (bs.map brd)]
theorem RJ (n h b:Int) (rs:List (Int×Int×Int)) (bs:List (Str×List D)) (w:Sl) (y:Sl):∀(ol:List (Str×Int×Int)) (x:Sl),(∀o∈ol,o.1∈bs.map (·.1))->(∀o∈ol,Tz 1000 o.1)->∃x',cP (aP (aV 2) BF) (ol.map ord) [.sh (bkr n h b rs bs),w,x,y]=.nx [.sh (bkr n h b rs bs),w,x',y]
 | [],x,_,_=>⟨x,by rw [List.map_nil,kB]⟩
 | o::ol,x,h1,h2=>by
  obtain ⟨x',e⟩:=RJ n h b rs bs w y ol (.sh (ord o)) (λz hz=>h1 z (by simp [hz])) (λz hz=>h2 z (by simp [hz]));refine ⟨x',?_⟩;have bo:=bread_of (.int n) (.int h) (.int b) (rs.map ovn) bs o.1 (h2 o (by simp));obtain ⟨bb,hb,eb⟩:=List.mem_map.mp (h1 o (by simp));have fd:∃b2,bs.find? (λb=>decide (b.1=o.1))=some b2:=by
   cases q:bs.find? (λb=>decide (b.1=o.1)) with
   | some b2=>exact ⟨b2,rfl⟩
   | none=>
    rw [List.find?_eq_none] at q;exact absurd (by simpa using eb) (q bb hb)
  obtain ⟨b2,fd⟩:=fd;rw [fd] at bo;rw [List.map_cons,kC (ρ':=[.sh (bkr n h b rs bs),w,.sh (ord o),y]),e];unfold bkr;generalize rs.map ovn=oo at *;generalize bs.map brd=bb at *;simp [aP,BF,ord,List.lookup,bo]
theorem RK (n h b:Int) (rs:List (Int×Int×Int)) (bs:List (Str×List D)) (w:Sl) (y:Sl):∀(ol:List (Str×Int×Int)) (x:Sl),(∀o∈ol,0<=o.2.2/\o.2.2<=n)->∃x',cP (aP (aV 2) BG) (ol.map ord) [.sh (bkr n h b rs bs),w,x,y]=.nx [.sh (bkr n h b rs bs),w,x',y]
 | [],x,_=>⟨x,by rw [List.map_nil,kB]⟩
 | o::ol,x,h1=>by
  obtain ⟨x',e⟩:=RK n h b rs bs w y ol (.sh (ord o)) (λz hz=>h1 z (by simp [hz]));refine ⟨x',?_⟩;have d:=Y1 o.2.2 n (h1 o (by simp));rw [List.map_cons,kC (ρ':=[.sh (bkr n h b rs bs),w,.sh (ord o),y]),e];unfold bkr;generalize rs.map ovn=oo at *;generalize bs.map brd=bb at *;simp [aP,BG,ord,List.lookup,d]
theorem Y2 (n h b:Int) (rs:List (Int×Int×Int)) (bs:List (Str×List D)) (ol:List (Str×Int×Int)) (hr:RsOk rs) (tk:Taken n bs rs ol):vO [.sh (bkr n h b rs bs),.sh (.lst (ol.map ord))]=.ok (.sh .non):=by
 have c1:=chkc ((ol.map ord).length:Int) 0 12 (small2 (by simp;have:=tk.len;omega)) (by decide) (by decide);rw [if_pos ⟨by omega,by have:=tk.len;simp;omega⟩,List.length_map] at c1;obtain ⟨x1,e1⟩:=RJ n h b rs bs (.sh (.lst (ol.map ord))) .no ol .no tk.name tk.tz;obtain ⟨x2,e2⟩:=RK n h b rs bs (.sh (.lst (ol.map ord))) .no ol x1 tk.vL;have gr:=RI (.int n) (.int h) (.int b) (.tup (bs.map brd)) rs hr.ne hr.len;have mo:=hr.most;have bt:=RH (bN true (rs.map (·.1))) ⟨mo.1,by omega⟩ ol tk.lv (by have:=tk.len;omega);have few:=tk.few;have k5:BH [.sh (bkr n h b rs bs),.sh (.lst (ol.map ord)),x2,.no]=.nx [.sh (bkr n h b rs bs),.sh (.lst (ol.map ord)),x2,.sh (.int (cH (bN true (rs.map (·.1))) 1 (ol.map (·.2.1))).length)]:=by
  have lb:((cH (bN true (rs.map (·.1))) 1 (ol.map (·.2.1))).map bat).length=(cH (bN true (rs.map (·.1))) 1 (ol.map (·.2.1))).length:=by simp
  have few':¬(24:Int) < ((cH (bN true (rs.map (·.1))) 1 (ol.map (·.2.1))).length:Int):=by omega
  unfold bkr;clear e1 e2 tk few;generalize (cH (bN true (rs.map (·.1))) 1 (ol.map (·.2.1))).map bat=BB at *;generalize hN:(cH (bN true (rs.map (·.1))) 1 (ol.map (·.2.1))).length=N at *;generalize bN true (rs.map (·.1))=M at *;generalize rs.map ovn=oo at *;generalize bs.map brd=bb at *;generalize ol.map ord=ll at *;have few2:¬(24 < N):=by omega
  simp [BH,OT,gr,bt,lb,few',few2]
 have k7:vN [.sh (bkr n h b rs bs),.sh (.lst (ol.map ord)),.no,.no]=.nx [.sh (bkr n h b rs bs),.sh (.lst (ol.map ord)),x2,.sh (.int (cH (bN true (rs.map (·.1))) 1 (ol.map (·.2.1))).length)]:=by
  rw [vN,cV (ds:=ol.map ord) (by simp),e1,Fl.nx_bind,OU,cV (ds:=ol.map ord) (by simp),e2,Fl.nx_bind,k5]
 generalize hG:vN=G at *;simp [vO,OV,c1,k7,hG]
theorem fE (ns:List Int) (i:Int) (h:0<=i):cY [.sh (.lst (ns.map D.int)),.sh (.int i)]=.ok (.sh (.int (ns.getD i.toNat 0))):=by
 obtain ⟨k,rfl⟩:=Int.eq_ofNat_of_zero_le h;exact at_ ns k
theorem pick8 (i:Int):∃v,atI [D.int 1,.int 3,.int 2,.int 3,.int 1,.int 0,.int 3,.int 2] (i % 8)=some (.int v)/\0<=v/\v<=3:=by
 obtain ⟨v,e,hv⟩:=tH (xs:=[D.int 1,.int 3,.int 2,.int 3,.int 1,.int 0,.int 3,.int 2]) (i:=i % 8) (by omega) (by show i % 8 < 8;omega);simp only [List.mem_cons,List.not_mem_nil,or_false] at hv;rcases hv with rfl | rfl | rfl | rfl | rfl | rfl | rfl | rfl<;>exact ⟨_,e,by decide,by decide⟩
def bK (k:Int×Int×Int):D:=.tup [.int k.1,.int k.2.1,.int k.2.2]
structure lV (k:Int×Int×Int):Prop where
 room:1<=k.1/\k.1<=30
 rate:1<=k.2.1/\k.2.1<=300
 heat:0<=k.2.2/\k.2.2<=300
theorem Y3 (ns:List Int) (j:Nat) (hj:j<=100) (row:List D) (hr:row.length < 1000) (a b c d:Sl) :
 ∃q,lV q/\∃b' c' d',aP (aV 2) tX [.sh (.lst (ns.map D.int)),.ow row,a,b,c,d] (.int j)=.nx [.sh (.lst (ns.map D.int)),.ow (row++[bK q]),.sh (.int j),b',c',d']:=by
 have p1:=fE ns (3+(j:Int)) (by omega);have p2:=fE ns 2 (by omega);generalize ns.getD (3+(j:Int)).toNat 0=v at *;generalize ns.getD (2:Int).toNat 0=u at *;have mo:eD 11 (j:Int)=true:=iX (by decide);obtain ⟨r,er,hr1⟩:=pick4 40 300 10 (1+v / 8 % 300) v;obtain ⟨h,eh,hh⟩:=pick4 0 200 230 (v / 16 % 301) (v / 4);refine ⟨(1+(u / 4+11*(j:Int)) % 30,r,h),⟨by dsimp only;omega,by dsimp only;omega,by dsimp only;omega⟩,.sh (.int v),.sh (.int r),.sh (.int h),?_⟩;have hr2:row.length < 1000000:=by omega
 generalize ns.map D.int=nn at *;simp [aP,tX,LP,LO,LN,p1,p2,mo,er,eh,bK,hr2]
theorem Y4 (ns:List Int):∃ks:List (Int×Int×Int),ks≠[]/\ks.length<=3/\(∀k∈ks,lV k)/\tY [.sh (.lst (ns.map D.int))]=.ok (.fr (ks.map bK)):=by
 have p:=fE ns 2 (by decide);generalize ns.getD (2:Int).toNat 0=v at *;obtain ⟨m,em,hm⟩:=pick4 1 2 1 3 v;obtain ⟨n,hn1,hn3,rfl⟩:∃n:Nat,1<=n/\n<=3/\m=(n:Int):=⟨m.toNat,by omega,by omega,by omega⟩
 obtain ⟨ρ',e,ks,a,b,c,d,h1,h2,rfl⟩:=iW (body:=aP (aV 2) tX) (λj ρ=>∃(ks:List (Int×Int×Int)) (a b c d:Sl),ks.length=j/\(∀k∈ks,lV k)/\ρ=[.sh (.lst (ns.map D.int)),.ow (ks.map bK),a,b,c,d]) n (λj ρ hj ⟨ks,a,b,c,d,h1,h2,e⟩=>by
  obtain ⟨q,hq,b',c',d',eq⟩:=Y3 ns j (by omega) (ks.map bK) (by simp;omega) a b c d;refine ⟨_,by rw [e];exact eq,ks++[q],_,b',c',d',by simp [h1],λk hk=>?_,by rw [List.map_append];rfl⟩;rcases List.mem_append.mp hk with hk | hk
  ·exact h2 k hk
  ·rw [List.mem_singleton.mp hk];exact hq) (ρ:=[.sh (.lst (ns.map D.int)),.ow [],.no,.no,.no,.no]) ⟨[],.no,.no,.no,.no,rfl,by simp,rfl⟩
 refine ⟨ks,λz=>by rw [z] at h1;simp at h1;omega,by omega,h2,?_⟩;have k6:AA [.sh (.lst (ns.map D.int)),.ow [],.no,.no,.no,.no]=.rt (.fr (ks.map bK)):=by
  rw [AA,cV (ds:=rgD 0 n) (gD (by generalize ns.map D.int=nn at *; simp [p,em]) (by omega)),e];simp [LQ]
 rw [tY];refine dI _ rfl ?_;rw [LR,iU (v:=[]) rfl,Fl.nx_bind];exact k6
abbrev Sg:=Int×Int×Int×Int
def bV (s:Sg):D:=.tup [.int s.1,.int s.2.1,.int s.2.2.1,.int s.2.2.2]
def aJ (k:List Sg):D:=.lst (k.map bV)
structure fM (s:Sg):Prop where
 least:1<=s.1/\s.1<=110
 most:s.1<=s.2.1/\s.2.1<=s.1+39
 want:0<=s.2.2.1/\s.2.2.1<=3
 heat:0<=s.2.2.2/\s.2.2.2<=300
structure dJ (k:List Sg):Prop where
 one:1<=k.length
 four:k.length<=4
 all:∀s∈k,fM s
theorem Y5 (ns:List Int) (bs many:Int) (hb:0<=bs/\bs<=1000) (j:Nat) (hj:j<=100) (row:List D) (hr:row.length < 1000) (a b c d e f:Sl) :
 ∃q,fM q/\∃b' c' d' e' f',aP (aV 4) tZ [.sh (.lst (ns.map D.int)),.sh (.int bs),.sh (.int many),.ow row,a,b,c,d,e,f] (.int j)=.nx [.sh (.lst (ns.map D.int)),.sh (.int bs),.sh (.int many),.ow (row++[bV q]),.sh (.int j),b',c',d',e',f']:=by
 have p1:=fE ns (bs+2*(j:Int)) (by omega);have p2:=fE ns (bs+2*(j:Int)+1) (by omega);generalize ns.getD (bs+2*(j:Int)).toNat 0=v at *;generalize ns.getD (bs+2*(j:Int)+1).toNat 0=u at *;have mo:eD 2 (j:Int)=true:=iX (by decide);have m5:eD (v / 8 % 3) 5=true:=iX (by omega);obtain ⟨r,er,hr1⟩:=pick4 0 0 5 10 (v / 24);obtain ⟨h,eh,hh⟩:=pick4 200 230 250 (u / 20 % 301) u;obtain ⟨w,ew,hw⟩:=pick8 v;refine ⟨(5+v / 8 % 3*5-u / 4 % 5,5+v / 8 % 3*5+(r+v / 96 % 5),w,h),⟨by dsimp only;omega,by dsimp only;omega,hw,by dsimp only;omega⟩,.sh (.int v),.sh (.int u),.sh (.int (5+v / 8 % 3*5)),.sh (.int (r+v / 96 % 5)),.sh (.int h),?_⟩;have hr2:row.length < 1000000:=by omega
 generalize ns.map D.int=nn at *;simp [aP,tZ,LW,LV,LU,LT,LS,p1,p2,mo,m5,er,eh,ew,bV,hr2]
theorem RL (ns:List Int) (bs:Int) (hb:0<=bs/\bs<=1000) (n:Nat) (hn:1<=n/\n<=4):∃ks:List Sg,dJ ks/\pJ [.sh (.lst (ns.map D.int)),.sh (.int bs),.sh (.int n)]=.ok (.fr (ks.map bV)):=by
 obtain ⟨ρ',e,ks,a,b,c,d,e',f,h1,h2,rfl⟩:=iW (body:=aP (aV 4) tZ) (λj ρ=>∃(ks:List Sg) (a b c d e f:Sl),ks.length=j/\(∀k∈ks,fM k)/\ρ=[.sh (.lst (ns.map D.int)),.sh (.int bs),.sh (.int n),.ow (ks.map bV),a,b,c,d,e,f]) n (λj ρ hj ⟨ks,a,b,c,d,e,f,h1,h2,eq0⟩=>by
  obtain ⟨q,hq,b',c',d',e',f',eq⟩:=Y5 ns bs n hb j (by omega) (ks.map bV) (by simp;omega) a b c d e f;refine ⟨_,by rw [eq0];exact eq,ks++[q],_,b',c',d',e',f',by simp [h1],λk hk=>?_,by rw [List.map_append];rfl⟩;rcases List.mem_append.mp hk with hk | hk
  ·exact h2 k hk
  ·rw [List.mem_singleton.mp hk];exact hq) (ρ:=[.sh (.lst (ns.map D.int)),.sh (.int bs),.sh (.int n),.ow [],.no,.no,.no,.no,.no,.no]) ⟨[],.no,.no,.no,.no,.no,.no,rfl,by simp,rfl⟩
 refine ⟨ks,⟨by omega,by omega,h2⟩,?_⟩;have k6:AB [.sh (.lst (ns.map D.int)),.sh (.int bs),.sh (.int n),.ow [],.no,.no,.no,.no,.no,.no]=.rt (.fr (ks.map bV)):=by
  rw [AB,cV (ds:=rgD 0 n) (gD rfl (by omega)),e];simp [LX]
 rw [pJ];refine dI _ rfl ?_;rw [LY,iU (v:=[]) rfl,Fl.nx_bind];exact k6
theorem Y6 (ns:List Int) (bs many:Int) (hb:0<=bs/\bs<=1000) (j:Nat) (hj:j<=100) (row:List D) (hr:row.length < 1000) (a b c d e f:Sl) :
 ∃q,fM q/\∃b' c' d' e' f',aP (aV 4) lQ [.sh (.lst (ns.map D.int)),.sh (.int bs),.sh (.int many),.ow row,a,b,c,d,e,f] (.int j)=.nx [.sh (.lst (ns.map D.int)),.sh (.int bs),.sh (.int many),.ow (row++[bV q]),.sh (.int j),b',c',d',e',f']:=by
 have p1:=fE ns (15+(bs+3*(j:Int)) % 14) (by omega);have p2:=fE ns (15+(bs+3*(j:Int)+1) % 14) (by omega);generalize ns.getD (15+(bs+3*(j:Int)) % 14).toNat 0=v at *;generalize ns.getD (15+(bs+3*(j:Int)+1) % 14).toNat 0=u at *;have mo:eD 3 (j:Int)=true:=iX (by decide);obtain ⟨h,eh,hh⟩:=pick4 200 230 250 (u / 20 % 301) u;obtain ⟨w,ew,hw⟩:=pick8 v;have hr2:row.length < 1000000:=by omega
 have x0:=dS (D.int 40) [.int 110];have x1:=fD (D.int 40) (.int 110) [];have y0:=dS (D.int 10) [.int 40];have y1:=fD (D.int 10) (.int 40) [];by_cases h1:many=1
 ·by_cases h2:(j:Int)=0
  ·refine ⟨(1+v / 8 % 110,1+v / 8 % 110+u / 4 % 40,w,h),⟨by dsimp only;omega,by dsimp only;omega,hw,by dsimp only;omega⟩,.sh (.int v),.sh (.int u),.sh (.int (1+v / 8 % 110)),.sh (.int (u / 4 % 40)),.sh (.int h),?_⟩;generalize ns.map D.int=nn at *;generalize (j:Int)=jj at *;subst h1 h2;simp only [Int.mul_zero,Int.add_zero] at p1 p2;simp [aP,lQ,pO,pN,pM,pL,pK,p1,p2,mo,eh,ew,bV,hr2,x1,y1]
  ·refine ⟨(1+v / 8 % 110,1+v / 8 % 110+u / 4 % 10,w,h),⟨by dsimp only;omega,by dsimp only;omega,hw,by dsimp only;omega⟩,.sh (.int v),.sh (.int u),.sh (.int (1+v / 8 % 110)),.sh (.int (u / 4 % 10)),.sh (.int h),?_⟩;generalize ns.map D.int=nn at *;generalize (j:Int)=jj at *;subst h1;simp [aP,lQ,pO,pN,pM,pL,pK,p1,p2,mo,eh,ew,bV,hr2,x1,y0,h2]
 ·by_cases h2:(j:Int)=0
  ·refine ⟨(1+v / 8 % 40,1+v / 8 % 40+u / 4 % 40,w,h),⟨by dsimp only;omega,by dsimp only;omega,hw,by dsimp only;omega⟩,.sh (.int v),.sh (.int u),.sh (.int (1+v / 8 % 40)),.sh (.int (u / 4 % 40)),.sh (.int h),?_⟩;generalize ns.map D.int=nn at *;generalize (j:Int)=jj at *;subst h2;simp only [Int.mul_zero,Int.add_zero] at p1 p2;simp [aP,lQ,pO,pN,pM,pL,pK,p1,p2,mo,eh,ew,bV,hr2,x0,y1,h1]
  ·refine ⟨(1+v / 8 % 40,1+v / 8 % 40+u / 4 % 10,w,h),⟨by dsimp only;omega,by dsimp only;omega,hw,by dsimp only;omega⟩,.sh (.int v),.sh (.int u),.sh (.int (1+v / 8 % 40)),.sh (.int (u / 4 % 10)),.sh (.int h),?_⟩;generalize ns.map D.int=nn at *;generalize (j:Int)=jj at *;simp [aP,lQ,pO,pN,pM,pL,pK,p1,p2,mo,eh,ew,bV,hr2,x0,y0,h1,h2]
theorem Y7 (ns:List Int) (bs:Int) (hb:0<=bs/\bs<=1000) (n:Nat) (hn:1<=n/\n<=4):∃ks:List Sg,dJ ks/\nG [.sh (.lst (ns.map D.int)),.sh (.int bs),.sh (.int n)]=.ok (.fr (ks.map bV)):=by
 obtain ⟨ρ',e,ks,a,b,c,d,e',f,h1,h2,rfl⟩:=iW (body:=aP (aV 4) lQ) (λj ρ=>∃(ks:List Sg) (a b c d e f:Sl),ks.length=j/\(∀k∈ks,fM k)/\ρ=[.sh (.lst (ns.map D.int)),.sh (.int bs),.sh (.int n),.ow (ks.map bV),a,b,c,d,e,f]) n (λj ρ hj ⟨ks,a,b,c,d,e,f,h1,h2,eq0⟩=>by
  obtain ⟨q,hq,b',c',d',e',f',eq⟩:=Y6 ns bs n hb j (by omega) (ks.map bV) (by simp;omega) a b c d e f;refine ⟨_,by rw [eq0];exact eq,ks++[q],_,b',c',d',e',f',by simp [h1],λk hk=>?_,by rw [List.map_append];rfl⟩;rcases List.mem_append.mp hk with hk | hk
  ·exact h2 k hk
  ·rw [List.mem_singleton.mp hk];exact hq) (ρ:=[.sh (.lst (ns.map D.int)),.sh (.int bs),.sh (.int n),.ow [],.no,.no,.no,.no,.no,.no]) ⟨[],.no,.no,.no,.no,.no,.no,rfl,by simp,rfl⟩
 refine ⟨ks,⟨by omega,by omega,h2⟩,?_⟩;have k6:AC [.sh (.lst (ns.map D.int)),.sh (.int bs),.sh (.int n),.ow [],.no,.no,.no,.no,.no,.no]=.rt (.fr (ks.map bV)):=by
  rw [AC,cV (ds:=rgD 0 n) (gD rfl (by omega)),e];simp [MA]
 rw [nG];refine dI _ rfl ?_;rw [MB,iU (v:=[]) rfl,Fl.nx_bind];exact k6
theorem Y8 {most l:Int} (h:1<=most) (h1:1<=l):(l+most-1) / most=(nb most l:Int):=by
 unfold nb;rw [show l+most-1=(l-1)+1*most by omega,Int.add_mul_ediv_right _ _ (by omega)];have:0<=(l-1) / most:=Int.ediv_nonneg (by omega) (by omega);omega
structure CU (nk:Nat) (vC:Int) (q:Int×Int×Int):Prop where
 kd:0<=q.1/\q.1 < nk
 lv:1<=q.2.1/\q.2.1<=60
 du:0<=q.2.2/\q.2.2<=vC
abbrev ws (nn:List D) (vC most:Int) (kk:List D) (fr:Bool) (row:List D) (left:Int) (x7 x8 x9 aT cI cE bW bP:Sl):Ro:=[.sh (.lst nn),.sh (.int vC),.sh (.int most),.bo kk,.sh (.bl fr),.ow row,.sh (.int left),x7,x8,x9,aT,cI,cE,bW,bP]
theorem Y9 (kd:List Sg) (h:dJ kd) (ρ:Ro) (h3:jY (fY 3) (aA 10) ρ=.ok (aJ kd)):eCB fK (aD (aS (bJ (bC (jY (fY 3) (aA 10))) [] (eW (bT (aX (eIx (aA 0) (eI 0)) (eI 4)) (eI 5)) (eI 5)))) aI) ρ=.ok (.int (isum (kd.map λs=>(s.1+4) / 5*5))):=by
 have mp:eR (λd=>eW (bT (aX (eIx (aA 0) (eI 0)) (eI 4)) (eI 5)) (eI 5) (cG [] ρ d)) (kd.map bV)=some ((kd.map λs=>(s.1+4) / 5*5).map D.int):=by
  rw [List.map_map];refine nA kd λs hs=>?_
  have hb:=(h.all s hs).least;have m5:eD ((s.1+4) / 5) 5=true:=iX (by omega);have a0:=dS (D.int s.1) [.int s.2.1,.int s.2.2.1,.int s.2.2.2];simp [cG,bV,a0,m5]
 have hl:(kd.map bV).length<=1000000:=by have:=h.four;simp;omega
 have e1:bC (jY (fY 3) (aA 10)) ρ=.ok (kd.map bV):=by simp only [bC,h3,Out.ok_bind,aJ,D.toL]
 rw [eCB,aD,aS,bJ,e1,Out.ok_bind,if_pos hl,mp];simp only [Out.ok_bind,aI];refine JX (by have:=h.four;simp;omega) λi hi=>?_
 obtain ⟨s,hs,rfl⟩:=List.mem_map.mp hi;have:=(h.all s hs).least;omega
theorem Z0 (nn:List D) (vC most:Int) (hn:1<=vC/\vC<=120) (kk:List D) (fr:Bool) (row:List D) (left:Int) (x7:Sl) (v u kd sh:Int) (h0:0<=sh) (cE bW bP:Sl) :
 ∃du,(0<=du/\du<=vC)/\nJ (ws nn vC most kk fr row left x7 (.sh (.int v)) (.sh (.int u)) (.sh (.int kd)) (.sh (.int sh)) cE bW bP)=lR (ws nn vC most kk fr row left x7 (.sh (.int v)) (.sh (.int u)) (.sh (.int kd)) (.sh (.int sh)) (.sh (.int du)) bW bP):=by
 have mo:eD 5 (1+u % 7)=true:=iX (by decide);have nz:0 < vC+1:=by omega
 have m0:0<=u % (vC+1):=Int.emod_nonneg _ (by omega);have m1:u % (vC+1) < vC+1:=Int.emod_lt_of_pos _ nz;cases fr with
 | false=>
  have a0:=λb:D=>dS (D.int (if sh+5*(1+u % 7)+u / 7 % 5 < vC then sh+5*(1+u % 7)+u / 7 % 5 else vC)) [b]
  refine ⟨if sh+5*(1+u % 7)+u / 7 % 5 < vC then sh+5*(1+u % 7)+u / 7 % 5 else vC,by split<;>omega,?_⟩;rw [nJ];generalize hG:lR=G;simp [mo,nz,a0]
 | true=>
  have a1:=λa:D=>fD a (D.int (u % (vC+1))) []
  refine ⟨u % (vC+1),by omega,?_⟩;rw [nJ];generalize hG:lR=G;simp [mo,nz,a1]
theorem Z1 (ns:List Int) (vC most:Int) (hm:1<=most/\most<=30) (kk:List D) (fr:Bool) (row:List D) (left:Int) (x7:Sl) (v u kd sh du:Int) (bW bP:Sl) :
 ∃lv,(1<=lv/\lv<=60)/\lR (ws (ns.map D.int) vC most kk fr row left x7 (.sh (.int v)) (.sh (.int u)) (.sh (.int kd)) (.sh (.int sh)) (.sh (.int du)) bW bP)=nH (ws (ns.map D.int) vC most kk fr row left x7 (.sh (.int v)) (.sh (.int u)) (.sh (.int kd)) (.sh (.int sh)) (.sh (.int du)) (.sh (.int lv)) bP):=by
 have p3:=fE ns 3 (by decide);generalize ns.getD (3:Int).toNat 0=z at *;obtain ⟨m,em,hmm⟩:=pick2 (if most < 3 then most else 3) most z;have hm1:1<=m/\m<=30:=by
  rcases hmm with rfl | rfl
  ·split<;>omega
  ·exact hm
 have m0:0<=v / 2 % m:=Int.emod_nonneg _ (by omega);have m1:v / 2 % m < m:=Int.emod_lt_of_pos _ (by omega);have mp:0 < m:=by omega
 have mq:eD most (v / 8 % 3)=true:=iX (by omega);have mb:most*(v / 8 % 3)<=60/\0<=most*(v / 8 % 3):=by
  have:v / 8 % 3=0∨v / 8 % 3=1∨v / 8 % 3=2:=by omega
  rcases this with e | e | e<;>rw [e]<;>omega
 have st:lR (ws (ns.map D.int) vC most kk fr row left x7 (.sh (.int v)) (.sh (.int u)) (.sh (.int kd)) (.sh (.int sh)) (.sh (.int du)) bW bP)=pP (ws (ns.map D.int) vC most kk fr row left x7 (.sh (.int v)) (.sh (.int u)) (.sh (.int kd)) (.sh (.int sh)) (.sh (.int du)) (.sh (.int (1+v / 2 % m))) bP):=by
  rw [lR];generalize hG:pP=G;generalize ns.map D.int=nn at *;simp [p3,em,mp]
 rw [st];by_cases c:v / 64 % 4=1∨fr=true
 ·refine ⟨if 1+v / 2 % m+most*(v / 8 % 3) < 60 then 1+v / 2 % m+most*(v / 8 % 3) else 60,by split<;>omega,?_⟩;rw [pP];generalize hG:nH=G;generalize ns.map D.int=nn at *;rcases c with c | c
  ·simp [uA,c,mq]
  ·subst c;by_cases c:v / 64 % 4=1
   ·simp [uA,c,mq]
   ·simp [uA,c,mq]
 ·refine ⟨1+v / 2 % m,by omega,?_⟩;have c1:¬v / 64 % 4=1:=λz=>c (.inl z)
  have c2:fr=false:=by cases fr<;>simp_all
  subst c2;rw [pP];generalize hG:nH=G;generalize ns.map D.int=nn at *;simp [c1]
theorem Z2 (ns:List Int) (vC most:Int) (hn:1<=vC/\vC<=120) (hm:1<=most/\most<=30) (vB:List (List Sg)) (hk:1<=vB.length/\vB.length<=8) (hks:∀k∈vB,dJ k) (fr:Bool) (j:Nat) (hj:j<=10) (row:List D) (hr:row.length < 1000) (left:Int) (x7 x8 x9 aT cI cE bW bP:Sl) :
 ∃y8 y9 cK lW jR jA jB,aP (aV 7) nK (ws (ns.map D.int) vC most (vB.map aJ) fr row left x7 x8 x9 aT cI cE bW bP) (.int j)=.nx (ws (ns.map D.int) vC most (vB.map aJ) fr row left (.sh (.int j)) y8 y9 cK lW jR jA jB) ∨
  ∃q,CU vB.length vC q/\(nb most q.2.1:Int)<=left/\aP (aV 7) nK (ws (ns.map D.int) vC most (vB.map aJ) fr row left x7 x8 x9 aT cI cE bW bP) (.int j)=.nx (ws (ns.map D.int) vC most (vB.map aJ) fr (row++[bK q]) (left-nb most q.2.1) (.sh (.int j)) y8 y9 cK lW jR jA jB):=by
 have p1:=fE ns (7+2*(j:Int)) (by omega);have p2:=fE ns (8+2*(j:Int)) (by omega);generalize ns.getD (7+2*(j:Int)).toNat 0=v at *;generalize ns.getD (8+2*(j:Int)).toNat 0=u at *;have mo:eD 2 (j:Int)=true:=iX (by decide);have kp:(0:Int) < ((vB.map aJ).length:Int):=by simp;omega
 have kn:0 < (vB.map aJ).length:=by simp;omega
 have km:(vB.map aJ).length < 1073741824:=by simp;omega
 have kl:((vB.map aJ).length:Int) < 1073741824:=by simp;omega
 have k0:0<=v % ((vB.map aJ).length:Int):=Int.emod_nonneg _ (by omega);have k1:v % ((vB.map aJ).length:Int) < ((vB.map aJ).length:Int):=Int.emod_lt_of_pos _ kp;obtain ⟨d,ed,hd⟩:=tH k0 k1;obtain ⟨kd,hkd,rfl⟩:=List.mem_map.mp hd;have hq1:0<=v % ((vB.map aJ).length:Int)/\v % ((vB.map aJ).length:Int) < (vB.length:Int):=⟨k0,by simpa using k1⟩
 have b0:aP (aV 7) nK (ws (ns.map D.int) vC most (vB.map aJ) fr row left x7 x8 x9 aT cI cE bW bP) (.int j)=pQ (ws (ns.map D.int) vC most (vB.map aJ) fr row left (.sh (.int j)) (.sh (.int v)) (.sh (.int u)) (.sh (.int (v % ((vB.map aJ).length:Int)))) cI cE bW bP):=by
  generalize hG:pQ=G;generalize vB.map aJ=kk at *;generalize ns.map D.int=nn at *;simp [aP,nK,MF,ME,p1,p2,mo,kn,km,kp,kl,hG]
 generalize hkk:v % ((vB.map aJ).length:Int)=kq at *;have e9:pQ (ws (ns.map D.int) vC most (vB.map aJ) fr row left (.sh (.int j)) (.sh (.int v)) (.sh (.int u)) (.sh (.int kq)) cI cE bW bP)=nJ (ws (ns.map D.int) vC most (vB.map aJ) fr row left (.sh (.int j)) (.sh (.int v)) (.sh (.int u)) (.sh (.int kq)) (.sh (.int (isum (kd.map λs=>(s.1+4) / 5*5)))) cE bW bP):=by
  have sh:=Y9 kd (hks kd hkd) (ws (ns.map D.int) vC most (vB.map aJ) fr row left (.sh (.int j)) (.sh (.int v)) (.sh (.int u)) (.sh (.int kq)) cI cE bW bP) (by
   generalize vB.map aJ=kk at *;generalize ns.map D.int=nn at *;simp [ed])
  rw [pQ,aR,sh];generalize hG:nJ=G
  rfl
 have sn:0<=isum (kd.map λs=>(s.1+4) / 5*5):=J7 λi hi=>by
  obtain ⟨s,hs,rfl⟩:=List.mem_map.mp hi;have:=((hks kd hkd).all s hs).least;omega
 obtain ⟨du,hdu,e8⟩:=Z0 (ns.map D.int) vC most hn (vB.map aJ) fr row left (.sh (.int j)) v u kq _ sn cE bW bP;obtain ⟨lv,hlv,e7⟩:=Z1 ns vC most hm (vB.map aJ) fr row left (.sh (.int j)) v u kq (isum (kd.map λs=>(s.1+4) / 5*5)) du bW bP;rw [b0,e9,e8,e7];have nd:=Y8 hm.1 hlv.1;have mp:0 < most:=by omega
 have ml:most < 1073741824:=by omega
 have hr2:row.length < 1000000:=by omega
 refine ⟨.sh (.int v),.sh (.int u),.sh (.int kq),.sh (.int (isum (kd.map λs=>(s.1+4) / 5*5))),.sh (.int du),.sh (.int lv),.sh (.int (nb most lv)),?_⟩;generalize isum (kd.map λs=>(s.1+4) / 5*5)=sh at *;by_cases c:(nb most lv:Int)<=left
 ·refine .inr ⟨(kq,lv,du),⟨hq1,hlv,hdu⟩,c,?_⟩;generalize vB.map aJ=kk at *;generalize ns.map D.int=nn at *;simp [nH,AD,MD,MC,nd,mp,ml,c,hr2,bK]
 ·refine .inl ?_;generalize vB.map aJ=kk at *;generalize ns.map D.int=nn at *;simp [nH,AD,nd,mp,ml,c]
theorem pick7 (i:Int):∃n:Nat,atI [D.int 3,.int 3,.int 2,.int 3,.int 2,.int 3,.int 1] (i % 7)=some (.int n)/\n<=3:=by
 obtain ⟨v,e,hv⟩:=tH (xs:=[D.int 3,.int 3,.int 2,.int 3,.int 2,.int 3,.int 1]) (i:=i % 7) (by omega) (by show i % 7 < 7;omega);simp only [List.mem_cons,List.not_mem_nil,or_false] at hv;rcases hv with rfl | rfl | rfl | rfl | rfl | rfl | rfl
 ·exact ⟨3,e,by decide⟩
 ·exact ⟨3,e,by decide⟩
 ·exact ⟨2,e,by decide⟩
 ·exact ⟨3,e,by decide⟩
 ·exact ⟨2,e,by decide⟩
 ·exact ⟨3,e,by decide⟩
 ·exact ⟨1,e,by decide⟩
theorem Z3 (ns:List Int) (vC most:Int) (hn:1<=vC/\vC<=120) (hm:1<=most/\most<=30) (vB:List (List Sg)) (hk:1<=vB.length/\vB.length<=8) (hks:∀k∈vB,dJ k) (fr:Bool) :
 ∃as:List (Int×Int×Int),(∀q∈as,CU vB.length vC q)/\as.length<=3/\(as.map λq=>nb most q.2.1).sum<=3 /\
  uB [.sh (.lst (ns.map D.int)),.sh (.int vC),.sh (.int most),.bo (vB.map aJ),.sh (.bl fr)]=.ok (.fr (as.map bK)):=by
 have p:=fE ns 6 (by decide);generalize ns.getD (6:Int).toNat 0=v at *;obtain ⟨n7,e7,h7⟩:=pick7 v;obtain ⟨m4,e4,h4⟩:=pick4 2 3 1 0 v;obtain ⟨n4,h4',rfl⟩:∃n:Nat,n<=3/\m4=(n:Int):=⟨m4.toNat,by omega,by omega⟩
 obtain ⟨n,hn3,en⟩:∃n:Nat,n<=3/\atI [D.int n7,D.int n4] (if fr=true then 1 else 0)=some (.int n):=by
  cases fr
  ·exact ⟨n7,h7,dS _ _⟩
  ·exact ⟨n4,h4',fD _ _ _⟩
 obtain ⟨ρ',e,as,left,x7,x8,x9,aT,cI,cE,bW,bP,h1,h2,h3,h5,rfl⟩:=iW (body:=aP (aV 7) nK) (λj ρ=>∃(as:List (Int×Int×Int)) (left:Int) (x7 x8 x9 aT cI cE bW bP:Sl),as.length<=j/\(∀q∈as,CU vB.length vC q) /\
  left+((as.map λq=>nb most q.2.1).sum:Int)=3/\0<=left/\ρ=ws (ns.map D.int) vC most (vB.map aJ) fr (as.map bK) left x7 x8 x9 aT cI cE bW bP) n (λj ρ hj ⟨as,left,x7,x8,x9,aT,cI,cE,bW,bP,h1,h2,h3,h5,eq0⟩=>by
  obtain ⟨y8,y9,cK,lW,jR,jA,jB,eq | ⟨q,hq,hle,eq⟩⟩:=Z2 ns vC most hn hm vB hk hks fr j (by omega) (as.map bK) (by simp;omega) left x7 x8 x9 aT cI cE bW bP
  ·exact ⟨_,by rw [eq0];exact eq,as,left,_,y8,y9,cK,lW,jR,jA,jB,by omega,h2,h3,h5,rfl⟩
  ·refine ⟨_,by rw [eq0];exact eq,as++[q],left-nb most q.2.1,_,y8,y9,cK,lW,jR,jA,jB,by simp;omega,λk hk=>?_,?_,by omega,by rw [List.map_append];rfl⟩
   ·rcases List.mem_append.mp hk with hk | hk
    ·exact h2 k hk
    ·rw [List.mem_singleton.mp hk];exact hq
   ·rw [List.map_append,List.sum_append];simp only [List.map_cons,List.map_nil,List.sum_cons,List.sum_nil]
    push_cast
    omega) (ρ:=ws (ns.map D.int) vC most (vB.map aJ) fr [] 3 .no .no .no .no .no .no .no .no) ⟨[],3,.no,.no,.no,.no,.no,.no,.no,.no,by simp,by simp,by simp,by decide,rfl⟩
 refine ⟨as,h2,by omega,by omega,?_⟩;have k6:AE (ws (ns.map D.int) vC most (vB.map aJ) fr [] 3 .no .no .no .no .no .no .no .no)=.rt (.fr (as.map bK)):=by
  rw [AE,cV (ds:=rgD 0 n) (gD (by generalize vB.map aJ=kk at *; generalize ns.map D.int=nn at *; cases fr<;>simp at en<;>simp [p,e7,e4,en]) (by omega)),e];simp [MG]
 rw [uB];refine dI _ rfl ?_;rw [MI,iU (v:=[]) rfl,Fl.nx_bind,MH];exact k6
theorem Z4 {ds:List D} {k:Nat} (h:k < ds.length) (d:D):(ixN ds.length (k:Int)).map (λj=>ds.set j d)=some (ds.set k d):=by
 have:ixN ds.length (k:Int)=some k:=by
  unfold ixN;rw [if_pos (by omega),if_pos (by omega)];rfl
 rw [this];rfl
theorem RM {f:D->Out D} {P:List Sg->Prop}:∀(ks:List Nat),(∀k∈ks,∃q,P q/\f (.int (k:Int))=.ok (aJ q))->∃qs:List (List Sg),qs.length=ks.length/\(∀q∈qs,P q)/\eR f (ks.map λ(k:Nat)=>D.int (k:Int))=some (qs.map aJ)
 | [],_=>⟨[],rfl,by simp,rfl⟩
 | k::ks,h=>by
  obtain ⟨q,hq,e⟩:=h k (by simp);obtain ⟨qs,h1,h2,h3⟩:=RM ks λj hj=>h j (by simp [hj])
  refine ⟨q::qs,by simp [h1],λx hx=>?_,?_⟩
  ·rcases List.mem_cons.mp hx with rfl | hx
   ·exact hq
   ·exact h2 x hx
  ·rw [List.map_cons,eR,e];simp only [h3]
   rfl
def cL (a:Nat×Int×Int):D:=.tup [.int a.1,.int a.2.1,.int a.2.2]
structure Sc where
 vC:Int
 vI:Int
 vE:Int
 vF:List (Int×Int×Int)
 vB:List (List Sg)
 vD:List (Nat×Int×Int)
def Sc.best (s:Sc):Int:=bN true (s.vF.map (·.1))
structure ScOk (s:Sc):Prop where
 vC:1<=s.vC/\s.vC<=120
 vI:1<=s.vI/\s.vI<=6
 vE:1<=s.vE/\s.vE<=6
 kne:s.vF≠[]
 klen:s.vF.length<=3
 kall:∀k∈s.vF,lV k
 dne:1<=s.vB.length
 dlen:s.vB.length<=8
 dall:∀k∈s.vB,dJ k
 alen:s.vD.length<=3
 aix:∀a∈s.vD,a.1 < s.vB.length
 alv:∀a∈s.vD,1<=a.2.1/\a.2.1<=60
 adue:∀a∈s.vD,0<=a.2.2/\a.2.2<=s.vC
 asum:(s.vD.map λq=>nb s.best q.2.1).sum<=3
theorem RN {ks:List (Int×Int×Int)} (h0:ks≠[]) (h:∀k∈ks,lV k):1<=bN true (ks.map (·.1))/\bN true (ks.map (·.1))<=30:=by
 obtain ⟨h1,_⟩:=zM (is:=ks.map (·.1)) (by simpa using h0);obtain ⟨k,hk,e⟩:=List.mem_map.mp h1;rw [<-e];exact (h k hk).room
theorem ScOk.best {s:Sc} (h:ScOk s):1<=s.best/\s.best<=30:=RN h.kne h.kall
def Sc.row (s:Sc):List D:=[.int s.vC,.int s.vI,.int s.vE,.lst (s.vF.map bK),.lst (s.vB.map aJ),.lst (s.vD.map cL)]
def Sc.d (s:Sc):D:=.lst s.row
abbrev sc (nn:List D) (first:Int) (fr:Bool) (vC cell vI vE:Int) (kl:List D) (x8 x9 aT:Sl):Ro:=[.sh (.lst nn),.sh (.int first),.sh (.bl fr),.sh (.int vC),.sh (.int cell),.sh (.int vI),.sh (.int vE),.sh (.lst kl),x8,x9,aT]
theorem RO (ks:List (Int×Int×Int)) (hk:ks≠[]) (hl:ks.length<=3) (f:Ev) (ρ:Ro) (h:f ρ=.ok (.lst (ks.map bK))):eCB jP (aD (aS (bJ (bC f) [] (eIx (aA 0) (eI 0)))) aI) ρ=.ok (.int (bN true (ks.map (·.1)))):=by
 have mx:=JW (is:=ks.map (·.1)) (by simpa using hk);have fc:bJ (bC f) [] (eIx (aA 0) (eI 0)) ρ=.ok ((ks.map (·.1)).map D.int):=by
  rw [List.map_map];refine hJ (g:=bK) (by rw [bC,h];rfl) (by omega) λk _=>?_
  simp [cG,bK,dS]
 rw [eCB,aD,aS,fc];exact mx
def wOf (w:Int):Int:=if w=1∨w=3 then 3 else 0
theorem atW (w:Int) (h:0<=w/\w<=3):atI [D.int 0,.int 3,.int 0,.int 3] w=some (.int (wOf w)):=by
 have:w=0∨w=1∨w=2∨w=3:=by omega
 rcases this with rfl | rfl | rfl | rfl<;>rfl
def sgW (s:Sg):Sg:=(s.1,s.2.1,wOf s.2.2.1,s.2.2.2)
theorem Z5 {s:Sg} (h:fM s):fM (sgW s):=⟨h.least,h.most,by unfold sgW wOf;dsimp only;split<;>omega,h.heat⟩
theorem Z6 {k:List Sg} (h:dJ k):dJ (k.map sgW):=⟨by simpa using h.one,by simpa using h.four,λs hs=>by
 obtain ⟨t,ht,rfl⟩:=List.mem_map.mp hs;exact Z5 (h.all t ht)⟩
theorem Z7 (nn:List D) (first:Int) (fr:Bool) (vC cell vI vE:Int) (kl:List D) (vB:List (List Sg)) (hks:∀k∈vB,dJ k) (j:Nat) (hj:j < vB.length) (x9 aT:Sl) :
 ∃kinds':List (List Sg),kinds'.length=vB.length/\(∀k∈kinds',dJ k)/\aP (aV 10) nL (sc nn first fr vC cell vI vE kl (.ow (vB.map aJ)) x9 aT) (.int j)=.nx (sc nn first fr vC cell vI vE kl (.ow (kinds'.map aJ)) x9 (.sh (.int j))):=by
 have hm:vB[j]∈vB:=List.getElem_mem hj;have hk:=hks _ hm;refine ⟨vB.set j (vB[j].map sgW),by simp,λk hk'=>?_,?_⟩
 ·rcases List.mem_or_eq_of_mem_set hk' with h | h
  ·exact hks k h
  ·rw [h];exact Z6 hk
 have a:atI (vB.map aJ) (j:Int)=some (aJ vB[j]):=dC (by simp [hj]);have st:=Z4 (ds:=vB.map aJ) (k:=j) (by simpa using hj) (aJ (vB[j].map sgW));have es:(vB.map aJ).set j (aJ (vB[j].map sgW))=(vB.set j (vB[j].map sgW)).map aJ:=by rw [List.map_set]
 rw [es] at st;generalize vB[j]=kd at *;have mp:∀ρ:Ro,eR (λd=>fC (aD (eIx (aA 0) (eI 0)) (aD (eIx (aA 0) (eI 1)) (aD (eIx (aS (bF (fQ [.int 0,.int 3,.int 0,.int 3]))) (eIx (aA 0) (eI 2))) (aD (eIx (aA 0) (eI 3)) aI)))) (cG [] ρ d)) (kd.map bV)=some ((kd.map sgW).map bV):=fun ρ=>by
  rw [List.map_map];refine nA kd λs hs=>?_
  have a0:=dS (D.int s.1) [.int s.2.1,.int s.2.2.1,.int s.2.2.2];have a1:=fD (D.int s.1) (.int s.2.1) [.int s.2.2.1,.int s.2.2.2];have a2:=iV (D.int s.1) (.int s.2.1) (.int s.2.2.1) [.int s.2.2.2];have a3:=kH (D.int s.1) (.int s.2.1) (.int s.2.2.1) (.int s.2.2.2) [];have aw:=atW s.2.2.1 (hk.all s hs).want;simp [cG,bV,a0,a1,a2,a3,aw,sgW]
 have hl:(kd.map bV).length<=1000000:=by have:=hk.four;simp;omega
 have e1:aS (bJ (bC (jY (fY 8) (aA 10))) [] (fC (aD (eIx (aA 0) (eI 0)) (aD (eIx (aA 0) (eI 1)) (aD (eIx (aS (bF (fQ [.int 0,.int 3,.int 0,.int 3]))) (eIx (aA 0) (eI 2))) (aD (eIx (aA 0) (eI 3)) aI)))))) (sc nn first fr vC cell vI vE kl (.ow (vB.map aJ)) x9 (.sh (.int j)))=.ok (aJ (kd.map sgW)):=by
  have e2:bC (jY (fY 8) (aA 10)) (sc nn first fr vC cell vI vE kl (.ow (vB.map aJ)) x9 (.sh (.int j)))=.ok (kd.map bV):=by
   clear st;generalize vB.map aJ=kk at *;simp [a,aJ]
  rw [aS,bJ,e2,Out.ok_bind,if_pos hl,mp]
  rfl
 have b0:aP (aV 10) nL (sc nn first fr vC cell vI vE kl (.ow (vB.map aJ)) x9 aT) (.int j)=nL (sc nn first fr vC cell vI vE kl (.ow (vB.map aJ)) x9 (.sh (.int j))):=by simp [aP]
 rw [b0,nL,yU,e1,Out.ok_fl];generalize vB.map aJ=kk at *;simp [st]
theorem RP (n:Nat):rgD 0 n=(List.range n).map λ(k:Nat)=>D.int (k:Int):=by
 unfold rgD;exact List.map_congr_left λk _=>by rw [Int.zero_add]
theorem Z8 (ns:List Int) (first:Int) (vC:Int) (hn:1<=vC/\vC<=120) (cell vI vE:Int) (kl:List D) (fr:Bool) (k0:List (List Sg)) (h0:1<=k0.length/\k0.length<=8) (hk0:∀k∈k0,dJ k) (x9 aT:Sl) :
 ∃(night':Int) (vB:List (List Sg)),(1<=night'/\night'<=120)/\(1<=vB.length/\vB.length<=8)/\(∀k∈vB,dJ k) /\
  nN (sc (ns.map D.int) first fr vC cell vI vE kl (.ow (k0.map aJ)) x9 aT)=lT (sc (ns.map D.int) first fr night' cell vI vE kl (.ow (vB.map aJ)) x9 aT):=by
 cases fr with
 | false=>
  refine ⟨vC,k0,hn,h0,hk0,?_⟩;rw [nN];generalize hG:lT=G;generalize k0.map aJ=kk;generalize ns.map D.int=nn;simp
 | true=>
  obtain ⟨n,hn1,hn8,en⟩:∃n:Nat,1<=n/\n<=8/\1+cell / 16 % 8=(n:Int):=⟨(1+cell / 16 % 8).toNat,by omega,by omega,by omega⟩
  have ex:=fun ρ:Ro=>λ(e1:aA 0 ρ=.ok (.lst (ns.map D.int))) (e4:ρ.getD 4 .no=.sh (.int cell)) (e0:ρ.getD 0 .no=.sh (.lst (ns.map D.int)))=>RM (P:=dJ) (f:=λd=>rD (rC 3 nG (gSh (aA 1) (gSh (eW (eI 5) (aA 0)) (gSh (aX (eI 1) (bA (aX (bT (aA 2) (eI 4)) (aA 0)) (eI 4))) gN0)))) (cG [0,4] ρ d)) (List.range n) (λk hk=>by
   have hk:=List.mem_range.mp hk;obtain ⟨m,hm1,hm4,em⟩:∃m:Nat,1<=m/\m<=4/\1+(cell / 4+(k:Int)) % 4=(m:Int):=⟨(1+(cell / 4+(k:Int)) % 4).toNat,by omega,by omega,by omega⟩
   obtain ⟨q,hq,eq⟩:=Y7 ns (5*(k:Int)) (by omega) m ⟨hm1,hm4⟩;refine ⟨q,hq,?_⟩;have mo:eD 5 (k:Int)=true:=iX (by decide);rw [<-em] at eq;have ec:cG [0,4] ρ (.int (k:Int))=[.sh (.int (k:Int)),.sh (.lst (ns.map D.int)),.sh (.int cell)]:=by simp only [cG,List.map_cons,List.map_nil,e4,e0];rfl
   rw [ec];generalize ns.map D.int=nn at *;simp [mo,eq,aJ])
  obtain ⟨qs,h1,h2,h3⟩:=ex (sc (ns.map D.int) first true (1+first / 3 % 120) cell vI vE kl (.ow (k0.map aJ)) x9 aT) rfl rfl rfl;rw [List.length_range] at h1;refine ⟨1+first / 3 % 120,qs,by omega,by omega,h2,?_⟩;have it:dH (n1 (aX (eI 1) (bA (bT (aA 4) (eI 16)) (eI 8)))) (sc (ns.map D.int) first true (1+first / 3 % 120) cell vI vE kl (.ow (k0.map aJ)) x9 aT)=.ok (rgD 0 n):=gD (by rw [<-en];generalize k0.map aJ=kk;generalize ns.map D.int=nn;simp) (by omega);have fc:bJ (dH (n1 (aX (eI 1) (bA (bT (aA 4) (eI 16)) (eI 8))))) [0,4] (rD (rC 3 nG (gSh (aA 1) (gSh (eW (eI 5) (aA 0)) (gSh (aX (eI 1) (bA (aX (bT (aA 2) (eI 4)) (aA 0)) (eI 4))) gN0))))) (sc (ns.map D.int) first true (1+first / 3 % 120) cell vI vE kl (.ow (k0.map aJ)) x9 aT)=.ok (qs.map aJ):=by
   rw [bJ,it,Out.ok_bind,RP,if_pos (by simp;omega),h3]
  have s2:uD (sc (ns.map D.int) first true vC cell vI vE kl (.ow (k0.map aJ)) x9 aT)=.nx (sc (ns.map D.int) first true (1+first / 3 % 120) cell vI vE kl (.ow (qs.map aJ)) x9 aT):=by
   have a:uD (sc (ns.map D.int) first true vC cell vI vE kl (.ow (k0.map aJ)) x9 aT)=uC (sc (ns.map D.int) first true (1+first / 3 % 120) cell vI vE kl (.ow (k0.map aJ)) x9 aT):=by
    rw [uD];generalize hG:uC=G;generalize k0.map aJ=kk;generalize ns.map D.int=nn;simp
   rw [a,uC,iU (v:=qs.map aJ) (by rw [fc];rfl)]
   rfl
  rw [nN];generalize hG:lT=G;have t:fB (aA 2) (sc (ns.map D.int) first true vC cell vI vE kl (.ow (k0.map aJ)) x9 aT)=.ok true:=by
   generalize k0.map aJ=kk;generalize ns.map D.int=nn;simp
  rw [sIf,t,Out.ok_fl,if_pos rfl,s2]
  rfl
theorem Z9 (ns:List Int) (first:Int) (fr:Bool) (vC:Int) (cell vI vE:Int) (ks:List (Int×Int×Int)) (h1:ks≠[]) (h3:ks.length<=3) (hks:∀k∈ks,lV k) (k0:List (List Sg)) (h0:1<=k0.length/\k0.length<=8) (hk0:∀k∈k0,dJ k) (x9 aT:Sl) :
 ∃(ks':List (Int×Int×Int)) (vB:List (List Sg)) (x10':Sl),ks'≠[]/\ks'.length<=3/\(∀k∈ks',lV k)/\(1<=vB.length/\vB.length<=8)/\(∀k∈vB,dJ k) /\
  lT (sc (ns.map D.int) first fr vC cell vI vE (ks.map bK) (.ow (k0.map aJ)) x9 aT)=nM (sc (ns.map D.int) first fr vC cell vI vE (ks'.map bK) (.ow (vB.map aJ)) x9 x10'):=by
 have p:=fE ns 5 (by decide);generalize ns.getD (5:Int).toNat 0=v at *;by_cases c:v % 3=1
 ·obtain ⟨k,kr,rfl⟩:=List.exists_cons_of_ne_nil h1;obtain ⟨r,er,hr⟩:=pick4 6 10 3 5 (v / 3);obtain ⟨h,eh,hh⟩:=pick2 200 230 (v / 12);obtain ⟨ρ',e,vB,cK,g1,g2,rfl⟩:=iW (body:=aP (aV 10) nL) (λj ρ=>∃(vB:List (List Sg)) (aT:Sl),vB.length=k0.length/\(∀k∈vB,dJ k)/\ρ=sc (ns.map D.int) first fr vC cell vI vE ([(k.1,r,h)].map bK) (.ow (vB.map aJ)) x9 aT) k0.length (λj ρ hj ⟨vB,cK,g1,g2,eq0⟩=>by
   obtain ⟨kinds',q1,q2,q3⟩:=Z7 (ns.map D.int) first fr vC cell vI vE ([(k.1,r,h)].map bK) vB g2 j (by omega) x9 cK
   exact ⟨_,by rw [eq0];exact q3,kinds',_,by omega,q2,rfl⟩) (ρ:=sc (ns.map D.int) first fr vC cell vI vE ([(k.1,r,h)].map bK) (.ow (k0.map aJ)) x9 aT) ⟨k0,aT,rfl,hk0,rfl⟩
  have kk:=hks k (by simp);refine ⟨[(k.1,r,h)],vB,cK,by simp,by simp,λq hq=>?_,by omega,g2,?_⟩
  ·rw [List.mem_singleton.mp hq];exact ⟨kk.room,by dsimp only;omega,by dsimp only;omega⟩
  have a0:∀l:List D,atI (D.tup [.int k.1,.int k.2.1,.int k.2.2]::l) 0=some (D.tup [.int k.1,.int k.2.1,.int k.2.2]):=λl=>dS _ l
  have a1:=dS (D.int k.1) [.int k.2.1,.int k.2.2];have s5:uF (sc (ns.map D.int) first fr vC cell vI vE ((k::kr).map bK) (.ow (k0.map aJ)) x9 aT)=.nx (sc (ns.map D.int) first fr vC cell vI vE ([(k.1,r,h)].map bK) (.ow (vB.map aJ)) x9 cK):=by
   have b:uF (sc (ns.map D.int) first fr vC cell vI vE ((k::kr).map bK) (.ow (k0.map aJ)) x9 aT)=uE (sc (ns.map D.int) first fr vC cell vI vE ([(k.1,r,h)].map bK) (.ow (k0.map aJ)) x9 aT):=by
    rw [uF];clear e;generalize hG:uE=G;generalize k0.map aJ=kk;generalize ns.map D.int=nn at *;rw [List.map_cons];generalize kr.map bK=kkr at *;simp [p,er,eh,a0,a1,bK]
   rw [b,uE,cV (ds:=rgD 0 k0.length) (gD (by generalize ns.map D.int=nn;simp) (by omega)),e]
  rw [lT];generalize hG:nM=G;have t:tEq (bA (rD (rC 2 cY (gSh (aA 0) (gSh (eI 5) gN0)))) (eI 3)) (eI 1) (sc (ns.map D.int) first fr vC cell vI vE ((k::kr).map bK) (.ow (k0.map aJ)) x9 aT)=.ok true:=by
   clear e s5;generalize k0.map aJ=kk;generalize ns.map D.int=nn at *;generalize (k::kr).map bK=kkr at *;simp [p,c]
  rw [sIf,t,Out.ok_fl,if_pos rfl,s5]
  rfl
 ·refine ⟨ks,k0,aT,h1,h3,hks,h0,hk0,?_⟩;rw [lT];generalize hG:nM=G;generalize k0.map aJ=kk;generalize ks.map bK=kl;generalize ns.map D.int=nn at *;simp [p,c]
theorem RQ (a i:Int) (ha:1<=a/\a<=6):∃v,atI [D.int 1,.int 2,.int 1,.int a] (i % 4)=some (.int v)/\1<=v/\v<=6:=by
 obtain ⟨v,e,h⟩:=pick4 1 2 1 a i;exact ⟨v,e,by omega,by omega⟩
theorem j4e (ns:List Int):∃s:Sc,ScOk s/\uG [.sh (.lst (ns.map D.int))]=.ok (.fr s.row):=by
 have p0:=fE ns 0 (by decide);have p1:=fE ns 1 (by decide);have p6:=fE ns 6 (by decide);generalize ns.getD (0:Int).toNat 0=v0 at *;generalize ns.getD (1:Int).toNat 0=v1 at *;generalize ns.getD (6:Int).toNat 0=v6 at *;obtain ⟨fr,hfr⟩:∃b:Bool,b=decide (v0 % 3=2):=⟨_,rfl⟩
 obtain ⟨nt,en,hnt⟩:∃nt,atI [D.int (30+v0 / 3 % 41),.int 120] (if v0 / 123 % 6=5 then 1 else 0)=some (.int nt)/\1<=nt/\nt<=120:=by
  by_cases c:v0 / 123 % 6=5
  ·rw [if_pos c];exact ⟨120,fD _ _ _,by decide,by decide⟩
  ·rw [if_neg c];exact ⟨_,dS _ _,by omega,by omega⟩
 obtain ⟨hd,eh,hhd⟩:=RQ (1+v1 / 16 % 6) v1 (by omega);obtain ⟨bn,eb,hbn⟩:=RQ (1+v1 / 16 % 6) (v1 / 4) (by omega);obtain ⟨ks,k1,k3,hks,ek⟩:=Y4 ns;obtain ⟨n1,h11,h14,e1⟩:∃m:Nat,1<=m/\m<=4/\1+v6 / 7 % 3=(m:Int):=⟨(1+v6 / 7 % 3).toNat,by omega,by omega,by omega⟩
 obtain ⟨n2,h21,h24,e2⟩:∃m:Nat,1<=m/\m<=4/\1+v6 / 21 % 4=(m:Int):=⟨(1+v6 / 21 % 4).toNat,by omega,by omega,by omega⟩
 obtain ⟨s1,hs1,es1⟩:=RL ns 15 (by decide) n1 ⟨h11,h14⟩;obtain ⟨s2,hs2,es2⟩:=RL ns 21 (by decide) n2 ⟨h21,h24⟩;rw [<-e1] at es1;rw [<-e2] at es2;obtain ⟨vC,vB,hn,hk,hkk,f10⟩:=Z8 ns v0 nt hnt v6 hd bn (ks.map bK) fr [s1,s2] (by simp) (λk hk=>by
  rcases List.mem_cons.mp hk with rfl | hk
  ·exact hs1
  ·rw [List.mem_singleton.mp hk];exact hs2) .no .no
 obtain ⟨ks',kinds',aT,q1,q3,qk,r1,rk,f9⟩:=Z9 ns v0 fr vC v6 hd bn ks k1 k3 hks vB hk hkk .no .no;have mst:=RN q1 qk;obtain ⟨as,a1,a2,a3,ea⟩:=Z3 ns vC (bN true (ks'.map (·.1))) hn mst kinds' r1 rk fr;have ra:as.map bK=(as.map λq:Int×Int×Int=>(q.1.toNat,q.2.1,q.2.2)).map cL:=by
  rw [List.map_map];refine List.map_congr_left λq hq=>?_
  have h0:=(a1 q hq).kd.1;show bK q=.tup [.int (q.1.toNat:Int),.int q.2.1,.int q.2.2];rw [Int.toNat_of_nonneg h0];rfl
 refine ⟨⟨vC,hd,bn,ks',kinds',as.map λq=>(q.1.toNat,q.2.1,q.2.2)⟩,⟨hn,hhd,hbn,q1,q3,qk,r1.1,r1.2,rk,by simpa using a2,λa ha=>?_,λa ha=>?_,λa ha=>?_,by rw [List.map_map];exact a3⟩,?_⟩
 ·obtain ⟨q,hq,rfl⟩:=List.mem_map.mp ha;have h0:=(a1 q hq).kd;show q.1.toNat < kinds'.length;omega
 ·obtain ⟨q,hq,rfl⟩:=List.mem_map.mp ha;exact (a1 q hq).lv
 ·obtain ⟨q,hq,rfl⟩:=List.mem_map.mp ha;exact (a1 q hq).du
 have mx:=RO ks' q1 q3 (aA 7) (sc (ns.map D.int) v0 fr vC v6 hd bn (ks'.map bK) (.ow (kinds'.map aJ)) .no aT) rfl;have f8:nM (sc (ns.map D.int) v0 fr vC v6 hd bn (ks'.map bK) (.ow (kinds'.map aJ)) .no aT)=.rt (.fr [.int vC,.int hd,.int bn,.lst (ks'.map bK),.lst (kinds'.map aJ),.lst (as.map bK)]):=by
  rw [nM];generalize hX:eCB jP (aD (aS (bJ (bC (aA 7)) [] (eIx (aA 0) (eI 0)))) aI)=X at *;generalize bN true (ks'.map (·.1))=most at *;generalize ks'.map bK=kl at *;generalize kinds'.map aJ=kk at *;generalize as.map bK=aa at *;generalize ns.map D.int=nn at *;simp [mx,ea,MK,MJ]
 have kd2:([s1,s2].map aJ)=[.lst (s1.map bV),.lst (s2.map bV)]:=rfl;rw [kd2] at f10;have st:pR [.sh (.lst (ns.map D.int)),.no,.no,.no,.no,.no,.no,.no,.no,.no,.no]=nN (sc (ns.map D.int) v0 fr nt v6 hd bn (ks.map bK) (.ow [.lst (s1.map bV),.lst (s2.map bV)]) .no .no):=by
  generalize hG:nN=G;clear f10 f9 f8 ea mx;generalize ks.map bK=kl at *;generalize s1.map bV=r1 at *;generalize s2.map bV=r2 at *;generalize ns.map D.int=nn at *;subst hfr;by_cases c:v0 / 123 % 6=5
  ·rw [if_pos c] at en;simp [pR,AM,AL,AK,AJ,AI,AH,AG,AF,p0,p1,p6,c,en,eh,eb,ek,es1,es2,hG]
  ·rw [if_neg c] at en;simp [pR,AM,AL,AK,AJ,AI,AH,AG,AF,p0,p1,p6,c,en,eh,eb,ek,es1,es2,hG]
 rw [uG];refine dI _ rfl ?_;show pR [.sh (.lst (ns.map D.int)),.no,.no,.no,.no,.no,.no,.no,.no,.no,.no]=_;rw [st,f10,f9,f8,ra]
 rfl
def bL (b:Nat×Int):D:=.tup [.int b.1,.int b.2]
def toB (b:Int×Int×Int):Nat×Int:=((b.1-1).toNat,b.2.2)
theorem RS (most:Int) (l:Int):∀(ls:List Int) (n:Int),cH most n (ls++[l])=cH most n ls++jQ most (n+ls.length) l
 | [],n=>by simp [cH]
 | x::ls,n=>by
  rw [List.cons_append,cH,cH,RS most l ls (n+1),List.append_assoc]
  congr 3
  simp;omega
theorem RT {most ls:Int} {t:Nat} (h:1<=most) (h1:1<=ls) (ht:t < nb most ls):(t:Int)*most < ls:=by
 unfold nb at ht;have:(t:Int)<=(ls-1) / most:=by omega
 have:=(Int.le_ediv_iff_mul_le (by omega)).mp this;omega
theorem w1Q {most ls:Int} (h:1<=most) (h1:1<=ls):ls<=(nb most ls:Int)*most:=by
 have h2:0<=(ls-1) / most:=Int.ediv_nonneg (by omega) (by omega);have e:(nb most ls:Int)=(ls-1) / most+1:=by unfold nb;omega
 rw [e];have:=Int.lt_ediv_add_one_mul_self (ls-1) (b:=most) (by omega);omega
def Sc.bats (s:Sc):List (Int×Int×Int):=cH s.best 1 (s.vD.map (·.2.1))
def Sc.bs (s:Sc):List (Nat×Int):=s.bats.map toB
theorem wV (most:Int):∀(ls:List Int) (n:Int),(cH most n ls).length=(ls.map (nb most)).sum
 | [],_=>rfl
 | l::ls,n=>by rw [cH,List.length_append,CS,wV most ls,List.map_cons,List.sum_cons]
theorem ScOk.few {s:Sc} (h:ScOk s):s.bats.length<=3:=by
 unfold Sc.bats;rw [wV,List.map_map];exact h.asum
theorem j2U {most n ls:Int} {b:Int×Int×Int} (hm:1<=most) (h1:1<=ls) (h:b∈jQ most n ls):b.1=n/\1<=b.2.2/\b.2.2<=most:=by
 obtain ⟨t,ht,rfl⟩:=List.mem_map.mp h;have ht:t < nb most ls:=by simpa using ht
 have:=RT hm h1 ht;refine ⟨rfl,?_⟩;dsimp only [iK]
 split<;>omega
theorem RU {most:Int} (hm:1<=most):∀{ls:List Int} {n:Int} {b:Int×Int×Int},(∀l∈ls,1<=l)->b∈cH most n ls->(n<=b.1/\b.1 < n+ls.length)/\1<=b.2.2/\b.2.2<=most
 | [],n,b,_,h=>by simp [cH] at h
 | l::ls,n,b,hl,h=>by
  rw [cH] at h;rcases List.mem_append.mp h with h | h
  ·obtain ⟨e,q⟩:=j2U hm (hl l (by simp)) h;exact ⟨⟨by omega,by simp;omega⟩,q⟩
  ·obtain ⟨e,q⟩:=RU hm (λx hx=>hl x (by simp [hx])) h;exact ⟨⟨by omega,by simp;omega⟩,q⟩
theorem ScOk.bat {s:Sc} (h:ScOk s) {b:Int×Int×Int} (hb:b∈s.bats):∃k:Nat,b.1=(k:Int)+1/\k < s.vD.length/\1<=b.2.2/\b.2.2<=s.best:=by
 obtain ⟨⟨h1,h2⟩,q⟩:=RU h.best.1 (λl hl=>by
  obtain ⟨a,ha,rfl⟩:=List.mem_map.mp hl;exact (h.alv a ha).1) hb
 rw [List.length_map] at h2;exact ⟨(b.1-1).toNat,by omega,by omega,q⟩
theorem j2c {s:Sc} (h:ScOk s) (k:Nat) (hk:k < s.vD.length) (row:List D) (hr:row.length<=1000) (a b:Sl) :
 ∃b',aP (aV 3) pU [.sh s.d,.sh (.int s.best),.ow row,a,b] (.int k)=.nx [.sh s.d,.sh (.int s.best),.ow (row++((jQ s.best ((k:Int)+1) (s.vD[k]'hk).2.1).map toB).map bL),.sh (.int k),b']:=by
 have at1:atI (s.vD.map cL) (k:Int)=some (cL (s.vD[k]'hk)):=dC (by simp [hk]);have lv:=h.alv _ (List.getElem_mem hk);generalize s.vD[k]'hk=A at *;have mo:=h.best;have hnb:=CT mo.1 lv.1 lv.2;obtain ⟨ρ',e,rfl⟩:=whR (t:=tB2 (i2 λi j=>.bl (decide (j < i))) (aA 4) (eC (.int 0))) (b:=AW) (λt ρ=>ρ=[.sh s.d,.sh (.int s.best),.ow (row++(((List.range t).map (iK s.best ((k:Int)+1) A.2.1)).map toB).map bL),.sh (.int k),.sh (.int (A.2.1-(t:Int)*s.best))]) (nb s.best A.2.1) 100000 (by omega) (λt ρ ht e=>by
  subst e;have lt:=RT mo.1 lv.1 ht;refine ⟨?_,_,?_,rfl⟩
  ·have:0 < A.2.1-(t:Int)*s.best:=by omega
   have this':(t:Int)*s.best < A.2.1:=by omega
   simp [this,this']
  ·rw [List.range_succ,List.map_append,List.map_append,List.map_append,<-List.append_assoc];have eq:(((([t]).map (iK s.best ((k:Int)+1) A.2.1)).map toB).map bL)=[.tup [.int k,.int (if A.2.1-(t:Int)*s.best < s.best then A.2.1-(t:Int)*s.best else s.best)]]:=by
    simp only [List.map_cons,List.map_nil,iK,toB,bL];rw [show A.2.1-(1+(t:Int)*s.best)+1=A.2.1-(t:Int)*s.best by omega,show (((k:Int)+1-1).toNat:Int)=k by omega]
   rw [eq];have em:((t+1:Nat):Int)*s.best=(t:Int)*s.best+s.best:=by rw [Int.natCast_add,Int.add_mul];simp
   rw [em];have hl:(row++(((List.range t).map (iK s.best ((k:Int)+1) A.2.1)).map toB).map bL).length < 1000000:=by simp;omega
   have e2:A.2.1-(t:Int)*s.best-s.best=A.2.1-((t:Int)*s.best+s.best):=by omega
   generalize row++(((List.range t).map (iK s.best ((k:Int)+1) A.2.1)).map toB).map bL=R at *;generalize s.d=sd;generalize s.best=M at *;generalize (t:Int)*M=q at *;simp [AW,OB,hl,e2]) (fun ρ e=>by
  subst e;have ge:=w1Q mo.1 lv.1;have:¬0 < A.2.1-(nb s.best A.2.1:Int)*s.best:=by omega
  have this':¬(nb s.best A.2.1:Int)*s.best < A.2.1:=by omega
  simp [this,this']) (ρ:=[.sh s.d,.sh (.int s.best),.ow row,.sh (.int k),.sh (.int A.2.1)]) (by simp)
 refine ⟨.sh (.int (A.2.1-(nb s.best A.2.1:Int)*s.best)),?_⟩;have b0:aP (aV 3) pU [.sh s.d,.sh (.int s.best),.ow row,a,b] (.int k)=uV [.sh s.d,.sh (.int s.best),.ow row,.sh (.int k),.sh (.int A.2.1)]:=by
  generalize hG:uV=G;unfold Sc.d Sc.row;generalize s.vD.map cL=aa at *;simp [aP,pU,at1,cL,fD,pF,hG]
 rw [b0,uV];exact e
theorem RV {s:Sc} (h:ScOk s):nT [.sh s.d]=.ok (.fr (s.bs.map bL)):=by
 have tk:∀j (hj:j < s.vD.length),cH s.best 1 ((s.vD.take (j+1)).map (·.2.1))=cH s.best 1 ((s.vD.take j).map (·.2.1))++jQ s.best ((j:Int)+1) (s.vD[j]'hj).2.1:=λj hj=>by
  rw [List.take_succ_eq_append_getElem hj,List.map_append];show cH s.best 1 (_++[_])=_;rw [RS]
  congr 2
  simp;omega
 have few:=h.few;obtain ⟨ρ',e,a,b,rfl⟩:=iW (body:=aP (aV 3) pU) (λj ρ=>∃(a b:Sl),ρ=[.sh s.d,.sh (.int s.best),.ow (((cH s.best 1 ((s.vD.take j).map (·.2.1))).map toB).map bL),a,b]) s.vD.length (λj ρ hj ⟨a,b,e⟩=>by
  have ll:=RD s.best h.best.1 ((s.vD.take j).map (·.2.1)) 1 (λl hl=>by
   obtain ⟨x,hx,rfl⟩:=List.mem_map.mp hl;exact h.alv x (List.mem_of_mem_take hx))
  have al:=h.alen;obtain ⟨b',eq⟩:=j2c h j hj (((cH s.best 1 ((s.vD.take j).map (·.2.1))).map toB).map bL) (by simp at ll ⊢; omega) a b;refine ⟨_,by rw [e];exact eq,.sh (.int j),b',?_⟩;rw [tk j hj,List.map_append,List.map_append]) (ρ:=[.sh s.d,.sh (.int s.best),.ow [],.no,.no]) ⟨.no,.no,by simp [cH]⟩
 rw [List.take_length] at e;have al:=h.alen;have k6:AX [.sh s.d,.sh (.int s.best),.ow [],.no,.no]=.rt (.fr (s.bs.map bL)):=by
  rw [AX,cV (ds:=rgD 0 s.vD.length) (gD (by unfold Sc.d Sc.row;simp [pF]) (by omega)),e];simp [OC,Sc.bs,Sc.bats]
 rw [nT];refine dI _ rfl ?_;show AY [.sh s.d,.no,.no,.no,.no]=_;rw [AY,kG (RO s.vF h.kne h.klen (e2 ixD (aA 0) (eC (.int 3))) _ (by unfold Sc.d Sc.row;simp [kH])),Fl.nx_bind,OD,iU (v:=[]) rfl,Fl.nx_bind];exact k6
def lX (w:Int):Str:=if w=0 then "nothing" else if w=1 then "hands" else if w=2 then "bench" else "oven"
def bH (x:Sg):D:=.ins 16 [.str "stage",.int x.1,.int x.2.1,.str (lX x.2.2.1),.int x.2.2.2]
theorem j7o {w:Int} (h:0<=w/\w<=3):atI [D.str "nothing",D.str "hands",D.str "bench",D.str "oven"] w=some (.str (lX w)):=by
 have:w=0∨w=1∨w=2∨w=3:=by omega
 rcases this with rfl | rfl | rfl | rfl
 ·exact dS _ _
 ·exact fD _ _ _
 ·exact iV _ _ _ _
 ·exact kH _ _ _ _ _
theorem j69 {w:Int} (h:0<=w/\w<=3):wOk (lX w)=true:=by
 have:w=0∨w=1∨w=2∨w=3:=by omega
 rcases this with rfl | rfl | rfl | rfl<;>decide +kernel
theorem j4c:Wd 12 (Str.ofString "stage"):=⟨⟨by decide +kernel,by decide +kernel⟩,by decide +kernel,by decide +kernel⟩
def Sc.brs (s:Sc) (zs:List Str):List (Str×List D):=List.zipWith (λz k=>(z,k.map bH)) zs s.vB
theorem CV {s:Sc} {zs:List Str} (hz:zs.length=s.vB.length):(s.brs zs).length=s.vB.length:=by simp [Sc.brs,hz]
theorem CW {s:Sc} {zs:List Str} (hz:zs.length=s.vB.length):(s.brs zs).map (·.1)=zs:=by
 unfold Sc.brs;rw [List.map_zipWith];show List.zipWith (λz _=>z) zs s.vB=zs;have:∀(zs:List Str) (ks:List (List Sg)),zs.length=ks.length->List.zipWith (λz _=>z) zs ks=zs:=by
  intro zs
  induction zs with
  | nil=>intro ks _;rfl
  | cons z zs ih=>
   intro ks h;cases ks with
   | nil=>simp at h
   | cons k ks=>rw [List.zipWith_cons_cons,ih ks (by simpa using h)]
 exact this zs s.vB hz
theorem RW {s:Sc} {zs:List Str} {k:Nat} (hz:zs.length=s.vB.length) (hk:k < s.vB.length):(s.brs zs)[k]?=some (zs.getD k Str.empty,(s.vB.getD k []).map bH):=by
 unfold Sc.brs;rw [List.getElem?_zipWith];rw [List.getElem?_eq_getElem (by omega),List.getElem?_eq_getElem hk];simp [hz,hk]
abbrev Sc.bkr (s:Sc) (zs:List Str):D:=Lw.bkr s.vC s.vI s.vE s.vF (s.brs zs)
theorem q7d {s:Sc} (h:ScOk s) (zs:List Str) (hz:zs.length=s.vB.length) (w:∀z∈zs,Wd 12 z) (k:Nat) (hk:k < s.vB.length) (row:List D) (hr:row.length < 1000) (a s5 b:Sl) :
 ∃b',aP (aV 4) nQ [.sh s.d,.sh (.lst (zs.map D.str)),.sh (.lst [.str "nothing",.str "hands",.str "bench",.str "oven"]),.ow row,a,s5,b] (.int k) =
  .nx [.sh s.d,.sh (.lst (zs.map D.str)),.sh (.lst [.str "nothing",.str "hands",.str "bench",.str "oven"]),.ow (row++[brd (zs.getD k Str.empty,(s.vB.getD k []).map bH)]),.sh (.int k),s5,b']:=by
 have a1:atI (s.vB.map aJ) (k:Int)=some (aJ (s.vB.getD k [])):=dC (by simp [hk]);have a2:atI (zs.map D.str) (k:Int)=some (.str (zs.getD k Str.empty)):=dC (by simp [hk,hz]);have ko:dJ (s.vB.getD k []):=by
  rw [List.getD_eq_getElem?_getD,List.getElem?_eq_getElem hk,Option.getD_some];exact h.dall _ (List.getElem_mem hk)
 have wz:Wd 12 (zs.getD k Str.empty):=by
  rw [List.getD_eq_getElem?_getD,List.getElem?_eq_getElem (by omega),Option.getD_some];exact w _ (List.getElem_mem _)
 generalize s.vB.getD k []=K at *;generalize zs.getD k Str.empty=Z at *;have b0:aP (aV 4) nQ [.sh s.d,.sh (.lst (zs.map D.str)),.sh (.lst [.str "nothing",.str "hands",.str "bench",.str "oven"]),.ow row,a,s5,b] (.int k)=nQ [.sh s.d,.sh (.lst (zs.map D.str)),.sh (.lst [.str "nothing",.str "hands",.str "bench",.str "oven"]),.ow row,.sh (.int k),s5,b]:=by simp [aP]
 refine ⟨.sh (.lst (K.map bH)),?_⟩;rw [b0,nQ,kG (v:=.lst (K.map bH))]
 ·rw [Fl.nx_bind];have bm:=X1 Z (K.map bH) wz (by simpa using ko.one) (by have:=ko.four;simp;omega);have hr2:row.length < 1000000:=by omega
  unfold brd;generalize K.map bH=kk at *;generalize s.d=sd at *;generalize zs.map D.str=zz at *;simp [NU,a2,bm,hr2]
 ·rw [aS,hJ (g:=bV) (k:=bH) (l:=K)]
  ·rfl
  ·unfold Sc.d Sc.row;generalize s.vB.map aJ=dd at *;simp [a1,tD,aJ]
  ·have:=ko.four;omega
  ·intro x hx;have so:=ko.all x hx;have wa:=j7o so.want;have l1:=so.least;have l2:=so.most;have sm:=X0 (Str.ofString "stage") (lX x.2.2.1) x.1 x.2.1 x.2.2.2 j4c (j69 so.want) (by omega) (by omega) (by omega) so.heat.1 so.heat.2;unfold bH;generalize lX x.2.2.1=W at *;simp [cG,fS,bV,dS,fD,iV,kH,wa,sm]
theorem j8M {s:Sc} (h:ScOk s) (zs:List Str) (hz:zs.length=s.vB.length) (w:∀z∈zs,Wd 12 z) (nd:zs.Nodup):uU [.sh s.d,.sh (.lst (zs.map D.str))]=.ok (.sh (s.bkr zs)):=by
 obtain ⟨ρ',e,a,b,rfl⟩:=iW (body:=aP (aV 4) nQ) (λj ρ=>∃a b:Sl,ρ=[.sh s.d,.sh (.lst (zs.map D.str)),.sh (.lst [.str "nothing",.str "hands",.str "bench",.str "oven"]),.ow (((s.brs zs).take j).map brd),a,.no,b]) s.vB.length (λj ρ hj ⟨a,b,e⟩=>by
  have dl:=h.dlen;obtain ⟨b',eq⟩:=q7d h zs hz w j hj (((s.brs zs).take j).map brd) (by simp;omega) a .no b;refine ⟨_,by rw [e];exact eq,.sh (.int j),b',?_⟩;rw [List.take_succ,RW hz hj];simp) (ρ:=[.sh s.d,.sh (.lst (zs.map D.str)),.sh (.lst [.str "nothing",.str "hands",.str "bench",.str "oven"]),.ow [],.no,.no,.no]) ⟨.no,.no,by simp⟩
 rw [List.take_of_length_le (by rw [CV hz];exact Nat.le_refl _)] at e;have kn:=List.length_pos_iff.mpr h.kne;have bk:=X4 s.vC s.vI s.vE (s.vF.map ovn) (s.brs zs) (by have:=h.vC;omega) h.vI h.vE (by simp;omega) (by simpa using h.klen) (by rw [CV hz];exact h.dne) (by rw [CV hz];exact h.dlen) (by rw [CW hz];exact nd);have dl:=h.dlen;have fc:∀x y:Sl,bJ (bC (e2 ixD (aA 0) (eC (.int 3)))) [] (rD (oN (n:=3) F_5 [] (gSh (e2 ixD (aA 0) (eC (.int 0))) (gSh (e2 ixD (aA 0) (eC (.int 1))) (gSh (e2 ixD (aA 0) (eC (.int 2))) gN0))))) [.sh s.d,.sh (.lst (zs.map D.str)),.sh (.lst [.str "nothing",.str "hands",.str "bench",.str "oven"]),.ow ((s.brs zs).map brd),x,.no,y]=.ok (s.vF.map ovn):=λx y=>by
  refine hJ (g:=bK) ?_ (by have:=h.klen;omega) λk hk=>?_
  ·unfold Sc.d Sc.row;simp [kH]
  ·have ko:=h.kall k hk;have om:=X2 k.1 k.2.1 k.2.2 ko.room ko.rate ko.heat;unfold ovn;simp [cG,bK,dS,fD,iV,om]
 have k5:uT [.sh s.d,.sh (.lst (zs.map D.str)),.sh (.lst [.str "nothing",.str "hands",.str "bench",.str "oven"]),.ow [],.no,.no,.no]=.rt (.sh (s.bkr zs)):=by
  rw [uT,cV (ds:=rgD 0 s.vB.length) (gD (by unfold Sc.d Sc.row;simp [tD]) (by omega)),e,Fl.nx_bind,NW,kG (v:=.lst (s.vF.map ovn)) (by rw [aS,fc,Out.ok_bind]),Fl.nx_bind];unfold Sc.bkr Lw.bkr;generalize (s.brs zs).map brd=bb at *;generalize s.vF.map ovn=oo at *;unfold Sc.d Sc.row;simp [NV,dS,fD,iV,bk]
 have k7:AT [.sh s.d,.sh (.lst (zs.map D.str)),.no,.no,.no,.no,.no]=.rt (.sh (s.bkr zs)):=by
  clear e fc;generalize hG:uT=G at *;generalize s.d=sd at *;generalize zs.map D.str=zz at *;simp [AT,NX,hG,k5]
 rw [uU];exact dI _ rfl k7
def eN (zs:List Str) (a:Nat×Int×Int):Str×Int×Int:=(zs.getD a.1 Str.empty,a.2.1,a.2.2)
theorem w0x (zs:List Str) (al:List (Nat×Int×Int)) (hl:al.length<=12) (hx:∀a∈al,a.1 < zs.length) (lv:∀a∈al,1<=a.2.1/\a.2.1<=60):pT [.sh (.lst (al.map cL)),.sh (.lst (zs.map D.str))]=.ok (.fr ((al.map (eN zs)).map ord)):=by
 rw [pT];refine dI _ rfl ?_;show AV [.sh (.lst (al.map cL)),.sh (.lst (zs.map D.str))]=_;rw [AV];show Out.fl (Out.bind (bJ _ _ _ _) _) _ _=_;rw [List.map_map,hJ (g:=cL) (k:=ord ∘ eN zs) (l:=al) (by rfl) (by omega)]
 ·rfl
 ·intro a ha;have hk:=hx a ha;have hv:=lv a ha;have a3:atI (zs.map D.str) (a.1:Int)=some (.str (zs.getD a.1 Str.empty)):=dC (by simp [hk]);have om:=X8 (zs.getD a.1 Str.empty) a.2.1 a.2.2 (gF (by omega));rw [if_pos hv] at om;show _=Out.ok (ord (eN zs a));unfold eN ord;generalize zs.getD a.1 Str.empty=Z at *;generalize zs.map D.str=ss at *;simp [cG,fS,cL,dS,fD,iV,a3,om]
theorem j7t (zs:List Str) (al:List (Nat×Int×Int)) (hz:∀a∈al,a.1 < zs.length) (hl:al.length<=12):qG [.sh (.lst ((al.map (eN zs)).map ord)),.sh (.lst (al.map cL)),.sh (.lst (zs.map D.str))]=.ok (.sh (.bl true)):=by
 obtain ⟨ρ',e,a,b,rfl⟩:=iW (body:=aP (aV 3) CL) (λj ρ=>∃a b:Sl,ρ=[.sh (.lst ((al.map (eN zs)).map ord)),.sh (.lst (al.map cL)),.sh (.lst (zs.map D.str)),a,b]) al.length (λj ρ hj ⟨a,b,e⟩=>by
  subst e;have a1:atI ((al.map (eN zs)).map ord) (j:Int)=some (ord (zs.getD al[j].1 Str.empty,al[j].2.1,al[j].2.2)):=dC (by simp [hj,eN]);have a2:atI (al.map cL) (j:Int)=some (cL al[j]):=dC (by simp [hj]);have hk:=hz al[j] (List.getElem_mem hj);have a3:atI (zs.map D.str) (al[j].1:Int)=some (.str (zs.getD al[j].1 Str.empty)):=dC (by simp [hk]);have i1:=is_ al[j].2.1 al[j].2.1;have i2:=is_ al[j].2.2 al[j].2.2;simp only [decide_true] at i1 i2;refine ⟨_,?_,.sh (.int j),.sh (cL al[j]),rfl⟩;generalize al[j]=B at *;generalize (al.map (eN zs)).map ord=oo at *;generalize al.map cL=aa at *;generalize zs.map D.str=ss at *;generalize zs.getD B.1 Str.empty=Z at *;simp [aP,CL,QI,QH,a1,a2,a3,ord,cL,dS,fD,iV,i1,i2,List.lookup]) (ρ:=[.sh (.lst ((al.map (eN zs)).map ord)),.sh (.lst (al.map cL)),.sh (.lst (zs.map D.str)),.no,.no]) ⟨.no,.no,rfl⟩
 have k8:wL [.sh (.lst ((al.map (eN zs)).map ord)),.sh (.lst (al.map cL)),.sh (.lst (zs.map D.str)),.no,.no]=.rt (.sh (.bl true)):=by
  rw [wL,cV (ds:=rgD 0 al.length) (gD (by simp) (by omega)),e,Fl.nx_bind,QJ]
  rfl
 have l1:((al.map (eN zs)).map ord).length=(al.map cL).length:=by simp
 have k9:CM [.sh (.lst ((al.map (eN zs)).map ord)),.sh (.lst (al.map cL)),.sh (.lst (zs.map D.str)),.no,.no]=.rt (.sh (.bl true)):=by
  clear e;generalize hG:wL=G at *;generalize (al.map (eN zs)).map ord=oo at *;generalize al.map cL=aa at *;simp [CM,k8,hG,l1]
 rw [qG];exact dI _ rfl k9
def rn (lo hi:Int):Nat:=if lo<=hi then ((hi-lo) / 5+1).toNat else 0
def rng5 (lo hi:Int):List Int:=(List.range (rn lo hi)).map λ(k:Nat)=>lo+(k:Int)*5
theorem RX (lo hi:Int):(Builtin.Range.rangeSize lo (hi+1) 5).toNat=rn lo hi:=by
 unfold Builtin.Range.rangeSize rn;rw [if_pos (by decide)];by_cases h:lo<=hi
 ·rw [if_pos (by omega),if_pos h];congr 1;omega
 ·rw [if_neg (by omega),if_neg h];rfl
theorem RY (lo hi:Int):rgS lo 5 (rn lo hi)=(rng5 lo hi).map D.int:=by
 unfold rgS rng5;rw [List.map_map];rfl
theorem RZ {lo hi:Int} (h1:-100000<=lo/\lo<=100000) (h2:-100000<=hi/\hi<=100000):gR lo (hi+1) 5=true:=by
 unfold gR;simp only [Bool.and_eq_true,decide_eq_true_eq];refine ⟨⟨⟨⟨⟨⟨?_,?_⟩,?_⟩,?_⟩,?_⟩,?_⟩,?_⟩<;>omega
theorem SA {fa fb fc:Ev} {ρ:Ro} {lo hi:Int} (ha:fa ρ=.ok (.int lo)) (hb:fb ρ=.ok (.int (hi+1))) (hc:fc ρ=.ok (.int 5)) (h1:-100000<=lo/\lo<=100000) (h2:-100000<=hi/\hi<=100000):jZ fa fb fc ρ=.ok ((rng5 lo hi).map D.int):=by
 rw [jZ,ha,Out.ok_bind,hb,Out.ok_bind,hc,Out.ok_bind];show (if gR lo (hi+1) 5=true then Out.ok (rgS lo 5 _) else .bad)=_;rw [if_pos (RZ h1 h2),RX,RY]
theorem qH (lo hi:Int) (n:Nat) (h:hi-lo < 5*n):rn lo hi<=n:=by
 unfold rn
 split<;>omega
theorem w2N {fa fb fc:Ev} {ρ:Ro} {lo hi:Int} (ha:fa ρ=.ok (.int lo)) (hb:fb ρ=.ok (.int (hi+1))) (hc:fc ρ=.ok (.int 5)) (h1:-100000<=lo/\lo<=100000) (h2:-100000<=hi/\hi<=100000):tK fa fb fc ρ=.ok ((rng5 lo hi).map D.int):=by
 rw [tK,ha,Out.ok_bind,hb,Out.ok_bind,hc,Out.ok_bind];show (if lN lo (hi+1) 5=true then Out.ok (rgS lo 5 _) else .bad)=_;have sz:Builtin.Range.rangeSize lo (hi+1) 5<=1000000:=by
  unfold Builtin.Range.rangeSize;rw [if_pos (by decide)]
  split<;>omega
 rw [if_pos (by unfold lN;rw [RZ h1 h2,decide_eq_true sz];rfl),RX,RY]
theorem qI (lo hi:Int):(rng5 lo hi).length=rn lo hi:=by simp [rng5]
theorem SB {lo hi x:Int} (h:x∈rng5 lo hi):lo<=x/\x<=hi:=by
 obtain ⟨k,hk,rfl⟩:=List.mem_map.mp h;have hk:=List.mem_range.mp hk;unfold rn at hk
 split at hk<;>omega
theorem SD (lo hi:Int):(rng5 lo hi).Nodup:=CQ _ _ λi j h _=>by omega
def jS (a m:Int):List Int:=rng5 ((a+4) / 5*5) m
theorem q6s (a m:Int) (h:1<=a):(rng5 5 m).filter (λx=>decide (a<=x))=jS a m:=by
 obtain ⟨d,hd⟩:∃d:Nat,(a+4) / 5*5=5+(d:Int)*5:=⟨((a+4) / 5-1).toNat,by omega⟩
 have ha:(d:Int)*5 < a/\a<=5+(d:Int)*5:=by omega
 unfold jS rng5;rw [hd];by_cases hn:d<=rn 5 m
 ·have e:rn 5 m=d+rn (5+(d:Int)*5) m:=by
   unfold rn at hn ⊢
   split at hn<;>(repeat' split)<;>omega
  rw [e,List.range_add,List.map_append,List.filter_append,List.filter_eq_nil_iff.mpr,List.nil_append,List.map_map,List.filter_eq_self.mpr]
  ·exact List.map_congr_left λk _=>by show 5+((d+k:Nat):Int)*5=_;omega
  ·intro x hx;obtain ⟨k,_,rfl⟩:=List.mem_map.mp hx;show decide (a<=5+((d+k:Nat):Int)*5)=true;exact decide_eq_true (by omega)
  ·intro x hx;obtain ⟨k,hk,rfl⟩:=List.mem_map.mp hx;have hk:=List.mem_range.mp hk;simp only [decide_eq_true_eq];omega
 ·have e:rn (5+(d:Int)*5) m=0:=by
   unfold rn at hn ⊢
   split at hn<;>split<;>omega
  rw [e,List.range_zero,List.map_nil,List.filter_eq_nil_iff];intro x hx;obtain ⟨k,hk,rfl⟩:=List.mem_map.mp hx;have hk:=List.mem_range.mp hk;simp only [decide_eq_true_eq];omega
def mn (x y:Int):Int:=if y < x then y else x
def wb (left:Int) (s:Sg) (r:List Int):List Int:=jS s.1 (mn s.2.1 (left-isum r))
def ext (left:Int) (s:Sg) (r:List Int):List (List Int):=(wb left s r).map λx=>r++[x]
def lens (left:Int):List Sg->List (List Int)->List (List Int)
 | [],vG=>vG
 | s::ss,vG=>lens left ss (vG.flatMap (ext left s))
theorem SE {left:Int} {s:Sg} (h:fM s) (r:List Int):(wb left s r).length<=8:=by
 unfold wb jS;rw [qI];refine qH _ _ _ ?_;have:=h.most;unfold mn
 split<;>omega
theorem w0b {left:Int} {s:Sg} (h:fM s) {r:List Int} {x:Int} (hx:x∈wb left s r):0<=x/\x<=200:=by
 have:=SB hx;have h1:=h.least;have h2:=h.most;unfold mn at this
 split at this<;>omega
structure LnOk (n:Nat) (vG:List (List Int)):Prop where
 len:∀r∈vG,r.length=n
 el:∀r∈vG,∀x∈r,0<=x/\x<=200
 few:vG.length<=8 ^ n
 nd:vG.Nodup
theorem wW {left:Int} {s:Sg} (h:fM s):∀vG:List (List Int),(vG.flatMap (ext left s)).length<=8*vG.length
 | []=>by simp
 | r::vG=>by
  have h1:=wW (left:=left) h vG;have h2:=SE (left:=left) h r;rw [List.flatMap_cons,List.length_append,List.length_cons];simp only [ext,List.length_map] at *;omega
theorem LnOk.ext {n:Nat} {vG:List (List Int)} (h:LnOk n vG) {s:Sg} (hs:fM s) (left:Int):LnOk (n+1) (vG.flatMap (ext left s)):=by
 refine ⟨λr hr=>?_,λr hr x hx=>?_,?_,?_⟩
 ·obtain ⟨q,hq,hr⟩:=List.mem_flatMap.mp hr;obtain ⟨x,hx,rfl⟩:=List.mem_map.mp hr;simp [h.len q hq]
 ·obtain ⟨q,hq,hr⟩:=List.mem_flatMap.mp hr;obtain ⟨y,hy,rfl⟩:=List.mem_map.mp hr;rcases List.mem_append.mp hx with hx | hx
  ·exact h.el q hq x hx
  ·rw [List.mem_singleton.mp hx];exact w0b hs hy
 ·have:=wW (left:=left) hs vG;have:=h.few;rw [Nat.pow_succ];omega
 ·refine List.pairwise_flatMap.mpr ⟨λr _=>?_,?_⟩
  ·exact List.pairwise_map.mpr ((SD _ _).imp λhne e=>hne (by simpa using e))
  ·refine List.Pairwise.imp_of_mem (λ{a b} ha hb hne x hx y hy e=>?_) h.nd;obtain ⟨u,_,rfl⟩:=List.mem_map.mp hx;obtain ⟨v,_,rfl⟩:=List.mem_map.mp hy;have:=List.append_inj_left e (by rw [h.len a ha,h.len b hb]);exact hne this
theorem oB {left:Int}:∀(ss:List Sg) {n:Nat} {vG:List (List Int)},(∀s∈ss,fM s)->LnOk n vG->LnOk (n+ss.length) (lens left ss vG)
 | [],n,vG,_,h=>h
 | s::ss,n,vG,hs,h=>by
  have:=oB (left:=left) ss (λt ht=>hs t (by simp [ht])) (h.ext (hs s (by simp)) left);rw [List.length_cons,show n+(ss.length+1)=n+1+ss.length by omega];exact this
theorem ln0:LnOk 0 [[]]:=⟨by simp,by simp,by simp,by simp⟩
def wys (vL:Int) (vM:List Int) (vG:List (List Int)):List WK:=vG.flatMap λls=>(rng5 0 (vL-isum ls)).flatMap λb=>vM.map λo=>(b,ls,o)
theorem q9P (vL:Int) (vM:List Int) (hf:vM.Nodup) (vG:List (List Int)) (h:vG.Nodup):(wys vL vM vG).Nodup:=by
 refine List.pairwise_flatMap.mpr ⟨λls _=>?_,h.imp λ{a b} hne x hx y hy e=>?_⟩
 ·refine List.pairwise_flatMap.mpr ⟨λb _=>?_,(SD _ _).imp λ{a b} hne x hx y hy e=>?_⟩
  ·exact List.pairwise_map.mpr (hf.imp λhne e=>hne (by simpa using e))
  ·obtain ⟨u,_,rfl⟩:=List.mem_map.mp hx;obtain ⟨v,_,rfl⟩:=List.mem_map.mp hy;cases e;exact hne rfl
 ·obtain ⟨p,_,hx⟩:=List.mem_flatMap.mp hx;obtain ⟨q,_,hy⟩:=List.mem_flatMap.mp hy;obtain ⟨u,_,rfl⟩:=List.mem_map.mp hx;obtain ⟨v,_,rfl⟩:=List.mem_map.mp hy;cases e;exact hne rfl
theorem wX (vM:List Int) (ls:List Int):∀bs:List Int,(bs.flatMap λb=>vM.map λo=>(b,ls,o)).length=bs.length*vM.length
 | []=>by simp
 | b::bs=>by
  rw [List.flatMap_cons,List.length_append,wX vM ls bs,List.length_map,List.length_cons,Nat.succ_mul];omega
theorem wY (vL:Int) (vM:List Int) (hd:vL<=120) (hf:vM.length<=3):∀vG:List (List Int),(∀r∈vG,0<=isum r)->(wys vL vM vG).length<=75*vG.length
 | [],_=>by simp [wys]
 | r::vG,h=>by
  have h1:=wY vL vM hd hf vG λq hq=>h q (by simp [hq])
  have h2:=h r (by simp);have h3:rn 0 (vL-isum r)<=25:=qH _ _ _ (by omega);unfold wys at h1 ⊢;rw [List.flatMap_cons,List.length_append,wX,qI,List.length_cons];have h4:rn 0 (vL-isum r)*vM.length<=25*3:=Nat.mul_le_mul h3 hf;omega
theorem kS:∀{r:List Int},(∀x∈r,0<=x/\x<=200)->0<=isum r/\isum r<=200*r.length
 | [],_=>by simp [isum]
 | x::r,h=>by
  have h1:=kS (r:=r) λy hy=>h y (List.mem_cons_of_mem _ hy)
  have h2:=h x (by simp);rw [isum,List.length_cons];omega
theorem CY (left:Int) (s:Sg):∀(ss:List Sg) (vG:List (List Int)),lens left (ss++[s]) vG=(lens left ss vG).flatMap (ext left s)
 | [],_=>rfl
 | t::ss,vG=>CY left s ss _
def aN (r:List Int):D:=.lst (r.map D.int)
theorem wZ {r:List Int} (hr:r.length<=10) (he:∀x∈r,0<=x/\x<=200):fK [.lst (r.map D.int)]=.ok (.int (isum r)):=JX (by omega) λx hx=>by have:=he x hx;omega
abbrev ls (st:Sl) (left:Int) (vG x3 x4 x5 x6:Sl) (vJ:List (List Int)) (x8 x9:Sl):Ro:=[st,.sh (.int left),vG,x3,x4,x5,x6,.ow (vJ.map aN),x8,x9]
theorem j3R (st:Sl) (left:Int) (hl:0<=left/\left<=1000) (vG:Sl) (s:Sg) (hs:fM s) (vJ:List (List Int)) (ha:vJ.length<=900000) (r:List Int) (hr:r.length<=10) (he:∀x∈r,0<=x/\x<=200) (x5 x6 x9:Sl) :
 ∃y9,wH (ls st left vG (.sh (.int s.1)) (.sh (.int s.2.1)) x5 x6 vJ (.sh (aN r)) x9)=.nx (ls st left vG (.sh (.int s.1)) (.sh (.int s.2.1)) x5 x6 (vJ++ext left s r) (.sh (aN r)) y9):=by
 have sm:=wZ hr he;have sb:=kS he;have s1:=hs.least;have s2:=hs.most;obtain ⟨m,em,hm⟩:∃m,m=mn s.2.1 (left-isum r)/\(-100000<=m/\m<=149):=⟨_,rfl,by unfold mn;split<;>omega⟩
 have few:rn 5 m<=100:=qH _ _ _ (by omega);have st0:=q6s s.1 m s1.1;have fb:aX (eCB gM (aD (aA 4) (aD (eM (aA 1) (eCB fK (aD (aA 8) aI))) aI))) (eI 1) (ls st left vG (.sh (.int s.1)) (.sh (.int s.2.1)) x5 x6 vJ (.sh (aN r)) x9)=.ok (.int (m+1)):=by
  rw [em];unfold aN mn;generalize vJ.map (λr=>D.lst (r.map D.int))=aa;generalize r.map D.int=rr at *;simp [sm]
 obtain ⟨ρ',e,y9,rfl⟩:=iG (body:=aP (aV 9) wG) D.int (λj ρ=>∃y9,ρ=ls st left vG (.sh (.int s.1)) (.sh (.int s.2.1)) x5 x6 (vJ++(((rng5 5 m).take j).filter (λx=>decide (s.1<=x))).map λx=>r++[x]) (.sh (aN r)) y9) (rng5 5 m) (λj v ρ hv ⟨y9,e⟩=>by
  subst e;rw [List.take_succ,hv];simp only [Option.toList_some,List.filter_append,List.map_append];rw [<-List.append_assoc];have hlen:(vJ++(((rng5 5 m).take j).filter (λx=>decide (s.1<=x))).map λx=>r++[x]).length < 1000000:=by
   have h1:=List.length_filter_le (λx=>decide (s.1<=x)) ((rng5 5 m).take j);have h2:((rng5 5 m).take j).length<=100:=by rw [List.length_take,qI];omega
   simp only [List.length_append,List.length_map];omega
  generalize vJ++(((rng5 5 m).take j).filter (λx=>decide (s.1<=x))).map (λx=>r++[x])=A at *;have hlen':(A.map aN).length < 1000000:=by simpa using hlen
  have rl:r.length<=999999:=by omega
  by_cases c:s.1<=v
  ·refine ⟨_,?_,.sh (.int v),rfl⟩;simp only [List.filter_cons,List.filter_nil,c,decide_true,if_true,List.map_cons,List.map_nil];have ea:(A++[r++[v]]).map aN=A.map aN++[.lst (r.map D.int++[.int v])]:=by simp [aN]
   have rl':(r.map D.int).length<=999999:=by simpa using rl
   simp only [ls,ea,aN] at *;generalize A.map (λr=>D.lst (r.map D.int))=aa at *;generalize r.map D.int=rr at *;simp [aP,wG,PZ,c,hlen,rl']
  ·refine ⟨_,?_,.sh (.int v),rfl⟩;simp only [List.filter_cons,List.filter_nil,c,decide_false,Bool.false_eq_true,if_false,List.map_nil,List.append_nil];simp only [ls];generalize A.map aN=aa at *;simp [aP,wG,c]) (ρ:=ls st left vG (.sh (.int s.1)) (.sh (.int s.2.1)) x5 x6 vJ (.sh (aN r)) x9) ⟨x9,by simp⟩
 refine ⟨y9,?_⟩;rw [wH,cV (ds:=(rng5 5 m).map D.int) (SA rfl fb rfl (by decide) (by omega)),e,List.take_length,st0];unfold ext wb;rw [em]
theorem j9K (st:Sl) (left:Int) (hl:0<=left/\left<=1000) (vG:List (List Int)) (n:Nat) (hn:n<=3) (ok:LnOk n vG) (s:Sg) (hs:fM s) (x5 x6 x8 x9:Sl) :
 ∃y8 y9,CD (ls st left (.sh (.lst (vG.map aN))) (.sh (.int s.1)) (.sh (.int s.2.1)) x5 x6 [] x8 x9)=.nx [st,.sh (.int left),.sh (.lst ((vG.flatMap (ext left s)).map aN)),.sh (.int s.1),.sh (.int s.2.1),x5,x6,.sh (.lst ((vG.flatMap (ext left s)).map aN)),y8,y9]:=by
 have p8:8 ^ n<=512:=by
  have:n=0∨n=1∨n=2∨n=3:=by omega
  rcases this with rfl | rfl | rfl | rfl<;>decide
 have rf:=ok.few;obtain ⟨ρ',e,y8,y9,rfl⟩:=iG (body:=aP (aV 8) wH) aN (λj ρ=>∃y8 y9,ρ=ls st left (.sh (.lst (vG.map aN))) (.sh (.int s.1)) (.sh (.int s.2.1)) x5 x6 ((vG.take j).flatMap (ext left s)) y8 y9) vG (λj r ρ hr ⟨y8,y9,e⟩=>by
  subst e;have hm:=List.mem_of_getElem? hr;have l1:=wW (left:=left) hs (vG.take j);have l2:(vG.take j).length<=vG.length:=by rw [List.length_take];omega
  obtain ⟨z9,eq⟩:=j3R st left hl (.sh (.lst (vG.map aN))) s hs ((vG.take j).flatMap (ext left s)) (by omega) r (by rw [ok.len r hm];omega) (ok.el r hm) x5 x6 y9;rw [List.take_succ,hr,List.flatMap_append];simp only [Option.toList_some,List.flatMap_cons,List.flatMap_nil,List.append_nil];exact ⟨_,eq,_,z9,rfl⟩) (ρ:=ls st left (.sh (.lst (vG.map aN))) (.sh (.int s.1)) (.sh (.int s.2.1)) x5 x6 [] x8 x9) ⟨x8,x9,by simp⟩
 refine ⟨y8,y9,?_⟩;rw [List.take_length] at e;rw [CD,cV (ds:=vG.map aN) rfl,e];simp only [ls];generalize (vG.flatMap (ext left s)).map aN=aa;simp [QB,QA]
theorem w1O (left:Int) (hl:0<=left/\left<=1000) (kd:List Sg) (hk:dJ kd):wI [.sh (.lst (kd.map bV)),.sh (.int left)]=.ok (.sh (.lst ((lens left kd [[]]).map aN))):=by
 have four:=hk.four;obtain ⟨ρ',e,x3,x4,x5,x6,x7,x8,x9,rfl⟩:=iG (body:=aP (iQ [3,4,5,6]) CF) bV (λj ρ=>∃x3 x4 x5 x6 x7 x8 x9,ρ=[.sh (.lst (kd.map bV)),.sh (.int left),.sh (.lst ((lens left (kd.take j) [[]]).map aN)),x3,x4,x5,x6,x7,x8,x9]) kd (λj s ρ hs ⟨x3,x4,x5,x6,x7,x8,x9,e⟩=>by
  subst e;have hm:=List.mem_of_getElem? hs;have hj:j < kd.length:=(List.getElem?_eq_some_iff.mp hs).1;have ok:=oB (left:=left) (kd.take j) (λt ht=>hk.all t (List.mem_of_mem_take ht)) ln0;rw [List.length_take,Nat.zero_add,Nat.min_eq_left (by omega)] at ok;obtain ⟨y8,y9,eq⟩:=j9K (.sh (.lst (kd.map bV))) left hl _ j (by omega) ok s (hk.all s hm) (.sh (.int s.2.2.1)) (.sh (.int s.2.2.2)) x8 x9;rw [List.take_succ,hs];simp only [Option.toList_some];rw [CY];refine ⟨_,?_,.sh (.int s.1),.sh (.int s.2.1),.sh (.int s.2.2.1),.sh (.int s.2.2.2),.sh (.lst (((lens left (kd.take j) [[]]).flatMap (ext left s)).map aN)),y8,y9,rfl⟩;rw [RF (ρ':=[.sh (.lst (kd.map bV)),.sh (.int left),.sh (.lst ((lens left (kd.take j) [[]]).map aN)),.sh (.int s.1),.sh (.int s.2.1),.sh (.int s.2.2.1),.sh (.int s.2.2.2),x7,x8,x9]) (by rfl)];rw [CF,iU (v:=[]) rfl,Fl.nx_bind];exact eq) (ρ:=[.sh (.lst (kd.map bV)),.sh (.int left),.sh (.lst ([[]].map aN)),.no,.no,.no,.no,.no,.no,.no]) ⟨.no,.no,.no,.no,.no,.no,.no,by simp [lens]⟩
 rw [List.take_length] at e;rw [wI];refine dI _ rfl ?_;show CH [.sh (.lst (kd.map bV)),.sh (.int left),.no,.no,.no,.no,.no,.no,.no,.no]=_;have k9:CG [.sh (.lst (kd.map bV)),.sh (.int left),.sh (.lst ([[]].map aN)),.no,.no,.no,.no,.no,.no,.no]=.rt (.sh (.lst ((lens left kd [[]]).map aN))):=by
  rw [CG,cV (ds:=kd.map bV) rfl,e];simp [QC]
 rw [CH,kG (v:=.lst ([[]].map aN)) (by rfl),Fl.nx_bind];exact k9
def dU (lo:Int):Int->List (Int×Int×Int)->List Int
 | _,[]=>[]
 | n,k::ks=>if lo<=k.1 then n::dU lo (n+1) ks else dU lo (n+1) ks
theorem CZ {lo:Int}:∀{ks:List (Int×Int×Int)} {n x:Int},x∈dU lo n ks->n<=x/\x < n+ks.length
 | [],_,_,h=>by simp [dU] at h
 | k::ks,n,x,h=>by
  rw [dU] at h;have key:x∈dU lo (n+1) ks->n<=x/\x < n+((k::ks).length:Int):=λh=>by
   have:=CZ h;rw [List.length_cons];omega
  split at h
  ·rcases List.mem_cons.mp h with rfl | h
   ·rw [List.length_cons];omega
   ·exact key h
  ·exact key h
theorem SF (lo:Int):∀(ks:List (Int×Int×Int)) (n:Int),(dU lo n ks).length<=ks.length
 | [],_=>by simp [dU]
 | k::ks,n=>by
  have:=SF lo ks (n+1);rw [dU]
  split<;>simp<;>omega
theorem DB (lo:Int):∀(ks:List (Int×Int×Int)) (n:Int),(dU lo n ks).Nodup
 | [],_=>by simp [dU]
 | k::ks,n=>by
  rw [dU]
  split
  ·refine List.nodup_cons.mpr ⟨λh=>?_,DB lo ks (n+1)⟩;have:=CZ h;omega
  ·exact DB lo ks (n+1)
theorem SG {t:D->Out Bool} {f:D->Out D} (lo:Int):∀(ks:List (Int×Int×Int)) (i:Nat),(∀(j:Nat) (k:Int×Int×Int),ks[j]?=some k->t (.int ((i+j:Nat):Int))=.ok (decide (lo<=k.1))/\f (.int ((i+j:Nat):Int))=.ok (.int (((i+j:Nat):Int)+1))) ->
 iS t f ((List.range' i ks.length).map λ(k:Nat)=>D.int (k:Int))=some ((dU lo ((i:Int)+1) ks).map D.int)
 | [],_,_=>rfl
 | k::ks,i,h=>by
  obtain ⟨h1,h2⟩:=h 0 k rfl;have ih:=SG (t:=t) (f:=f) lo ks (i+1) λj q hq=>by
   have:=h (j+1) q (by simpa using hq);rw [show i+(j+1)=i+1+j by omega] at this;exact this
  rw [Nat.add_zero] at h1 h2;rw [show ((i+1:Nat):Int)+1=(i:Int)+1+1 by omega] at ih;rw [List.length_cons,List.range'_succ,List.map_cons,iS,h1,dU];by_cases c:lo<=k.1
  ·rw [decide_eq_true c,if_pos c,h2];simp only [ih]
   rfl
  ·rw [decide_eq_false c,if_neg c];exact ih
def oven3 (kd:List Sg):Bool:=kd.any λs=>decide (s.2.2.1=3)
def Sc.vM (s:Sc) (kd:List Sg) (lv:Int):List Int:=if oven3 kd=true then dU lv 1 s.vF else [0]
theorem DK {s:Sc} (h:ScOk s) (kd:List Sg) (lv:Int):(s.vM kd lv).length<=3:=by
 unfold Sc.vM
 split
 ·have:=SF lv s.vF 1;have:=h.klen;omega
 ·simp
theorem j1u (s:Sc) (kd:List Sg) (lv:Int):(s.vM kd lv).Nodup:=by
 unfold Sc.vM
 split
 ·exact DB _ _ _
 ·simp
theorem j6L {s:Sc} {kd:List Sg} {lv x:Int} (h:x∈s.vM kd lv):0<=x:=by
 unfold Sc.vM at h
 split at h
 ·have:=CZ h;omega
 ·rw [List.mem_singleton.mp h];exact Int.le_refl _
abbrev wst (sd bt x2 x3:Sl) (vL:Int) (x5:Sl) (vM:List Int) (vJ:List WK) (x8 x9 aT:Sl):Ro:=[sd,bt,x2,x3,.sh (.int vL),x5,.sh (.lst (vM.map D.int)),.ow (vJ.map cC),x8,x9,aT]
theorem j4s (sd bt x2 x3:Sl) (vL:Int) (x5:Sl) (vM:List Int) (hf:vM.length<=3) (vJ:List WK) (ha:vJ.length<=900000) (r:List Int) (b:Int) (aT:Sl) :
 ∃cK,wJ (wst sd bt x2 x3 vL x5 vM vJ (.sh (aN r)) (.sh (.int b)) aT)=.nx (wst sd bt x2 x3 vL x5 vM (vJ++vM.map λo=>(b,r,o)) (.sh (aN r)) (.sh (.int b)) cK):=by
 obtain ⟨ρ',e,cK,rfl⟩:=iG (body:=aP (aV 10) CI) D.int (λj ρ=>∃cK,ρ=wst sd bt x2 x3 vL x5 vM (vJ++(vM.take j).map λo=>(b,r,o)) (.sh (aN r)) (.sh (.int b)) cK) vM (λj o ρ ho ⟨cK,e⟩=>by
  subst e;rw [List.take_succ,ho,List.map_append,<-List.append_assoc];simp only [Option.toList_some,List.map_cons,List.map_nil];have hlen:(vJ++(vM.take j).map λo=>((b,r,o):WK)).length < 1000000:=by
   simp only [List.length_append,List.length_map,List.length_take];omega
  generalize vJ++(vM.take j).map (λo=>((b,r,o):WK))=A at *;have ea:(A++[((b,r,o):WK)]).map cC=A.map cC++[.tup [.int b,.tup (r.map D.int),.int o]]:=by simp
  refine ⟨_,?_,.sh (.int o),rfl⟩;have hlen':(A.map cC).length < 1000000:=by simpa using hlen
  simp only [wst,ea,aN];generalize A.map cC=aa at *;generalize r.map D.int=rr at *;generalize vM.map D.int=ff at *;simp [aP,CI,hlen']) (ρ:=wst sd bt x2 x3 vL x5 vM vJ (.sh (aN r)) (.sh (.int b)) aT) ⟨aT,by simp⟩
 refine ⟨cK,?_⟩;rw [List.take_length] at e;rw [wJ,cV (ds:=vM.map D.int) (by rfl),e]
theorem j9e (sd bt x2 x3:Sl) (vL:Int) (hd:0<=vL/\vL<=120) (x5:Sl) (vM:List Int) (hf:vM.length<=3) (vJ:List WK) (ha:vJ.length<=800000) (r:List Int) (hr:r.length<=10) (he:∀x∈r,0<=x/\x<=200) (x9 aT:Sl) :
 ∃y9 cK,qD (wst sd bt x2 x3 vL x5 vM vJ (.sh (aN r)) x9 aT)=.nx (wst sd bt x2 x3 vL x5 vM (vJ++(rng5 0 (vL-isum r)).flatMap λb=>vM.map λo=>(b,r,o)) (.sh (aN r)) y9 cK):=by
 have sm:=wZ hr he;have sb:=kS he;have few:rn 0 (vL-isum r)<=25:=qH _ _ _ (by omega);have fb:aX (eM (aA 4) (eCB fK (aD (aA 8) aI))) (eI 1) (wst sd bt x2 x3 vL x5 vM vJ (.sh (aN r)) x9 aT)=.ok (.int (vL-isum r+1)):=by
  simp only [wst,aN];generalize vJ.map cC=aa;generalize r.map D.int=rr at *;generalize vM.map D.int=ff at *;simp [sm]
 obtain ⟨ρ',e,y9,cK,rfl⟩:=iG (body:=aP (aV 9) wJ) D.int (λj ρ=>∃y9 cK,ρ=wst sd bt x2 x3 vL x5 vM (vJ++((rng5 0 (vL-isum r)).take j).flatMap λb=>vM.map λo=>(b,r,o)) (.sh (aN r)) y9 cK) (rng5 0 (vL-isum r)) (λj b ρ hb ⟨y9,cK,e⟩=>by
  subst e;rw [List.take_succ,hb,List.flatMap_append,<-List.append_assoc];simp only [Option.toList_some,List.flatMap_cons,List.flatMap_nil,List.append_nil];have hlen:(vJ++((rng5 0 (vL-isum r)).take j).flatMap λb=>vM.map λo=>((b,r,o):WK)).length<=900000:=by
   have h1:=wX vM r ((rng5 0 (vL-isum r)).take j);have h2:((rng5 0 (vL-isum r)).take j).length<=25:=by rw [List.length_take,qI];omega
   have h3:=Nat.mul_le_mul h2 hf;rw [List.length_append,h1];omega
  obtain ⟨DM,eq⟩:=j4s sd bt x2 x3 vL x5 vM hf _ hlen r b cK;exact ⟨_,eq,.sh (.int b),DM,rfl⟩) (ρ:=wst sd bt x2 x3 vL x5 vM vJ (.sh (aN r)) x9 aT) ⟨x9,aT,by simp⟩
 refine ⟨y9,cK,?_⟩;rw [List.take_length] at e;rw [qD,cV (ds:=(rng5 0 (vL-isum r)).map D.int) (SA rfl fb rfl (by decide) (by omega)),e]
theorem j6z (sd bt x2 x3:Sl) (vL:Int) (hd:0<=vL/\vL<=120) (x5:Sl) (vM:List Int) (hf:vM.length<=3) (vG:List (List Int)) (n:Nat) (hn:n<=4) (ok:LnOk n vG) (x8 x9 aT:Sl) :
 ∃y8 y9 cK,cP (aP (aV 8) qD) (vG.map aN) (wst sd bt x2 x3 vL x5 vM [] x8 x9 aT)=.nx (wst sd bt x2 x3 vL x5 vM (wys vL vM vG) y8 y9 cK):=by
 have p8:8 ^ n<=4096:=by
  have:n=0∨n=1∨n=2∨n=3∨n=4:=by omega
  rcases this with rfl | rfl | rfl | rfl | rfl<;>decide
 have rf:=ok.few;obtain ⟨ρ',e,y8,y9,cK,rfl⟩:=iG (body:=aP (aV 8) qD) aN (λj ρ=>∃y8 y9 cK,ρ=wst sd bt x2 x3 vL x5 vM (wys vL vM (vG.take j)) y8 y9 cK) vG (λj r ρ hr ⟨y8,y9,cK,e⟩=>by
  subst e;have hm:=List.mem_of_getElem? hr;have l1:=wY vL vM hd.2 hf (vG.take j) λq hq=>(kS (ok.el q (List.mem_of_mem_take hq))).1
  have l2:(vG.take j).length<=vG.length:=by rw [List.length_take];omega
  obtain ⟨z9,DM,eq⟩:=j9e sd bt x2 x3 vL hd x5 vM hf (wys vL vM (vG.take j)) (by omega) r (by rw [ok.len r hm];omega) (ok.el r hm) y9 cK;have ew:wys vL vM (vG.take (j+1))=wys vL vM (vG.take j)++(rng5 0 (vL-isum r)).flatMap λb=>vM.map λo=>(b,r,o):=by
   unfold wys;rw [List.take_succ,hr,List.flatMap_append];simp
  rw [ew];exact ⟨_,eq,.sh (aN r),z9,DM,rfl⟩) (ρ:=wst sd bt x2 x3 vL x5 vM [] x8 x9 aT) ⟨x8,x9,aT,by simp [wys]⟩
 rw [List.take_length] at e;exact ⟨y8,y9,cK,e⟩
theorem j3v (kd:List Sg):oven3 kd=decide ((3:Int)∈kd.map λs=>s.2.2.1):=by
 unfold oven3;by_cases h:∃s∈kd,s.2.2.1=3
 ·obtain ⟨s,hs,e⟩:=h;rw [List.any_eq_true.mpr ⟨s,hs,decide_eq_true e⟩,decide_eq_true (List.mem_map.mpr ⟨s,hs,e⟩)]
 ·have h1:(kd.any λs=>decide (s.2.2.1=3))=false:=by
   rw [Bool.eq_false_iff];intro z;obtain ⟨s,hs,e⟩:=List.any_eq_true.mp z;exact h ⟨s,hs,of_decide_eq_true e⟩
  rw [h1,decide_eq_false];intro z;obtain ⟨s,hs,e⟩:=List.mem_map.mp z;exact h ⟨s,hs,e⟩
theorem j7b {s:Sc} (h:ScOk s) (k:Int) (lv:Int) (x2 x3 x4:Sl) (kd:List Sg) (hk:dJ kd) (x7 x8 x9 aT:Sl) :
 qF [.sh s.d,.sh (.tup [.int k,.int lv]),x2,x3,x4,.sh (aJ kd),.sh (.lst [.int 0]),x7,x8,x9,aT]=qE [.sh s.d,.sh (.tup [.int k,.int lv]),x2,x3,x4,.sh (aJ kd),.sh (.lst ((s.vM kd lv).map D.int)),x7,x8,x9,aT]:=by
 have four:=hk.four;have c:tB2 (inD false) (eI 3) (aS (bJ (bC (aA 5)) [] (eIx (aA 0) (eI 2)))) [.sh s.d,.sh (.tup [.int k,.int lv]),x2,x3,x4,.sh (aJ kd),.sh (.lst [.int 0]),x7,x8,x9,aT]=.ok (oven3 kd):=by
  have fc:bJ (bC (aA 5)) [] (eIx (aA 0) (eI 2)) [.sh s.d,.sh (.tup [.int k,.int lv]),x2,x3,x4,.sh (aJ kd),.sh (.lst [.int 0]),x7,x8,x9,aT]=.ok ((kd.map λs=>s.2.2.1).map D.int):=by
   rw [List.map_map];refine hJ (g:=bV) rfl (by omega) λs _=>?_
   simp [cG,bV,iV]
  have iz:=K1 false 3 (kd.map λs=>s.2.2.1);rw [<-j3v] at iz;rw [tB2,e2,aS,fc];show Out.bind (inD false (.int 3) (.lst _)) _=_;rw [iz];rfl
 rw [qF,sIf,c,Out.ok_fl];generalize hG:qE=G;unfold Sc.vM;cases oven3 kd with
 | false=>rfl
 | true=>
  rw [if_pos rfl,if_pos rfl];have fc:mY (dH (n1 (eCB cW (aD (eIx (aA 0) (eI 3)) aI)))) [1,0] (tB2 qGe (eIx (eIx (eIx (aA 2) (eI 3)) (aA 0)) (eI 0)) (eIx (aA 1) (eI 1))) (aX (aA 0) (eI 1)) [.sh s.d,.sh (.tup [.int k,.int lv]),x2,x3,x4,.sh (aJ kd),.sh (.lst [.int 0]),x7,x8,x9,aT]=.ok ((dU lv 1 s.vF).map D.int):=by
   have kl:=h.klen;rw [mY,gD (n:=s.vF.length) (by unfold Sc.d Sc.row;simp [kH]) (by omega),Out.ok_bind,RP,if_pos (by simp;omega),List.range_eq_range',SG lv s.vF 0]
   ·rfl
   ·intro j q hq;have hj:j < s.vF.length:=(List.getElem?_eq_some_iff.mp hq).1;have a1:atI (s.vF.map bK) ((0+j:Nat):Int)=some (bK q):=by
     rw [Nat.zero_add];exact dC (by rw [List.getElem?_map,hq];rfl)
    have ec:cG [1,0] [.sh s.d,.sh (.tup [.int k,.int lv]),x2,x3,x4,.sh (aJ kd),.sh (.lst [.int 0]),x7,x8,x9,aT] (.int ((0+j:Nat):Int))=[.sh (.int ((0+j:Nat):Int)),.sh (.tup [.int k,.int lv]),.sh s.d]:=rfl;rw [ec];unfold Sc.d Sc.row;generalize ((0+j:Nat):Int)=J at *;generalize s.vF.map bK=kk at *;generalize s.vB.map aJ=dd at *;generalize s.vD.map cL=aa at *;refine ⟨?_,by simp⟩;simp [dS,fD,kH,a1,bK]
  rw [QD,kG (v:=.lst ((dU lv 1 s.vF).map D.int)) (by rw [aS,fc,Out.ok_bind])]
  rfl
theorem j20 {s:Sc} (h:ScOk s) (k:Nat) (a:Nat×Int×Int) (ha:s.vD[k]?=some a) (lv:Int) (kd:List Sg) (hkd:s.vB[a.1]?=some kd) :
 nY [.sh s.d,.sh (.tup [.int k,.int lv])]=.ok (.fr ((wys a.2.2 (s.vM kd lv) (lens a.2.2 kd [[]])).map cC)):=by
 have hk:=h.dall kd (List.mem_of_getElem? hkd);have ha':=List.mem_of_getElem? ha;have hd:=h.adue a ha';have hn:=h.vC;have a1:atI (s.vD.map cL) (k:Int)=some (cL a):=dC (by rw [List.getElem?_map,ha];rfl);have a2:atI (s.vB.map aJ) (a.1:Int)=some (aJ kd):=dC (by rw [List.getElem?_map,hkd];rfl);have lk:=j7b h k lv (.sh (.int a.1)) (.sh (.int a.2.1)) (.sh (.int a.2.2)) kd hk .no .no .no .no;have ll:=w1O a.2.2 (by omega) kd hk;have four:=hk.four;have ok:=oB (left:=a.2.2) kd hk.all ln0;rw [Nat.zero_add] at ok;obtain ⟨y8,y9,cK,e⟩:=j6z (.sh s.d) (.sh (.tup [.int k,.int lv])) (.sh (.int a.1)) (.sh (.int a.2.1)) a.2.2 (by omega) (.sh (aJ kd)) (s.vM kd lv) (DK h kd lv) _ kd.length four ok .no .no .no;have k7:qE [.sh s.d,.sh (.tup [.int k,.int lv]),.sh (.int a.1),.sh (.int a.2.1),.sh (.int a.2.2),.sh (aJ kd),.sh (.lst ((s.vM kd lv).map D.int)),.no,.no,.no,.no]=.rt (.fr ((wys a.2.2 (s.vM kd lv) (lens a.2.2 kd [[]])).map cC)):=by
  rw [qE,iU (v:=[]) rfl,Fl.nx_bind];show CJ (wst (.sh s.d) (.sh (.tup [.int k,.int lv])) (.sh (.int a.1)) (.sh (.int a.2.1)) a.2.2 (.sh (aJ kd)) (s.vM kd lv) [] .no .no .no)=_;rw [CJ,cV (ds:=(lens a.2.2 kd [[]]).map aN),e]
  ·simp only [wst];generalize (wys a.2.2 (s.vM kd lv) (lens a.2.2 kd [[]])).map cC=aa;simp [QE]
  ·clear e lk;simp only [wst];generalize (s.vM kd lv).map D.int=ff;generalize (lens a.2.2 kd [[]]).map aN=ww at *;unfold aJ;generalize kd.map bV=kk at *;generalize s.d=sd;simp [ll]
 have k11:wK [.sh s.d,.sh (.tup [.int k,.int lv]),.no,.no,.no,.no,.no,.no,.no,.no,.no]=qF [.sh s.d,.sh (.tup [.int k,.int lv]),.sh (.int a.1),.sh (.int a.2.1),.sh (.int a.2.2),.sh (aJ kd),.sh (.lst [.int 0]),.no,.no,.no,.no]:=by
  generalize hG:qF=G;clear e lk k7;unfold Sc.d Sc.row;generalize s.vF.map bK=kk at *;generalize s.vB.map aJ=dd at *;generalize s.vD.map cL=aa at *;simp [wK,QG,QF,dS,tD,pF,a1,a2,cL,hG]
 rw [nY];refine dI _ rfl ?_;show wK [.sh s.d,.sh (.tup [.int k,.int lv]),.no,.no,.no,.no,.no,.no,.no,.no,.no]=_;rw [k11,lk,k7]
theorem SH (lo hi:Int) (h1:0<=lo/\lo<=1000) (h2:-100000<=hi/\hi<=100000):kP [.sh (.int lo),.sh (.int hi)]=.ok (.fr ((jS lo hi).map D.int)):=by
 have m5:eD ((lo+5-1) / 5) 5=true:=iX (by omega);have e0:(lo+5-1) / 5*5=(lo+4) / 5*5:=by congr 2;omega
 have fr:=w2N (fa:=aA 2) (fb:=aX (aA 1) (eI 1)) (fc:=eI 5) (ρ:=[.sh (.int lo),.sh (.int hi),.sh (.int ((lo+4) / 5*5))]) (lo:=(lo+4) / 5*5) (hi:=hi) rfl rfl rfl (by omega) h2;have k1:vV [.sh (.int lo),.sh (.int hi),.sh (.int ((lo+4) / 5*5))]=.rt (.fr ((jS lo hi).map D.int)):=by
  rw [vV,fH,fFr,fr]
  rfl
 rw [kP];refine dI _ rfl ?_;show BP [.sh (.int lo),.sh (.int hi),.no]=_;rw [<-k1,BP];generalize hG:vV=G;simp [m5,e0]
abbrev pst (st:Sl) (left:Int) (vG x3:Sl) (vJ:List (List Int)) (x5:Sl):Ro:=[st,.sh (.int left),vG,x3,.ow (vJ.map aN),x5]
theorem j3G (st:Sl) (left:Int) (hl:0<=left/\left<=1000) (vG:Sl) (s:Sg) (hs:fM s) (vJ:List (List Int)) (ha:vJ.length<=900000) (r:List Int) (hr:r.length<=10) (he:∀x∈r,0<=x/\x<=200) :
 vW (pst st left vG (.sh (bH s)) vJ (.sh (aN r)))=.nx (pst st left vG (.sh (bH s)) (vJ++ext left s r) (.sh (aN r))):=by
 have sm:=wZ hr he;have sb:=kS he;have s1:=hs.least;have s2:=hs.most;have wl:=SE (left:=left) hs r;have sp:=SH s.1 (mn s.2.1 (left-isum r)) (by omega) (by unfold mn;split<;>omega);have it:bC (rD (rC 2 kP (gSh (aY [(16,1)] (aA 3)) (gSh (eCB gM (aD (aY [(16,2)] (aA 3)) (aD (eM (aA 1) (eCB fK (aD (aA 5) aI))) aI))) gN0)))) (pst st left vG (.sh (bH s)) vJ (.sh (aN r)))=.ok ((wb left s r).map D.int):=by
  unfold wb;simp only [pst,aN];generalize (jS s.1 (mn s.2.1 (left-isum r))).map D.int=ww at *;unfold mn at sp;generalize vJ.map (λr=>D.lst (r.map D.int))=aa;generalize r.map D.int=rr at *;simp [bH,List.lookup,sm,sp]
 have fc:bJ (bC (rD (rC 2 kP (gSh (aY [(16,1)] (aA 3)) (gSh (eCB gM (aD (aY [(16,2)] (aA 3)) (aD (eM (aA 1) (eCB fK (aD (aA 5) aI))) aI))) gN0))))) [5] (aS (kA (bC (aA 1)) (bF (aD (aA 0) aI)))) (pst st left vG (.sh (bH s)) vJ (.sh (aN r)))=.ok ((ext left s r).map aN):=by
  unfold ext;rw [List.map_map];refine hJ (g:=D.int) it (by omega) λx _=>?_
  have ec:cG [5] (pst st left vG (.sh (bH s)) vJ (.sh (aN r))) (.int x)=[.sh (.int x),.sh (aN r)]:=rfl;rw [ec];show _=Out.ok (aN (r++[x]));unfold aN;rw [List.map_append];have rl:(r.map D.int).length<=999999:=by simp;omega
  generalize r.map D.int=rr at *;simp [rl]
 have xl:(ext left s r).length<=8:=by unfold ext;simpa using wl
 have hlen:(vJ.map aN).length+((ext left s r).map aN).length<=1000000:=by simp only [List.length_map];omega
 rw [vW,nB];show Out.fl _ _ _=_;rw [fc,Out.ok_fl,if_pos hlen];simp only [pst,List.map_append]
 rfl
theorem j9W (st:Sl) (left:Int) (hl:0<=left/\left<=1000) (vG:List (List Int)) (n:Nat) (hn:n<=3) (ok:LnOk n vG) (s:Sg) (hs:fM s) (x5:Sl) :
 ∃y5,BQ (pst st left (.sh (.lst (vG.map aN))) (.sh (bH s)) [] x5)=.nx [st,.sh (.int left),.sh (.lst ((vG.flatMap (ext left s)).map aN)),.sh (bH s),.sh (.lst ((vG.flatMap (ext left s)).map aN)),y5]:=by
 have p8:8 ^ n<=512:=by
  have:n=0∨n=1∨n=2∨n=3:=by omega
  rcases this with rfl | rfl | rfl | rfl<;>decide
 have rf:=ok.few;obtain ⟨ρ',e,y5,rfl⟩:=iG (body:=aP (aV 5) vW) aN (λj ρ=>∃y5,ρ=pst st left (.sh (.lst (vG.map aN))) (.sh (bH s)) ((vG.take j).flatMap (ext left s)) y5) vG (λj r ρ hr ⟨y5,e⟩=>by
  subst e;have hm:=List.mem_of_getElem? hr;have l1:=wW (left:=left) hs (vG.take j);have l2:(vG.take j).length<=vG.length:=by rw [List.length_take];omega
  have eq:=j3G st left hl (.sh (.lst (vG.map aN))) s hs ((vG.take j).flatMap (ext left s)) (by omega) r (by rw [ok.len r hm];omega) (ok.el r hm);rw [List.take_succ,hr,List.flatMap_append];simp only [Option.toList_some,List.flatMap_cons,List.flatMap_nil,List.append_nil];exact ⟨_,eq,_,rfl⟩) (ρ:=pst st left (.sh (.lst (vG.map aN))) (.sh (bH s)) [] x5) ⟨x5,by simp⟩
 refine ⟨y5,?_⟩;rw [List.take_length] at e;rw [BQ,cV (ds:=vG.map aN) rfl,e];simp only [pst];generalize (vG.flatMap (ext left s)).map aN=aa;simp [PD,PC]
theorem w1V (left:Int) (hl:0<=left/\left<=1000) (kd:List Sg) (hk:dJ kd):vX [.sh (.tup (kd.map bH)),.sh (.int left)]=.ok (.sh (.lst ((lens left kd [[]]).map aN))):=by
 have four:=hk.four;obtain ⟨ρ',e,x3,x4,x5,rfl⟩:=iG (body:=aP (aV 3) pY) bH (λj ρ=>∃x3 x4 x5,ρ=[.sh (.tup (kd.map bH)),.sh (.int left),.sh (.lst ((lens left (kd.take j) [[]]).map aN)),x3,x4,x5]) kd (λj s ρ hs ⟨x3,x4,x5,e⟩=>by
  subst e;have hm:=List.mem_of_getElem? hs;have hj:j < kd.length:=(List.getElem?_eq_some_iff.mp hs).1;have ok:=oB (left:=left) (kd.take j) (λt ht=>hk.all t (List.mem_of_mem_take ht)) ln0;rw [List.length_take,Nat.zero_add,Nat.min_eq_left (by omega)] at ok;obtain ⟨y5,eq⟩:=j9W (.sh (.tup (kd.map bH))) left hl _ j (by omega) ok s (hk.all s hm) x5;rw [List.take_succ,hs];simp only [Option.toList_some];rw [CY];refine ⟨_,?_,.sh (bH s),.sh (.lst (((lens left (kd.take j) [[]]).flatMap (ext left s)).map aN)),y5,rfl⟩;have b0:aP (aV 3) pY [.sh (.tup (kd.map bH)),.sh (.int left),.sh (.lst ((lens left (kd.take j) [[]]).map aN)),x3,x4,x5] (bH s)=pY [.sh (.tup (kd.map bH)),.sh (.int left),.sh (.lst ((lens left (kd.take j) [[]]).map aN)),.sh (bH s),x4,x5]:=by simp [aP]
  rw [b0,pY,iU (v:=[]) rfl,Fl.nx_bind];exact eq) (ρ:=[.sh (.tup (kd.map bH)),.sh (.int left),.sh (.lst ([[]].map aN)),.no,.no,.no]) ⟨.no,.no,.no,by simp [lens]⟩
 rw [List.take_length] at e;rw [vX];refine dI _ rfl ?_;show BS [.sh (.tup (kd.map bH)),.sh (.int left),.no,.no,.no,.no]=_;have k7:BR [.sh (.tup (kd.map bH)),.sh (.int left),.sh (.lst ([[]].map aN)),.no,.no,.no]=.rt (.sh (.lst ((lens left kd [[]]).map aN))):=by
  rw [BR,cV (ds:=kd.map bH) rfl,e];simp [PF]
 rw [BS,kG (v:=.lst ([[]].map aN)) (by rfl),Fl.nx_bind];exact k7
theorem w0p (b o:Int) (ls:List Int) (hl:ls.length<=1000):nW [.sh (.int b),.sh (.lst (ls.map D.int)),.sh (.int o)]=if ∀x∈b::o::ls,0<=x then .ok (.sh (.ins 14 [.int b,.tup (ls.map D.int),.int o])) else .exc 3:=by
 have ne:b::o::ls≠[]:=by simp
 obtain ⟨b1,b2⟩:=J4 ne;have e:mX [.lst (.int b::.int o::ls.map D.int)]=.ok (.int (bN false (b::o::ls))):=J5 (is:=b::o::ls) ne;generalize bN false (b::o::ls)=m at *;have hz:2+ls.length<=1000000:=by omega
 have hz':ls.length+1+1<=1000000:=by omega
 by_cases h:∀x∈b::o::ls,0<=x
 ·have hm:=h m b1;rw [if_pos h];have hm':¬m < 0:=by omega
  simp [nW,BU,PL,PK,PJ,e,hm',hz,hz',Nat.add_comm]
 ·rw [if_neg h];have hm:m < 0:=by
   refine Classical.byContradiction λz=>h λx hx=>?_
   have:=b2 x hx;omega
  simp [nW,BU,PH,e,hm,hz,hz',Nat.add_comm]
theorem j1M {w:Int} (h:0<=w/\w<=3):bD false (eqS (.str (lX w)) (.str "oven"))=.ok (.bl (decide (w=3))):=by
 have:w=0∨w=1∨w=2∨w=3:=by omega
 rcases this with rfl | rfl | rfl | rfl<;>rfl
theorem j33 (z:Str) (kd:List Sg) (hk:dJ kd):pX [.sh (.ins 17 [.str z,.tup (kd.map bH)])]=.ok (.sh (.bl (oven3 kd))):=by
 have four:=hk.four;have fc:bJ (gQ (aY [(17,1)] (aA 0))) [] (e2 (λa b=>bD false (eqS a b)) (aY [(16,3)] (aA 0)) (eS "oven")) [.sh (.ins 17 [.str z,.tup (kd.map bH)])]=.ok ((kd.map λs=>decide (s.2.2.1=3)).map D.bl):=by
  rw [List.map_map];refine hJ (g:=bH) (by simp [List.lookup]) (by omega) λs hs=>?_
  have wo:=j1M (hk.all s hs).want;have ec:cG [] [.sh (.ins 17 [.str z,.tup (kd.map bH)])] (bH s)=[.sh (bH s)]:=rfl;rw [ec];unfold bH;generalize lX s.2.2.1=W at *;generalize hd:decide (s.2.2.1=3)=dd at *;show _=Out.ok (D.bl (decide (s.2.2.1=3)));rw [hd];rw [e2];have e1:aY [(16,3)] (aA 0) [.sh (.ins 16 [.str "stage",.int s.1,.int s.2.1,.str W,.int s.2.2.2])]=.ok (.str W):=by simp [List.lookup]
  rw [e1];exact wo
 rw [pX];refine dI _ rfl ?_;show BM [.sh (.ins 17 [.str z,.tup (kd.map bH)])]=_;rw [BM,dA,eCB,aD,aS,fc,Out.ok_bind,Out.ok_bind,aI,Out.ok_bind,Out.ok_bind];rw [sX,CO];unfold oven3;simp [List.any_map]
theorem SJ {t:D->Out Bool} {f:D->Out D} (lo:Int):∀(ks:List (Int×Int×Int)) (n:Int),(∀(i:Int) (k:Int×Int×Int),t (.tup [.int i,ovn k])=.ok (decide (lo<=k.1))/\f (.tup [.int i,ovn k])=.ok (.int i)) ->
 iS t f (fL n (ks.map ovn))=some ((dU lo n ks).map D.int)
 | [],_,_=>rfl
 | k::ks,n,h=>by
  have ih:=SJ (t:=t) (f:=f) lo ks (n+1) h;obtain ⟨h1,h2⟩:=h n k;rw [List.map_cons,fL,iS,h1,dU];by_cases c:lo<=k.1
  ·rw [decide_eq_true c,if_pos c,h2];simp only [ih]
   rfl
  ·rw [decide_eq_false c,if_neg c];exact ih
theorem j3h {s:Sc} (h:ScOk s) (zs:List Str) (z:Str) (kd:List Sg) (hk:dJ kd) (lv:Int):vU [.sh (s.bkr zs),.sh (brd (z,kd.map bH)),.sh (.int lv)]=.ok (.fr ((s.vM kd lv).map D.int)):=by
 have bo:=j33 z kd hk;rw [vU];refine dI _ rfl ?_;show BO [.sh (s.bkr zs),.sh (brd (z,kd.map bH)),.sh (.int lv)]=_;have fc:nC (mZ (gQ (aY [(15,3)] (aA 0)))) [2] (tB2 qGe (aY [(11,0)] (aA 1)) (aA 2)) (aA 0) [.sh (s.bkr zs),.sh (brd (z,kd.map bH)),.sh (.int lv)]=.ok ((dU lv 1 s.vF).map D.int):=by
  have kl:=h.klen;have it:mZ (gQ (aY [(15,3)] (aA 0))) [.sh (s.bkr zs),.sh (brd (z,kd.map bH)),.sh (.int lv)]=.ok (fL 1 (s.vF.map ovn)):=by
   unfold Sc.bkr Lw.bkr;generalize s.vF.map ovn=oo;generalize (s.brs zs).map brd=bb;simp [List.lookup]
  rw [nC,it,Out.ok_bind,if_pos (by rw [zL];simp;omega),SJ lv s.vF 1];intro i k;have ec:∀f:Ro->Out Bool,tup2 f [2] [.sh (s.bkr zs),.sh (brd (z,kd.map bH)),.sh (.int lv)] (.tup [.int i,ovn k])=f [.sh (.int i),.sh (ovn k),.sh (.int lv)]:=λf=>rfl
  refine ⟨?_,rfl⟩;rw [ec];simp [ovn,List.lookup]
 have t:eK (fB (rD (zF 17 pX (aA 1)))) [.sh (s.bkr zs),.sh (brd (z,kd.map bH)),.sh (.int lv)]=.ok (!oven3 kd):=by
  unfold brd;generalize s.bkr zs=bb;generalize kd.map bH=kk at *;simp [bo]
 rw [BO,sIf,t,Out.ok_fl];unfold Sc.vM;cases oven3 kd with
 | false=>
  rfl
 | true=>
  show BN _=Fl.rt (.fr ((dU lv 1 s.vF).map D.int));rw [BN,fH,fFr,fc]
  rfl
def bU (k:WK):D:=.ins 14 [.int k.1,.tup (k.2.1.map D.int),.int k.2.2]
abbrev wsp (b0 os bt x3:Sl) (vL:Int) (vM:List Int) (vJ:List WK) (x7 x8:Sl):Ro:=[b0,os,bt,x3,.sh (.int vL),.sh (.lst (vM.map D.int)),.ow (vJ.map bU),x7,x8]
theorem j3t (b0 os bt x3:Sl) (vL:Int) (vM:List Int) (hf:vM.length<=3) (hp:∀o∈vM,0<=o) (vJ:List WK) (ha:vJ.length<=900000) (r:List Int) (hr:r.length<=10) (he:∀x∈r,0<=x/\x<=200) (b:Int) (hb:0<=b) :
 vY (wsp b0 os bt x3 vL vM vJ (.sh (aN r)) (.sh (.int b)))=.nx (wsp b0 os bt x3 vL vM (vJ++vM.map λo=>(b,r,o)) (.sh (aN r)) (.sh (.int b))):=by
 have fc:bJ (bC (aA 5)) [8,7] (rD (rC 3 nW (gSh (aA 1) (gSh (aA 2) (gSh (aA 0) gN0))))) (wsp b0 os bt x3 vL vM vJ (.sh (aN r)) (.sh (.int b)))=.ok ((vM.map λo=>((b,r,o):WK)).map bU):=by
  rw [List.map_map];refine hJ (g:=D.int) (by rfl) (by omega) λo ho=>?_
  have rm:=w0p b o r (by omega);rw [if_pos (λx hx=>by
   rcases List.mem_cons.mp hx with rfl | hx
   ·exact hb
   rcases List.mem_cons.mp hx with rfl | hx
   ·exact hp _ ho
   ·exact (he x hx).1)] at rm
  have ec:cG [8,7] (wsp b0 os bt x3 vL vM vJ (.sh (aN r)) (.sh (.int b))) (.int o)=[.sh (.int o),.sh (.int b),.sh (aN r)]:=rfl;rw [ec];show _=Out.ok (bU (b,r,o));unfold bU aN;generalize r.map D.int=rr at *;simp [rm]
 have hlen:(vJ.map bU).length+((vM.map λo=>((b,r,o):WK)).map bU).length<=1000000:=by simp only [List.length_map];omega
 rw [vY,nB];show Out.fl _ _ _=_;rw [fc,Out.ok_fl,if_pos hlen];simp only [wsp,List.map_append]
 rfl
theorem w0g (b0 os bt x3:Sl) (vL:Int) (hd:0<=vL/\vL<=120) (vM:List Int) (hf:vM.length<=3) (hp:∀o∈vM,0<=o) (vJ:List WK) (ha:vJ.length<=800000) (r:List Int) (hr:r.length<=10) (he:∀x∈r,0<=x/\x<=200) (x8:Sl) :
 ∃y8,pZ (wsp b0 os bt x3 vL vM vJ (.sh (aN r)) x8)=.nx (wsp b0 os bt x3 vL vM (vJ++(rng5 0 (vL-isum r)).flatMap λb=>vM.map λo=>(b,r,o)) (.sh (aN r)) y8):=by
 have sm:=wZ hr he;have sb:=kS he;have few:rn 0 (vL-isum r)<=25:=qH _ _ _ (by omega);have sp:=SH 0 (vL-isum r) (by decide) (by omega);have it:bC (rD (rC 2 kP (gSh (eI 0) (gSh (eM (aA 4) (eCB fK (aD (aA 7) aI))) gN0)))) (wsp b0 os bt x3 vL vM vJ (.sh (aN r)) x8)=.ok ((rng5 0 (vL-isum r)).map D.int):=by
  show _=Out.ok ((jS 0 (vL-isum r)).map D.int);simp only [wsp,aN];generalize (jS 0 (vL-isum r)).map D.int=ww at *;generalize vJ.map bU=aa;generalize r.map D.int=rr at *;generalize vM.map D.int=ff at *;simp [sm,sp]
 obtain ⟨ρ',e,y8,rfl⟩:=iG (body:=aP (aV 8) vY) D.int (λj ρ=>∃y8,ρ=wsp b0 os bt x3 vL vM (vJ++((rng5 0 (vL-isum r)).take j).flatMap λb=>vM.map λo=>(b,r,o)) (.sh (aN r)) y8) (rng5 0 (vL-isum r)) (λj b ρ hb ⟨y8,e⟩=>by
  subst e;have hb0:=(SB (List.mem_of_getElem? hb)).1;rw [List.take_succ,hb,List.flatMap_append,<-List.append_assoc];simp only [Option.toList_some,List.flatMap_cons,List.flatMap_nil,List.append_nil];have hlen:(vJ++((rng5 0 (vL-isum r)).take j).flatMap λb=>vM.map λo=>((b,r,o):WK)).length<=900000:=by
   have h1:=wX vM r ((rng5 0 (vL-isum r)).take j);have h2:((rng5 0 (vL-isum r)).take j).length<=25:=by rw [List.length_take,qI];omega
   have h3:=Nat.mul_le_mul h2 hf;rw [List.length_append,h1];omega
  have eq:=j3t b0 os bt x3 vL vM hf hp _ hlen r hr he b hb0;exact ⟨_,eq,.sh (.int b),rfl⟩) (ρ:=wsp b0 os bt x3 vL vM vJ (.sh (aN r)) x8) ⟨x8,by simp⟩
 refine ⟨y8,?_⟩;rw [List.take_length] at e;rw [pZ,cV (ds:=(rng5 0 (vL-isum r)).map D.int) it,e]
theorem j7q (b0 os bt x3:Sl) (vL:Int) (hd:0<=vL/\vL<=120) (vM:List Int) (hf:vM.length<=3) (hp:∀o∈vM,0<=o) (vG:List (List Int)) (n:Nat) (hn:n<=4) (ok:LnOk n vG) (x7 x8:Sl) :
 ∃y7 y8,cP (aP (aV 7) pZ) (vG.map aN) (wsp b0 os bt x3 vL vM [] x7 x8)=.nx (wsp b0 os bt x3 vL vM (wys vL vM vG) y7 y8):=by
 have p8:8 ^ n<=4096:=by
  have:n=0∨n=1∨n=2∨n=3∨n=4:=by omega
  rcases this with rfl | rfl | rfl | rfl | rfl<;>decide
 have rf:=ok.few;obtain ⟨ρ',e,y7,y8,rfl⟩:=iG (body:=aP (aV 7) pZ) aN (λj ρ=>∃y7 y8,ρ=wsp b0 os bt x3 vL vM (wys vL vM (vG.take j)) y7 y8) vG (λj r ρ hr ⟨y7,y8,e⟩=>by
  subst e;have hm:=List.mem_of_getElem? hr;have l1:=wY vL vM hd.2 hf (vG.take j) λq hq=>(kS (ok.el q (List.mem_of_mem_take hq))).1
  have l2:(vG.take j).length<=vG.length:=by rw [List.length_take];omega
  obtain ⟨z8,eq⟩:=w0g b0 os bt x3 vL hd vM hf hp (wys vL vM (vG.take j)) (by omega) r (by rw [ok.len r hm];omega) (ok.el r hm) y8;have ew:wys vL vM (vG.take (j+1))=wys vL vM (vG.take j)++(rng5 0 (vL-isum r)).flatMap λb=>vM.map λo=>(b,r,o):=by
   unfold wys;rw [List.take_succ,hr,List.flatMap_append];simp
  rw [ew];exact ⟨_,eq,.sh (aN r),z8,rfl⟩) (ρ:=wsp b0 os bt x3 vL vM [] x7 x8) ⟨x7,x8,by simp [wys]⟩
 rw [List.take_length] at e;exact ⟨y7,y8,e⟩
theorem j94 (n h b:Int) (rs:List (Int×Int×Int)) (bs:List (Str×List D)) (ol:List (Str×Int×Int)) (hr:RsOk rs) (tk:Taken n bs rs ol):pW [.sh (bkr n h b rs bs),.sh (.lst (ol.map ord))]=.ok (.fr ((cH (bN true (rs.map (·.1))) 1 (ol.map (·.2.1))).map bat)):=by
 have ac:=Y2 n h b rs bs ol hr tk;have gr:=RI (.int n) (.int h) (.int b) (.tup (bs.map brd)) rs hr.ne hr.len;have mo:=hr.most;have bt:=RH (bN true (rs.map (·.1))) ⟨mo.1,by omega⟩ ol tk.lv (by have:=tk.len;omega);unfold bkr at *;clear tk;generalize (cH (bN true (rs.map (·.1))) 1 (ol.map (·.2.1))).map bat=BB at *;generalize bN true (rs.map (·.1))=M at *;generalize rs.map ovn=oo at *;generalize bs.map brd=bb at *;generalize ol.map ord=ll at *;simp [pW,OX,OW,ac,gr,bt]
def Sc.kd (s:Sc) (k:Nat):List Sg:=s.vB.getD (s.vD.getD k (0,0,0)).1 []
def Sc.wy (s:Sc) (k:Nat) (lv:Int):List WK:=wys (s.vD.getD k (0,0,0)).2.2 (s.vM (s.kd k) lv) (lens (s.vD.getD k (0,0,0)).2.2 (s.kd k) [[]])
theorem DQ {s:Sc} {k:Nat} (hk:k < s.vD.length):s.vD[k]?=some (s.vD.getD k (0,0,0)):=by
 rw [List.getD_eq_getElem?_getD,List.getElem?_eq_getElem hk];rfl
theorem ScOk.at_ {s:Sc} (h:ScOk s) {k:Nat} (hk:k < s.vD.length):s.vD.getD k (0,0,0)∈s.vD:=List.mem_of_getElem? (DQ hk)
theorem ScOk.kd_at {s:Sc} (h:ScOk s) {k:Nat} (hk:k < s.vD.length):s.vB[(s.vD.getD k (0,0,0)).1]?=some (s.kd k):=by
 have:=h.aix _ (h.at_ hk);unfold Sc.kd;generalize (s.vD.getD k (0,0,0)).1=i at *;rw [List.getD_eq_getElem?_getD,List.getElem?_eq_getElem this];rfl
theorem ScOk.kdok {s:Sc} (h:ScOk s) {k:Nat} (hk:k < s.vD.length):dJ (s.kd k):=h.dall _ (List.mem_of_getElem? (h.kd_at hk))
theorem lways {s:Sc} (h:ScOk s) {k:Nat} (hk:k < s.vD.length) (lv:Int):nY [.sh s.d,.sh (bL (k,lv))]=.ok (.fr ((s.wy k lv).map cC)):=j20 h k _ (DQ hk) lv _ (h.kd_at hk)
theorem SK:∀(bs:List (Str×List D)) (i:Nat) (b:Str×List D),(bs.map (·.1)).Nodup->bs[i]?=some b->bs.find? (λx=>decide (x.1=b.1))=some b
 | [],_,_,_,h=>by simp at h
 | c::bs,0,b,_,h=>by cases h;rw [List.find?_cons_of_pos (by simp)]
 | c::bs,i+1,b,nd,h=>by
  rw [List.map_cons,List.nodup_cons] at nd;have hm:=List.mem_of_getElem? (l:=bs) (by simpa using h);rw [List.find?_cons_of_neg (by
   simp only [decide_eq_true_eq];intro e;exact nd.1 (e ▸ List.mem_map.mpr ⟨b,hm,rfl⟩))]
  exact SK bs i b nd.2 (by simpa using h)
structure Nm (s:Sc) (zs:List Str):Prop where
 len:zs.length=s.vB.length
 wd:∀z∈zs,Wd 12 z
 nd:zs.Nodup
theorem Nm.mem {s:Sc} {zs:List Str} (m:Nm s zs) {i:Nat} (hi:i < s.vB.length):zs.getD i Str.empty∈zs:=by
 rw [List.getD_eq_getElem?_getD,List.getElem?_eq_getElem (by have:=m.len;omega)];exact List.getElem_mem _
theorem j39 {s:Sc} {zs:List Str} (m:Nm s zs) {i:Nat} (hi:i < s.vB.length):(s.brs zs).find? (λb=>decide (b.1=zs.getD i Str.empty))=some (zs.getD i Str.empty,(s.vB.getD i []).map bH):=
 SK (s.brs zs) i _ (by rw [CW m.len];exact m.nd) (RW m.len hi)
theorem bof {s:Sc} {zs:List Str} (m:Nm s zs) {i:Nat} (hi:i < s.vB.length):kO [.sh (s.bkr zs),.sh (.str (zs.getD i Str.empty))]=.ok (.sh (brd (zs.getD i Str.empty,(s.vB.getD i []).map bH))):=by
 have:=bread_of (.int s.vC) (.int s.vI) (.int s.vE) (s.vF.map ovn) (s.brs zs) (zs.getD i Str.empty) ((m.wd _ (m.mem hi)).tz.mono (by decide));rw [j39 m hi] at this;exact this
abbrev Sc.ol (s:Sc) (zs:List Str):List (Str×Int×Int):=s.vD.map (eN zs)
theorem SL {s:Sc} {zs:List Str} {k:Nat} (hk:k < s.vD.length):atI ((s.ol zs).map ord) ((k:Int)+1-1)=some (.ins 12 [.str (zs.getD (s.vD.getD k (0,0,0)).1 Str.empty),.int (s.vD.getD k (0,0,0)).2.1,.int (s.vD.getD k (0,0,0)).2.2]):=by
 rw [show (k:Int)+1-1=(k:Int) by omega];exact dC (by rw [List.getElem?_map,List.getElem?_map,DQ hk];rfl)
theorem q6Z {s:Sc} (h:ScOk s) {zs:List Str} (m:Nm s zs) {k:Nat} (hk:k < s.vD.length) (f lv:Int):vT [.sh (s.bkr zs),.sh (.lst ((s.ol zs).map ord)),.sh (bat ((k:Int)+1,f,lv))]=.ok (.sh (brd (zs.getD (s.vD.getD k (0,0,0)).1 Str.empty,(s.kd k).map bH))):=by
 have a1:=SL (zs:=zs) hk;have b1:=bof m (h.aix _ (h.at_ hk));unfold Sc.kd;rw [vT];refine dI _ rfl ?_;show BL [.sh (s.bkr zs),.sh (.lst ((s.ol zs).map ord)),.sh (bat ((k:Int)+1,f,lv))]=_;have eb:∃xs,s.bkr zs=.ins 15 xs:=⟨_,rfl⟩
 obtain ⟨xs,eb⟩:=eb;rw [eb] at b1 ⊢;unfold bat;generalize brd _=BB at *;generalize zs.getD (s.vD.getD k (0,0,0)).1 Str.empty=Z at *;generalize s.vD.getD k (0,0,0)=A at *;generalize (s.ol zs).map ord=oo at *;have a2:=a1;rw [show (k:Int)+1-1=(k:Int) by omega] at a2;simp [BL,List.lookup,a1,a2,b1]
theorem q80 {s:Sc} (h:ScOk s) {zs:List Str} (m:Nm s zs) {k:Nat} (hk:k < s.vD.length) (f lv:Int):wA [.sh (s.bkr zs),.sh (.lst ((s.ol zs).map ord)),.sh (bat ((k:Int)+1,f,lv))]=.ok (.fr ((s.wy k lv).map bU)):=by
 have hd:=h.adue _ (h.at_ hk);have hn:=h.vC;have kd:=h.kdok hk;have four:=kd.four;have b1:=q6Z h m hk f lv;have o1:=j3h h zs (zs.getD (s.vD.getD k (0,0,0)).1 Str.empty) (s.kd k) kd lv;have a1:=SL (zs:=zs) hk;have a2:=a1;rw [show (k:Int)+1-1=(k:Int) by omega] at a2;have pl:=w1V (s.vD.getD k (0,0,0)).2.2 (by omega) (s.kd k) kd;have ok:=oB (left:=(s.vD.getD k (0,0,0)).2.2) (s.kd k) kd.all ln0;rw [Nat.zero_add] at ok;obtain ⟨y7,y8,e⟩:=j7q (.sh (s.bkr zs)) (.sh (.lst ((s.ol zs).map ord))) (.sh (bat ((k:Int)+1,f,lv))) (.sh (brd (zs.getD (s.vD.getD k (0,0,0)).1 Str.empty,(s.kd k).map bH))) (s.vD.getD k (0,0,0)).2.2 (by omega) (s.vM (s.kd k) lv) (DK h _ lv) (λo ho=>j6L ho) _ (s.kd k).length four ok .no .no;have k5:vZ [.sh (s.bkr zs),.sh (.lst ((s.ol zs).map ord)),.sh (bat ((k:Int)+1,f,lv)),.sh (brd (zs.getD (s.vD.getD k (0,0,0)).1 Str.empty,(s.kd k).map bH)),.sh (.int (s.vD.getD k (0,0,0)).2.2),.sh (.lst ((s.vM (s.kd k) lv).map D.int)),.no,.no,.no]=.rt (.fr ((s.wy k lv).map bU)):=by
  rw [vZ,iU (v:=[]) rfl,Fl.nx_bind];show BV (wsp (.sh (s.bkr zs)) (.sh (.lst ((s.ol zs).map ord))) (.sh (bat ((k:Int)+1,f,lv))) (.sh (brd (zs.getD (s.vD.getD k (0,0,0)).1 Str.empty,(s.kd k).map bH))) (s.vD.getD k (0,0,0)).2.2 (s.vM (s.kd k) lv) [] .no .no)=_;rw [BV,cV (ds:=(lens (s.vD.getD k (0,0,0)).2.2 (s.kd k) [[]]).map aN),e]
  ·simp only [wsp];unfold Sc.wy;generalize (wys _ _ _).map bU=aa;simp [PM]
  ·clear e a1 a2 b1 o1;simp only [wsp];unfold brd;generalize (lens (s.vD.getD k (0,0,0)).2.2 (s.kd k) [[]]).map aN=ww at *;generalize (s.kd k).map bH=kk at *;generalize (s.vD.getD k (0,0,0)).2.2=du at *;simp [List.lookup,pl]
 rw [wA];refine dI _ rfl ?_;show BW [.sh (s.bkr zs),.sh (.lst ((s.ol zs).map ord)),.sh (bat ((k:Int)+1,f,lv)),.no,.no,.no,.no,.no,.no]=_;rw [<-k5];generalize hG:vZ=G;clear e k5 pl;unfold bat at *;generalize (s.vM (s.kd k) lv).map D.int=ff at *;generalize brd _=BB at *;generalize s.bkr zs=bk at *;generalize (s.ol zs).map ord=oo at *;generalize s.vD.getD k (0,0,0)=A at *;generalize zs.getD A.1 Str.empty=Z at *;simp [BW,PP,PN,List.lookup,a1,a2,b1,o1,hG]
theorem j3F:∀(is:List Int),(∀i∈is,i<=4)->∃m,nE (is.map D.int) (.int 0)=.ok (.int m)/\m<=4
 | [],_=>⟨0,rfl,by decide⟩
 | i::is,h=>by
  refine ⟨bN true (i::is),?_,h _ (zM (by simp)).1⟩;have e:=lL (i::is);show (match dO ((i::is).map D.int) with | some is=>Out.ok (D.int (bN true is)) | none=>.bad)=_;rw [e]
theorem taken {s:Sc} (h:ScOk s) {zs:List Str} (m:Nm s zs):Taken s.vC (s.brs zs) s.vF (s.ol zs):=by
 refine ⟨by have:=h.alen;simp [Sc.ol];omega,λo ho=>?_,λo ho=>?_,λo ho=>?_,λo ho=>?_,?_⟩
 ·obtain ⟨a,ha,rfl⟩:=List.mem_map.mp ho;rw [CW m.len];exact m.mem (h.aix a ha)
 ·obtain ⟨a,ha,rfl⟩:=List.mem_map.mp ho;exact (m.wd _ (m.mem (h.aix a ha))).tz.mono (by decide)
 ·obtain ⟨a,ha,rfl⟩:=List.mem_map.mp ho;exact h.adue a ha
 ·obtain ⟨a,ha,rfl⟩:=List.mem_map.mp ho;exact h.alv a ha
 ·have e:(s.ol zs).map (·.2.1)=s.vD.map (·.2.1):=by
   unfold Sc.ol;rw [List.map_map];rfl
  rw [e];have:=h.few;unfold Sc.bats Sc.best at this;omega
theorem rsok {s:Sc} (h:ScOk s):RsOk s.vF:=⟨h.kne,h.klen,λr hr=>(h.kall r hr).room⟩
theorem SM {s:Sc} (h:ScOk s) {zs:List Str} (m:Nm s zs):vR [.sh (s.bkr zs),.sh (.lst ((s.ol zs).map ord))]=.ok (.sh (.lst (s.bats.map bat))):=by
 have cu:=j94 s.vC s.vI s.vE s.vF (s.brs zs) (s.ol zs) (rsok h) (taken h m);have e:(s.ol zs).map (·.2.1)=s.vD.map (·.2.1):=by
  unfold Sc.ol;rw [List.map_map];rfl
 rw [e] at cu;have few:=h.few;have al:=h.alen;have hn:=h.vC;obtain ⟨xs,eb⟩:∃xs,s.bkr zs=.ins 15 (.int s.vC::xs):=⟨_,rfl⟩
 have fc:bJ (bC (aA 1)) [0] (eCB cW (aD (aY [(17,1)] (rD (pB (n:=2) 15 kO (aA 1) (gSh (aY [(12,0)] (aA 0)) gN0)))) aI)) [.sh (s.bkr zs),.sh (.lst ((s.ol zs).map ord)),.sh (.lst (s.bats.map bat)),.no]=.ok ((s.vD.map λa=>(((s.vB.getD a.1 []).length:Nat):Int)).map D.int):=by
  have em0:(s.vD.map λa=>(((s.vB.getD a.1 []).length:Nat):Int)).map D.int=s.vD.map λa=>D.int (((s.vB.getD a.1 []).length:Nat):Int):=by rw [List.map_map];rfl
  rw [em0];have ei:(s.ol zs).map ord=s.vD.map λa=>ord (eN zs a):=by
   unfold Sc.ol;rw [List.map_map];rfl
  refine hJ (g:=λa=>ord (eN zs a)) (l:=s.vD) ?_ (by omega) λa ha=>?_
  ·show Out.ok ((s.ol zs).map ord)=_;rw [ei]
  have b1:=bof m (h.aix a ha);have ec:cG [0] [.sh (s.bkr zs),.sh (.lst ((s.ol zs).map ord)),.sh (.lst (s.bats.map bat)),.no] (ord (eN zs a))=[.sh (.ins 12 [.str (zs.getD a.1 Str.empty),.int a.2.1,.int a.2.2]),.sh (s.bkr zs)]:=rfl;rw [ec];have ll:((s.vB.getD a.1 []).map bH).length=(s.vB.getD a.1 []).length:=by simp
  show _=Out.ok (D.int (((s.vB.getD a.1 []).length:Nat):Int));rw [<-ll];rw [eb] at b1 ⊢;unfold brd at b1;generalize (s.vB.getD a.1 []).map bH=kk at *;generalize zs.getD a.1 Str.empty=Z at *;simp [List.lookup,b1]
 obtain ⟨mx,em,hm⟩:=j3F (s.vD.map λa=>(((s.vB.getD a.1 []).length:Nat):Int)) λi hi=>by
  obtain ⟨a,ha,rfl⟩:=List.mem_map.mp hi;have hk:=h.aix a ha;have:s.vB.getD a.1 []∈s.vB:=by
   rw [List.getD_eq_getElem?_getD,List.getElem?_eq_getElem hk];exact List.getElem_mem hk
  have:=(h.dall _ this).four;omega
 have k4:vQ [.sh (s.bkr zs),.sh (.lst ((s.ol zs).map ord)),.sh (.lst (s.bats.map bat)),.no]=vP [.sh (s.bkr zs),.sh (.lst ((s.ol zs).map ord)),.sh (.lst (s.bats.map bat)),.sh (.lst ((s.vD.map λa=>(((s.vB.getD a.1 []).length:Nat):Int)).map D.int))]:=by
  rw [vQ,kG (v:=.lst ((s.vD.map λa=>(((s.vB.getD a.1 []).length:Nat):Int)).map D.int)) (by rw [aS,fc,Out.ok_bind]),Fl.nx_bind]
  rfl
 have bl:(s.bats.map bat).length<=3:=by simpa using few
 have k3:vP [.sh (s.bkr zs),.sh (.lst ((s.ol zs).map ord)),.sh (.lst (s.bats.map bat)),.sh (.lst ((s.vD.map λa=>(((s.vB.getD a.1 []).length:Nat):Int)).map D.int))]=.rt (.sh (.lst (s.bats.map bat))):=by
  clear fc k4;rw [eb];generalize (s.vD.map λa=>(((s.vB.getD a.1 []).length:Nat):Int)).map D.int=LL at *;generalize s.bats.map bat=bb at *;generalize (s.ol zs).map ord=oo at *;have h1:¬120 < s.vC:=by omega
  have h2:¬(3:Int) < (bb.length:Int):=by omega
  have h2':¬3 < bb.length:=by omega
  have h3:¬4 < mx:=by omega
  have em':nE LL (.int 0)=.ok (.int mx):=em;simp only [nE] at em';rw [vP];simp [OY,List.lookup,h1,h2,h2',h3,em']
 rw [vR];refine dI _ rfl ?_;show BJ [.sh (s.bkr zs),.sh (.lst ((s.ol zs).map ord)),.no,.no]=_;rw [<-k3,<-k4];generalize hG:vQ=G;clear fc k3 k4;have cu':pW [.sh (s.bkr zs),.sh (.lst ((s.ol zs).map ord))]=.ok (.fr (s.bats.map bat)):=cu;generalize s.bats.map bat=bb at *;generalize (s.ol zs).map ord=oo at *;generalize s.bkr zs=bk at *;simp [BJ,cu',hG]
theorem chkb (n:Int) (c:Nat) (hn:n.natAbs.log2 < 1920) (hc:c<=1000):F_4 [.sh (.int n),.sh (.int c)]=if 1<=n/\n<=c then .ok (.sh .non) else .exc 9:=by
 have l1:Str.length "no batch "<=200000:=by decide
 have l2:Str.length " among "<=200000:=by decide
 have hl:(c:Int).natAbs.log2 < 1920:=gF (by omega);have hl':c.log2 < 1920:=by simpa using hl
 by_cases h1:1<=n
 ·by_cases h2:n<=c
  ·simp [F_4,vS,h1,h2]
  ·simp [F_4,vS,BK,h1,h2,hn,hl,hl',l1,l2]
 ·simp [F_4,vS,BK,h1,hn,hl,hl',l1,l2]
theorem j6S {s:Sc} (h:ScOk s) {zs:List Str} (m:Nm s zs) {i:Nat} {b:Int×Int×Int} (hb:s.bats[i]?=some b) {k:Nat} (hk:k < s.vD.length) (eb:b.1=(k:Int)+1):nX [.sh (s.bkr zs),.sh (.lst ((s.ol zs).map ord)),.sh (.int ((i:Int)+1))]=.ok (.fr ((s.wy k b.2.2).map bU)):=by
 have few:=h.few;have hi:i < s.bats.length:=(List.getElem?_eq_some_iff.mp hb).1;have nr:=SM h m;have cb:=chkb ((i:Int)+1) (s.bats.map bat).length (gF (by omega)) (by simp;omega);rw [if_pos ⟨by omega,by simp;omega⟩] at cb;have a1:atI (s.bats.map bat) (i:Int)=some (bat ((k:Int)+1,b.2.1,b.2.2)):=dC (by rw [List.getElem?_map,hb,<-eb];rfl);have wo:=q80 h m hk b.2.1 b.2.2;rw [nX];refine dI _ rfl ?_;show wB [.sh (s.bkr zs),.sh (.lst ((s.ol zs).map ord)),.sh (.int ((i:Int)+1)),.no]=_;have a2:(i:Int)+1-1=i:=by omega
 generalize bat _=BT at *;generalize s.bats.map bat=bb at *;generalize (s.ol zs).map ord=oo at *;generalize s.bkr zs=bk at *;generalize (s.wy k b.2.2).map bU=rr at *;simp [wB,BX,PR,nr,cb,a1,a2,wo]
theorem j4i {s:Sc} (h:ScOk s) {zs:List Str} (m:Nm s zs) (n:Int) (hn:n.natAbs.log2 < 1920) (ho:¬(1<=n/\n<=(s.bats.length:Int))):nX [.sh (s.bkr zs),.sh (.lst ((s.ol zs).map ord)),.sh (.int n)]=.exc 9:=by
 have few:=h.few;have nr:=SM h m;have cb:=chkb n (s.bats.map bat).length hn (by simp;omega);rw [if_neg (by simpa using ho)] at cb;generalize s.bats.map bat=bb at *;generalize (s.ol zs).map ord=oo at *;generalize s.bkr zs=bk at *;simp [nX,wB,BX,nr,cb]
theorem j31 {s:Sc} (h:ScOk s) {zs:List Str} (m:Nm s zs) {i:Nat} {b:Int×Int×Int} (hb:s.bats[i]?=some b) {k:Nat} (hk:k < s.vD.length) (eb:b.1=(k:Int)+1):kR [.sh (s.bkr zs),.sh (.lst ((s.ol zs).map ord)),.sh (.int ((i:Int)+1))]=.ok (.fr ((s.wy k b.2.2).map bU)):=by
 have w:=j6S h m hb hk eb;generalize (s.ol zs).map ord=oo at *;generalize s.bkr zs=bk at *;generalize (s.wy k b.2.2).map bU=rr at *;rw [kR];refine dI _ rfl ?_;show qA [.sh bk,.sh (.lst oo),.sh (.int ((i:Int)+1))]=_;simp [qA,BY,w]
theorem j1g {s:Sc} (h:ScOk s) {zs:List Str} (m:Nm s zs) (n:Int) (hn:n.natAbs.log2 < 1920) (ho:¬(1<=n/\n<=(s.bats.length:Int))):kR [.sh (s.bkr zs),.sh (.lst ((s.ol zs).map ord)),.sh (.int n)]=.ok (.sh .non):=by
 have w:=j4i h m n hn ho;generalize (s.ol zs).map ord=oo at *;generalize s.bkr zs=bk at *;rw [kR];refine dI _ rfl ?_;show qA [.sh bk,.sh (.lst oo),.sh (.int n)]=_;simp [qA,PU,BY,w,List.lookup]
theorem w0J (i:Int):wC [.sh (.int i)]=.ok (.sh (.bl true)):=by simp [wC,PX]
theorem SN {pre post:List (WK×Bool)} {k:WK} {b:Bool} (h:k∉pre.map (·.1)):gE (pre++(k,b)::post) k=some b:=by
 unfold gE;rw [List.find?_append,List.find?_eq_none.mpr]
 ·simp
 ·intro x hx e;exact h (List.mem_map.mpr ⟨x,hx,of_decide_eq_true e⟩)
theorem DU {k:WK} {c:Bool}:∀{l:List (WK×Bool)},k∉l.map (·.1)->l.map (λq=>if q.1=k then (q.1,c) else q)=l
 | [],_=>rfl
 | q::l,h=>by
  rw [List.map_cons,List.mem_cons,not_or] at h;rw [List.map_cons,DU h.2,if_neg (Ne.symm h.1)]
theorem q9k {pre post:List (WK×Bool)} {k:WK} {b c:Bool} (h:k∉pre.map (·.1)) (h':k∉post.map (·.1)):gS (pre++(k,b)::post) k c=pre++(k,c)::post:=by
 unfold gS;rw [SN h,if_pos (show (some b).isSome=true from rfl),List.map_append,List.map_cons,DU h,DU h'];simp
theorem SO:∀(kvs:List (WK×Bool)) (vJ:List (WK×Bool)),((vJ++kvs).map (·.1)).Nodup->kJ vJ kvs=vJ++kvs
 | [],vJ,_=>by simp [kJ]
 | q::kvs,vJ,h=>by
  have h0:q.1∉vJ.map (·.1):=λz=>by
   rw [List.map_append,List.map_cons] at h;exact (List.nodup_append.mp h).2.2 _ z _ (by simp) rfl
  have e:gS vJ q.1 q.2=vJ++[q]:=by
   unfold gS gE;rw [List.find?_eq_none.mpr (λx hx e=>h0 (List.mem_map.mpr ⟨x,hx,of_decide_eq_true e⟩))]
   rfl
  show kJ (gS vJ q.1 q.2) kvs=_;rw [e,SO kvs (vJ++[q]) (by rw [List.append_assoc];exact h),List.append_assoc]
  rfl
theorem SQ (runs:List D) (lot:Sl) (kvs:List (WK×Bool)) (x3:Sl):∀(is:List Int) (x4:Sl),kL x4=false->∃y4,kL y4=false/\cP (aP (aV 4) BZ) (is.map D.int) [.bo runs,lot,.od kvs,x3,x4]=.nx [.bo runs,lot,.od kvs,x3,y4]
 | [],x4,h=>⟨x4,h,by rw [List.map_nil,kB]⟩
 | i::is,x4,_=>by
  obtain ⟨y4,h,e⟩:=SQ runs lot kvs x3 is (.sh (.int i)) rfl;have w:=w0J i;refine ⟨y4,h,?_⟩;rw [List.map_cons,kC (ρ':=[.bo runs,lot,.od kvs,x3,.sh (.int i)]),e];simp [aP,BZ,w]
theorem q82 (runs lot:List D) (kvs:List (WK×Bool)) (k:WK) (hk:k.2.1.length<=1000) (hg:gE kvs k=some true) (hl:kvs.length<=1000000) (x3 x4:Sl) (h4:kL x4=false) :
 ∃y4,kL y4=false/\aP (aV 3) qB [.bo runs,.sh (.lst lot),.od kvs,x3,x4] (bU k)=.nx [.bo runs,.sh (.lst lot),.od (gS kvs k false),.sh (bU k),y4]:=by
 obtain ⟨b,r,o⟩:=k;obtain ⟨y4,hy,e⟩:=SQ runs (.sh (.lst lot)) kvs (.sh (bU (b,r,o))) (b::o::r) x4 h4;refine ⟨y4,hy,?_⟩;have hi:=lL r;have rl:(r.map D.int).length<=1000:=by simpa using hk
 have b0:aP (aV 3) qB [.bo runs,.sh (.lst lot),.od kvs,x3,x4] (bU (b,r,o))=wE [.bo runs,.sh (.lst lot),.od kvs,.sh (bU (b,r,o)),x4]:=by
  generalize hG:wE=G;unfold bU;generalize r.map D.int=rr at *;simp [aP,qB,List.lookup,hG]
 have it:bC (aS (kA (bF (aD (aY [(14,0)] (aA 3)) (aD (aY [(14,2)] (aA 3)) aI))) (gQ (aY [(14,1)] (aA 3))))) [.bo runs,.sh (.lst lot),.od kvs,.sh (bU (b,r,o)),x4]=.ok ((b::o::r).map D.int):=by
  rw [List.map_cons,List.map_cons];unfold bU;have rl1:2+(r.map D.int).length<=1000000:=by omega
  have rl2:(r.map D.int).length+1+1<=1000000:=by omega
  generalize r.map D.int=rr at *;simp [List.lookup,rl1,rl2,Nat.add_comm]
 have k7:CB [.bo runs,.sh (.lst lot),.od kvs,.sh (bU (b,r,o)),y4]=.nx [.bo runs,.sh (.lst lot),.od (gS kvs (b,r,o) false),.sh (bU (b,r,o)),y4]:=by
  have ek:fC (aD (aY [(14,0)] (aA 3)) (aD (aY [(14,1)] (aA 3)) (aD (aY [(14,2)] (aA 3)) aI))) [.bo runs,.sh (.lst lot),.od kvs,.sh (bU (b,r,o)),y4]=.ok (.tup [.int b,.tup (r.map D.int),.int o]):=by
   unfold bU;generalize r.map D.int=rr at *;simp [List.lookup]
  have et:pH 2 (fC (aD (aY [(14,0)] (aA 3)) (aD (aY [(14,1)] (aA 3)) (aD (aY [(14,2)] (aA 3)) aI)))) (eC (.bl false)) [.bo runs,.sh (.lst lot),.od kvs,.sh (bU (b,r,o)),y4]=.ok (.bl true):=by
   rw [pH];simp only [List.getElem?_cons_succ,List.getElem?_cons_zero,ek,Out.ok_bind,eC,dg2,zQ,hg]
   rfl
  have k6:CA [.bo runs,.sh (.lst lot),.od kvs,.sh (bU (b,r,o)),y4]=.nx [.bo runs,.sh (.lst lot),.od (gS kvs (b,r,o) false),.sh (bU (b,r,o)),y4]:=by
   rw [CA,zU];simp only [eC,Out.ok_fl,List.getElem?_cons_succ,List.getElem?_cons_zero,ek,zQ];rw [if_pos ⟨by simp only [List.eraseIdx_cons_succ,List.eraseIdx_cons_zero,List.all_cons,List.all_nil,hy];rfl,hl⟩]
   rfl
  rw [CB,sIf,eK,fB,et];exact k6
 rw [b0,wE,cV it,e,Fl.nx_bind,k7]
theorem j4q (ws:List WK) (nd:ws.Nodup) (hl:ws.length<=1000000) (hk:∀k∈ws,k.2.1.length<=1000):qC [.bo (ws.map bU),.sh (.lst (ws.map cC))]=.ok (.sh (.bl true)):=by
 obtain ⟨ρ',e,x3,x4,h4,rfl⟩:=iG (body:=aP (aV 3) qB) bU (λj ρ=>∃x3 x4,kL x4=false/\ρ=[.bo (ws.map bU),.sh (.lst (ws.map cC)),.od ((ws.take j).map (λk=>(k,false))++(ws.drop j).map (λk=>(k,true))),x3,x4]) ws (λj k ρ hj ⟨x3,x4,h4,e⟩=>by
  subst e;obtain ⟨lj,ej⟩:=List.getElem?_eq_some_iff.mp hj;have dr:ws.drop j=k::ws.drop (j+1):=by rw [List.drop_eq_getElem_cons lj,ej]
  have tk:ws.take (j+1)=ws.take j++[k]:=by rw [List.take_succ,hj];rfl
  have nd2:(ws.take j++k::ws.drop (j+1)).Nodup:=by rw [<-dr,List.take_append_drop];exact nd
  obtain ⟨n1,n2,n3⟩:=List.nodup_append.mp nd2;have h1:k∉((ws.take j).map λk=>((k,false):WK×Bool)).map (·.1):=λz=>by
   rw [List.map_map] at z;obtain ⟨q,hq,e⟩:=List.mem_map.mp z;exact n3 q hq k (by simp) e
  have h2:k∉((ws.drop (j+1)).map λk=>((k,true):WK×Bool)).map (·.1):=λz=>by
   rw [List.map_map] at z;obtain ⟨q,hq,e⟩:=List.mem_map.mp z;have e:q=k:=e;subst e;exact (List.nodup_cons.mp n2).1 hq
  rw [dr,List.map_cons];obtain ⟨y4,hy,eq⟩:=q82 (ws.map bU) (ws.map cC) _ k (hk k (List.mem_of_getElem? hj)) (SN (post:=(ws.drop (j+1)).map λk=>((k,true):WK×Bool)) h1) (by
   simp only [List.length_append,List.length_map,List.length_cons,List.length_take,List.length_drop];omega) x3 x4 h4
  refine ⟨_,eq,.sh (bU k),y4,hy,?_⟩;rw [q9k h1 h2,tk,List.map_append,List.append_assoc]
  rfl) (ρ:=[.bo (ws.map bU),.sh (.lst (ws.map cC)),.od (ws.map λk=>(k,true)),.no,.no]) ⟨.no,.no,rfl,by simp⟩
 have fc:bJ (bC (aA 1)) [] (fC (aD (aA 0) (aD (eC (.bl true)) aI))) [.bo (ws.map bU),.sh (.lst (ws.map cC)),.no,.no,.no]=.ok ((ws.map λk=>((k,true):WK×Bool)).map nD):=by
  rw [List.map_map];exact hJ (g:=cC) rfl (by omega) λk _=>rfl
 have k12:wF [.bo (ws.map bU),.sh (.lst (ws.map cC)),.no,.no,.no]=.rt (.sh (.bl true)):=by
  rw [wF,zT,fc,Out.ok_fl,if_pos (by simpa using hl),KU];show Fl.bind (.nx [.bo (ws.map bU),.sh (.lst (ws.map cC)),.od (kJ [] (ws.map λk=>((k,true):WK×Bool))),.no,.no]) _=_;rw [SO _ [] (by rw [List.nil_append,List.map_map];exact (List.map_id' ws).symm ▸ nd),List.nil_append,Fl.nx_bind];rw [PY,cV (ds:=ws.map bU) rfl,e]
  rfl
 have ll:(ws.map bU).length=(ws.map cC).length:=by simp
 rw [qC];refine dI _ rfl ?_;show CC [.bo (ws.map bU),.sh (.lst (ws.map cC)),.no,.no,.no]=_;rw [<-k12];generalize hG:wF=G;clear e fc k12;generalize ws.map bU=rr at *;generalize ws.map cC=kk at *;simp [CC,ll,hG]
theorem w0n {α:Type} (l:List α) (k:Nat) (h:k<=l.length):mQ l none (some (k:Int))=l.take k:=by
 unfold mQ;rw [HT.sIx_nat,Nat.min_eq_left h];simp [HT.sIx]
theorem SR {t:Sc} (h:ScOk t) {zs:List Str} (m:Nm t zs) {p:Nat} (hp:p < t.bats.length):∃ws:List WK,∃q:Nat×Int,t.bs[p]?=some q/\kR [.sh (t.bkr zs),.sh (.lst ((t.ol zs).map ord)),.sh (.int ((p:Int)+1))]=.ok (.fr (ws.map bU)) /\
 nY [.sh t.d,.sh (bL q)]=.ok (.fr (ws.map cC))/\qC [.bo (ws.map bU),.sh (.lst (ws.map cC))]=.ok (.sh (.bl true)):=by
 have hb:t.bats[p]?=some t.bats[p]:=List.getElem?_eq_getElem hp;obtain ⟨k,e1,hk,_⟩:=h.bat (List.getElem_mem hp);generalize t.bats[p]=b at *;have hd:=h.adue _ (h.at_ hk);have hn:=h.vC;have kd:=h.kdok hk;have four:=kd.four;have ok:=oB (left:=(t.vD.getD k (0,0,0)).2.2) (t.kd k) kd.all ln0;rw [Nat.zero_add] at ok;refine ⟨t.wy k b.2.2,(k,b.2.2),?_,j31 h m hb hk e1,lways h hk b.2.2,j4q _ (q9P _ _ (j1u _ _ _) _ ok.nd) ?_ λw hw=>?_⟩
 ·unfold Sc.bs;rw [List.getElem?_map,hb];show some (toB b)=_;unfold toB;rw [e1,show ((k:Int)+1-1).toNat=k by omega]
 ·have l1:=wY (t.vD.getD k (0,0,0)).2.2 (t.vM (t.kd k) b.2.2) (by omega) (DK h _ _) _ λr hr=>(kS (ok.el r hr)).1
  have l2:=ok.few;have p8:8 ^ (t.kd k).length<=4096:=by
   have one:=kd.one;have:(t.kd k).length=1∨(t.kd k).length=2∨(t.kd k).length=3∨(t.kd k).length=4:=by omega
   rcases this with e | e | e | e<;>rw [e]<;>decide
  unfold Sc.wy;omega
 ·obtain ⟨r,hr,hw⟩:=List.mem_flatMap.mp hw;obtain ⟨c,_,hw⟩:=List.mem_flatMap.mp hw;obtain ⟨o,_,rfl⟩:=List.mem_map.mp hw;show r.length<=1000;rw [ok.len r hr];omega
def Sc.rev (s:Sc):Sc:={ s with vD:=s.vD.reverse }
theorem ScOk.rev {s:Sc} (h:ScOk s):ScOk s.rev:=⟨h.vC,h.vI,h.vE,h.kne,h.klen,h.kall,h.dne,h.dlen,h.dall,by show s.vD.reverse.length<=3;rw [List.length_reverse];exact h.alen,
 λa ha=>h.aix a (List.mem_reverse.mp ha),λa ha=>h.alv a (List.mem_reverse.mp ha),λa ha=>h.adue a (List.mem_reverse.mp ha),by
  show (s.vD.reverse.map λq=>nb s.best q.2.1).sum<=3;rw [List.map_reverse,List.sum_reverse];exact h.asum⟩
theorem j7U (s:Sc):s.rev.bats.length=s.bats.length:=by
 unfold Sc.bats;rw [wV,wV];show ((s.vD.reverse.map _).map (nb s.best)).sum=_;rw [List.map_reverse,List.map_reverse,List.sum_reverse]
theorem SS (s:Sc):s.rev.d=.lst [.int s.vC,.int s.vI,.int s.vE,.lst (s.vF.map bK),.lst (s.vB.map aJ),.lst (s.vD.map cL).reverse]:=by
 show D.lst [_,_,_,_,_,.lst (s.vD.reverse.map cL)]=_;rw [List.map_reverse];rfl
abbrev lw (nn sd names bk os bs:D) (cell:Int) (td ob:D) (x9 aT cI cE bW bP:Sl):Ro:=[.sh nn,.sh sd,.sh names,.sh bk,.sh os,.sh bs,.sh (.int cell),.sh td,.sh ob,x9,aT,cI,cE,bW,bP]
abbrev lS (s:Sc) (zs:List Str) (nn:D) (cell:Int) (td ob:D) (x9 aT cI cE bW bP:Sl):Ro:=lw nn s.d (.lst (zs.map D.str)) (s.bkr zs) (.lst ((s.ol zs).map ord)) (.lst (s.bs.map bL)) cell td ob x9 aT cI cE bW bP
theorem j4f {s:Sc} (h:ScOk s) {zs:List Str} (m:Nm s zs) (nn:D) (cell:Int) {p:Nat} (hp:p < s.bats.length) (j:Nat) (hj:j < 3) (x9 cI cE bW bP:Sl) :
 ∃jA jB,aP (aV 11) nZ (lS s zs nn cell s.rev.d (.lst (s.rev.bs.map bL)) x9 (.sh (.int p)) cI cE bW bP) (.int j) =
  .nx (lS s zs nn cell s.rev.d (.lst (s.rev.bs.map bL)) x9 (.sh (.int p)) (.sh (.int j)) cE jA jB):=by
 obtain ⟨w1,q1,b1,r1,r2,r3⟩:=SR h m hp;obtain ⟨w2,q2,b2,t1,t2,t3⟩:=SR h.rev (zs:=zs) ⟨m.len,m.wd,m.nd⟩ (p:=p) (by rw [j7U];exact hp);have er:(s.rev.ol zs).map ord=((s.ol zs).map ord).reverse:=by
  show ((s.vD.reverse.map (eN zs)).map ord)=_;rw [List.map_reverse,List.map_reverse]
 have eb:s.rev.bkr zs=s.bkr zs:=rfl;rw [er,eb] at t1;have a1:atI (s.bs.map bL) (p:Int)=some (bL q1):=dC (by rw [List.getElem?_map,b1];rfl);have a2:atI (s.rev.bs.map bL) (p:Int)=some (bL q2):=dC (by rw [List.getElem?_map,b2];rfl);clear er eb b1 b2;simp only [lS,lw];generalize s.bs.map bL=bb at *;generalize s.rev.bs.map bL=cc at *;generalize (s.ol zs).map ord=oo at *;generalize s.bkr zs=bk at *;generalize s.rev.d=td at *;generalize s.d=sd at *;generalize bL q1=q1 at *;generalize bL q2=q2 at *;generalize w1.map bU=wr at *;generalize w1.map cC=wk at *;generalize w2.map bU=vr at *;generalize w2.map cC=vk at *;have:j=0∨j=1∨j=2:=by omega
 rcases this with rfl | rfl | rfl
 ·have c0:=λ(a b c:D)=>dS a [b,c]
  refine ⟨.sh sd,.ow [],?_⟩;simp [aP,nZ,wO,wN,wM,c0,a1,r1,r2,r3]
 ·have c1:=λ(a b c:D)=>fD a b [c]
  refine ⟨.sh td,.ow [],?_⟩;simp [aP,nZ,wO,wN,wM,c1,a2,t1,t2,t3]
 ·have c2:=λ(a b c:D)=>iV a b c []
  refine ⟨.sh sd,.ow [],?_⟩;simp [aP,nZ,wO,wN,wM,c2,a1,r1,r2,r3]
theorem j60 {s:Sc} (h:ScOk s) {zs:List Str} (m:Nm s zs) (nn:D) (cell:Int) (td ob:D) (x9 aT cI cE bW bP:Sl) :
 ∃jR,wR (lS s zs nn cell td ob x9 aT cI cE bW bP)=oA (lS s zs nn cell td ob x9 aT cI jR bW bP):=by
 by_cases c:cell % 5=4
 ·have few:=h.few;have bl:(s.bs.map bL).length=s.bats.length:=by simp [Sc.bs]
  obtain ⟨n,en,hn⟩:=pick4 0 (((s.bs.map bL).length:Int)+1) (-(cell / 5 % 100000000000000000000)) (4+cell / 5 % 100000000000000000000) (cell / 20);have q0:0<=cell / 5 % 100000000000000000000:=Int.emod_nonneg _ (by decide);have q1:cell / 5 % 100000000000000000000 < 100000000000000000000:=Int.emod_lt_of_pos _ (by decide);rw [bl] at hn;have ao:=j1g h m n (gF (by
   have:(100000000000000000010:Nat) < 2 ^ 200:=by decide
   omega)) (by omega)
  refine ⟨.sh (.int n),?_⟩;simp only [lS,lw];generalize hG:oA=G;clear bl;generalize (s.ol zs).map ord=oo at *;generalize s.bkr zs=bk at *;generalize zs.map D.str=zz at *;generalize s.bs.map bL=bb at *;generalize s.d=sd at *;simp [wR,QL,QK,c,en,ao,hG]
 ·refine ⟨cE,?_⟩;simp only [lS,lw];generalize hG:oA=G;generalize (s.ol zs).map ord=oo at *;generalize s.bkr zs=bk at *;generalize zs.map D.str=zz at *;generalize s.bs.map bL=bb at *;generalize s.d=sd at *;simp [wR,c,hG]
theorem law_true (ns:List Int) (hn:ns.length<=63):wT [.sh (.lst (ns.map D.int))]=.ok (.sh (.bl true)):=by
 obtain ⟨s,h,es⟩:=j4e ns;have p13:=fE ns 13 (by decide);have p14:=fE ns 14 (by decide);generalize ns.getD (13:Int).toNat 0=v13 at *;generalize ns.getD (14:Int).toNat 0=cell at *;have dl:=h.dlen;have al:=h.alen;have few:=h.few;obtain ⟨zs,z1,z2,z3,ez⟩:=X7 v13 s.vB.length (by omega);have m:Nm s zs:=⟨z1,z3,z2⟩
 have mk:=j8M h zs z1 z3 z2;have mo:=w0x zs s.vD (by omega) (λa ha=>by rw [z1];exact h.aix a ha) h.alv;have b1:=RV h;have b2:=RV h.rev;have st:=j7t zs s.vD (λa ha=>by rw [z1];exact h.aix a ha) (by omega);have i5:=is_ 5 5;simp only [decide_true] at i5;have bl:(s.bs.map bL).length=s.bats.length:=by simp [Sc.bs]
 obtain ⟨n,hn2,en,hnl⟩:∃n:Nat,n<=2/\(if ((s.bs.map bL).length:Int) < 2 then ((s.bs.map bL).length:Int) else 2)=(n:Int)/\(0 < n->0 < s.bats.length):=by
  rw [bl];by_cases c:(s.bats.length:Int) < 2
  ·exact ⟨s.bats.length,by omega,by rw [if_pos c],λh=>h⟩
  ·exact ⟨2,by decide,by rw [if_neg c];rfl,λ_=>by omega⟩
 obtain ⟨ρ',e,x9,aT,cI,cE,bW,bP,rfl⟩:=iW (body:=aP (aV 9) wQ) (λj ρ=>∃x9 aT cI cE bW bP,ρ=lS s zs (.lst (ns.map D.int)) cell s.rev.d (.lst (s.rev.bs.map bL)) x9 aT cI cE bW bP) n (λj ρ hj ⟨x9,aT,cI,cE,bW,bP,eq0⟩=>by
  subst eq0;have pos:0 < s.bats.length:=hnl (by omega);have pb:0 < ((s.bs.map bL).length:Int):=by rw [bl];omega
  have pn:0 < (s.bs.map bL).length:=by rw [bl];omega
  have pm:(s.bs.map bL).length < 1073741824:=by rw [bl];omega
  have q0:=Int.emod_nonneg (cell / 5+(j:Int)) (b:=((s.bs.map bL).length:Int)) (by omega);have q1:=Int.emod_lt_of_pos (cell / 5+(j:Int)) pb;obtain ⟨p,ep,hp⟩:∃p:Nat,(cell / 5+(j:Int)) % ((s.bs.map bL).length:Int)=(p:Int)/\p < s.bats.length:=⟨((cell / 5+(j:Int)) % ((s.bs.map bL).length:Int)).toNat,by omega,by rw [bl] at q1 q0 ⊢; omega⟩
  obtain ⟨ρ2,e2,lW,jA,jB,rfl⟩:=iW (body:=aP (aV 11) nZ) (λi ρ=>∃cI bW bP,ρ=lS s zs (.lst (ns.map D.int)) cell s.rev.d (.lst (s.rev.bs.map bL)) (.sh (.int j)) (.sh (.int p)) cI cE bW bP) 3 (λi ρ hi ⟨cI,bW,bP,eq0⟩=>by
   subst eq0;obtain ⟨jA,jB,eq⟩:=j4f h m (.lst (ns.map D.int)) cell hp i hi (.sh (.int j)) cI cE bW bP;exact ⟨_,eq,_,_,_,rfl⟩) (ρ:=lS s zs (.lst (ns.map D.int)) cell s.rev.d (.lst (s.rev.bs.map bL)) (.sh (.int j)) (.sh (.int p)) cI cE bW bP) ⟨cI,bW,bP,rfl⟩
  refine ⟨_,?_,.sh (.int j),.sh (.int p),lW,cE,jA,jB,rfl⟩;have b8:aP (aV 9) wQ (lS s zs (.lst (ns.map D.int)) cell s.rev.d (.lst (s.rev.bs.map bL)) x9 aT cI cE bW bP) (.int j)=wP (lS s zs (.lst (ns.map D.int)) cell s.rev.d (.lst (s.rev.bs.map bL)) (.sh (.int j)) (.sh (.int p)) cI cE bW bP):=by
   clear e2;rw [<-ep];clear ep q0 q1 pb bl;simp only [lS,lw];generalize hG:wP=G;generalize (s.ol zs).map ord=oo at *;generalize s.bkr zs=bk at *;generalize zs.map D.str=zz at *;generalize s.rev.bs.map bL=cc at *;generalize s.bs.map bL=bb at *;generalize s.rev.d=td at *;generalize s.d=sd at *;generalize ns.map D.int=nn at *;simp [aP,wQ,pn,pm,hG]
  rw [b8,wP,cV (ds:=rgD 0 3) (gD (n:=3) rfl (by decide)),e2]) (ρ:=lS s zs (.lst (ns.map D.int)) cell s.rev.d (.lst (s.rev.bs.map bL)) .no .no .no .no .no .no) ⟨.no,.no,.no,.no,.no,.no,rfl⟩
 obtain ⟨jR,eo⟩:=j60 h m (.lst (ns.map D.int)) cell s.rev.d (.lst (s.rev.bs.map bL)) x9 aT cI cE bW bP;have k12:oA (lS s zs (.lst (ns.map D.int)) cell s.rev.d (.lst (s.rev.bs.map bL)) x9 aT cI jR bW bP)=.rt (.sh (.bl true)):=by
  have st':qG [.sh (.lst ((s.ol zs).map ord)),.sh (.lst (s.vD.map cL)),.sh (.lst (zs.map D.str))]=.ok (.sh (.bl true)):=st;simp only [lS,lw];generalize s.rev.d=td;unfold Sc.d Sc.row;generalize (s.ol zs).map ord=oo at *;generalize s.bkr zs=bk at *;generalize zs.map D.str=zz at *;generalize s.vD.map cL=aa at *;generalize s.vF.map bK=kk at *;generalize s.vB.map aJ=dd at *;generalize ns.map D.int=nn at *;simp [oA,pF,st']
 have k14:wS (lS s zs (.lst (ns.map D.int)) cell s.rev.d (.lst (s.rev.bs.map bL)) .no .no .no .no .no .no)=.rt (.sh (.bl true)):=by
  rw [wS,cV (ds:=rgD 0 n) (gD (by
   rw [<-en];clear e en;simp only [lS,lw];generalize s.rev.bs.map bL=cc at *;generalize s.bs.map bL=bb at *;simp) (by omega)),e,Fl.nx_bind,eo,k12]
 refine dI _ rfl ?_;show CN [.sh (.lst (ns.map D.int)),.no,.no,.no,.no,.no,.no,.no,.no,.no,.no,.no,.no,.no,.no]=_;rw [<-k14];clear e eo k12 k14 st en hnl;have b2':nT [.sh (.lst [.int s.vC,.int s.vI,.int s.vE,.lst (s.vF.map bK),.lst (s.vB.map aJ),.lst (s.vD.map cL).reverse])]=.ok (.fr (s.rev.bs.map bL)):=by rw [<-SS];exact b2
 clear b2;rw [SS];generalize hG:wS=G;have ct:∀a b c d f g:D,mQ [a,b,c,d,f,g] none (some 5)=[a,b,c,d,f]:=λa b c d f g=>w0n [a,b,c,d,f,g] 5 (by show (5:Nat)<=6;decide)
 have kl:(s.vB.map aJ).length=s.vB.length:=by simp
 rw [<-kl] at ez;have mo':pT [.sh (.lst (s.vD.map cL)),.sh (.lst (zs.map D.str))]=.ok (.fr ((s.ol zs).map ord)):=mo;simp only [lS,lw];unfold Sc.d Sc.row at *;clear kl mo bl;generalize (s.ol zs).map ord=oo at *;generalize s.bkr zs=bk at *;generalize zs.map D.str=zz at *;generalize s.rev.bs.map bL=cc at *;generalize s.bs.map bL=bb at *;generalize s.vD.map cL=aa at *;generalize s.vF.map bK=kk at *;generalize s.vB.map aJ=dd at *;generalize ns.map D.int=nn at *;simp [CN,QU,QT,QS,QR,QP,QO,QN,QM,tD,pF,ct,es,p13,p14,ez,mk,mo',b1,b2',i5,hG]
end Lw
namespace Lw
open PySem PySem.W L2 L3
theorem bY {K:Frag} {f c:Addr} {q:Str} {a:Option (Option Value)} {d:FuncData} (h:bQ K f c q a=bR f d):K.lookup f=some (fo d)/\codeIn K (.ref c) q=true/\keepIn K (.ref f)=true/\isFn K (.ref f)=true/\a=some (some (.ref f)):=by
 unfold bQ bR at h;simpa only [Prod.mk.injEq] using h
theorem lY {K:Frag} {C:Addr} {n:Str} {fs:List Str} (h:jE K C n fs=jF C fs):nI K n=some (some (.ref C))/\plainGet K C Str.empty=true/\hasDictIn K C=true/\plainOver K C=true/\makesIn K C=true/\keepIn K (.ref C)=true/\findIn K (.ref C) "__setattr__" = some (some (.builtin "object.__setattr__"))/\∀(i:Nat) (x:Str),fs[i]?=some x->findIn K (.ref C) x=some none:=by
 unfold jE jF at h;simp only [Prod.mk.injEq,List.cons.injEq,and_true] at h;obtain ⟨h1,⟨h2,h3,h4,h5,h6⟩,h7,h8⟩:=h;refine ⟨h1,h2,h3,h4,h5,h6,h7,λi x e=>?_⟩;have:=congrArg (·[i]?) h8;simp only [List.getElem?_map,e,Option.map_some,Option.some.injEq] at this;exact this
theorem iL {K:Frag} {C:Addr} {n:Str} (h:gG K C n=gH C):nI K n=some (some (.ref C))/\excIn K C [.type "ValueError",.type "Exception",.type "BaseException",.type "object"] "ValueError.__new__" = true:=by
 unfold gG gH at h;simpa only [Prod.mk.injEq] using h
theorem j6Y {l:OpenLaw} {w:World} {K:Frag} {h:Heap} {mg:Str->Option Value} {fa:Addr} (X:K.In h) (G:h.Ns mainGlobals mg) (hfa:mg "law" = some (.ref fa)) (e:kW K=kX)
 : ∃fd:FuncData,(∀(s:Shared) (v:Value),BindsTo s fd ⟨[v],[]⟩ [("_law_script",v)])/\∃T:Tb,∀base:Heap,K.In base->base.Ns mainGlobals mg->bB l.prog w K mg base (CXE T l.prog w) 9 fa fd ["_law_script"] (spD T K 1 wT):=by
 obtain ⟨eF,e⟩:=Prod.mk.inj (e:(hLF K,hLG K,hLC K,hLE K,hZ.map (λx=>nI K x),hLI K,hLV K,hLB K,hLO K,hLX K)=(hRF,hRG,hRC,hRE,hZ.map (λ_=>(some none:Option (Option Value))),hRI,hRV,hRB,hRO,hRX));obtain ⟨eG,e⟩:=Prod.mk.inj e;obtain ⟨eC,e⟩:=Prod.mk.inj e;obtain ⟨eE,e⟩:=Prod.mk.inj e;obtain ⟨eZ,e⟩:=Prod.mk.inj e;obtain ⟨eI,e⟩:=Prod.mk.inj e;obtain ⟨eV,e⟩:=Prod.mk.inj e;obtain ⟨eB,e⟩:=Prod.mk.inj e;obtain ⟨eO,e⟩:=Prod.mk.inj e;obtain ⟨l1,c1,k1,i1,a1⟩:=bY (Hd.row eF 0 rfl rfl);obtain ⟨l2,c2,k2,i2,a2⟩:=bY (Hd.row eF 1 rfl rfl);obtain ⟨l3,c3,k3,i3,a3⟩:=bY (Hd.row eF 2 rfl rfl);obtain ⟨l4,c4,k4,i4,a4⟩:=bY (Hd.row eF 3 rfl rfl);obtain ⟨l5,c5,k5,i5,a5⟩:=bY (Hd.row eF 4 rfl rfl);obtain ⟨l6,c6,k6,i6,a6⟩:=bY (Hd.row eF 5 rfl rfl);obtain ⟨l7,c7,k7,i7,a7⟩:=bY (Hd.row eF 6 rfl rfl);obtain ⟨l8,c8,k8,i8,a8⟩:=bY (Hd.row eF 7 rfl rfl);obtain ⟨l9,c9,k9,i9,a9⟩:=bY (Hd.row eF 8 rfl rfl);obtain ⟨l10,c10,k10,i10,a10⟩:=bY (Hd.row eF 9 rfl rfl);obtain ⟨l11,c11,k11,i11,a11⟩:=bY (Hd.row eF 10 rfl rfl);obtain ⟨l12,c12,k12,i12,a12⟩:=bY (Hd.row eF 11 rfl rfl);obtain ⟨l13,c13,k13,i13,a13⟩:=bY (Hd.row eF 12 rfl rfl);obtain ⟨l16,c16,k16,i16,a16⟩:=bY (Hd.row eF 13 rfl rfl);obtain ⟨l17,c17,k17,i17,a17⟩:=bY (Hd.row eF 14 rfl rfl);obtain ⟨l18,c18,k18,i18,a18⟩:=bY (Hd.row eF 15 rfl rfl);obtain ⟨l19,c19,k19,i19,a19⟩:=bY (Hd.row eF 16 rfl rfl);obtain ⟨l20,c20,k20,i20,a20⟩:=bY (Hd.row eF 17 rfl rfl);obtain ⟨l21,c21,k21,i21,a21⟩:=bY (Hd.row eF 18 rfl rfl);obtain ⟨l22,c22,k22,i22,a22⟩:=bY (Hd.row eF 19 rfl rfl);obtain ⟨l23,c23,k23,i23,a23⟩:=bY (Hd.row eF 20 rfl rfl);obtain ⟨l24,c24,k24,i24,a24⟩:=bY (Hd.row eF 21 rfl rfl);obtain ⟨l25,c25,k25,i25,a25⟩:=bY (Hd.row eG 0 rfl rfl);obtain ⟨l26,c26,k26,i26,a26⟩:=bY (Hd.row eG 1 rfl rfl);obtain ⟨l27,c27,k27,i27,a27⟩:=bY (Hd.row eG 2 rfl rfl);obtain ⟨l30,c30,k30,i30,a30⟩:=bY (Hd.row eG 3 rfl rfl);obtain ⟨l31,c31,k31,i31,a31⟩:=bY (Hd.row eG 4 rfl rfl);obtain ⟨l32,c32,k32,i32,a32⟩:=bY (Hd.row eG 5 rfl rfl);obtain ⟨l33,c33,k33,i33,a33⟩:=bY (Hd.row eG 6 rfl rfl);obtain ⟨l34,c34,k34,i34,a34⟩:=bY (Hd.row eG 7 rfl rfl);obtain ⟨l35,c35,k35,i35,a35⟩:=bY (Hd.row eG 8 rfl rfl);obtain ⟨l36,c36,k36,i36,a36⟩:=bY (Hd.row eG 9 rfl rfl);obtain ⟨l37,c37,k37,i37,a37⟩:=bY (Hd.row eG 10 rfl rfl);obtain ⟨l38,c38,k38,i38,a38⟩:=bY (Hd.row eG 11 rfl rfl);obtain ⟨l39,c39,k39,i39,a39⟩:=bY (Hd.row eG 12 rfl rfl);obtain ⟨l40,c40,k40,i40,a40⟩:=bY (Hd.row eG 13 rfl rfl);obtain ⟨l41,c41,k41,i41,a41⟩:=bY (Hd.row eG 14 rfl rfl);obtain ⟨l42,c42,k42,i42,a42⟩:=bY (Hd.row eG 15 rfl rfl);obtain ⟨l43,c43,k43,i43,a43⟩:=bY (Hd.row eG 16 rfl rfl);obtain ⟨l44,c44,k44,i44,a44⟩:=bY (Hd.row eG 17 rfl rfl);obtain ⟨l45,c45,k45,i45,a45⟩:=bY (Hd.row eG 18 rfl rfl);obtain ⟨l46,c46,k46,i46,a46⟩:=bY (Hd.row eG 19 rfl rfl);obtain ⟨l47,c47,k47,i47,a47⟩:=bY (Hd.row eG 20 rfl rfl);obtain ⟨l48,c48,k48,i48,a48⟩:=bY (Hd.row eG 21 rfl rfl);obtain ⟨aC11,pg11,hd11,po11,mk11,kc11,sa11,nf11⟩:=lY (Hd.row eC 0 rfl rfl);have na11_room:=nf11 0 _ rfl;have na11_rate:=nf11 1 _ rfl;have na11_heat:=nf11 2 _ rfl;obtain ⟨aC12,pg12,hd12,po12,mk12,kc12,sa12,nf12⟩:=lY (Hd.row eC 1 rfl rfl);have na12_bread:=nf12 0 _ rfl;have na12_loaves:=nf12 1 _ rfl;have na12_due:=nf12 2 _ rfl;obtain ⟨aC13,pg13,hd13,po13,mk13,kc13,sa13,nf13⟩:=lY (Hd.row eC 2 rfl rfl);have na13_order:=nf13 0 _ rfl;have na13_first:=nf13 1 _ rfl;have na13_loaves:=nf13 2 _ rfl;obtain ⟨aC14,pg14,hd14,po14,mk14,kc14,sa14,nf14⟩:=lY (Hd.row eC 3 rfl rfl);have na14_begin:=nf14 0 _ rfl;have na14_lengths:=nf14 1 _ rfl;have na14_oven:=nf14 2 _ rfl;obtain ⟨aC15,pg15,hd15,po15,mk15,kc15,sa15,nf15⟩:=lY (Hd.row eC 4 rfl rfl);have na15_night:=nf15 0 _ rfl;have na15_hands:=nf15 1 _ rfl;have na15_benches:=nf15 2 _ rfl;have na15_ovens:=nf15 3 _ rfl;have na15_breads:=nf15 4 _ rfl;obtain ⟨aC16,pg16,hd16,po16,mk16,kc16,sa16,nf16⟩:=lY (Hd.row eC 5 rfl rfl);have na16_name:=nf16 0 _ rfl;have na16_least:=nf16 1 _ rfl;have na16_most:=nf16 2 _ rfl;have na16_want:=nf16 3 _ rfl;have na16_heat:=nf16 4 _ rfl;obtain ⟨aC17,pg17,hd17,po17,mk17,kc17,sa17,nf17⟩:=lY (Hd.row eC 6 rfl rfl);have na17_name:=nf17 0 _ rfl;have na17_stages:=nf17 1 _ rfl;obtain ⟨aC0,xc0⟩:=iL (Hd.row eE 0 rfl rfl);obtain ⟨aC1,xc1⟩:=iL (Hd.row eE 1 rfl rfl);obtain ⟨aC2,xc2⟩:=iL (Hd.row eE 2 rfl rfl);obtain ⟨aC3,xc3⟩:=iL (Hd.row eE 3 rfl rfl);obtain ⟨aC4,xc4⟩:=iL (Hd.row eE 4 rfl rfl);obtain ⟨aC5,xc5⟩:=iL (Hd.row eE 5 rfl rfl);obtain ⟨aC6,xc6⟩:=iL (Hd.row eE 6 rfl rfl);obtain ⟨aC7,xc7⟩:=iL (Hd.row eE 7 rfl rfl);obtain ⟨aC8,xc8⟩:=iL (Hd.row eE 8 rfl rfl);obtain ⟨aC9,xc9⟩:=iL (Hd.row eE 9 rfl rfl);obtain ⟨aC10,xc10⟩:=iL (Hd.row eE 10 rfl rfl);have z_all:=Hd.row eZ 0 rfl rfl;have z_any:=Hd.row eZ 1 rfl rfl;have z_bool:=Hd.row eZ 2 rfl rfl;have z_dict:=Hd.row eZ 3 rfl rfl;have z_enumerate:=Hd.row eZ 4 rfl rfl;have z_int:=Hd.row eZ 5 rfl rfl;have z_isinstance:=Hd.row eZ 6 rfl rfl;have z_len:=Hd.row eZ 7 rfl rfl;have z_list:=Hd.row eZ 8 rfl rfl;have z_max:=Hd.row eZ 9 rfl rfl;have z_min:=Hd.row eZ 10 rfl rfl;have z_range:=Hd.row eZ 11 rfl rfl;have z_set:=Hd.row eZ 12 rfl rfl;have z_sum:=Hd.row eZ 13 rfl rfl;have z_tuple:=Hd.row eZ 14 rfl rfl;have ha14:=Hd.row eV 0 rfl rfl;have hn14:=Hd.row eV 1 rfl rfl;have cc_FASTEST:=Hd.row eV 2 rfl rfl;have cc_HOTTEST:=Hd.row eV 3 rfl rfl;have cc_LETTERS:=Hd.row eV 4 rfl rfl;have cc_LONGEST_NAME:=Hd.row eV 5 rfl rfl;have cc_MOST_BATCHES:=Hd.row eV 6 rfl rfl;have cc_MOST_BENCHES:=Hd.row eV 7 rfl rfl;have cc_MOST_BREADS:=Hd.row eV 8 rfl rfl;have cc_MOST_HANDS:=Hd.row eV 9 rfl rfl;have cc_MOST_LOAVES:=Hd.row eV 10 rfl rfl;have cc_MOST_ORDERS:=Hd.row eV 11 rfl rfl;have cc_MOST_OVENS:=Hd.row eV 12 rfl rfl;have cc_MOST_PLANNED:=Hd.row eV 13 rfl rfl;have cc_MOST_ROOM:=Hd.row eV 14 rfl rfl;have cc_MOST_STAGES:=Hd.row eV 15 rfl rfl;have cc_MOST_STEPPED:=Hd.row eV 16 rfl rfl;have cc_NIGHT:=Hd.row eV 17 rfl rfl;have cc_STEP:=Hd.row eV 18 rfl rfl;have cc_WANTS:=Hd.row eV 19 rfl rfl;have cc_WIDEST:=Hd.row eV 20 rfl rfl;have dk13:=Hd.row eO 0 rfl rfl;have dk26:=Hd.row eO 1 rfl rfl;have ct_WANTS:=Hd.row eO 2 rfl rfl;have ht14:=Hd.row e 0 rfl rfl;have hm14:=Hd.row e 1 rfl rfl;have exm0_9:=Hd.row e 2 rfl rfl;have exm1_9:=Hd.row e 3 rfl rfl;have exm2_9:=Hd.row e 4 rfl rfl;have exm3_9:=Hd.row e 5 rfl rfl;have exm4_9:=Hd.row e 6 rfl rfl;have exm5_9:=Hd.row e 7 rfl rfl;have exm6_9:=Hd.row e 8 rfl rfl;have exm7_9:=Hd.row e 9 rfl rfl;have exm8_9:=Hd.row e 10 rfl rfl;have exm9_9:=Hd.row e 11 rfl rfl;have exm10_9:=Hd.row e 12 rfl rfl;have e:=hfa.symm.trans (mg_of X G a48);cases e;have F1:=bZ (st:=s_1) l1 c1 k1;have F2:=bZ (st:=s_2) l2 c2 k2;have F3:=bZ (st:=s_3) l3 c3 k3;have F4:=bZ (st:=s_4) l4 c4 k4;have F5:=bZ (st:=s_5) l5 c5 k5;have F6:=bZ (st:=s_6) l6 c6 k6;have F7:=bZ (st:=s_7) l7 c7 k7;have F8:=bZ (st:=s_8) l8 c8 k8;have F9:=bZ (st:=s_9) l9 c9 k9;have F10:=bZ (st:=qL) l10 c10 k10;have F11:=bZ (st:=qM) l11 c11 k11;have F12:=bZ (st:=qN) l12 c12 k12;have F13:=JB (st:=qO) l13 c13 k13;have F16:=bZ (st:=qP) l16 c16 k16;have F17:=bZ (st:=qQ) l17 c17 k17;have F18:=bZ (st:=qR) l18 c18 k18;have F19:=bZ (st:=qS) l19 c19 k19;have F20:=bZ (st:=qT) l20 c20 k20;have F21:=bZ (st:=qU) l21 c21 k21;have F22:=bZ (st:=qV) l22 c22 k22;have F23:=bZ (st:=qW) l23 c23 k23;have F24:=bZ (st:=qX) l24 c24 k24;have F25:=bZ (st:=qY) l25 c25 k25;have F26:=JB (st:=qZ) l26 c26 k26;have F27:=bZ (st:=rA) l27 c27 k27;have F30:=bZ (st:=rB) l30 c30 k30;have F31:=bZ (st:=rE) l31 c31 k31;have F32:=bZ (st:=rF) l32 c32 k32;have F33:=bZ (st:=rG) l33 c33 k33;have F34:=bZ (st:=rH) l34 c34 k34;have F35:=bZ (st:=rJ) l35 c35 k35;have F36:=bZ (st:=rK) l36 c36 k36;have F37:=bZ (st:=rL) l37 c37 k37;have F38:=bZ (st:=rM) l38 c38 k38;have F39:=bZ (st:=rN) l39 c39 k39;have F40:=bZ (st:=rO) l40 c40 k40;have F41:=bZ (st:=rP) l41 c41 k41;have F42:=bZ (st:=rQ) l42 c42 k42;have F43:=bZ (st:=rR) l43 c43 k43;have F44:=bZ (st:=rS) l44 c44 k44;have F45:=bZ (st:=rT) l45 c45 k45;have F46:=bZ (st:=rV) l46 c46 k46;have F47:=bZ (st:=rW) l47 c47 k47;have F48:=bZ (st:=rX) l48 c48 k48;refine ⟨jD,λs v=>.of_eq rfl,⟨λi=>([31,44,56,68,80,92,104,116,128,140,152,197,218,239,308,375,405,445]:List Addr).getD i 0,λa=>if a==197 then (["room","rate","heat"]:List Str) else if a==218 then (["bread","loaves","due"]:List Str) else if a==239 then (["order","first","loaves"]:List Str) else if a==308 then (["begin","lengths","oven"]:List Str) else if a==375 then (["night","hands","benches","ovens","breads"]:List Str) else if a==405 then (["name","least","most","want","heat"]:List Str) else if a==445 then (["name","stages"]:List Str) else [],none,none⟩,λbase _ _=>W5 (fa:=λi=>([559,159,166,173,180,194,215,236,248,255,262,269,276,291,559,559,319,324,331,336,341,346,353,365,372,386,402,423,559,559,442,456,463,470,475,482,489,496,501,506,511,516,523,528,535,540,547,552,559]:List Addr).getD i 0) (fd:=λi=>([jD,d_1,d_2,d_3,d_4,d_5,d_6,d_7,d_8,d_9,EC,ED,EE,EF,jD,jD,EG,EH,EI,EJ,EK,EL,EM,EN,EO,EQ,ER,ES,jD,jD,ET,EU,EV,EW,EY,EZ,FA,FB,FC,FD,FE,FG,FH,FI,FJ,FK,FL,FM,jD]:List FuncData).getD i jD) ?_⟩;exact {
  me:=rfl
  F1:=F1
  c1:=⟨mg_of X G a1,F1.kp,F1.binds λ_ _ _ _ _ _ us hl=>match us,hl with | [_],_=>rfl⟩
  F2:=F2
  c2:=⟨mg_of X G a2,F2.kp,F2.binds λ_ _ _ _ _ _ us hl=>match us,hl with | [_,_,_],_=>rfl⟩
  F3:=F3
  c3:=⟨mg_of X G a3,F3.kp,F3.binds λ_ _ _ _ _ _ us hl=>match us,hl with | [_,_,_],_=>rfl⟩
  F4:=F4
  c4:=⟨mg_of X G a4,F4.kp,F4.binds λ_ _ _ _ _ _ us hl=>match us,hl with | [_,_],_=>rfl⟩
  F5:=F5
  b5:=F5.binds λ_ _ _ _ _ _ us hl=>match us,hl with | [_,_,_,_],_=>rfl
  F6:=F6
  b6:=F6.binds λ_ _ _ _ _ _ us hl=>match us,hl with | [_,_,_,_],_=>rfl
  F7:=F7
  b7:=F7.binds λ_ _ _ _ _ _ us hl=>match us,hl with | [_,_,_,_],_=>rfl
  F8:=F8
  c8:=⟨mg_of X G a8,F8.kp,F8.binds λ_ _ _ _ _ _ us hl=>match us,hl with | [_],_=>rfl⟩
  F9:=F9
  c9:=⟨mg_of X G a9,F9.kp,F9.binds λ_ _ _ _ _ _ us hl=>match us,hl with | [_,_],_=>rfl⟩
  F10:=F10
  c10:=⟨mg_of X G a10,F10.kp,F10.binds λ_ _ _ _ _ _ us hl=>match us,hl with | [_,_],_=>rfl⟩
  F11:=F11
  c11:=⟨mg_of X G a11,F11.kp,F11.binds λ_ _ _ _ _ _ us hl=>match us,hl with | [_,_],_=>rfl⟩
  F12:=F12
  c12:=⟨mg_of X G a12,F12.kp,F12.binds λ_ _ _ _ _ _ us hl=>match us,hl with | [_,_],_=>rfl⟩
  F13:=F13
  b13:=JC rfl dk13 4 rfl λus hl=>match us,hl with | [_,_,_,_],_=>⟨_,rfl,rfl⟩
  F16:=F16
  c16:=⟨mg_of X G a16,F16.kp,F16.binds λ_ _ _ _ _ _ us hl=>match us,hl with | [_,_,_],_=>rfl⟩
  F17:=F17
  c17:=⟨mg_of X G a17,F17.kp,F17.binds λ_ _ _ _ _ _ us hl=>match us,hl with | [_,_],_=>rfl⟩
  F18:=F18
  c18:=⟨mg_of X G a18,F18.kp,F18.binds λ_ _ _ _ _ _ us hl=>match us,hl with | [_,_],_=>rfl⟩
  F19:=F19
  c19:=⟨mg_of X G a19,F19.kp,F19.binds λ_ _ _ _ _ _ us hl=>match us,hl with | [_,_],_=>rfl⟩
  F20:=F20
  c20:=⟨mg_of X G a20,F20.kp,F20.binds λ_ _ _ _ _ _ us hl=>match us,hl with | [_,_,_],_=>rfl⟩
  F21:=F21
  c21:=⟨mg_of X G a21,F21.kp,F21.binds λ_ _ _ _ _ _ us hl=>match us,hl with | [_,_,_],_=>rfl⟩
  F22:=F22
  c22:=⟨mg_of X G a22,F22.kp,F22.binds λ_ _ _ _ _ _ us hl=>match us,hl with | [_,_,_],_=>rfl⟩
  F23:=F23
  b23:=F23.binds λ_ _ _ _ _ _ us hl=>match us,hl with | [_,_,_,_,_,_],_=>rfl
  F24:=F24
  b24:=F24.binds λ_ _ _ _ _ _ us hl=>match us,hl with | [_,_],_=>rfl
  mt24:=⟨a24,i24,k24⟩
  F25:=F25
  c25:=⟨mg_of X G a25,F25.kp,F25.binds λ_ _ _ _ _ _ us hl=>match us,hl with | [_],_=>rfl⟩
  F26:=F26
  b26:=JC rfl dk26 6 rfl λus hl=>match us,hl with | [_,_,_,_,_,_],_=>⟨_,rfl,rfl⟩
  F27:=F27
  b27:=F27.binds λ_ _ _ _ _ _ us hl=>match us,hl with | [_,_,_],_=>rfl
  F30:=F30
  b30:=F30.binds λ_ _ _ _ _ _ us hl=>match us,hl with | [_],_=>rfl
  mt30:=⟨a30,i30,k30⟩
  F31:=F31
  c31:=⟨mg_of X G a31,F31.kp,F31.binds λ_ _ _ _ _ _ us hl=>match us,hl with | [_,_],_=>rfl⟩
  F32:=F32
  c32:=⟨mg_of X G a32,F32.kp,F32.binds λ_ _ _ _ _ _ us hl=>match us,hl with | [_],_=>rfl⟩
  F33:=F33
  c33:=⟨mg_of X G a33,F33.kp,F33.binds λ_ _ _ _ _ _ us hl=>match us,hl with | [_,_],_=>rfl⟩
  F34:=F34
  c34:=⟨mg_of X G a34,F34.kp,F34.binds λ_ _ _ _ _ _ us hl=>match us,hl with | [_,_],_=>rfl⟩
  F35:=F35
  c35:=⟨mg_of X G a35,F35.kp,F35.binds λ_ _ _ _ _ _ us hl=>match us,hl with | [_],_=>rfl⟩
  F36:=F36
  c36:=⟨mg_of X G a36,F36.kp,F36.binds λ_ _ _ _ _ _ us hl=>match us,hl with | [_,_,_],_=>rfl⟩
  F37:=F37
  c37:=⟨mg_of X G a37,F37.kp,F37.binds λ_ _ _ _ _ _ us hl=>match us,hl with | [_,_,_],_=>rfl⟩
  F38:=F38
  c38:=⟨mg_of X G a38,F38.kp,F38.binds λ_ _ _ _ _ _ us hl=>match us,hl with | [_,_,_,_,_],_=>rfl⟩
  F39:=F39
  c39:=⟨mg_of X G a39,F39.kp,F39.binds λ_ _ _ _ _ _ us hl=>match us,hl with | [_],_=>rfl⟩
  F40:=F40
  c40:=⟨mg_of X G a40,F40.kp,F40.binds λ_ _ _ _ _ _ us hl=>match us,hl with | [_,_],_=>rfl⟩
  F41:=F41
  c41:=⟨mg_of X G a41,F41.kp,F41.binds λ_ _ _ _ _ _ us hl=>match us,hl with | [_,_],_=>rfl⟩
  F42:=F42
  c42:=⟨mg_of X G a42,F42.kp,F42.binds λ_ _ _ _ _ _ us hl=>match us,hl with | [_,_,_],_=>rfl⟩
  F43:=F43
  c43:=⟨mg_of X G a43,F43.kp,F43.binds λ_ _ _ _ _ _ us hl=>match us,hl with | [_],_=>rfl⟩
  F44:=F44
  c44:=⟨mg_of X G a44,F44.kp,F44.binds λ_ _ _ _ _ _ us hl=>match us,hl with | [_,_],_=>rfl⟩
  F45:=F45
  c45:=⟨mg_of X G a45,F45.kp,F45.binds λ_ _ _ _ _ _ us hl=>match us,hl with | [_,_],_=>rfl⟩
  F46:=F46
  c46:=⟨mg_of X G a46,F46.kp,F46.binds λ_ _ _ _ _ _ us hl=>match us,hl with | [_,_,_],_=>rfl⟩
  F47:=F47
  c47:=⟨mg_of X G a47,F47.kp,F47.binds λ_ _ _ _ _ _ us hl=>match us,hl with | [_,_],_=>rfl⟩
  F48:=F48
  c48:=⟨mg_of X G a48,F48.kp,F48.binds λ_ _ _ _ _ _ us hl=>match us,hl with | [_],_=>rfl⟩
  mC0:=mg_of X G aC0
  xc0:=xc0
  mC1:=mg_of X G aC1
  xc1:=xc1
  mC2:=mg_of X G aC2
  xc2:=xc2
  mC3:=mg_of X G aC3
  xc3:=xc3
  mC4:=mg_of X G aC4
  xc4:=xc4
  mC5:=mg_of X G aC5
  xc5:=xc5
  mC6:=mg_of X G aC6
  xc6:=xc6
  mC7:=mg_of X G aC7
  xc7:=xc7
  mC8:=mg_of X G aC8
  xc8:=xc8
  mC9:=mg_of X G aC9
  xc9:=xc9
  mC10:=mg_of X G aC10
  xc10:=xc10
  mC11:=mg_of X G aC11
  cC11:=⟨pg11,hd11,po11,sa11⟩
  mk11:=⟨mk11,a5,i5,kc11⟩
  fl11:=rfl
  na11_room:=na11_room
  na11_rate:=na11_rate
  na11_heat:=na11_heat
  mC12:=mg_of X G aC12
  cC12:=⟨pg12,hd12,po12,sa12⟩
  mk12:=⟨mk12,a6,i6,kc12⟩
  fl12:=rfl
  na12_bread:=na12_bread
  na12_loaves:=na12_loaves
  na12_due:=na12_due
  mC13:=mg_of X G aC13
  cC13:=⟨pg13,hd13,po13,sa13⟩
  mk13:=⟨mk13,a7,i7,kc13⟩
  fl13:=rfl
  na13_order:=na13_order
  na13_first:=na13_first
  na13_loaves:=na13_loaves
  mC14:=mg_of X G aC14
  cC14:=⟨pg14,hd14,po14,sa14⟩
  mk14:=⟨mk14,a13,i13,kc14⟩
  fl14:=rfl
  na14_begin:=na14_begin
  na14_lengths:=na14_lengths
  na14_oven:=na14_oven
  ii14:=⟨⟨pg14,hd14,po14,sa14⟩,ha14,hn14,ht14,hm14⟩
  mC15:=mg_of X G aC15
  cC15:=⟨pg15,hd15,po15,sa15⟩
  mk15:=⟨mk15,a23,i23,kc15⟩
  fl15:=rfl
  na15_night:=na15_night
  na15_hands:=na15_hands
  na15_benches:=na15_benches
  na15_ovens:=na15_ovens
  na15_breads:=na15_breads
  mC16:=mg_of X G aC16
  cC16:=⟨pg16,hd16,po16,sa16⟩
  mk16:=⟨mk16,a26,i26,kc16⟩
  fl16:=rfl
  na16_name:=na16_name
  na16_least:=na16_least
  na16_most:=na16_most
  na16_want:=na16_want
  na16_heat:=na16_heat
  mC17:=mg_of X G aC17
  cC17:=⟨pg17,hd17,po17,sa17⟩
  mk17:=⟨mk17,a27,i27,kc17⟩
  fl17:=rfl
  na17_name:=na17_name
  na17_stages:=na17_stages
  exm0_9:=exm0_9
  exm1_9:=exm1_9
  exm2_9:=exm2_9
  exm3_9:=exm3_9
  exm4_9:=exm4_9
  exm5_9:=exm5_9
  exm6_9:=exm6_9
  exm7_9:=exm7_9
  exm8_9:=exm8_9
  exm9_9:=exm9_9
  exm10_9:=exm10_9
  c_FASTEST:=⟨_,mg_of X G cc_FASTEST⟩
  c_HOTTEST:=⟨_,mg_of X G cc_HOTTEST⟩
  c_LETTERS:=⟨_,mg_of X G cc_LETTERS⟩
  c_LONGEST_NAME:=⟨_,mg_of X G cc_LONGEST_NAME⟩
  c_MOST_BATCHES:=⟨_,mg_of X G cc_MOST_BATCHES⟩
  c_MOST_BENCHES:=⟨_,mg_of X G cc_MOST_BENCHES⟩
  c_MOST_BREADS:=⟨_,mg_of X G cc_MOST_BREADS⟩
  c_MOST_HANDS:=⟨_,mg_of X G cc_MOST_HANDS⟩
  c_MOST_LOAVES:=⟨_,mg_of X G cc_MOST_LOAVES⟩
  c_MOST_ORDERS:=⟨_,mg_of X G cc_MOST_ORDERS⟩
  c_MOST_OVENS:=⟨_,mg_of X G cc_MOST_OVENS⟩
  c_MOST_PLANNED:=⟨_,mg_of X G cc_MOST_PLANNED⟩
  c_MOST_ROOM:=⟨_,mg_of X G cc_MOST_ROOM⟩
  c_MOST_STAGES:=⟨_,mg_of X G cc_MOST_STAGES⟩
  c_MOST_STEPPED:=⟨_,mg_of X G cc_MOST_STEPPED⟩
  c_NIGHT:=⟨_,mg_of X G cc_NIGHT⟩
  c_STEP:=⟨_,mg_of X G cc_STEP⟩
  c_WANTS:=B8 (mg_of X G cc_WANTS) ct_WANTS (by show (4:Nat)<=1000000;decide) (vcS (vcS (vcS (vcS .nil)))) rfl
  c_WIDEST:=⟨_,mg_of X G cc_WIDEST⟩
  n_all:=mg_none_of X G z_all
  n_any:=mg_none_of X G z_any
  n_bool:=mg_none_of X G z_bool
  n_dict:=mg_none_of X G z_dict
  n_enumerate:=mg_none_of X G z_enumerate
  n_int:=mg_none_of X G z_int
  n_isinstance:=mg_none_of X G z_isinstance
  n_len:=mg_none_of X G z_len
  n_list:=mg_none_of X G z_list
  n_max:=mg_none_of X G z_max
  n_min:=mg_none_of X G z_min
  n_range:=mg_none_of X G z_range
  n_set:=mg_none_of X G z_set
  n_sum:=mg_none_of X G z_sum
  n_tuple:=mg_none_of X G z_tuple
 }
end Lw
open PySem PySem.W PyProof.Rows
set_option maxRecDepth 100000 in
set_option maxHeartbeats 0 in
theorem PySem.Challenge.cw_doughhours_k27_ways_holds : PySem.Challenge.rw_doughhours_k27_ways.Holds := by
 w_on;refine holds_law Lw.SX λsaid=>?_
 refine holds_open (q:=Lw.vw) (loose:=[]) (Xt:=Lw.Xv) (XP:=XL Lw.vw []) (Yf:=λs=>Lw.kW (L3.Hd.kOf Lw.hAs s.heap)) (Ya:=λ_=>Lw.kX) (YP:=λ_ h=>L3.Hd.says Lw.kW Lw.kX h) (N:=12114) Lw.UC (λw s e=>L3.Hd.says_of Lw.hAs s e) (λw h h' a b=>L3.Hd.says_keeps a b) (λs e=>xl_of s (Bool.and_eq_true_iff.mp e).1) XL.keeps (by rfl) (by rfl) (by rfl) (λs e=>recFacts_of (Bool.and_eq_true_iff.mp e).2) (by rfl) (by first | assumption | decide +kernel) (by decide +kernel) ⟨rfl,rfl,rfl,rfl,rfl,by decide +kernel⟩ ?hw ?hc
 case hw=>w_witness2
 refine L3.P1 (l:=PySem.Challenge.rw_doughhours_k27_ways) (k:=9) (x:="_law_script") (F:=Lw.wT) rfl rfl ⟨rfl,by decide,by decide,rfl⟩ ?F Lw.law_true;intro w mg fa h Y G hmg;obtain ⟨K,KX,e⟩:=Y;exact ⟨K,KX,Lw.j6Y KX G hmg e⟩
end
