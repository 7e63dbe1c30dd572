import PyProof.Rows.All
import Wide.All
import OpenK.AllK
import Wide.FinOn
import Lean
import PyProof.EqAt
import PyProof.EqKinds
import PyProof.TupleCall
import PyProof.ExcAttrAll.ValueError
import PyProof.FString4
import PyProof.FString5
import PyProof.StrLawsRepr
import PyProof.Rows.SetFrom
import KE.KSortTup
import PyProof.NeKinds
import PyProof.Rows.MinMaxN
import KE.KDictSum
import PySem.Challenge.RW_bidmover_k30_hall_begins
set_option Elab.async false
set_option linter.all false
set_option maxRecDepth 100000
namespace L2
open PySem PySem.W
def JJ (s:Stmt) (j:Nat):Stmt:=match s with
 | .ClassDef _ _ _ body _ _ _ _ _ _ _=>body.getD j (.Pass ⟨0,0,0,0⟩)
 | _=>.Pass ⟨0,0,0,0⟩
def JeG (s:Stmt):Arguments:=match s with
 | .FunctionDef _ a _ _ _ _ _ _ _ _=>a
 | _=>{ posonlyargs:=[],args:=[],vararg:=none,kwonlyargs:=[],kw_defaults:=[],kwarg:=none,defaults:=[] }
def Jb1 (s:Stmt):List Stmt:=match s with
 | .FunctionDef _ _ b _ _ _ _ _ _ _=>b
 | _=>[]
def Jl (s:Stmt):Scope:=match s with
 | .FunctionDef _ _ _ _ _ _ sc _ _ _=>sc
 | _=>{ kind:=.function,names:=[],isGenerator:=false,isCoroutine:=false }
def JvX (s:Stmt):Pos:=match s with
 | .FunctionDef _ _ _ _ _ _ _ _ _ p=>p
 | _=>⟨0,0,0,0⟩
def JrS (h:Heap):Frag:=h.objs.toList.zipIdx.filterMap fun x=>(alive x.1).map fun o=>(x.2,o)
theorem JrR (h:Heap):(JrS h).In h:=by
 intro a o e;have key:∀ (l:List Obj) (k:Nat),((l.zipIdx k).filterMap fun x=>(alive x.1).map fun o=>(x.2,o)).lookup a=some o→k≤a∧∃ u,l[a - k]?=some u∧alive u=some o:=by
  intro l
  induction l with
  | nil=>intro k e; cases e
  | cons b l ih =>
   intro k e;rw [List.zipIdx_cons,List.filterMap_cons] at e;have next:((l.zipIdx (k + 1)).filterMap fun x=>(alive x.1).map fun o=>(x.2,o)).lookup a=some o→k≤a∧∃ u,(b :: l)[a - k]?=some u∧alive u=some o:=fun e=>by
    obtain ⟨h1,u,h2,h3⟩:=ih (k + 1) e;refine ⟨by omega,u,?_,h3⟩;have e:a - k=(a - (k + 1)) + 1:=(Nat.succ_pred_eq_of_pos (Nat.sub_pos_of_lt h1)).symm;rw [e,List.getElem?_cons_succ];exact h2
   cases hb:alive b with
   | none =>
    have e:((l.zipIdx (k + 1)).filterMap fun x=>(alive x.1).map fun o=>(x.2,o)).lookup a=some o:=by
     simp only [hb,Option.map_none] at e;exact e
    exact next e
   | some u =>
    have e:List.lookup a ((k,u) :: ((l.zipIdx (k + 1)).filterMap fun x=>(alive x.1).map fun o=>(x.2,o)))=some o:=by
     simp only [hb,Option.map_some] at e;exact e
    rw [List.lookup_cons] at e;cases hab:a == k with
    | true =>
     rw [hab] at e;have ak:=beq_iff_eq.mp hab;subst ak;refine ⟨Nat.le_refl _,b,by rw [Nat.sub_self]; rfl,?_⟩;rw [hb]; exact e
    | false=>rw [hab] at e; exact next e
 obtain ⟨_,u,h2,h3⟩:=key _ 0 e;rw [Nat.sub_zero,Array.getElem?_toList] at h2;unfold Heap.get?;rw [h2];obtain ⟨c,d,dt,sl⟩:=u;cases dt <;> exact h3
def Jc (K:Frag) (n:Str):Addr:=match nsIn K mainGlobals n with
 | some (some (.ref k))=>k
 | _=>0
def JO (K:Frag) (n:Str):Bool:=match nsIn K mainGlobals n with
 | some (some (.ref _))=>true
 | _=>false
theorem Js {K:Frag} {n:Str} (h:JO K n=true):nsIn K mainGlobals n=some (some (.ref (Jc K n))):=by
 unfold JO at h;unfold Jc;split at h
 ·rename_i k e; rw [e]
 ·cases h
def Jk (K:Frag) (n m:Str):Addr:=match findIn K (.ref (Jc K n)) m with
 | some (some (.ref k))=>k
 | _=>0
def JP (K:Frag) (n m:Str):Bool:=match findIn K (.ref (Jc K n)) m with
 | some (some (.ref _))=>true
 | _=>false
theorem Jr {K:Frag} {n m:Str} (h:JP K n m=true):findIn K (.ref (Jc K n)) m=some (some (.ref (Jk K n m))):=by
 unfold JP at h;unfold Jk;split at h
 ·rename_i k e; rw [e]
 ·cases h
def JC (K:Frag) (f:Addr):FuncData:=match K.lookup f with
 | some ⟨_,_,.func fd,_⟩=>fd
 | _=>default
def JqD (fd:FuncData):FuncData:={ fd with kwdefaults:=.none,doc:=.none,pyModule:=.none,annotations:=none,code:=.none,closureTuple:=.none }
def JS (K:Frag) (f:Addr) (q:Str):Option (FuncData×Bool):=match K.lookup f with
 | some ⟨_,_,.func fd,_⟩=>some (JqD fd,codeIn K fd.code q && keepIn K (.ref f))
 | _=>none
abbrev JV (x q:Str) (st:Stmt):Option (FuncData×Bool):=some (fnOf x q (JeG st) (Jb1 st) (Jl st) .none .none .none .none none .none .none,true)
theorem Jrs {K:Frag} {f:Addr} {x q:Str} {st:Stmt} (h:JS K f q=JV x q st):∃ (oc:Value) (od:Option Addr) (kV doc pm:Value) (an:Option Addr) (cdv ct:Value) (osl:Array (Option Value)),
  JC K f=fnOf x q (JeG st) (Jb1 st) (Jl st) .none kV doc pm an cdv ct∧K.lookup f=some ⟨oc,od,.func (JC K f),osl⟩∧codeIn K cdv q=true∧keepIn K (.ref f)=true:=by
 unfold JS at h;unfold JC;split at h
 ·rename_i oc od fd sl e;rw [e];have h:=Option.some.inj h;have h1:=congrArg Prod.fst h;have h2:(codeIn K fd.code q && keepIn K (.ref f))=true:=congrArg Prod.snd h;rw [Bool.and_eq_true] at h2;obtain ⟨n,qn,ps,b,sc,gl,cl,df,kd,dc,pm,an,cd,ct,bu⟩:=fd;have h1:JqD ⟨n,qn,ps,b,sc,gl,cl,df,kd,dc,pm,an,cd,ct,bu⟩=fnOf x q (JeG st) (Jb1 st) (Jl st) .none .none .none .none none .none .none:=h1;unfold JqD fnOf at h1;simp only [FuncData.mk.injEq] at h1;obtain ⟨rfl,rfl,rfl,rfl,rfl,rfl,rfl,rfl,_,_,_,_,_,_,rfl⟩:=h1;exact ⟨oc,od,kd,dc,pm,an,cd,ct,sl,rfl,rfl,h2.1,h2.2⟩
 ·cases h
def Jhn:Value→Option (Sum Int Str)
 | .int i _=>some (.inl i)
 | .str x _=>some (.inr x)
 | _=>none
def obV (K:Frag) (n:Str):Option (Sum Int Str):=match nsIn K mainGlobals n with
 | some (some v)=>Jhn v
 | _=>none
theorem JuD {K:Frag} {n:Str} {i:Int} (h:obV K n=some (.inl i)):∃ t,nsIn K mainGlobals n=some (some (.int i t)):=by
 unfold obV at h;split at h
 ·rename_i v e;unfold Jhn at h;split at h
  ·cases h; exact ⟨_,e⟩
  ·cases h
  ·cases h
 ·cases h
def obT (K:Frag) (n:Str):Option (Bool×List (Option (Sum Int Str))):=match K.lookup (Jc K n) with
 | some ⟨.type "tuple",_,.seq its _,_⟩=>some (decide (its.size≤1000),its.toList.map Jhn)
 | _=>none
theorem at_ {α:Type} {l l':List α} (h:l=l') (i:Nat):l[i]?=l'[i]?:=by rw [h]
def JgB (okf:Thread→Bool) (stf:SharedT→Thread→Option (SharedT×Thread)):Nat→SharedT→Thread→Option SharedT
 | 0,_,_=>none
 | n + 1,s,t=>match through t with
  | true=>some s
  | false=>match okf t with
   | false=>none
   | true=>match stf s t with
    | some (s',t')=>JgB okf stf n s' t'
    | none=>none
theorem JkK {tb:String→Option Builtin} {p:Program} {w:World} {n₀:Nat} {ann:Option Value}:∀ {n:Nat} {s s':SharedT} {t:Thread},JgB (stepOk n₀ ann) (stepT (denote tb) p w) n s t=some s'→topRun tb p w n₀ ann n s.abs t=some s'.abs
 | 0,_,_,_,h=>nomatch h
 | n + 1,s,s',t,h=>by
  unfold JgB at h;unfold topRun;split at h
  ·rename_i e; rw [e]; cases h; rfl
  ·rename_i e; rw [e];split at h
   ·cases h
   ·rename_i e2; rw [e2];split at h
    ·rename_i s2 t2 e3;rw [stepT_spec e3];exact JkK h
    ·cases h
noncomputable def Jlz (p:Program) (w:World) (N:Nat) (s:SharedT):Option SharedT :=
 JgB (Fast.tw6613529449190102663 ((boot_heap w.params).objs.size) ((boot_heap w.params).nsMap mainGlobals "__annotations__")) (Fast.tw10156331382660048174 (Fast.tw11892475500146522536 Fast.tw14364793385576792824) p w) N s (topStub p)
theorem JpU {p:Program} {w:World} {N:Nat} {s:SharedT}:Jlz p w N s=JgB (stepOk ((boot_heap w.params).objs.size) ((boot_heap w.params).nsMap mainGlobals "__annotations__")) (stepT (denote treeTable) p w) N s (topStub p):=by
 rw [Fast.te6613529449190102663,Fast.te10156331382660048174,Fast.te11892475500146522536,Fast.te14364793385576792824];rfl
noncomputable def JkA (P:Params):BT:=(boot_heap P).objs.toList.zipIdx.foldl (fun t x=>t.ins x.2 x.1) .nil
noncomputable def JqC (P:Params) (os:OsState):SharedT:=⟨JkA P,(boot_heap P).objs.size,(boot_heap P).life,Array.mk [],boot_drawn,boot_toks,os⟩
theorem Jsc (P:Params) (os:OsState):(JqC P os).abs=⟨boot_heap P,Array.mk [],boot_drawn,boot_toks,os⟩:=by
 show (⟨absHeap (JkA P) (boot_heap P).objs.size (boot_heap P).life,_,_,_,_⟩:Shared)=_;have e:absHeap (JkA P) (boot_heap P).objs.size (boot_heap P).life=boot_heap P:=by kernel_rfl
 rw [e]; rfl
noncomputable def Jp3 {α:Type} (p q:Program) (loose:List Str) (Xt:Shared→Bool) (Yf:Shared→α) (P:Params) (s:Shared) :=
 (staticsOk (importedModules p.main.body) (boot_heap P) s.heap && namesBound p s.heap && gensDone s && laidKept (boot_heap P) s.heap,Fast.tw4187177175401517315 q loose (importedModules p.main.body) Xt true s,Yf s)
theorem JuL {p q:Program} {loose:List Str} {Xt:Shared→Bool} {α:Type} {Yf:Shared→α} {Ya:World→α} {N:Nat} (e:opening p=plainProg p.main.scope.names) (hN:Nat.ble 600 N=true) (f:∀ s,fenceModules? p s=some s)
  (h:∀ (w:World) (os:OsState),(Jlz p w N (JqC w.params os)).map (fun s=>Jp3 p q loose Xt Yf w.params s.abs)=some (true,openGood q loose,Ya w))
  (hb:∀ P:Params,((boot_heap P).isNs mainGlobals && (Array.mk ([]:List GenState)).size == 0)=true):LeftO p q loose Xt Yf Ya N:=by
 intro w;have o:=boot_open e hN f w;obtain ⟨s0,e0,e1⟩:=Option.map_eq_some_iff.mp o;obtain ⟨h0,g0,d0,k0,os⟩:=s0;obtain ⟨rfl,rfl,rfl,rfl⟩:h0=boot_heap w.params∧g0=Array.mk []∧d0=boot_drawn∧k0=boot_toks:=by simpa using e1
 obtain ⟨s1,r1,l1⟩:=Option.map_eq_some_iff.mp (h w os);rw [JpU] at r1;have r:=JkK r1;rw [Jsc] at r;have l:(staticsOk (importedModules p.main.body) (boot_heap w.params) s1.abs.heap && namesBound p s1.abs.heap && gensDone s1.abs && laidKept (boot_heap w.params) s1.abs.heap)=true∧openSeen q loose (importedModules p.main.body) Xt true s1.abs=openGood q loose∧Yf s1.abs=Ya w:=by
  have z:=l1;unfold Jp3 at z;rw [← Fast.te4187177175401517315] at z;exact ⟨congrArg Prod.fst z,congrArg (fun x=>x.2.1) z,congrArg (fun x=>x.2.2) z⟩
 have t:topFrom treeTable p w N ⟨boot_heap w.params,Array.mk [],boot_drawn,boot_toks,os⟩=some s1.abs:=by
  unfold topFrom;dsimp only;rw [hb w.params,r];show (match staticsOk (importedModules p.main.body) (boot_heap w.params) s1.abs.heap && namesBound p s1.abs.heap && gensDone s1.abs && laidKept (boot_heap w.params) s1.abs.heap with | true=>_ | false=>_)=_;rw [l.1]
 unfold openEnds;rw [e0];show (topFrom treeTable p w N _).map _=_;rw [t];exact congrArg some (Prod.ext l.2.1 l.2.2)
end L2
namespace Pf
open PySem PySem.W L2
abbrev pg:Program:=PySem.Challenge.pw_bidmover_k30_hall_begins
def JX (i:Nat):Stmt:=pg.main.body.getD i (.Pass ⟨0,0,0,0⟩)
def qv:Program:={ pg with main:={ pg.main with body:=[JX 77] } }
def lo0:List Str:=(["_wall", "good_name", "check_hand", "other", "check_up_to", "check_coins", "check_bid", "check_standing", "ended", "coins_of", "pay", "settle", "turn_begin", "check_new", "find_kept", "check_each_once", "check_among", "check_places", "check_lanes", "check_goals", "_law_at", "_law_row", "_law_whole", "_law_names", "_law_pairs", "_law_goals", "_law_ground", "_law_ways", "_law_foe", "_law_hand", "_law_won", "_law_which", "_law_holds", "_law_flat", "_law_deeds", "_law_due", "_law_hall_shows", "_law_number", "_law_any_hand", "_law_any_place", "_law_try", "_law_refusal", "_law_new_name", "BidmoverError", "BadName", "BadHand", "OutOfRange", "Twice", "NoPlace", "BadBid", "NoLane", "NotDue", "NothingDone", "Taken", "Full", "Missing", "Book", "Moment", "Game", "Hall", "Board", "HANDS", "MOST_SIGNS", "MOST_TURNS", "MOST_COINS", "MOST_BOARDS", "MOST_GAMES", "MOST_PLACES", "MOST_LANES"]:List String).map Str.ofString
abbrev Jpp:Stmt:=JX 0
abbrev Jc7:Stmt:=JX 18
abbrev JeO:Stmt:=JX 19
abbrev JlL:Stmt:=JX 20
abbrev JdJ:Stmt:=JX 24
abbrev JdM:Stmt:=JX 25
abbrev JjA:Stmt:=JX 26
abbrev JbE:Stmt:=JX 27
abbrev JlN:Stmt:=JX 28
abbrev JkT:Stmt:=JX 29
abbrev JtO:Stmt:=JX 30
abbrev JnQ:Stmt:=JX 31
abbrev Jgl:Stmt:=JJ (JX 33) 0
abbrev Jbh:Stmt:=JJ (JX 33) 1
abbrev JcR:Stmt:=JJ (JX 33) 2
abbrev YT:Stmt:=JJ (JX 33) 3
abbrev YS:Stmt:=JJ (JX 33) 4
abbrev Jdk:Stmt:=JJ (JX 33) 5
abbrev JhD:Stmt:=JJ (JX 33) 6
abbrev Jic:Stmt:=JJ (JX 33) 7
abbrev JhE:Stmt:=JJ (JX 33) 8
abbrev JeW:Stmt:=JJ (JX 33) 9
abbrev Jdl:Stmt:=JJ (JX 33) 10
abbrev JgE:Stmt:=JJ (JX 33) 11
abbrev JdO:Stmt:=JJ (JX 35) 0
abbrev JeL:Stmt:=JX 36
abbrev Jgk:Stmt:=JJ (JX 37) 0
abbrev Jb4:Stmt:=JJ (JX 37) 1
abbrev Jhd:Stmt:=JJ (JX 37) 2
abbrev JeT:Stmt:=JJ (JX 37) 3
abbrev JeU:Stmt:=JJ (JX 37) 4
abbrev Jgj:Stmt:=JJ (JX 37) 5
abbrev JhB:Stmt:=JJ (JX 37) 6
abbrev JjF:Stmt:=JJ (JX 37) 7
abbrev JeV:Stmt:=JJ (JX 37) 8
abbrev Jib:Stmt:=JJ (JX 37) 9
abbrev JkV:Stmt:=JJ (JX 37) 10
abbrev JhC:Stmt:=JJ (JX 37) 11
abbrev JjG:Stmt:=JJ (JX 37) 12
abbrev JjH:Stmt:=JJ (JX 37) 13
abbrev Jgf:Stmt:=JX 41
abbrev Jge:Stmt:=JX 42
abbrev Jgi:Stmt:=JJ (JX 43) 0
abbrev JbF:Stmt:=JJ (JX 43) 1
abbrev Jb3:Stmt:=JJ (JX 43) 2
abbrev JeS:Stmt:=JJ (JX 43) 3
abbrev JcQ:Stmt:=JJ (JX 43) 4
abbrev JjD:Stmt:=JJ (JX 43) 5
abbrev Jhz:Stmt:=JJ (JX 43) 6
abbrev JeQ:Stmt:=JJ (JX 43) 7
abbrev Jb2:Stmt:=JJ (JX 43) 8
abbrev Jhc:Stmt:=JJ (JX 43) 9
abbrev JeP:Stmt:=JJ (JX 43) 10
abbrev JeR:Stmt:=JJ (JX 43) 11
abbrev Jgh:Stmt:=JJ (JX 43) 12
abbrev Jhy:Stmt:=JJ (JX 43) 13
abbrev JjB:Stmt:=JJ (JX 43) 14
abbrev JkU:Stmt:=JJ (JX 43) 15
abbrev JhA:Stmt:=JJ (JX 43) 16
abbrev JjC:Stmt:=JJ (JX 43) 17
abbrev JjE:Stmt:=JJ (JX 43) 18
abbrev Jia:Stmt:=JJ (JX 43) 19
abbrev Jh9:Stmt:=JJ (JX 43) 20
abbrev Jbg:Stmt:=JX 47
abbrev JdN:Stmt:=JX 48
abbrev JcP:Stmt:=JX 49
abbrev JdK:Stmt:=JX 50
abbrev JdL:Stmt:=JX 51
abbrev JeX:Stmt:=JJ (JX 52) 0
abbrev JaC:Stmt:=JJ (JX 52) 1
abbrev Jb5:Stmt:=JJ (JX 52) 2
abbrev Jb6:Stmt:=JJ (JX 52) 3
abbrev JsT:Stmt:=JX 54
abbrev Jp8:Stmt:=JX 55
abbrev JlJ:Stmt:=JX 56
abbrev Jji:Stmt:=JX 57
abbrev JlK:Stmt:=JX 58
abbrev Jjj:Stmt:=JX 59
abbrev JeN:Stmt:=JX 60
abbrev JkS:Stmt:=JX 61
abbrev Jp9:Stmt:=JX 62
abbrev JnR:Stmt:=JX 63
abbrev Jp6:Stmt:=JX 64
abbrev Jjh:Stmt:=JX 65
abbrev JlM:Stmt:=JX 66
abbrev JnS:Stmt:=JX 67
abbrev JlO:Stmt:=JX 68
abbrev Jqa:Stmt:=JX 69
abbrev JeM:Stmt:=JX 70
abbrev Jkc:Stmt:=JX 71
abbrev Jhb:Stmt:=JX 72
abbrev Jgg:Stmt:=JX 73
abbrev Jp7:Stmt:=JX 74
abbrev Jh8:Stmt:=JX 75
abbrev Jha:Stmt:=JX 76
abbrev JfR:Stmt:=JX 77
def JsN (K:Frag):List (Bool):=[JO K "_wall",
 JO K "good_name",
 JO K "check_hand",
 JO K "other",
 JO K "check_up_to",
 JO K "check_coins",
 JO K "check_bid",
 JO K "check_standing",
 JO K "ended",
 JO K "coins_of",
 JO K "pay",
 JO K "settle",
 JP K "Book" "__init__",
 PySem.W.isFn K (.ref (Jk K "Book" "__init__")),
 JP K "Book" "needs_with",
 PySem.W.isFn K (.ref (Jk K "Book" "needs_with")),
 JP K "Book" "need_at",
 PySem.W.isFn K (.ref (Jk K "Book" "need_at")),
 JP K "Book" "need_where_north_leads",
 PySem.W.isFn K (.ref (Jk K "Book" "need_where_north_leads")),
 JP K "Book" "need_where_south_leads",
 PySem.W.isFn K (.ref (Jk K "Book" "need_where_south_leads")),
 JP K "Book" "check_share",
 PySem.W.isFn K (.ref (Jk K "Book" "check_share")),
 JP K "Book" "winner",
 PySem.W.isFn K (.ref (Jk K "Book" "winner")),
 JP K "Book" "least",
 PySem.W.isFn K (.ref (Jk K "Book" "least")),
 JP K "Book" "bid_of",
 PySem.W.isFn K (.ref (Jk K "Book" "bid_of")),
 JP K "Book" "answer_of",
 PySem.W.isFn K (.ref (Jk K "Book" "answer_of")),
 JP K "Book" "answer_wins",
 PySem.W.isFn K (.ref (Jk K "Book" "answer_wins")),
 JP K "Book" "step_of",
 PySem.W.isFn K (.ref (Jk K "Book" "step_of")),
 JP K "Moment" "__init__",
 PySem.W.isFn K (.ref (Jk K "Moment" "__init__")),
 JO K "turn_begin",
 JP K "Game" "__init__",
 PySem.W.isFn K (.ref (Jk K "Game" "__init__")),
 JP K "Game" "standing",
 PySem.W.isFn K (.ref (Jk K "Game" "standing")),
 JP K "Game" "due",
 PySem.W.isFn K (.ref (Jk K "Game" "due")),
 JP K "Game" "named",
 PySem.W.isFn K (.ref (Jk K "Game" "named")),
 JP K "Game" "deeds",
 PySem.W.isFn K (.ref (Jk K "Game" "deeds")),
 JP K "Game" "over",
 PySem.W.isFn K (.ref (Jk K "Game" "over")),
 JP K "Game" "winner",
 PySem.W.isFn K (.ref (Jk K "Game" "winner")),
 JP K "Game" "told",
 PySem.W.isFn K (.ref (Jk K "Game" "told")),
 JP K "Game" "check_due",
 PySem.W.isFn K (.ref (Jk K "Game" "check_due")),
 JP K "Game" "go_on",
 PySem.W.isFn K (.ref (Jk K "Game" "go_on")),
 JP K "Game" "bid",
 PySem.W.isFn K (.ref (Jk K "Game" "bid")),
 JP K "Game" "answer",
 PySem.W.isFn K (.ref (Jk K "Game" "answer")),
 JP K "Game" "step",
 PySem.W.isFn K (.ref (Jk K "Game" "step")),
 JP K "Game" "back",
 PySem.W.isFn K (.ref (Jk K "Game" "back")),
 JO K "check_new",
 JO K "find_kept",
 JP K "Hall" "__init__",
 PySem.W.isFn K (.ref (Jk K "Hall" "__init__")),
 JP K "Hall" "add_board",
 PySem.W.isFn K (.ref (Jk K "Hall" "add_board")),
 JP K "Hall" "board_of",
 PySem.W.isFn K (.ref (Jk K "Hall" "board_of")),
 JP K "Hall" "begin",
 PySem.W.isFn K (.ref (Jk K "Hall" "begin")),
 JP K "Hall" "game_of",
 PySem.W.isFn K (.ref (Jk K "Hall" "game_of")),
 JP K "Hall" "drop",
 PySem.W.isFn K (.ref (Jk K "Hall" "drop")),
 JP K "Hall" "boards",
 PySem.W.isFn K (.ref (Jk K "Hall" "boards")),
 JP K "Hall" "games",
 PySem.W.isFn K (.ref (Jk K "Hall" "games")),
 JP K "Hall" "standing",
 PySem.W.isFn K (.ref (Jk K "Hall" "standing")),
 JP K "Hall" "due",
 PySem.W.isFn K (.ref (Jk K "Hall" "due")),
 JP K "Hall" "named",
 PySem.W.isFn K (.ref (Jk K "Hall" "named")),
 JP K "Hall" "deeds",
 PySem.W.isFn K (.ref (Jk K "Hall" "deeds")),
 JP K "Hall" "over",
 PySem.W.isFn K (.ref (Jk K "Hall" "over")),
 JP K "Hall" "winner",
 PySem.W.isFn K (.ref (Jk K "Hall" "winner")),
 JP K "Hall" "told",
 PySem.W.isFn K (.ref (Jk K "Hall" "told")),
 JP K "Hall" "bid",
 PySem.W.isFn K (.ref (Jk K "Hall" "bid")),
 JP K "Hall" "answer",
 PySem.W.isFn K (.ref (Jk K "Hall" "answer")),
 JP K "Hall" "step",
 PySem.W.isFn K (.ref (Jk K "Hall" "step")),
 JP K "Hall" "back",
 PySem.W.isFn K (.ref (Jk K "Hall" "back")),
 JP K "Hall" "judge",
 PySem.W.isFn K (.ref (Jk K "Hall" "judge")),
 JP K "Hall" "least",
 PySem.W.isFn K (.ref (Jk K "Hall" "least")),
 JO K "check_each_once",
 JO K "check_among",
 JO K "check_places",
 JO K "check_lanes",
 JO K "check_goals",
 JP K "Board" "__init__",
 PySem.W.isFn K (.ref (Jk K "Board" "__init__")),
 JP K "Board" "check_place",
 PySem.W.isFn K (.ref (Jk K "Board" "check_place")),
 JP K "Board" "ways",
 PySem.W.isFn K (.ref (Jk K "Board" "ways")),
 JP K "Board" "is_goal",
 PySem.W.isFn K (.ref (Jk K "Board" "is_goal")),
 JO K "_law_at",
 JO K "_law_row",
 JO K "_law_whole",
 JO K "_law_names",
 JO K "_law_pairs",
 JO K "_law_goals",
 JO K "_law_ground",
 JO K "_law_ways",
 JO K "_law_foe",
 JO K "_law_hand",
 JO K "_law_won",
 JO K "_law_which",
 JO K "_law_holds",
 JO K "_law_flat",
 JO K "_law_deeds",
 JO K "_law_due",
 JO K "_law_hall_shows",
 JO K "_law_number",
 JO K "_law_any_hand",
 JO K "_law_any_place",
 JO K "_law_try",
 JO K "_law_refusal",
 JO K "_law_new_name",
 JO K "law",
 JO K "HANDS",
 JO K "BidmoverError",
 JO K "BadName",
 JO K "BadHand",
 JO K "OutOfRange",
 JO K "Twice",
 JO K "NoPlace",
 JO K "BadBid",
 JO K "NoLane",
 JO K "NotDue",
 JO K "NothingDone",
 JO K "Taken",
 JO K "Full",
 JO K "Missing",
 JO K "Book",
 JO K "Moment",
 JO K "Game",
 JO K "Hall",
 JO K "Board",
 PySem.W.plainGet K (Jc K "Book") Str.empty,
 PySem.W.hasDictIn K (Jc K "Book"),
 PySem.W.plainOver K (Jc K "Book"),
 PySem.W.makesIn K (Jc K "Book"),
 PySem.W.keepIn K (.ref (Jc K "Book")),
 PySem.W.plainGet K (Jc K "Moment") Str.empty,
 PySem.W.hasDictIn K (Jc K "Moment"),
 PySem.W.plainOver K (Jc K "Moment"),
 PySem.W.makesIn K (Jc K "Moment"),
 PySem.W.keepIn K (.ref (Jc K "Moment")),
 PySem.W.plainGet K (Jc K "Game") Str.empty,
 PySem.W.hasDictIn K (Jc K "Game"),
 PySem.W.plainOver K (Jc K "Game"),
 PySem.W.makesIn K (Jc K "Game"),
 PySem.W.keepIn K (.ref (Jc K "Game")),
 PySem.W.plainGet K (Jc K "Hall") Str.empty,
 PySem.W.hasDictIn K (Jc K "Hall"),
 PySem.W.plainOver K (Jc K "Hall"),
 PySem.W.makesIn K (Jc K "Hall"),
 PySem.W.keepIn K (.ref (Jc K "Hall")),
 PySem.W.plainGet K (Jc K "Board") Str.empty,
 PySem.W.hasDictIn K (Jc K "Board"),
 PySem.W.plainOver K (Jc K "Board"),
 PySem.W.makesIn K (Jc K "Board"),
 PySem.W.keepIn K (.ref (Jc K "Board")),
 PySem.W.excIn K (Jc K "BadHand") [.type "ValueError",.type "Exception",.type "BaseException",.type "object"] "ValueError.__new__",
 (PySem.W.clsIn K (Jc K "BadHand")).isSome,
 PySem.W.excIn K (Jc K "OutOfRange") [.type "ValueError",.type "Exception",.type "BaseException",.type "object"] "ValueError.__new__",
 (PySem.W.clsIn K (Jc K "OutOfRange")).isSome,
 PySem.W.excIn K (Jc K "BadBid") [.type "ValueError",.type "Exception",.type "BaseException",.type "object"] "ValueError.__new__",
 (PySem.W.clsIn K (Jc K "BadBid")).isSome,
 PySem.W.excIn K (Jc K "NotDue") [.type "ValueError",.type "Exception",.type "BaseException",.type "object"] "ValueError.__new__",
 (PySem.W.clsIn K (Jc K "NotDue")).isSome,
 PySem.W.excIn K (Jc K "NoLane") [.type "ValueError",.type "Exception",.type "BaseException",.type "object"] "ValueError.__new__",
 (PySem.W.clsIn K (Jc K "NoLane")).isSome,
 PySem.W.excIn K (Jc K "BadName") [.type "ValueError",.type "Exception",.type "BaseException",.type "object"] "ValueError.__new__",
 (PySem.W.clsIn K (Jc K "BadName")).isSome,
 PySem.W.excIn K (Jc K "Taken") [.type "ValueError",.type "Exception",.type "BaseException",.type "object"] "ValueError.__new__",
 (PySem.W.clsIn K (Jc K "Taken")).isSome,
 PySem.W.excIn K (Jc K "Full") [.type "ValueError",.type "Exception",.type "BaseException",.type "object"] "ValueError.__new__",
 (PySem.W.clsIn K (Jc K "Full")).isSome,
 PySem.W.excIn K (Jc K "Missing") [.type "ValueError",.type "Exception",.type "BaseException",.type "object"] "ValueError.__new__",
 (PySem.W.clsIn K (Jc K "Missing")).isSome,
 PySem.W.excIn K (Jc K "Twice") [.type "ValueError",.type "Exception",.type "BaseException",.type "object"] "ValueError.__new__",
 (PySem.W.clsIn K (Jc K "Twice")).isSome,
 PySem.W.excIn K (Jc K "NoPlace") [.type "ValueError",.type "Exception",.type "BaseException",.type "object"] "ValueError.__new__",
 (PySem.W.clsIn K (Jc K "NoPlace")).isSome]
def isB:List (Bool):=List.replicate 214 true
def JsM (K:Frag):List (Option (FuncData×Bool)):=[JS K (Jc K "_wall") "_wall",
 JS K (Jc K "good_name") "good_name",
 JS K (Jc K "check_hand") "check_hand",
 JS K (Jc K "other") "other",
 JS K (Jc K "check_up_to") "check_up_to",
 JS K (Jc K "check_coins") "check_coins",
 JS K (Jc K "check_bid") "check_bid",
 JS K (Jc K "check_standing") "check_standing",
 JS K (Jc K "ended") "ended",
 JS K (Jc K "coins_of") "coins_of",
 JS K (Jc K "pay") "pay",
 JS K (Jc K "settle") "settle",
 JS K (Jk K "Book" "__init__") "Book.__init__",
 JS K (Jk K "Book" "needs_with") "Book.needs_with",
 JS K (Jk K "Book" "need_at") "Book.need_at",
 JS K (Jk K "Book" "need_where_north_leads") "Book.need_where_north_leads",
 JS K (Jk K "Book" "need_where_south_leads") "Book.need_where_south_leads",
 JS K (Jk K "Book" "check_share") "Book.check_share",
 JS K (Jk K "Book" "winner") "Book.winner",
 JS K (Jk K "Book" "least") "Book.least",
 JS K (Jk K "Book" "bid_of") "Book.bid_of",
 JS K (Jk K "Book" "answer_of") "Book.answer_of",
 JS K (Jk K "Book" "answer_wins") "Book.answer_wins",
 JS K (Jk K "Book" "step_of") "Book.step_of",
 JS K (Jk K "Moment" "__init__") "Moment.__init__",
 JS K (Jc K "turn_begin") "turn_begin",
 JS K (Jk K "Game" "__init__") "Game.__init__",
 JS K (Jk K "Game" "standing") "Game.standing",
 JS K (Jk K "Game" "due") "Game.due",
 JS K (Jk K "Game" "named") "Game.named",
 JS K (Jk K "Game" "deeds") "Game.deeds",
 JS K (Jk K "Game" "over") "Game.over",
 JS K (Jk K "Game" "winner") "Game.winner",
 JS K (Jk K "Game" "told") "Game.told",
 JS K (Jk K "Game" "check_due") "Game.check_due",
 JS K (Jk K "Game" "go_on") "Game.go_on",
 JS K (Jk K "Game" "bid") "Game.bid",
 JS K (Jk K "Game" "answer") "Game.answer",
 JS K (Jk K "Game" "step") "Game.step",
 JS K (Jk K "Game" "back") "Game.back",
 JS K (Jc K "check_new") "check_new",
 JS K (Jc K "find_kept") "find_kept",
 JS K (Jk K "Hall" "__init__") "Hall.__init__",
 JS K (Jk K "Hall" "add_board") "Hall.add_board",
 JS K (Jk K "Hall" "board_of") "Hall.board_of",
 JS K (Jk K "Hall" "begin") "Hall.begin",
 JS K (Jk K "Hall" "game_of") "Hall.game_of",
 JS K (Jk K "Hall" "drop") "Hall.drop",
 JS K (Jk K "Hall" "boards") "Hall.boards",
 JS K (Jk K "Hall" "games") "Hall.games",
 JS K (Jk K "Hall" "standing") "Hall.standing",
 JS K (Jk K "Hall" "due") "Hall.due",
 JS K (Jk K "Hall" "named") "Hall.named",
 JS K (Jk K "Hall" "deeds") "Hall.deeds",
 JS K (Jk K "Hall" "over") "Hall.over",
 JS K (Jk K "Hall" "winner") "Hall.winner",
 JS K (Jk K "Hall" "told") "Hall.told",
 JS K (Jk K "Hall" "bid") "Hall.bid",
 JS K (Jk K "Hall" "answer") "Hall.answer",
 JS K (Jk K "Hall" "step") "Hall.step",
 JS K (Jk K "Hall" "back") "Hall.back",
 JS K (Jk K "Hall" "judge") "Hall.judge",
 JS K (Jk K "Hall" "least") "Hall.least",
 JS K (Jc K "check_each_once") "check_each_once",
 JS K (Jc K "check_among") "check_among",
 JS K (Jc K "check_places") "check_places",
 JS K (Jc K "check_lanes") "check_lanes",
 JS K (Jc K "check_goals") "check_goals",
 JS K (Jk K "Board" "__init__") "Board.__init__",
 JS K (Jk K "Board" "check_place") "Board.check_place",
 JS K (Jk K "Board" "ways") "Board.ways",
 JS K (Jk K "Board" "is_goal") "Board.is_goal",
 JS K (Jc K "_law_at") "_law_at",
 JS K (Jc K "_law_row") "_law_row",
 JS K (Jc K "_law_whole") "_law_whole",
 JS K (Jc K "_law_names") "_law_names",
 JS K (Jc K "_law_pairs") "_law_pairs",
 JS K (Jc K "_law_goals") "_law_goals",
 JS K (Jc K "_law_ground") "_law_ground",
 JS K (Jc K "_law_ways") "_law_ways",
 JS K (Jc K "_law_foe") "_law_foe",
 JS K (Jc K "_law_hand") "_law_hand",
 JS K (Jc K "_law_won") "_law_won",
 JS K (Jc K "_law_which") "_law_which",
 JS K (Jc K "_law_holds") "_law_holds",
 JS K (Jc K "_law_flat") "_law_flat",
 JS K (Jc K "_law_deeds") "_law_deeds",
 JS K (Jc K "_law_due") "_law_due",
 JS K (Jc K "_law_hall_shows") "_law_hall_shows",
 JS K (Jc K "_law_number") "_law_number",
 JS K (Jc K "_law_any_hand") "_law_any_hand",
 JS K (Jc K "_law_any_place") "_law_any_place",
 JS K (Jc K "_law_try") "_law_try",
 JS K (Jc K "_law_refusal") "_law_refusal",
 JS K (Jc K "_law_new_name") "_law_new_name",
 JS K (Jc K "law") "law"]
def isF:List (Option (FuncData×Bool)):=[JV "_wall" "_wall" Jpp,
 JV "good_name" "good_name" Jc7,
 JV "check_hand" "check_hand" JeO,
 JV "other" "other" JlL,
 JV "check_up_to" "check_up_to" JdJ,
 JV "check_coins" "check_coins" JdM,
 JV "check_bid" "check_bid" JjA,
 JV "check_standing" "check_standing" JbE,
 JV "ended" "ended" JlN,
 JV "coins_of" "coins_of" JkT,
 JV "pay" "pay" JtO,
 JV "settle" "settle" JnQ,
 JV "__init__" "Book.__init__" Jgl,
 JV "needs_with" "Book.needs_with" Jbh,
 JV "need_at" "Book.need_at" JcR,
 JV "need_where_north_leads" "Book.need_where_north_leads" YT,
 JV "need_where_south_leads" "Book.need_where_south_leads" YS,
 JV "check_share" "Book.check_share" Jdk,
 JV "winner" "Book.winner" JhD,
 JV "least" "Book.least" Jic,
 JV "bid_of" "Book.bid_of" JhE,
 JV "answer_of" "Book.answer_of" JeW,
 JV "answer_wins" "Book.answer_wins" Jdl,
 JV "step_of" "Book.step_of" JgE,
 JV "__init__" "Moment.__init__" JdO,
 JV "turn_begin" "turn_begin" JeL,
 JV "__init__" "Game.__init__" Jgk,
 JV "standing" "Game.standing" Jb4,
 JV "due" "Game.due" Jhd,
 JV "named" "Game.named" JeT,
 JV "deeds" "Game.deeds" JeU,
 JV "over" "Game.over" Jgj,
 JV "winner" "Game.winner" JhB,
 JV "told" "Game.told" JjF,
 JV "check_due" "Game.check_due" JeV,
 JV "go_on" "Game.go_on" Jib,
 JV "bid" "Game.bid" JkV,
 JV "answer" "Game.answer" JhC,
 JV "step" "Game.step" JjG,
 JV "back" "Game.back" JjH,
 JV "check_new" "check_new" Jgf,
 JV "find_kept" "find_kept" Jge,
 JV "__init__" "Hall.__init__" Jgi,
 JV "add_board" "Hall.add_board" JbF,
 JV "board_of" "Hall.board_of" Jb3,
 JV "begin" "Hall.begin" JeS,
 JV "game_of" "Hall.game_of" JcQ,
 JV "drop" "Hall.drop" JjD,
 JV "boards" "Hall.boards" Jhz,
 JV "games" "Hall.games" JeQ,
 JV "standing" "Hall.standing" Jb2,
 JV "due" "Hall.due" Jhc,
 JV "named" "Hall.named" JeP,
 JV "deeds" "Hall.deeds" JeR,
 JV "over" "Hall.over" Jgh,
 JV "winner" "Hall.winner" Jhy,
 JV "told" "Hall.told" JjB,
 JV "bid" "Hall.bid" JkU,
 JV "answer" "Hall.answer" JhA,
 JV "step" "Hall.step" JjC,
 JV "back" "Hall.back" JjE,
 JV "judge" "Hall.judge" Jia,
 JV "least" "Hall.least" Jh9,
 JV "check_each_once" "check_each_once" Jbg,
 JV "check_among" "check_among" JdN,
 JV "check_places" "check_places" JcP,
 JV "check_lanes" "check_lanes" JdK,
 JV "check_goals" "check_goals" JdL,
 JV "__init__" "Board.__init__" JeX,
 JV "check_place" "Board.check_place" JaC,
 JV "ways" "Board.ways" Jb5,
 JV "is_goal" "Board.is_goal" Jb6,
 JV "_law_at" "_law_at" JsT,
 JV "_law_row" "_law_row" Jp8,
 JV "_law_whole" "_law_whole" JlJ,
 JV "_law_names" "_law_names" Jji,
 JV "_law_pairs" "_law_pairs" JlK,
 JV "_law_goals" "_law_goals" Jjj,
 JV "_law_ground" "_law_ground" JeN,
 JV "_law_ways" "_law_ways" JkS,
 JV "_law_foe" "_law_foe" Jp9,
 JV "_law_hand" "_law_hand" JnR,
 JV "_law_won" "_law_won" Jp6,
 JV "_law_which" "_law_which" Jjh,
 JV "_law_holds" "_law_holds" JlM,
 JV "_law_flat" "_law_flat" JnS,
 JV "_law_deeds" "_law_deeds" JlO,
 JV "_law_due" "_law_due" Jqa,
 JV "_law_hall_shows" "_law_hall_shows" JeM,
 JV "_law_number" "_law_number" Jkc,
 JV "_law_any_hand" "_law_any_hand" Jhb,
 JV "_law_any_place" "_law_any_place" Jgg,
 JV "_law_try" "_law_try" Jp7,
 JV "_law_refusal" "_law_refusal" Jh8,
 JV "_law_new_name" "_law_new_name" Jha,
 JV "law" "law" JfR]
def JsK (K:Frag):List (Option (Option Value)):=[PySem.W.nsIn K mainGlobals "all",
 PySem.W.nsIn K mainGlobals "len",
 PySem.W.nsIn K mainGlobals "range",
 PySem.W.nsIn K mainGlobals "min",
 PySem.W.nsIn K mainGlobals "max",
 PySem.W.nsIn K mainGlobals "tuple",
 PySem.W.nsIn K mainGlobals "sorted",
 PySem.W.nsIn K mainGlobals "set",
 PySem.W.nsIn K mainGlobals "isinstance",
 PySem.W.nsIn K mainGlobals "int",
 PySem.W.nsIn K mainGlobals "bool",
 PySem.W.nsIn K mainGlobals "str",
 PySem.W.nsIn K mainGlobals "ValueError",
 PySem.W.nsIn K mainGlobals "list",
 PySem.W.findIn K (.ref (Jc K "Book")) "__setattr__",
 PySem.W.findIn K (.ref (Jc K "Book")) "board",
 PySem.W.findIn K (.ref (Jc K "Book")) "coins",
 PySem.W.findIn K (.ref (Jc K "Book")) "turns",
 PySem.W.findIn K (.ref (Jc K "Book")) "needs",
 PySem.W.findIn K (.ref (Jc K "Moment")) "__setattr__",
 PySem.W.findIn K (.ref (Jc K "Moment")) "place",
 PySem.W.findIn K (.ref (Jc K "Moment")) "turns",
 PySem.W.findIn K (.ref (Jc K "Moment")) "north",
 PySem.W.findIn K (.ref (Jc K "Moment")) "south",
 PySem.W.findIn K (.ref (Jc K "Moment")) "ribbon",
 PySem.W.findIn K (.ref (Jc K "Moment")) "hand",
 PySem.W.findIn K (.ref (Jc K "Moment")) "word",
 PySem.W.findIn K (.ref (Jc K "Moment")) "heard",
 PySem.W.findIn K (.ref (Jc K "Game")) "__setattr__",
 PySem.W.findIn K (.ref (Jc K "Game")) "board",
 PySem.W.findIn K (.ref (Jc K "Game")) "book",
 PySem.W.findIn K (.ref (Jc K "Game")) "done",
 PySem.W.findIn K (.ref (Jc K "Game")) "moments",
 PySem.W.findIn K (.ref (Jc K "Hall")) "__setattr__",
 PySem.W.findIn K (.ref (Jc K "Hall")) "kept_boards",
 PySem.W.findIn K (.ref (Jc K "Hall")) "kept_games",
 PySem.W.findIn K (.ref (Jc K "Board")) "__setattr__",
 PySem.W.findIn K (.ref (Jc K "Board")) "places",
 PySem.W.findIn K (.ref (Jc K "Board")) "lanes",
 PySem.W.findIn K (.ref (Jc K "Board")) "goals",
 PySem.W.specialIn K (.builtin "object.__class__") "__get__",
 PySem.W.findIn K (.ref (Jc K "BadHand")) "__getattribute__",
 PySem.W.findIn K (.ref (Jc K "BadHand")) "__getattr__",
 PySem.W.findIn K (.ref (Jc K "BadHand")) "__class__",
 PySem.W.findIn K (.ref (Jc K "OutOfRange")) "__getattribute__",
 PySem.W.findIn K (.ref (Jc K "OutOfRange")) "__getattr__",
 PySem.W.findIn K (.ref (Jc K "OutOfRange")) "__class__",
 PySem.W.findIn K (.ref (Jc K "BadBid")) "__getattribute__",
 PySem.W.findIn K (.ref (Jc K "BadBid")) "__getattr__",
 PySem.W.findIn K (.ref (Jc K "BadBid")) "__class__",
 PySem.W.findIn K (.ref (Jc K "NotDue")) "__getattribute__",
 PySem.W.findIn K (.ref (Jc K "NotDue")) "__getattr__",
 PySem.W.findIn K (.ref (Jc K "NotDue")) "__class__",
 PySem.W.findIn K (.ref (Jc K "NoLane")) "__getattribute__",
 PySem.W.findIn K (.ref (Jc K "NoLane")) "__getattr__",
 PySem.W.findIn K (.ref (Jc K "NoLane")) "__class__",
 PySem.W.findIn K (.ref (Jc K "BadName")) "__getattribute__",
 PySem.W.findIn K (.ref (Jc K "BadName")) "__getattr__",
 PySem.W.findIn K (.ref (Jc K "BadName")) "__class__",
 PySem.W.findIn K (.ref (Jc K "Taken")) "__getattribute__",
 PySem.W.findIn K (.ref (Jc K "Taken")) "__getattr__",
 PySem.W.findIn K (.ref (Jc K "Taken")) "__class__",
 PySem.W.findIn K (.ref (Jc K "Full")) "__getattribute__",
 PySem.W.findIn K (.ref (Jc K "Full")) "__getattr__",
 PySem.W.findIn K (.ref (Jc K "Full")) "__class__",
 PySem.W.findIn K (.ref (Jc K "Missing")) "__getattribute__",
 PySem.W.findIn K (.ref (Jc K "Missing")) "__getattr__",
 PySem.W.findIn K (.ref (Jc K "Missing")) "__class__",
 PySem.W.findIn K (.ref (Jc K "Twice")) "__getattribute__",
 PySem.W.findIn K (.ref (Jc K "Twice")) "__getattr__",
 PySem.W.findIn K (.ref (Jc K "Twice")) "__class__",
 PySem.W.findIn K (.ref (Jc K "NoPlace")) "__getattribute__",
 PySem.W.findIn K (.ref (Jc K "NoPlace")) "__getattr__",
 PySem.W.findIn K (.ref (Jc K "NoPlace")) "__class__"]
def isN:List (Option (Option Value)):=[some none,
 some none,
 some none,
 some none,
 some none,
 some none,
 some none,
 some none,
 some none,
 some none,
 some none,
 some none,
 some none,
 some none,
 some (some (.builtin "object.__setattr__")),
 some none,
 some none,
 some none,
 some none,
 some (some (.builtin "object.__setattr__")),
 some none,
 some none,
 some none,
 some none,
 some none,
 some none,
 some none,
 some none,
 some (some (.builtin "object.__setattr__")),
 some none,
 some none,
 some none,
 some none,
 some (some (.builtin "object.__setattr__")),
 some none,
 some none,
 some (some (.builtin "object.__setattr__")),
 some none,
 some none,
 some none,
 some (some (.builtin "getset_descriptor.__get__")),
 some (some (.builtin "BaseException.__getattribute__")),
 some none,
 some (some (.builtin "object.__class__")),
 some (some (.builtin "BaseException.__getattribute__")),
 some none,
 some (some (.builtin "object.__class__")),
 some (some (.builtin "BaseException.__getattribute__")),
 some none,
 some (some (.builtin "object.__class__")),
 some (some (.builtin "BaseException.__getattribute__")),
 some none,
 some (some (.builtin "object.__class__")),
 some (some (.builtin "BaseException.__getattribute__")),
 some none,
 some (some (.builtin "object.__class__")),
 some (some (.builtin "BaseException.__getattribute__")),
 some none,
 some (some (.builtin "object.__class__")),
 some (some (.builtin "BaseException.__getattribute__")),
 some none,
 some (some (.builtin "object.__class__")),
 some (some (.builtin "BaseException.__getattribute__")),
 some none,
 some (some (.builtin "object.__class__")),
 some (some (.builtin "BaseException.__getattribute__")),
 some none,
 some (some (.builtin "object.__class__")),
 some (some (.builtin "BaseException.__getattribute__")),
 some none,
 some (some (.builtin "object.__class__")),
 some (some (.builtin "BaseException.__getattribute__")),
 some none,
 some (some (.builtin "object.__class__"))]
def JsL (K:Frag):List (Option Bool):=[PySem.W.takesIn K (.builtin "object.__class__"),
 PySem.W.mroIn K (Jc K "BadHand") (.type "object"),
 PySem.W.mroIn K (Jc K "BadHand") (.type "BaseException"),
 PySem.W.exmOne K (.ref (Jc K "BadHand")) (.ref (Jc K "BidmoverError")),
 PySem.W.kitOne K (.ref (Jc K "BadHand")) (.type "ValueError"),
 PySem.W.kitOne K (.ref (Jc K "BadHand")) (.ref (Jc K "BadName")),
 PySem.W.kitOne K (.ref (Jc K "BadHand")) (.ref (Jc K "BadHand")),
 PySem.W.kitOne K (.ref (Jc K "BadHand")) (.ref (Jc K "OutOfRange")),
 PySem.W.kitOne K (.ref (Jc K "BadHand")) (.ref (Jc K "Twice")),
 PySem.W.kitOne K (.ref (Jc K "BadHand")) (.ref (Jc K "NoPlace")),
 PySem.W.kitOne K (.ref (Jc K "BadHand")) (.ref (Jc K "BadBid")),
 PySem.W.kitOne K (.ref (Jc K "BadHand")) (.ref (Jc K "NoLane")),
 PySem.W.kitOne K (.ref (Jc K "BadHand")) (.ref (Jc K "NotDue")),
 PySem.W.kitOne K (.ref (Jc K "BadHand")) (.ref (Jc K "NothingDone")),
 PySem.W.kitOne K (.ref (Jc K "BadHand")) (.ref (Jc K "Taken")),
 PySem.W.kitOne K (.ref (Jc K "BadHand")) (.ref (Jc K "Full")),
 PySem.W.kitOne K (.ref (Jc K "BadHand")) (.ref (Jc K "Missing")),
 PySem.W.mroIn K (Jc K "OutOfRange") (.type "object"),
 PySem.W.mroIn K (Jc K "OutOfRange") (.type "BaseException"),
 PySem.W.exmOne K (.ref (Jc K "OutOfRange")) (.ref (Jc K "BidmoverError")),
 PySem.W.kitOne K (.ref (Jc K "OutOfRange")) (.type "ValueError"),
 PySem.W.kitOne K (.ref (Jc K "OutOfRange")) (.ref (Jc K "BadName")),
 PySem.W.kitOne K (.ref (Jc K "OutOfRange")) (.ref (Jc K "BadHand")),
 PySem.W.kitOne K (.ref (Jc K "OutOfRange")) (.ref (Jc K "OutOfRange")),
 PySem.W.kitOne K (.ref (Jc K "OutOfRange")) (.ref (Jc K "Twice")),
 PySem.W.kitOne K (.ref (Jc K "OutOfRange")) (.ref (Jc K "NoPlace")),
 PySem.W.kitOne K (.ref (Jc K "OutOfRange")) (.ref (Jc K "BadBid")),
 PySem.W.kitOne K (.ref (Jc K "OutOfRange")) (.ref (Jc K "NoLane")),
 PySem.W.kitOne K (.ref (Jc K "OutOfRange")) (.ref (Jc K "NotDue")),
 PySem.W.kitOne K (.ref (Jc K "OutOfRange")) (.ref (Jc K "NothingDone")),
 PySem.W.kitOne K (.ref (Jc K "OutOfRange")) (.ref (Jc K "Taken")),
 PySem.W.kitOne K (.ref (Jc K "OutOfRange")) (.ref (Jc K "Full")),
 PySem.W.kitOne K (.ref (Jc K "OutOfRange")) (.ref (Jc K "Missing")),
 PySem.W.mroIn K (Jc K "BadBid") (.type "object"),
 PySem.W.mroIn K (Jc K "BadBid") (.type "BaseException"),
 PySem.W.mroIn K (Jc K "NotDue") (.type "object"),
 PySem.W.mroIn K (Jc K "NotDue") (.type "BaseException"),
 PySem.W.mroIn K (Jc K "NoLane") (.type "object"),
 PySem.W.mroIn K (Jc K "NoLane") (.type "BaseException"),
 PySem.W.mroIn K (Jc K "BadName") (.type "object"),
 PySem.W.mroIn K (Jc K "BadName") (.type "BaseException"),
 PySem.W.exmOne K (.ref (Jc K "BadName")) (.ref (Jc K "BidmoverError")),
 PySem.W.kitOne K (.ref (Jc K "BadName")) (.type "ValueError"),
 PySem.W.kitOne K (.ref (Jc K "BadName")) (.ref (Jc K "BadName")),
 PySem.W.kitOne K (.ref (Jc K "BadName")) (.ref (Jc K "BadHand")),
 PySem.W.kitOne K (.ref (Jc K "BadName")) (.ref (Jc K "OutOfRange")),
 PySem.W.kitOne K (.ref (Jc K "BadName")) (.ref (Jc K "Twice")),
 PySem.W.kitOne K (.ref (Jc K "BadName")) (.ref (Jc K "NoPlace")),
 PySem.W.kitOne K (.ref (Jc K "BadName")) (.ref (Jc K "BadBid")),
 PySem.W.kitOne K (.ref (Jc K "BadName")) (.ref (Jc K "NoLane")),
 PySem.W.kitOne K (.ref (Jc K "BadName")) (.ref (Jc K "NotDue")),
 PySem.W.kitOne K (.ref (Jc K "BadName")) (.ref (Jc K "NothingDone")),
 PySem.W.kitOne K (.ref (Jc K "BadName")) (.ref (Jc K "Taken")),
 PySem.W.kitOne K (.ref (Jc K "BadName")) (.ref (Jc K "Full")),
 PySem.W.kitOne K (.ref (Jc K "BadName")) (.ref (Jc K "Missing")),
 PySem.W.mroIn K (Jc K "Taken") (.type "object"),
 PySem.W.mroIn K (Jc K "Taken") (.type "BaseException"),
 PySem.W.exmOne K (.ref (Jc K "Taken")) (.ref (Jc K "BidmoverError")),
 PySem.W.kitOne K (.ref (Jc K "Taken")) (.type "ValueError"),
 PySem.W.kitOne K (.ref (Jc K "Taken")) (.ref (Jc K "BadName")),
 PySem.W.kitOne K (.ref (Jc K "Taken")) (.ref (Jc K "BadHand")),
 PySem.W.kitOne K (.ref (Jc K "Taken")) (.ref (Jc K "OutOfRange")),
 PySem.W.kitOne K (.ref (Jc K "Taken")) (.ref (Jc K "Twice")),
 PySem.W.kitOne K (.ref (Jc K "Taken")) (.ref (Jc K "NoPlace")),
 PySem.W.kitOne K (.ref (Jc K "Taken")) (.ref (Jc K "BadBid")),
 PySem.W.kitOne K (.ref (Jc K "Taken")) (.ref (Jc K "NoLane")),
 PySem.W.kitOne K (.ref (Jc K "Taken")) (.ref (Jc K "NotDue")),
 PySem.W.kitOne K (.ref (Jc K "Taken")) (.ref (Jc K "NothingDone")),
 PySem.W.kitOne K (.ref (Jc K "Taken")) (.ref (Jc K "Taken")),
 PySem.W.kitOne K (.ref (Jc K "Taken")) (.ref (Jc K "Full")),
 PySem.W.kitOne K (.ref (Jc K "Taken")) (.ref (Jc K "Missing")),
 PySem.W.mroIn K (Jc K "Full") (.type "object"),
 PySem.W.mroIn K (Jc K "Full") (.type "BaseException"),
 PySem.W.exmOne K (.ref (Jc K "Full")) (.ref (Jc K "BidmoverError")),
 PySem.W.kitOne K (.ref (Jc K "Full")) (.type "ValueError"),
 PySem.W.kitOne K (.ref (Jc K "Full")) (.ref (Jc K "BadName")),
 PySem.W.kitOne K (.ref (Jc K "Full")) (.ref (Jc K "BadHand")),
 PySem.W.kitOne K (.ref (Jc K "Full")) (.ref (Jc K "OutOfRange")),
 PySem.W.kitOne K (.ref (Jc K "Full")) (.ref (Jc K "Twice")),
 PySem.W.kitOne K (.ref (Jc K "Full")) (.ref (Jc K "NoPlace")),
 PySem.W.kitOne K (.ref (Jc K "Full")) (.ref (Jc K "BadBid")),
 PySem.W.kitOne K (.ref (Jc K "Full")) (.ref (Jc K "NoLane")),
 PySem.W.kitOne K (.ref (Jc K "Full")) (.ref (Jc K "NotDue")),
 PySem.W.kitOne K (.ref (Jc K "Full")) (.ref (Jc K "NothingDone")),
 PySem.W.kitOne K (.ref (Jc K "Full")) (.ref (Jc K "Taken")),
 PySem.W.kitOne K (.ref (Jc K "Full")) (.ref (Jc K "Full")),
 PySem.W.kitOne K (.ref (Jc K "Full")) (.ref (Jc K "Missing")),
 PySem.W.mroIn K (Jc K "Missing") (.type "object"),
 PySem.W.mroIn K (Jc K "Missing") (.type "BaseException"),
 PySem.W.exmOne K (.ref (Jc K "Missing")) (.ref (Jc K "BidmoverError")),
 PySem.W.kitOne K (.ref (Jc K "Missing")) (.type "ValueError"),
 PySem.W.kitOne K (.ref (Jc K "Missing")) (.ref (Jc K "BadName")),
 PySem.W.kitOne K (.ref (Jc K "Missing")) (.ref (Jc K "BadHand")),
 PySem.W.kitOne K (.ref (Jc K "Missing")) (.ref (Jc K "OutOfRange")),
 PySem.W.kitOne K (.ref (Jc K "Missing")) (.ref (Jc K "Twice")),
 PySem.W.kitOne K (.ref (Jc K "Missing")) (.ref (Jc K "NoPlace")),
 PySem.W.kitOne K (.ref (Jc K "Missing")) (.ref (Jc K "BadBid")),
 PySem.W.kitOne K (.ref (Jc K "Missing")) (.ref (Jc K "NoLane")),
 PySem.W.kitOne K (.ref (Jc K "Missing")) (.ref (Jc K "NotDue")),
 PySem.W.kitOne K (.ref (Jc K "Missing")) (.ref (Jc K "NothingDone")),
 PySem.W.kitOne K (.ref (Jc K "Missing")) (.ref (Jc K "Taken")),
 PySem.W.kitOne K (.ref (Jc K "Missing")) (.ref (Jc K "Full")),
 PySem.W.kitOne K (.ref (Jc K "Missing")) (.ref (Jc K "Missing")),
 PySem.W.mroIn K (Jc K "Twice") (.type "object"),
 PySem.W.mroIn K (Jc K "Twice") (.type "BaseException"),
 PySem.W.mroIn K (Jc K "NoPlace") (.type "object"),
 PySem.W.mroIn K (Jc K "NoPlace") (.type "BaseException"),
 PySem.W.exmOne K (.ref (Jc K "NoPlace")) (.ref (Jc K "BidmoverError")),
 PySem.W.kitOne K (.ref (Jc K "NoPlace")) (.type "ValueError"),
 PySem.W.kitOne K (.ref (Jc K "NoPlace")) (.ref (Jc K "BadName")),
 PySem.W.kitOne K (.ref (Jc K "NoPlace")) (.ref (Jc K "BadHand")),
 PySem.W.kitOne K (.ref (Jc K "NoPlace")) (.ref (Jc K "OutOfRange")),
 PySem.W.kitOne K (.ref (Jc K "NoPlace")) (.ref (Jc K "Twice")),
 PySem.W.kitOne K (.ref (Jc K "NoPlace")) (.ref (Jc K "NoPlace")),
 PySem.W.kitOne K (.ref (Jc K "NoPlace")) (.ref (Jc K "BadBid")),
 PySem.W.kitOne K (.ref (Jc K "NoPlace")) (.ref (Jc K "NoLane")),
 PySem.W.kitOne K (.ref (Jc K "NoPlace")) (.ref (Jc K "NotDue")),
 PySem.W.kitOne K (.ref (Jc K "NoPlace")) (.ref (Jc K "NothingDone")),
 PySem.W.kitOne K (.ref (Jc K "NoPlace")) (.ref (Jc K "Taken")),
 PySem.W.kitOne K (.ref (Jc K "NoPlace")) (.ref (Jc K "Full")),
 PySem.W.kitOne K (.ref (Jc K "NoPlace")) (.ref (Jc K "Missing"))]
def isK:List (Option Bool):=[some true,
 some true,
 some true,
 some true,
 some true,
 some false,
 some true,
 some false,
 some false,
 some false,
 some false,
 some false,
 some false,
 some false,
 some false,
 some false,
 some false,
 some true,
 some true,
 some true,
 some true,
 some false,
 some false,
 some true,
 some false,
 some false,
 some false,
 some false,
 some false,
 some false,
 some false,
 some false,
 some false,
 some true,
 some true,
 some true,
 some true,
 some true,
 some true,
 some true,
 some true,
 some true,
 some true,
 some true,
 some false,
 some false,
 some false,
 some false,
 some false,
 some false,
 some false,
 some false,
 some false,
 some false,
 some false,
 some true,
 some true,
 some true,
 some true,
 some false,
 some false,
 some false,
 some false,
 some false,
 some false,
 some false,
 some false,
 some false,
 some true,
 some false,
 some false,
 some true,
 some true,
 some true,
 some true,
 some false,
 some false,
 some false,
 some false,
 some false,
 some false,
 some false,
 some false,
 some false,
 some false,
 some true,
 some false,
 some true,
 some true,
 some true,
 some true,
 some false,
 some false,
 some false,
 some false,
 some false,
 some false,
 some false,
 some false,
 some false,
 some false,
 some false,
 some true,
 some true,
 some true,
 some true,
 some true,
 some true,
 some true,
 some false,
 some false,
 some false,
 some false,
 some true,
 some false,
 some false,
 some false,
 some false,
 some false,
 some false,
 some false]
def JsI (K:Frag):List (Option (Sum Int Str)):=[obV K "MOST_SIGNS",
 obV K "MOST_TURNS",
 obV K "MOST_COINS",
 obV K "MOST_BOARDS",
 obV K "MOST_GAMES",
 obV K "MOST_PLACES",
 obV K "MOST_LANES"]
def isV:List (Option (Sum Int Str)):=[some (.inl 6),
 some (.inl 30),
 some (.inl 20),
 some (.inl 12),
 some (.inl 20),
 some (.inl 12),
 some (.inl 40)]
def JsJ (K:Frag):List (Option (Bool×List (Option (Sum Int Str)))):=[obT K "HANDS"]
def isT:List (Option (Bool×List (Option (Sum Int Str)))):=[some (true,([.inr "north",.inr "south"]:List (Sum Int Str)).map some)]
def see (s:Shared):=(fun K=>(JsN K,JsM K,JsK K,JsL K,JsI K,JsJ K)) (JrS s.heap)
def Jno:=(isB,isF,isN,isK,isV,isT)
def xt (s:Shared):Bool:=xlAt qv [] s && recOk [] s
set_option maxHeartbeats 0 in
theorem Jvj (w:World) (os:OsState):(Jlz pg w 13964 (JqC w.params os)).map (fun s=>Jp3 pg qv lo0 xt see w.params s.abs)=some (true,openGood qv lo0,Jno):=by
 kernel_rfl
theorem JuS (P:Params):((boot_heap P).isNs mainGlobals && (Array.mk ([]:List GenState)).size == 0)=true:=by kernel_rfl
theorem JsS:PySem.W.OpenLaw.wellSaid PySem.Challenge.rw_bidmover_k30_hall_begins=true:=by kernel_rfl
theorem left:LeftO pg qv lo0 xt see (fun _=>Jno) 13964:=JuL (by kernel_rfl) (by decide) (fun s=>by kernel_rfl) Jvj JuS
end Pf
namespace L2
open PySem PySem.Spec PyProof.Rows
abbrev JK:=Sum Int Str
def Jhj:JK→Value→Bool
 | .inl k,v=>Value.isInt k v
 | .inr x,v=>Value.isStrOf x v
def Jxa (w:World):JK→Int
 | .inl k=>hashInt k
 | .inr x=>hashStr w x
theorem Zf:∀ {k:JK} {v:Value},Jhj k v=true→(∃ i t,k=Sum.inl i∧v=Value.int i t)∨(∃ x t,k=Sum.inr x∧v=Value.str x t)
 | .inl i,v,h=>by
  obtain ⟨t,e⟩:=Value.isInt_shape (k:=i) (v:=v) h;exact .inl ⟨i,t,rfl,e⟩
 | .inr x,v,h=>by
  obtain ⟨t,e⟩:=Value.isStrOf_shape (x:=x) (v:=v) h;exact .inr ⟨x,t,rfl,e⟩
theorem JrI (i:Int) (t:Tok):Jhj (.inl i) (.int i t)=true:=by simp [Jhj,Value.isInt]
theorem JrH (x:Str) (t:Tok):Jhj (.inr x) (.str x t)=true:=by simp [Jhj,Value.isStrOf]
theorem JvT (a b:Int):decide ((Sum.inl a:JK)=Sum.inl b)=(a == b):=by
 by_cases e:a=b
 ·subst e; simp
 ·have h:¬ (Sum.inl a:JK)=Sum.inl b:=fun q=>e (Sum.inl.inj q)
  rw [decide_eq_false h];exact (beq_eq_false_iff_ne.mpr e).symm
theorem JrG (a b:Str):decide ((Sum.inr a:JK)=Sum.inr b)=decide (a=b):=by
 by_cases e:a=b
 ·subst e; simp
 ·have h:¬ (Sum.inr a:JK)=Sum.inr b:=fun q=>e (Sum.inr.inj q)
  rw [decide_eq_false h,decide_eq_false e]
theorem JvS (a:Int) (b:Str):decide ((Sum.inl a:JK)=Sum.inr b)=false:=decide_eq_false (fun q=>nomatch q)
theorem JvR (a:Str) (b:Int):decide ((Sum.inr a:JK)=Sum.inl b)=false:=decide_eq_false (fun q=>nomatch q)
def Yy (prog:Program) (w:World):PySem.KeyKind prog w JK where
 is:=Jhj
 hash:=Jxa w
 inj:=fun v a b ha hb=>by
  rcases Zf ha with ⟨i,t,rfl,rfl⟩ | ⟨x,t,rfl,rfl⟩
  ·rcases Zf hb with ⟨j,u,rfl,e⟩ | ⟨y,u,rfl,e⟩
   ·injection e with e1 _; rw [e1]
   ·exact nomatch e
  ·rcases Zf hb with ⟨j,u,rfl,e⟩ | ⟨y,u,rfl,e⟩
   ·exact nomatch e
   ·injection e with e1 _; rw [e1]
 byValue:=fun k v h=>by
  rcases Zf h with ⟨i,t,rfl,rfl⟩ | ⟨x,t,rfl,rfl⟩ <;> rfl
 pyHash:=fun hv h=>by
  rcases Zf hv with ⟨i,t,rfl,rfl⟩ | ⟨x,t,rfl,rfl⟩
  ·exact wpAny_pyHash_int h
  ·exact wpAny_pyHash_str h
 eqBool:=fun hu hv h=>by
  rcases Zf hu with ⟨i,t,rfl,rfl⟩ | ⟨x,t,rfl,rfl⟩
  ·rcases Zf hv with ⟨j,u,rfl,rfl⟩ | ⟨y,u,rfl,rfl⟩
   ·rw [JvT] at h; exact wpAny_eqBool_int h
   ·rw [JvS] at h; exact SeqAt.EqAt.int_str i t y u _ _ _ _ h
  ·rcases Zf hv with ⟨j,u,rfl,rfl⟩ | ⟨y,u,rfl,rfl⟩
   ·rw [JvR] at h; exact SeqAt.EqAt.str_int x t j u _ _ _ _ h
   ·rw [JrG] at h; exact wpAny_eqBool_str h
 «strs»:=fun k x t v h=>by
  rcases Zf h with ⟨i,u,rfl,e⟩ | ⟨y,u,rfl,e⟩
  ·exact nomatch e
  ·injection e with e1 _;subst e1;cases v <;> rfl
theorem Jqi (prog:Program) (w:World) (k:JK) (v:Value):(Yy prog w).is k v=Jhj k v:=rfl
theorem Jo6 (prog:Program) (w:World) (i:Int) (t:Tok):(Yy prog w).is (.inl i) (.int i t)=true:=JrI i t
theorem Jbq (prog:Program) (w:World) (x:Str) (t:Tok):(Yy prog w).is (.inr x) (.str x t)=true:=JrH x t
end L2
namespace L2
open PySem PySem.Spec PyProof.Rows
inductive V where
 | non | bl (b:Bool) | int (i:Int) | str (x:Str) | byt (b:Array UInt8) | flt (b:UInt64) | ref (a:Addr) | ty (n:String)
 deriving DecidableEq
def JR:V→Value→Prop
 | .non,u=>u=Value.none
 | .bl b,u=>u=Value.bool b
 | .int i,u=>∃ t,u=Value.int i t
 | .str x,u=>∃ t,u=Value.str x t
 | .byt b,u=>∃ t,u=Value.bytes b t
 | .flt b,u=>∃ t,u=Value.float b t
 | .ref a,u=>u=Value.ref a
 | .ty n,u=>u=Value.type n
abbrev JF:List V→List Value→Prop:=Paired JR
theorem JF.length {xs:List V} {us:List Value} (r:JF xs us):xs.length=us.length:=Paired.length r
theorem JF.get:∀ {xs:List V} {us:List Value} {i:Nat} {x:V},JF xs us→xs[i]?=some x→∃ u,us[i]?=some u∧JR x u
 | _,_,_,_,.nil,e=>by simp at e
 | _,_,0,_,.cons r _,e=>by simp at e; subst e; exact ⟨_,rfl,r⟩
 | _,_,i + 1,x,.cons _ t,e=>by
  obtain ⟨u,h1,h2⟩:=JF.get (i:=i) (x:=x) t (by simpa using e);exact ⟨u,by simpa using h1,h2⟩
theorem JF.set {x:V} {u:Value} (r:JR x u):∀ {xs:List V} {us:List Value} (i:Nat),JF xs us→JF (xs.set i x) (us.set i u)
 | _,_,_,.nil=>.nil
 | _,_,0,.cons _ t=>.cons r t
 | _,_,i + 1,.cons q t=>.cons q (JF.set r i t)
theorem JF.append:∀ {xs ys:List V} {us ws:List Value},JF xs us→JF ys ws→JF (xs ++ ys) (us ++ ws)
 | _,_,_,_,.nil,s=>s
 | _,_,_,_,.cons r t,s=>.cons r (JF.append t s)
theorem JF.take:∀ {xs:List V} {us:List Value} (n:Nat),JF xs us→JF (xs.take n) (us.take n)
 | _,_,0,_=>.nil
 | _,_,_ + 1,.nil=>.nil
 | _,_,n + 1,.cons r t=>.cons r (JF.take n t)
theorem JF.drop:∀ {xs:List V} {us:List Value} (n:Nat),JF xs us→JF (xs.drop n) (us.drop n)
 | _,_,0,r=>r
 | _,_,_ + 1,.nil=>.nil
 | _,_,n + 1,.cons _ t=>JF.drop n t
theorem JF.none_of:∀ {xs:List V} {us:List Value} {i:Nat},JF xs us→xs[i]?=none→us[i]?=none:=fun {xs us i} r e=>by
 have h1:=r.length;have h2:xs.length≤i:=List.getElem?_eq_none_iff.mp e;exact List.getElem?_eq_none_iff.mpr (by omega)
def JaE:Option V→Option Value→Prop
 | some v,some u=>JR v u
 | none,none=>True
 | _,_=>False
def KV {κ:Type}:List (κ×V)→List (κ×Value)→Prop:=Paired fun (p:κ×V) (q:κ×Value)=>p.1=q.1∧JR p.2 q.2
def kV:JK→V
 | .inl i=>.int i
 | .inr x=>.str x
inductive HO where
 | lst (xs:List V)
 | tup (xs:List V)
 | dK (kvs:List (JK×V)) | dT (kvs:List (List JK×V))
 | set (S:Int→Bool) (n:Nat)
 | ins (C dx:Addr) (fs:List (Str×V))
 | own (x:Addr)
 | xd (fs:List (Str×V))
 | met (f x:Addr)
 | rng (lo hi:Int)
 | frz (o:Obj) (u:HO)
 | tbl (ps:Array Value)
 | ext (φ:Heap→Prop)
abbrev Hp:=Addr→Option HO
def upd (H:Hp) (a:Addr) (o:HO):Hp:=fun b=>if b=a then some o else H b
theorem Jg {H:Hp} {a:Addr} {o:HO}:upd H a o a=some o:=by unfold upd; rw [if_pos rfl]
theorem Jt {H:Hp} {a b:Addr} {o:HO} (h:b≠a):upd H a o b=H b:=by unfold upd; rw [if_neg h]
theorem JcO {H:Hp} {a:Addr} {o u:HO}:upd (upd H a o) a u=upd H a u:=by
 funext b; unfold upd; split <;> rfl
theorem Jas {H:Hp} {a b:Addr} {o u:HO} (h:H a=some o) (h':H b=some u) (d:o≠u):a≠b:=by
 intro e; subst e; rw [h] at h'; exact d (Option.some.inj h')
theorem Jw {H:Hp} {a b:Addr} {o:HO} (h:H a=some o) (h':H b=none):a≠b:=by
 intro e; subst e; rw [h] at h'; cases h'
section
variable (P:Program) (w:World)
def YF (H:Hp) (h:Heap) (a:Addr):HO→Prop
 | .lst xs=>xs.length≤sizeLine∧∃ (its:List Value) (n:Nat),JF xs its∧h.get? a=some { cls:=.type "list",data:=.seq its.toArray n }
 | .tup xs=>xs.length≤sizeLine∧∃ its:List Value,JF xs its∧IsTup h a its.toArray
 | .dK kvs=>kvs.length≤sizeLine∧(a == sysModules)=false∧∃ vs,KV kvs vs∧h.DictOf (Yy P w) a vs
 | .dT kvs=>kvs.length≤sizeLine∧(a == sysModules)=false∧∃ xs:List (List JK×Addr×Value),
   Paired (fun (p:List JK×V) (q:List JK×Addr×Value)=>p.1=q.1∧H q.2.1=some (.tup (p.1.map kV))∧JR p.2 q.2.2) kvs xs ∧
   ∃ o es ep,h.get? a=some o∧o.ExactDict∧o.data=.dict es ep∧es.toList=xs.map (entryOfKey (tupleKind (Yy P w)))∧(xs.map (·.1)).Nodup
 | .set S n=>h.SetOf (intKind P w) a S n
 | .ins C dx fs=>H dx=some (.own a)∧fs.length≤1000∧dx≠a∧h.get? a=some (PySem.W.instObj C dx) ∧
   ∃ mA,h.Ns1 dx mA∧(∀ f,JaE (fs.lookup f) (mA f))∧PySem.Within mA (fs.map (·.1))
 | .own _=>∃ o,h.get? a=some o
 | .xd fs=>∃ mA,h.Ns1 a mA∧∀ f,JaE (fs.lookup f) (mA f)
 | .rng lo hi=>∃ t u v,h.get? a=some { cls:=.type "range",data:=.fields #[.int lo t,.int hi u,.int 1 v] }
 | .frz o u=>h.get? a=some o∧YF H h a u
 | .tbl ps=>h.get? a=some { cls:=.none,data:=.fields ps }
 | .met f x=>h.get? a=some (PySem.W.methodObj (.ref f) (.ref x))
 | .ext φ=>φ h∧(∃ o,h.get? a=some o)∧∀ h1 h2:Heap,φ h1→(∀ o,h1.get? a=some o→h2.get? a=some o)→φ h2
def ZK (H:Hp) (h:Heap):Prop:=∀ a o,H a=some o→YF P w H h a o
end
section
variable {P:Program} {w:World} {H H':Hp} {h h':Heap} {a:Addr} {o:HO}
theorem YF.lt (x:YF P w H h a o):a < h.objs.size:=by
 cases o with
 | lst xs=>obtain ⟨_,_,_,_,e⟩:=x; exact Heap.lt_size e
 | tup xs=>obtain ⟨_,_,_,p⟩:=x; exact p.lt
 | dK kvs=>obtain ⟨_,_,_,_,o,_,_,e,_⟩:=x; exact Heap.lt_size e
 | dT kvs=>obtain ⟨_,_,_,_,o,_,_,e,_⟩:=x; exact Heap.lt_size e
 | set S n=>obtain ⟨o,_,_,_,e,_⟩:=x; exact Heap.lt_size e
 | ins C dx fs=>obtain ⟨_,_,_,e,_⟩:=x; exact Heap.lt_size e
 | own y=>obtain ⟨_,e⟩:=x; exact Heap.lt_size e
 | xd fs=>obtain ⟨_,⟨_,_,_,e,_⟩,_⟩:=x; exact Heap.lt_size e
 | rng lo hi=>obtain ⟨_,_,_,e⟩:=x; exact Heap.lt_size e
 | frz ob u=>obtain ⟨e,_⟩:=x; exact Heap.lt_size e
 | tbl ps=>exact Heap.lt_size (show h.get? a=some _ from x)
 | met f y=>exact Heap.lt_size (show h.get? a=some _ from x)
 | ext φ=>obtain ⟨_,⟨_,e⟩,_⟩:=x; exact Heap.lt_size e
theorem Paired.mapP {α β:Type} {F G:α→β→Prop}:∀ {l₁:List α} {l₂:List β},Paired F l₁ l₂→(∀ a b,F a b→G a b)→Paired G l₁ l₂
 | _,_,.nil,_=>.nil
 | _,_,.cons r t,f=>.cons (f _ _ r) (Paired.mapP t f)
theorem YF.stay (x:YF P w H h a o) (k:∀ b u,(b=a∨H b=some (.own a))→h.get? b=some u→h'.get? b=some u)
  (ho:∀ b,H b=some (.own a)→H' b=some (.own a)) (ht:∀ b xs,H b=some (.tup xs)→H' b=some (.tup xs)):YF P w H' h' a o:=by
 induction o with
 | lst xs=>obtain ⟨z,its,n,r,e⟩:=x; exact ⟨z,its,n,r,k _ _ (.inl rfl) e⟩
 | tup xs=>obtain ⟨z,its,r,ob,e,c⟩:=x; exact ⟨z,its,r,ob,k _ _ (.inl rfl) e,c⟩
 | dK kvs=>obtain ⟨z,y,vs,r,ob,es,ep,e,c⟩:=x; exact ⟨z,y,vs,r,ob,es,ep,k _ _ (.inl rfl) e,c⟩
 | dT kvs =>
  obtain ⟨z,y,xs,r,ob,es,ep,e,c⟩:=x;exact ⟨z,y,xs,Paired.mapP r fun p q z=>⟨z.1,ht _ _ z.2.1,z.2.2⟩,ob,es,ep,k _ _ (.inl rfl) e,c⟩
 | set S n=>obtain ⟨ob,es,ep,t,e,c⟩:=x; exact ⟨ob,es,ep,t,k _ _ (.inl rfl) e,c⟩
 | ins C dx fs =>
  obtain ⟨d,z,ne,e,mA,⟨od,es,ep,e2,c⟩,r⟩:=x;exact ⟨ho _ d,z,ne,k _ _ (.inl rfl) e,mA,⟨od,es,ep,k _ _ (.inr d) e2,c⟩,r⟩
 | own y=>obtain ⟨ob,e⟩:=x; exact ⟨ob,k _ _ (.inl rfl) e⟩
 | xd fs=>obtain ⟨mA,⟨od,es,ep,e,c⟩,r⟩:=x; exact ⟨mA,⟨od,es,ep,k _ _ (.inl rfl) e,c⟩,r⟩
 | rng lo hi=>obtain ⟨t,u,v,e⟩:=x; exact ⟨t,u,v,k _ _ (.inl rfl) e⟩
 | frz ob u ih=>obtain ⟨e,q⟩:=x; exact ⟨k _ _ (.inl rfl) e,ih q⟩
 | tbl ps =>
  have e:h.get? a=some { cls:=.none,data:=.fields ps }:=x;show h'.get? a=some { cls:=.none,data:=.fields ps };exact k a _ (.inl rfl) e
 | met f y =>
  have e:h.get? a=some (PySem.W.methodObj (.ref f) (.ref y)):=x;show h'.get? a=some (PySem.W.methodObj (.ref f) (.ref y));exact k a _ (.inl rfl) e
 | ext φ=>obtain ⟨p,⟨o,e⟩,st⟩:=x; exact ⟨st _ _ p fun o q=>k _ _ (.inl rfl) q,⟨o,k _ _ (.inl rfl) e⟩,st⟩
theorem ZK.lt (x:ZK P w H h) (e:H a=some o):a < h.objs.size:=(x a o e).lt
theorem ZK.fresh (x:ZK P w H h) (e:h.objs.size≤a):H a=none:=by
 cases q:H a with
 | none=>rfl
 | some u=>exact absurd (Nat.lt_of_lt_of_le (x.lt q) e) (Nat.lt_irrefl _)
theorem ZK.kept (x:ZK P w H h) (k:∀ b u,h.get? b=some u→h'.get? b=some u):ZK P w H h':=fun a o e =>
 (x a o e).stay (fun b u _ q=>k b u q) (fun _ q=>q) fun _ _ q=>q
theorem ZK.laid (x:ZK P w H h) (k:∀ b u,h.get? b=some u→h'.get? b=some u) (hp:h.objs.size≤a) (new:YF P w (upd H a o) h' a o):ZK P w (upd H a o) h':=fun b u e=>by
 have hn:=x.fresh hp;by_cases hb:b=a
 ·subst hb; rw [Jg] at e; cases e; exact new
 ·rw [Jt hb] at e;exact (x b u e).stay (fun c v _ q=>k c v q) (fun c q=>by rw [Jt (Jw q hn)]; exact q) fun c xs q=>by rw [Jt (Jw q hn)]; exact q
end
def Rd (H:Hp) (a:Addr) (u:HO):Prop:=H a=some u∨∃ o,H a=some (.frz o u)
theorem Rd.of {H:Hp} {a:Addr} {u:HO} (h:H a=some u):Rd H a u:=.inl h
theorem Rd.ok {P:Program} {w:World} {H:Hp} {h:Heap} {a:Addr} {u:HO} (r:Rd H a u) (x:ZK P w H h):YF P w H h a u:=by
 rcases r with r | ⟨o,r⟩
 ·exact x a u r
 ·obtain ⟨_,q⟩:=x a _ r;exact q
def Mut:Option HO→Prop
 | some (.lst _)=>True
 | some (.dK _)=>True
 | some (.dT _)=>True
 | some (.set _ _)=>True
 | some (.ins _ _ _)=>True
 | some (.ext _)=>True
 | _=>False
section
variable {P:Program} {w:World} {H:Hp} {h h':Heap} {x e:Addr} {o':HO}
theorem ZK.write (ok:ZK P w H h) (mu:Mut (H x)) (he:e=x∨H e=some (.own x)) (k:∀ b u,b≠e→h.get? b=some u→h'.get? b=some u) (heo:∃ u,h'.get? e=some u)
  (new:YF P w (upd H x o') h' x o'):ZK P w (upd H x o') h':=fun b u q=>by
 have nown:∀ c y,H c=some (.own y)→c≠x:=fun c y r z=>by subst z; rw [r] at mu; exact mu
 have ntup:∀ c xs,H c=some (.tup xs)→c≠x:=fun c xs r z=>by subst z; rw [r] at mu; exact mu
 by_cases hb:b=x
 ·subst hb; rw [Jg] at q; cases q; exact new
 ·rw [Jt hb] at q;by_cases hbe:b=e
  ·have q':H b=some (.own x):=by
    rcases he with z | z
    ·exact absurd (hbe.trans z) hb
    ·rw [hbe]; exact z
   rw [q] at q'; cases q';obtain ⟨v,hv⟩:=heo;exact ⟨v,by rw [hbe]; exact hv⟩
  ·refine (ok b u q).stay (fun c v hc r=>k c v ?_ r) (fun c r=>by rw [Jt (nown c b r)]; exact r) fun c xs r=>by rw [Jt (ntup c xs r)]; exact r
   rcases hc with rfl | hc
   ·exact hbe
   ·rintro rfl;rcases he with z | z
    ·exact nown c b hc z
    ·rw [hc] at z; cases z; exact hb rfl
end
structure Un (fs ex:List Addr) (H H':Hp) (h h':Heap):Prop where
 keep:∀ b o,h.get? b=some o→H b=none→b∉fs→b∉ex→h'.get? b=some o
 slot:∀ b o,h.get? b=some o→H b=none→b∈fs→b∉ex→∃ sl,h'.get? b=some { o with slots:=sl }
 free:∀ b o,h.get? b=some o→H b=none→b∉ex→H' b=none
 there:∀ b o,h.get? b=some o→b∉ex→∃ o',h'.get? b=some o'
 tups:∀ b xs,H b=some (.tup xs)→H' b=some (.tup xs)
 frzs:∀ b o u,H b=some (.frz o u)→H' b=some (.frz o u)
 tbls:∀ b ps,H b=some (.tbl ps)→∃ more,H' b=some (.tbl (ps ++ more))
section
variable {fs fs' ex ex':List Addr} {H H1 H2:Hp} {h h1 h2 h':Heap} {a x e:Addr} {o:HO}
theorem Un.any (u:Un fs ex H H1 h h1) {b:Addr} {ob:Obj} (q:h.get? b=some ob) (n:H b=none) (hx:b∉ex):∃ sl,h1.get? b=some { ob with slots:=sl }:=by
 by_cases hb:b∈fs
 ·exact u.slot b ob q n hb hx
 ·exact ⟨ob.slots,u.keep b ob q n hb hx⟩
theorem Un.trans (a:Un fs ex H H1 h h1) (b:Un fs ex H1 H2 h1 h2):Un fs ex H H2 h h2 where
 keep:=fun c ob q n hc hx=>b.keep c ob (a.keep c ob q n hc hx) (a.free c ob q n hx) hc hx
 slot:=fun c ob q n hc hx=>by
  obtain ⟨sl,e1⟩:=a.slot c ob q n hc hx;obtain ⟨sl',e2⟩:=b.slot c _ e1 (a.free c ob q n hx) hc hx;exact ⟨sl',e2⟩
 free:=fun c ob q n hx=>by
  obtain ⟨o',e1⟩:=a.there c ob q hx;exact b.free c o' e1 (a.free c ob q n hx) hx
 there:=fun c ob q hx=>by
  obtain ⟨o',e1⟩:=a.there c ob q hx;exact b.there c o' e1 hx
 tups:=fun c xs q=>b.tups c xs (a.tups c xs q)
 frzs:=fun c ob xs q=>b.frzs c ob xs (a.frzs c ob xs q)
 tbls:=fun c ps q=>by
  obtain ⟨m1,e1⟩:=a.tbls c ps q;obtain ⟨m2,e2⟩:=b.tbls c _ e1;exact ⟨m1 ++ m2,by rw [e2,Array.append_assoc]⟩
theorem Un.kept (k:∀ b u,h.get? b=some u→h'.get? b=some u):Un fs ex H H h h' :=
 ⟨fun b ob q _ _ _=>k b ob q,fun b ob q _ _ _=>⟨ob.slots,k b ob q⟩,fun _ _ _ n _=>n,fun b ob q _=>⟨ob,k b ob q⟩,fun _ _ q=>q,fun _ _ _ q=>q,fun _ ps q=>⟨#[],by rw [q]; simp⟩⟩
theorem Un.refl:Un fs ex H H h h:=Un.kept fun _ _ q=>q
theorem Un.laid (k:∀ b u,h.get? b=some u→h'.get? b=some u) (hp:h.objs.size≤a) (hn:H a=none):Un fs ex H (upd H a o) h h' where
 keep:=fun b u q _ _ _=>k b u q
 slot:=fun b u q _ _ _=>⟨u.slots,k b u q⟩
 free:=fun b u q n _=>by rw [Jt (Nat.ne_of_lt (Nat.lt_of_lt_of_le (Heap.lt_size q) hp))]; exact n
 there:=fun b u q _=>⟨u,k b u q⟩
 tups:=fun b xs q=>by rw [Jt (Jw q hn)]; exact q
 frzs:=fun b u xs q=>by rw [Jt (Jw q hn)]; exact q
 tbls:=fun b ps q=>⟨#[],by rw [Jt (Jw q hn),q]; simp⟩
theorem Un.write (mu:Mut (H x)) (he:e=x∨H e=some (.own x)) (k:∀ b u,b≠e→h.get? b=some u→h'.get? b=some u) (heo:∃ u,h'.get? e=some u):Un fs ex H (upd H x o) h h':=by
 have hx:∀ b,H b=none→b≠x:=fun b n z=>by subst z; rw [n] at mu; exact mu
 have hb:∀ b,H b=none→b≠e:=fun b n z=>by
  subst z;rcases he with r | r
  ·exact hx b n r
  ·rw [n] at r; cases r
 have hm:∀ b u,H b=some u→¬ Mut (some u)→b≠x:=fun b u q nm z=>by subst z; rw [q] at mu; exact nm mu
 refine ⟨fun b u q n _ _=>k b u (hb b n) q,fun b u q n _ _=>⟨u.slots,k b u (hb b n) q⟩,fun b u q n _=>by rw [Jt (hx b n)]; exact n,fun b u q _=>?_,
  fun b xs q=>by rw [Jt (hm b _ q fun z=>z)]; exact q,fun b u xs q=>by rw [Jt (hm b _ q fun z=>z)]; exact q,fun b ps q=>⟨#[],by rw [Jt (hm b _ q fun z=>z),q]; simp⟩⟩
 by_cases hbe:b=e
 ·subst hbe; exact heo
 ·exact ⟨u,k b u hbe q⟩
theorem Un.mono (u:Un fs ex H H1 h h1) (hs:∀ b∈fs,b∈fs') (hx:∀ b∈ex,b∈ex'):Un fs' ex' H H1 h h1 :=
 ⟨fun b ob q n hb he=>u.keep b ob q n (fun z=>hb (hs b z)) fun z=>he (hx b z),fun _ _ q n _ he=>u.any q n fun z=>he (hx _ z),fun b ob q n he=>u.free b ob q n fun z=>he (hx b z),fun b ob q he=>u.there b ob q fun z=>he (hx b z),u.tups,u.frzs,u.tbls⟩
end
def trk (h:Heap) (H:Hp):List Addr:=(List.range h.objs.size).filter fun a=>(H a).isSome
def Jhk (h:Heap) (H:Hp):Heap:=PySem.W.hideAll h (trk h H)
theorem JrP (h:Heap) (H:Hp):(Jhk h H).objs.size=h.objs.size:=PySem.W.hideAll_size _ _
theorem Jtl {h:Heap} {H:Hp} {b:Addr} {o:Obj} (e:h.get? b=some o) (n:H b=none):(Jhk h H).get? b=some o :=
 PySem.W.hideAll_get _ e fun hm=>by
  have q:(H b).isSome=true:=(List.mem_filter.mp hm).2;rw [n] at q; simp at q
theorem JuC {h:Heap} {H:Hp} {b:Addr} {o:Obj} (e:(Jhk h H).get? b=some o):h.get? b=some o∧H b=none:=by
 have e':h.get? b=some o:=PySem.W.of_hideAll (trk h H) e;refine ⟨e',?_⟩;cases q:H b with
 | none=>rfl
 | some x =>
  have hm:b∈trk h H:=List.mem_filter.mpr ⟨List.mem_range.mpr (Heap.lt_size e'),by simp [q]⟩;have z:(Jhk h H).get? b=none:=PySem.W.hideAll_none (trk h H) hm;rw [z] at e; cases e
def JuU (g h:Heap) (L:Addr):List (Addr×Obj):=(List.range h.objs.size).filterMap fun a=>if a=L∨(g.get? a).isSome=true then none else (h.get? a).map fun o=>(a,o)
def rest (g h:Heap) (L d:Addr):List (Addr×Obj):=(JuU g h L).filter fun p=>decide (p.1≠d)
end L2
namespace L2
open PySem PySem.Spec PyProof.Rows
structure Mod (K:PySem.W.Frag) (mg:Str→Option Value) (base:Heap):Prop where
 kin:K.In base
 glob:base.Ns mainGlobals mg
 blt:∃ mb,base.Ns builtinsNs mb∧∀ x:Str,x ≠ "__name__"→mb x=bootBuiltins x
 nolimit:base.NoLimit
structure Cx where
 prog:Program
 w:World
 K:PySem.W.Frag
 mg:Str→Option Value
 base:Heap
 A:Around
 N:List Str
 s₀:Shared
 H₀:Hp
 env:Env
 outer:List Env
 stack:List Env
 ex:List Addr
 fn:Str→Bool
 calm:Bool
 pn:List (Addr×Obj)
 xe:Value→Shared→Prop
def ZQ (l:List Env):List Addr:=l.filterMap (·.frame)
abbrev Cx.fs (X:Cx):List Addr:=ZQ X.outer
def Vis (sc:Scope) (x:Str):Prop:=sc.names.lookup x=some .local∨sc.names.lookup x=some .cell∨sc.names.lookup x=some .free
def Loc (sc:Scope) (x:Str):Prop:=sc.names.lookup x=some .local∨sc.names.lookup x=some .cell
def Jxg (env:Env) (h:Heap) (m:Str→Option Value) (x:Str) (u:Value):Prop :=
 (env.kindOf x=some .local∧m x=some u)∨((env.kindOf x=some .cell∨env.kindOf x=some .free)∧∃ c,env.cells.lookup x=some c∧h.IsCell c (some u))
structure Cx.Ok (X:Cx):Prop where
 mod:Mod X.K X.mg X.base
 kind:X.env.scope.kind=.function
 glob:X.env.globals=mainGlobals
 blt:X.env.builtins=builtinsNs
 above:X.s₀.heap.objs.size≤X.env.locals
 inj:∀ x y c,X.env.cells.lookup x=some c→X.env.cells.lookup y=some c→x=y
 has:∀ x,(X.env.kindOf x=some .cell∨X.env.kindOf x=some .free)→∃ c,X.env.cells.lookup x=some c
 cab:∀ x c,X.fn x=true→X.env.cells.lookup x=some c→X.s₀.heap.objs.size≤c
 hd:X.calm=true→X.A.handled=none
 frames:X.A.frames=some X.stack
 stk:X.stack=X.outer∨(X.stack=X.env :: X.outer∧X.env.frame=some X.env.locals)
 exf:∀ b∈X.ex,b≠X.env.locals∧∀ x c,X.env.cells.lookup x=some c→c≠b
 bs:∀ b o,X.base.get? b=some o→X.s₀.heap.get? b=some o∧X.H₀ b=none
 bsz:X.base.objs.size≤X.s₀.heap.objs.size
 noex:∀ b o,X.base.get? b=some o→b∉X.ex
 exfs:∀ b∈X.ex,b∉X.fs
 funs:X.s₀.heap.FunFrames X.base X.outer
 frf:∀ b∈X.fs,X.H₀ b=none
structure Jn (X:Cx) (pins:List (Addr×Obj)) (σ:List (Option V)) (H:Hp) (s:Shared):Prop where
 ok:X.Ok
 os:s.os=X.s₀.os
 bare:AllBare s.gens
 base:Un X.fs X.ex X.H₀ H X.s₀.heap s.heap
 loc:∃ m,s.heap.Ns X.env.locals m∧∀ (i:Nat) (x:Str) (v:V),X.N[i]?=some x→σ[i]?=some (some v)→Vis X.env.scope x→∃ u,JR v u∧Jxg X.env s.heap m x u
 cell:∀ x c,X.env.cells.lookup x=some c→∃ v,s.heap.IsCell c v
 free:H X.env.locals=none
 freeC:∀ x c,X.env.cells.lookup x=some c→H c=none
 pin:∀ p∈X.pn ++ pins,s.heap.get? p.1=some p.2∧H p.1=none∧p.1≠X.env.locals∧p.1∉X.fs∧∀ v,p.2.data≠.cell v
 hok:ZK X.prog X.w H s.heap
 len:σ.length=X.N.length
section
variable {X:Cx} {pins:List (Addr×Obj)} {σ:List (Option V)} {H H':Hp} {s:Shared} {h':Heap}
theorem Cx.Ok.nofr (ok:X.Ok) {b:Addr} {o:Obj} (e:X.base.get? b=some o):b∉X.fs:=fun hb=>by
 have:=(ok.funs.mem hb).1;rw [e] at this; cases this
theorem Jn.bs (I:Jn X pins σ H s):∀ b o,X.base.get? b=some o→s.heap.get? b=some o∧H b=none:=fun b o e =>
 ⟨I.base.keep b o (I.ok.bs b o e).1 (I.ok.bs b o e).2 (I.ok.nofr e) (I.ok.noex b o e),I.base.free b o (I.ok.bs b o e).1 (I.ok.bs b o e).2 (I.ok.noex b o e)⟩
theorem Jn.bk (I:Jn X pins σ H s):∀ b o,X.base.get? b=some o→s.heap.get? b=some o:=fun b o e=>(I.bs b o e).1
theorem Jn.mod (I:Jn X pins σ H s):Mod X.K X.mg X.base:=I.ok.mod
theorem Jn.kIn (I:Jn X pins σ H s):X.K.In s.heap:=I.ok.mod.kin.keeps I.bk
theorem Jn.nolimit (I:Jn X pins σ H s):s.heap.NoLimit:=I.ok.mod.nolimit.keeps I.bk
theorem Jn.fr (I:Jn X pins σ H s):∃ m,Fr X.base X.env.locals s.heap m :=
 let ⟨m,hn,_⟩:=I.loc
 ⟨m,hn,I.bk,Nat.le_trans I.ok.bsz I.ok.above⟩
theorem Jn.lt (I:Jn X pins σ H s):X.env.locals < s.heap.objs.size:=let ⟨_,hn,_⟩:=I.loc; hn.lt
theorem Jn.sz (I:Jn X pins σ H s):X.s₀.heap.objs.size≤s.heap.objs.size:=Nat.le_trans I.ok.above (Nat.le_of_lt I.lt)
theorem Jn.nofs (I:Jn X pins σ H s) {a:Addr} (h:s.heap.objs.size≤a):a∉X.fs:=fun hb=>by
 obtain ⟨_,o,ho,_⟩:=I.ok.funs.mem hb;exact absurd (Nat.lt_of_lt_of_le (Heap.lt_size ho) (Nat.le_trans I.sz h)) (Nat.lt_irrefl _)
theorem Jn.cne (I:Jn X pins σ H s):∀ x c,X.env.cells.lookup x=some c→c≠X.env.locals:=fun x c e z=>by
 obtain ⟨v,o,ho,hd⟩:=I.cell x c e;obtain ⟨m,⟨o',es,ep,ho',hd',_⟩,_⟩:=I.loc;rw [z,ho'] at ho; cases ho; rw [hd'] at hd; cases hd
theorem Jn.funs (I:Jn X pins σ H s):s.heap.FunFrames X.base X.outer:=by
 have all:∀ (l:List Env),(∀ b∈ZQ l,b∈X.fs)→X.s₀.heap.FunFrames X.base l→s.heap.FunFrames X.base l:=by
  intro l
  induction l with
  | nil=>intro _ _; trivial
  | cons env r ih =>
   intro hs hl;obtain ⟨hk,⟨L,o,hf,hn,ho,hd⟩,hr⟩:=hl;have hL:L∈X.fs:=hs L (by unfold ZQ; rw [List.filterMap_cons,hf]; exact List.mem_cons_self);obtain ⟨sl,e⟩:=I.base.slot L o ho (I.ok.frf L hL) hL fun z=>I.ok.exfs L z hL
   exact ⟨hk,⟨L,_,hf,hn,e,hd⟩,ih (fun b hb=>hs b (by unfold ZQ; rw [List.filterMap_cons,hf]; exact List.mem_cons_of_mem _ hb)) hr⟩
 exact all X.outer (fun _ hb=>hb) I.ok.funs
theorem Jn.stack (I:Jn X pins σ H s):s.heap.FunFrames X.base X.stack:=by
 rcases I.ok.stk with e | ⟨e,hf⟩
 ·rw [e]; exact I.funs
 ·rw [e];obtain ⟨m,hn,_⟩:=I.loc;refine .cons (by rw [I.ok.kind]; decide) hf hn ?_ I.funs;exact Heap.get?_none_of_le (Nat.le_trans I.ok.bsz I.ok.above)
theorem Jn.stkSub (I:Jn X pins σ H s):∀ b∈ZQ X.stack,b∈X.env.locals :: X.fs:=fun b hb=>by
 rcases I.ok.stk with e | ⟨e,hf⟩
 ·rw [e] at hb; exact List.mem_cons_of_mem _ hb
 ·rw [e] at hb;unfold ZQ at hb;rw [List.filterMap_cons,hf] at hb;exact hb
theorem Jn.stkFree (I:Jn X pins σ H s):∀ b∈ZQ X.stack,H b=none:=fun b hb=>by
 rcases List.mem_cons.mp (I.stkSub b hb) with e | hb
 ·rw [e]; exact I.free
 ·obtain ⟨_,o,ho,_⟩:=I.ok.funs.mem hb;exact I.base.free b o ho (I.ok.frf b hb) fun z=>I.ok.exfs b z hb
theorem Jn.step {g':Array GenState} {t':Nat} {d':Drawn} {ch:List Addr} (I:Jn X pins σ H s)
  (hch:∀ b∈ch,(b∈X.ex∨X.s₀.heap.objs.size≤b)∧b≠X.env.locals∧(∀ x c,X.env.cells.lookup x=some c→c≠b)∧∀ p∈X.pn ++ pins,p.1≠b)
  (keep:∀ b o,b≠X.env.locals→b∉X.fs→b∉ch→s.heap.get? b=some o→H b=none→h'.get? b=some o)
  (slot:∀ b o,b≠X.env.locals→b∈X.fs→b∉ch→s.heap.get? b=some o→H b=none→∃ sl,h'.get? b=some { o with slots:=sl }) (free:∀ b o,b∉ch→s.heap.get? b=some o→H b=none→H' b=none)
  (there:∀ b o,b∉ch→s.heap.get? b=some o→∃ o',h'.get? b=some o')
  (tups:∀ b xs,H b=some (.tup xs)→H' b=some (.tup xs)) (frzs:∀ b o u,H b=some (.frz o u)→H' b=some (.frz o u)) (tbls:∀ b ps,H b=some (.tbl ps)→∃ more,H' b=some (.tbl (ps ++ more)))
  (ns:∀ m,s.heap.Ns X.env.locals m→h'.Ns X.env.locals m) (hok:ZK X.prog X.w H' h') (hg:AllBare g') :
  Jn X pins σ H' { s with heap:=h',gens:=g',drawn:=d',toks:=t' }:=by
 have neL:∀ b o,X.s₀.heap.get? b=some o→b≠X.env.locals:=fun b o e=>Nat.ne_of_lt (Nat.lt_of_lt_of_le (Heap.lt_size e) I.ok.above)
 have neC:∀ b o,X.s₀.heap.get? b=some o→b∉X.ex→b∉ch:=fun b o e hx hb=>by
  rcases (hch b hb).1 with z | z
  ·exact hx z
  ·exact absurd (Nat.lt_of_lt_of_le (Heap.lt_size e) z) (Nat.lt_irrefl _)
 have cellK:∀ x c,X.env.cells.lookup x=some c→∀ v,s.heap.IsCell c v→h'.IsCell c v:=fun x c e v ⟨o,ho,hd⟩=>by
  have nch:c∉ch:=fun z=>(hch c z).2.2.1 x c e rfl
  by_cases hc:c∈X.fs
  ·obtain ⟨sl,q⟩:=slot c o (I.cne x c e) hc nch ho (I.freeC x c e);exact ⟨_,q,hd⟩
  ·exact ⟨o,keep c o (I.cne x c e) hc nch ho (I.freeC x c e),hd⟩
 refine ⟨I.ok,I.os,hg,⟨fun b o e n hb hx=>?_,fun b o e n hb hx=>?_,fun b o e n hx=>?_,fun b o e hx=>?_,fun b xs e=>tups b xs (I.base.tups b xs e),fun b o xs e=>frzs b o xs (I.base.frzs b o xs e),fun b ps e=>?_⟩,?_,fun x c e=>?_,?_,fun x c e=>?_,fun p hp=>?_,hok,I.len⟩
 ·exact keep b o (neL b o e) hb (neC b o e hx) (I.base.keep b o e n hb hx) (I.base.free b o e n hx)
 ·obtain ⟨sl,e1⟩:=I.base.slot b o e n hb hx;obtain ⟨sl',e2⟩:=slot b _ (neL b o e) hb (neC b o e hx) e1 (I.base.free b o e n hx);exact ⟨sl',e2⟩
 ·obtain ⟨o',e1⟩:=I.base.there b o e hx;exact free b o' (neC b o e hx) e1 (I.base.free b o e n hx)
 ·obtain ⟨o',e1⟩:=I.base.there b o e hx;exact there b o' (neC b o e hx) e1
 ·obtain ⟨m1,e1⟩:=I.base.tbls b ps e;obtain ⟨m2,e2⟩:=tbls b _ e1;exact ⟨m1 ++ m2,by rw [e2,Array.append_assoc]⟩
 ·obtain ⟨m,hn,hl⟩:=I.loc;refine ⟨m,ns m hn,fun i x v e1 e2 e3=>?_⟩;obtain ⟨u,r,l⟩:=hl i x v e1 e2 e3;refine ⟨u,r,?_⟩;rcases l with l | ⟨k,c,e,z⟩
  ·exact .inl l
  ·exact .inr ⟨k,c,e,cellK x c e _ z⟩
 ·obtain ⟨v,z⟩:=I.cell x c e;exact ⟨v,cellK x c e v z⟩
 ·obtain ⟨m,⟨o,_,_,ho,_⟩,_⟩:=I.loc;exact free _ o (fun z=>(hch _ z).2.1 rfl) ho I.free
 ·obtain ⟨v,o,ho,hd⟩:=I.cell x c e;exact free c o (fun z=>(hch c z).2.2.1 x c e rfl) ho (I.freeC x c e)
 ·obtain ⟨e,n,ne,nf,d⟩:=I.pin p hp;have nch:p.1∉ch:=fun z=>(hch p.1 z).2.2.2 p hp rfl
  exact ⟨keep p.1 p.2 ne nf nch e n,free p.1 p.2 nch e n,ne,nf,d⟩
theorem Jn.un {t':Nat} (I:Jn X pins σ H s) (u:Un X.fs [] H H' s.heap h') (hok:ZK X.prog X.w H' h'):Jn X pins σ H' { s with heap:=h',toks:=t' }:=by
 obtain ⟨m,⟨o,es,ep,ho,r⟩,_⟩:=id I.loc;obtain ⟨sl,hL⟩:=u.any ho I.free (by simp);exact I.step (g':=s.gens) (d':=s.drawn) (ch:=[]) (fun _ z=>nomatch z) (fun b o _ hb _ e n=>u.keep b o e n hb (by simp)) (fun b o _ hb _ e n=>u.slot b o e n hb (by simp)) (fun b o _ e n=>u.free b o e n (by simp)) (fun b o _ e=>u.there b o e (by simp)) u.tups u.frzs u.tbls (fun m' hm=>by
  obtain ⟨o',es',ep',ho',r'⟩:=hm;rw [ho] at ho'; cases ho';exact ⟨_,es',ep',hL,r'⟩) hok I.bare
theorem Jn.call {g':Array GenState} {t':Nat} {d':Drawn} {ch:List Addr} (I:Jn X pins σ H s) (u:Un (ZQ X.stack) ch H H' s.heap h') (hok:ZK X.prog X.w H' h') (hg:AllBare g')
  (hch:∀ b∈ch,(b∈X.ex∨X.s₀.heap.objs.size≤b)∧b≠X.env.locals∧(∀ x c,X.env.cells.lookup x=some c→c≠b)∧∀ p∈X.pn ++ pins,p.1≠b) :
  Jn X pins σ H' { s with heap:=h',gens:=g',drawn:=d',toks:=t' }:=by
 obtain ⟨m,⟨o,es,ep,ho,r⟩,_⟩:=id I.loc;obtain ⟨sl,hL⟩:=u.any ho I.free fun z=>(hch _ z).2.1 rfl
 exact I.step (ch:=ch) hch (fun b o hL hb hc e n=>u.keep b o e n (fun z=>(List.mem_cons.mp (I.stkSub b z)).elim hL hb) hc) (fun b o _ _ hc e n=>u.any e n hc) (fun b o hc e n=>u.free b o e n hc) (fun b o hc e=>u.there b o e hc) u.tups u.frzs u.tbls (fun m' hm=>by
  obtain ⟨o',es',ep',ho',r'⟩:=hm;rw [ho] at ho'; cases ho';exact ⟨_,es',ep',hL,r'⟩) hok hg
theorem Jn.turned {t':Nat} {it:Addr} (I:Jn X pins σ H s) (k:∀ b o,b≠it→s.heap.get? b=some o→h'.get? b=some o) (hn:H it=none) (hL:it≠X.env.locals)
  (h1:it∈X.ex∨X.s₀.heap.objs.size≤it) (h2:∀ x c,X.env.cells.lookup x=some c→c≠it) (h3:∀ p∈X.pn ++ pins,p.1≠it):Jn X pins σ H { s with heap:=h',toks:=t' }:=by
 have nit:∀ b u,H b=some u→b≠it:=fun b u e z=>by rw [z,hn] at e; cases e
 refine I.step (g':=s.gens) (d':=s.drawn) (ch:=[it]) (fun b hb=>?_) (fun b o _ _ hc e _=>k b o (fun z=>hc (by simp [z])) e) (fun b o _ _ hc e _=>⟨o.slots,k b o (fun z=>hc (by simp [z])) e⟩) (fun _ _ _ _ n=>n)
  (fun b o hc e=>⟨o,k b o (fun z=>hc (by simp [z])) e⟩) (fun _ _ e=>e) (fun _ _ _ e=>e) (fun b ps e=>⟨#[],by rw [e]; simp⟩) (fun m hm=>?_) (fun b u e=>?_) I.bare
 ·have e:b=it:=by simpa using hb
  subst e;exact ⟨h1,hL,h2,h3⟩
 ·obtain ⟨o,es,ep,ho,r⟩:=hm;exact ⟨o,es,ep,k _ o (Ne.symm hL) ho,r⟩
 ·refine (I.hok b u e).stay (fun c v hc q=>k c v ?_ q) (fun _ q=>q) fun _ _ q=>q
  rcases hc with z | z
  ·rw [z]; exact nit b u e
  ·exact nit c _ z
theorem Jn.tok (I:Jn X pins σ H s) (t:Nat):Jn X pins σ H { s with toks:=t }:=I.un (h':=s.heap) (t':=t) Un.refl I.hok
theorem Jn.kept {t':Nat} (I:Jn X pins σ H s) (k:∀ b u,s.heap.get? b=some u→h'.get? b=some u):Jn X pins σ H { s with heap:=h',toks:=t' }:=I.un (Un.kept k) (I.hok.kept k)
theorem Jn.laid {a:Addr} {o:HO} {t':Nat} (I:Jn X pins σ H s) (k:∀ b u,s.heap.get? b=some u→h'.get? b=some u) (hp:s.heap.objs.size≤a) (new:YF X.prog X.w (upd H a o) h' a o) :
  Jn X pins σ (upd H a o) { s with heap:=h',toks:=t' }:=I.un (Un.laid k hp (I.hok.fresh hp)) (I.hok.laid k hp new)
theorem Jn.write {x e:Addr} {o:HO} {t':Nat} (I:Jn X pins σ H s) (mu:Mut (H x)) (he:e=x∨H e=some (.own x)) (k:∀ b u,b≠e→s.heap.get? b=some u→h'.get? b=some u) (heo:∃ u,h'.get? e=some u)
  (new:YF X.prog X.w (upd H x o) h' x o):Jn X pins σ (upd H x o) { s with heap:=h',toks:=t' }:=I.un (Un.write mu he k heo) (I.hok.write mu he k heo new)
theorem Jn.weak {σ':List (Option V)} (I:Jn X pins σ H s) (hl:σ'.length=σ.length) (w:∀ (i:Nat) v,σ'[i]?=some (some v)→σ[i]?=some (some v)):Jn X pins σ' H s :=
 ⟨I.ok,I.os,I.bare,I.base,let ⟨m,hn,hl'⟩:=I.loc; ⟨m,hn,fun i x v e1 e2 e3=>hl' i x v e1 (w i v e2) e3⟩,I.cell,I.free,I.freeC,I.pin,I.hok,hl.trans I.len⟩
theorem Jn.pins_of {pins':List (Addr×Obj)} (I:Jn X pins σ H s) (h:∀ p∈pins',s.heap.get? p.1=some p.2∧H p.1=none∧p.1≠X.env.locals∧p.1∉X.fs∧∀ v,p.2.data≠.cell v):Jn X pins' σ H s :=
 ⟨I.ok,I.os,I.bare,I.base,I.loc,I.cell,I.free,I.freeC,fun p hp=>(List.mem_append.mp hp).elim (fun z=>I.pin p (List.mem_append_left _ z)) (h p),I.hok,I.len⟩
theorem Jkm {N:List Str} (hN:N.Nodup) {i j:Nat} {x:Str} (a:N[i]?=some x) (b:N[j]?=some x):i=j:=by
 obtain ⟨h1,e1⟩:=List.getElem?_eq_some_iff.mp a;obtain ⟨h2,e2⟩:=List.getElem?_eq_some_iff.mp b;exact (List.getElem_inj hN).mp (e1.trans e2.symm)
theorem Jms {M:Model} {A:Around} {E:Value→Shared→Prop} {i:Nat} {x:Str} {v:V} {u:Value} {Q:Unit→Shared→Prop} (I:Jn X pins σ H s) (hN:X.N.Nodup) (hi:X.N[i]?=some x) (hx:Loc X.env.scope x) (r:JR v u)
  (h:∀ s',Jn X pins (σ.set i (some v)) H s'→(∃ a,Heap.SameBut a s.heap s'.heap∧(a=X.env.locals∨X.env.cells.lookup x=some a))→Q () s') (hf:X.fn x=true∨X.env.scope.names.lookup x=some .local:=by first | exact .inl rfl | exact .inr rfl | assumption):wpAny M A (storeName X.env x u) Q E s:=by
 obtain ⟨m,hn,hl⟩:=id I.loc;have hcls:(X.env.scope.kind == .class || (X.env.scope.kind == .module && X.env.locals != X.env.globals))=false:=by rw [I.ok.kind]; rfl
 have hiσ:i < σ.length:=by rw [I.len]; exact (List.getElem?_eq_some_iff.mp hi).1
 have cne:=I.cne;have tracked:∀ {a:Addr} {h':Heap},(∃ o,s.heap.get? a=some o∧H a=none)→Heap.SameBut a s.heap h'→ZK X.prog X.w H h':=fun {a h'} ha hs b ob e=>by
  obtain ⟨_,_,hfree⟩:=ha;refine (I.hok b ob e).stay (fun c w' hc q=>(hs.2 c ?_).trans q) (fun _ q=>q) fun _ _ q=>q
  rintro rfl;rcases hc with rfl | hc
  ·rw [hfree] at e; cases e
  ·rw [hfree] at hc; cases hc
 rcases hx with hk | hk
 ·refine wpAny_storeName_local hk hn (fun h' hn' hs=>?_) hcls;obtain ⟨oL,_,_,hoL,_⟩:=id hn;refine h _ ⟨I.ok,I.os,I.bare,⟨fun b o e n hb hx=>?_,fun b o e n hb hx=>?_,I.base.free,fun b o e hx=>?_,I.base.tups,I.base.frzs,I.base.tbls⟩,⟨_,hn',fun j y v' e1 e2 e3=>?_⟩,fun y c e=>?_,I.free,I.freeC,fun p hp=>?_,tracked ⟨oL,hoL,I.free⟩ hs,by simpa using I.len⟩ ⟨_,hs,.inl rfl⟩
  ·exact (hs.2 b (Nat.ne_of_lt (Nat.lt_of_lt_of_le (Heap.lt_size e) I.ok.above))).trans (I.base.keep b o e n hb hx)
  ·obtain ⟨sl,e1⟩:=I.base.slot b o e n hb hx;exact ⟨sl,(hs.2 b (Nat.ne_of_lt (Nat.lt_of_lt_of_le (Heap.lt_size e) I.ok.above))).trans e1⟩
  ·obtain ⟨o',e1⟩:=I.base.there b o e hx;exact ⟨o',(hs.2 b (Nat.ne_of_lt (Nat.lt_of_lt_of_le (Heap.lt_size e) I.ok.above))).trans e1⟩
  ·by_cases hj:j=i
   ·subst hj;rw [hi] at e1; cases e1;rw [List.getElem?_set_self hiσ] at e2;cases e2;exact ⟨u,r,.inl ⟨hk,by simp⟩⟩
   ·rw [List.getElem?_set_ne (Ne.symm hj)] at e2;obtain ⟨u',r',q⟩:=hl j y v' e1 e2 e3;refine ⟨u',r',?_⟩;rcases q with ⟨k,e⟩ | ⟨k,c,e,z⟩
    ·refine .inl ⟨k,?_⟩;have:y≠x:=fun e=>hj (Jkm hN e1 (e ▸ hi))
     simp [this,e]
    ·exact .inr ⟨k,c,e,z.sameBut hs (cne y c e)⟩
  ·obtain ⟨w',z⟩:=I.cell y c e;exact ⟨w',z.sameBut hs (cne y c e)⟩
  ·obtain ⟨e,n,ne,nf,d⟩:=I.pin p hp;exact ⟨(hs.2 p.1 ne).trans e,n,ne,nf,d⟩
 ·have hfn:X.fn x=true:=by
   rcases hf with z | z
   ·exact z
   ·rw [z] at hk; cases hk
  obtain ⟨c,hc⟩:=I.ok.has x (.inl hk);obtain ⟨w',z⟩:=I.cell x c hc;refine wpAny_storeName_cell I.ok.kind hk hc z (fun h' hc' hs=>?_);obtain ⟨oc,hoc,hocd⟩:=id z;refine h { s with heap:=h' } ⟨I.ok,I.os,I.bare,⟨fun b o e n hb hx=>?_,fun b o e n hb hx=>?_,I.base.free,fun b o e hx=>?_,I.base.tups,I.base.frzs,I.base.tbls⟩,⟨m,hn.sameBut hs (Ne.symm (cne x c hc)),fun j y v' e1 e2 e3=>?_⟩,fun y c' e=>?_,I.free,I.freeC,fun p hp=>?_,tracked ⟨oc,hoc,I.freeC x c hc⟩ hs,by simpa using I.len⟩ ⟨c,hs,.inr hc⟩
  ·exact (hs.2 b (Nat.ne_of_lt (Nat.lt_of_lt_of_le (Heap.lt_size e) (I.ok.cab x c hfn hc)))).trans (I.base.keep b o e n hb hx)
  ·obtain ⟨sl,e1⟩:=I.base.slot b o e n hb hx;exact ⟨sl,(hs.2 b (Nat.ne_of_lt (Nat.lt_of_lt_of_le (Heap.lt_size e) (I.ok.cab x c hfn hc)))).trans e1⟩
  ·obtain ⟨o',e1⟩:=I.base.there b o e hx;exact ⟨o',(hs.2 b (Nat.ne_of_lt (Nat.lt_of_lt_of_le (Heap.lt_size e) (I.ok.cab x c hfn hc)))).trans e1⟩
  ·by_cases hj:j=i
   ·subst hj;rw [hi] at e1; cases e1;rw [List.getElem?_set_self hiσ] at e2;cases e2;exact ⟨u,r,.inr ⟨.inl hk,c,hc,hc'⟩⟩
   ·rw [List.getElem?_set_ne (Ne.symm hj)] at e2;obtain ⟨u',r',q⟩:=hl j y v' e1 e2 e3;refine ⟨u',r',?_⟩;rcases q with q | ⟨k,c',e,z'⟩
    ·exact .inl q
    ·refine .inr ⟨k,c',e,z'.sameBut hs ?_⟩;rintro rfl;exact hj (Jkm hN e1 (I.ok.inj _ _ _ e hc ▸ hi))
  ·by_cases hcc:c'=c
   ·subst hcc; exact ⟨_,hc'⟩
   ·obtain ⟨w2,z2⟩:=I.cell y c' e;exact ⟨w2,z2.sameBut hs hcc⟩
  ·obtain ⟨e,n,ne,nf,d⟩:=I.pin p hp;refine ⟨(hs.2 p.1 ?_).trans e,n,ne,nf,d⟩;intro q;rw [q,hoc] at e;have q':oc=p.2:=Option.some.inj e;exact d w' (by rw [← q']; exact hocd)
theorem Jj5 {M:Model} {A:Around} {E:Value→Shared→Prop} {i:Nat} {x:Str} {v:V} {u:Value} {Q:Unit→Shared→Prop} (I:Jn X pins σ H s) (hN:X.N.Nodup) (hi:X.N[i]?=some x) (hx:Loc X.env.scope x) (r:JR v u)
  (h:∀ s',Jn X pins (σ.set i (some v)) H s'→Q () s') (hf:X.fn x=true∨X.env.scope.names.lookup x=some .local:=by first | exact .inl rfl | exact .inr rfl | assumption):wpAny M A (storeName X.env x u) Q E s :=
 Jms I hN hi hx r (fun s' I' _=>h s' I') hf
theorem Jn.call' {s':Shared} {ch:List Addr} (I:Jn X pins σ H s) (ho:s'.os=s.os) (u:Un (ZQ X.stack) ch H H' s.heap s'.heap) (hok:ZK X.prog X.w H' s'.heap) (hg:AllBare s'.gens)
  (hch:∀ b∈ch,(b∈X.ex∨X.s₀.heap.objs.size≤b)∧b≠X.env.locals∧(∀ x c,X.env.cells.lookup x=some c→c≠b)∧∀ p∈X.pn ++ pins,p.1≠b):Jn X pins σ H' s':=by
 obtain ⟨h',g',d',t',o'⟩:=s';have e:o'=s.os:=ho;subst e;exact I.call (g':=g') (t':=t') (d':=d') u hok hg hch
end
abbrev XK:=Value→Option Addr→Hp→Prop
abbrev St:=List (Option V)
abbrev VK:=V→Hp→Prop
abbrev TE:=St→Hp→VK→Prop
abbrev TT:=St→Hp→(Bool→Hp→Prop)→Prop
abbrev TA:=St→Hp→(List V→Hp→Prop)→Prop
structure Jja where
 nx:St→Hp→Prop
 rt:VK
 bk:St→Hp→Prop:=fun _ _=>False
 ct:St→Hp→Prop:=fun _ _=>False
abbrev TS:=Jja→St→Hp→Prop
def EP (X:Cx) (pins:List (Addr×Obj)) (σ:St) (Q:VK) (u:Value) (s':Shared):Prop:=∃ v H',Jn X pins σ H' s'∧JR v u∧Q v H'
def TP (X:Cx) (pins:List (Addr×Obj)) (σ:St) (Q:Bool→Hp→Prop) (b:Bool) (s':Shared):Prop:=∃ H',Jn X pins σ H' s'∧Q b H'
def AP (X:Cx) (pins:List (Addr×Obj)) (σ:St) (Q:List V→Hp→Prop) (us:List Value) (s':Shared):Prop:=∃ vs H',Jn X pins σ H' s'∧JF vs us∧Q vs H'
def SP (X:Cx) (pins:List (Addr×Obj)) (D:Jja) (f:Flow) (s':Shared):Prop :=
 match f with
 | .next=>∃ σ' H',Jn X pins σ' H' s'∧D.nx σ' H'
 | .brk=>∃ σ' H',Jn X pins σ' H' s'∧D.bk σ' H'
 | .cont=>∃ σ' H',Jn X pins σ' H' s'∧D.ct σ' H'
 | .ret u=>∃ v σ' H',Jn X pins σ' H' s'∧JR v u∧D.rt v H'
def PE (X:Cx) (e:Expr) (t:TE):Prop :=
 ∀ (pins:List (Addr×Obj)) (s:Shared) (σ:St) (H:Hp) (Q:VK),Jn X pins σ H s→t σ H Q→wpAny (model X.prog X.w) X.A (eval e X.env) (EP X pins σ Q) X.xe s
def PT (X:Cx) (e:Expr) (t:TT):Prop :=
 ∀ (pins:List (Addr×Obj)) (s:Shared) (σ:St) (H:Hp) (Q:Bool→Hp→Prop),Jn X pins σ H s→t σ H Q→wpAny (model X.prog X.w) X.A (isTrue e X.env (eval e X.env)) (TP X pins σ Q) X.xe s
def PW (X:Cx) (e:Expr) (t:TT):Prop :=
 ∀ (whole:Sem Value) (pins:List (Addr×Obj)) (s:Shared) (σ:St) (H:Hp) (Q:Bool→Hp→Prop),Jn X pins σ H s→t σ H Q→wpAny (model X.prog X.w) X.A (isTrue e X.env whole) (TP X pins σ Q) X.xe s
theorem PW.pt {X:Cx} {e:Expr} {t:TT} (h:PW X e t):PT X e t:=h _
def PA (X:Cx) (es:List Expr) (t:TA):Prop :=
 ∀ (pos:Pos) (pins:List (Addr×Obj)) (s:Shared) (σ:St) (H:Hp) (Q:List V→Hp→Prop),Jn X pins σ H s→t σ H Q→wpAny (model X.prog X.w) X.A (spliced (backTo pos (starEach es X.env))) (AP X pins σ Q) X.xe s
def PS (X:Cx) (st:Stmt) (t:TS):Prop :=
 ∀ (pins:List (Addr×Obj)) (s:Shared) (σ:St) (H:Hp) (D:Jja),Jn X pins σ H s→t D σ H→wpAny (model X.prog X.w) X.A (exec st X.env) (SP X pins D) X.xe s
def PSs (X:Cx) (st:List Stmt) (t:TS):Prop :=
 ∀ (pins:List (Addr×Obj)) (s:Shared) (σ:St) (H:Hp) (D:Jja),Jn X pins σ H s→t D σ H→wpAny (model X.prog X.w) X.A (execs st X.env) (SP X pins D) X.xe s
theorem J2 {α:Type} {t:Sem α} {Q Q':α→Shared→Prop} {M:Model} {A:Around} {E:Value→Shared→Prop} {s:Shared} (h:wpAny M A t Q E s) (hQ:∀ a s,Q a s→Q' a s):wpAny M A t Q' E s:=wpAny_mono h hQ fun _ _ x=>x
end L2
namespace L2
open PySem PySem.Spec PyProof.Rows
section
variable {X:Cx}
def JpW (i:Nat):TE:=fun σ H Q=>∃ v,σ[i]?=some (some v)∧Q v H
def tC (v:V):TE:=fun _ H Q=>Q v H
theorem Jn2 {i:Nat} {x:Str} {pos:Pos} (hN:X.N[i]?=some x) (hv:Vis X.env.scope x) (hd:(x == ("__debug__" : Str))=false:=by decide) (hcd:(x == ("__classdict__" : Str))=false:=by decide):PE X (.Name x pos) (JpW i):=by
 intro pins s σ H Q I h;obtain ⟨v,e,h⟩:=h;obtain ⟨m,hn,hl⟩:=I.loc;obtain ⟨u,r,l⟩:=hl i x v hN e hv;have fin:EP X pins σ Q u s:=⟨v,H,I,r,h⟩
 rcases l with ⟨hk,hm⟩ | ⟨hk,c,hc,hcell⟩
 ·exact wpAny_Name (wpAny_loadName_local I.ok.kind hk hn hm fin) hd
 ·rcases hk with hk | hk
  ·exact wpAny_Name (wpAny_loadName_cell I.ok.kind hk hc hcell fin) hd
  ·exact wpAny_Name (wpAny_loadName_free I.ok.kind hk hc hcell fin hcd) hd
theorem Je {i j pos}:PE X (.Constant (.int i) j pos) (tC (.int i)):=fun _ _ _ H _ I h=>wpAny_Constant_int ⟨.int i,H,I.tok _,⟨_,rfl⟩,h⟩
theorem Ja6 {b j pos}:PE X (.Constant (.bool b) j pos) (tC (.bl b)):=fun _ _ _ H _ I h=>Constant_bool ⟨.bl b,H,I,rfl,h⟩
theorem Jbp {j pos}:PE X (.Constant .none j pos) (tC .non):=fun _ _ _ H _ I h=>Constant_none ⟨.non,H,I,rfl,h⟩
theorem Jp {x j pos}:PE X (.Constant (.str x) j pos) (tC (.str x)):=fun _ _ _ H _ I h=>Calls.Constant_str ⟨.str x,H,I.tok _,⟨_,rfl⟩,h⟩
def Gl (X:Cx) (x:Str):Prop:=X.env.kindOf x=some .globalImplicit
theorem JeC {E:Value→Shared→Prop} {pins:List (Addr×Obj)} {s:Shared} {σ:St} {H:Hp} {x:Str} {u:Value} {pos:Pos} {Q:Value→Shared→Prop} (I:Jn X pins σ H s) (hg:Gl X x) (hm:X.mg x=some u) (h:Q u s)
  (hd:(x == ("__debug__" : Str))=false:=by decide):wpAny (model X.prog X.w) X.A (eval (.Name x pos) X.env) Q E s :=
 Calls.Name_function_global I.ok.kind hg (Calls.loadGlobal_global (by rw [I.ok.glob]; exact I.mod.glob.keeps I.bk) hm h) hd
theorem Jiz {E:Value→Shared→Prop} {pins:List (Addr×Obj)} {s:Shared} {σ:St} {H:Hp} {x:Str} {u:Value} {pos:Pos} {Q:Value→Shared→Prop} (I:Jn X pins σ H s) (hg:Gl X x) (hm:X.mg x=none) (hv:bootBuiltins x=some u) (h:Q u s)
  (hn:x ≠ "__name__":=by decide) (hd:(x == ("__debug__" : Str))=false:=by decide):wpAny (model X.prog X.w) X.A (eval (.Name x pos) X.env) Q E s:=by
 obtain ⟨mb,h1,h2⟩:=I.mod.blt;exact Calls.Name_function_global I.ok.kind hg (Calls.loadGlobal_builtin (by rw [I.ok.glob]; exact I.mod.glob.keeps I.bk) hm (by rw [I.ok.blt]; exact h1.keeps I.bk) ((h2 x hn).trans hv) h) hd
theorem ZV {x:Str} {v:V} {u:Value} {pos:Pos} (hg:Gl X x) (hm:X.mg x=some u) (r:JR v u) (hd:(x == ("__debug__" : Str))=false:=by decide):PE X (.Name x pos) (tC v) :=
 fun _ _ _ H _ I h=>JeC I hg hm ⟨v,H,I,r,h⟩ hd
theorem Jux {x:Str} {v:V} {u:Value} {pos:Pos} (hg:Gl X x) (hm:X.mg x=none) (hv:bootBuiltins x=some u) (r:JR v u) (hn:x ≠ "__name__":=by decide) (hd:(x == ("__debug__" : Str))=false:=by decide):PE X (.Name x pos) (tC v) :=
 fun _ _ _ H _ I h=>Jiz I hg hm hv ⟨v,H,I,r,h⟩ hn hd
variable {a b:Expr} {ta tb:TE} {pos:Pos}
def PC (X:Cx) (op:CmpOp) (a b:Expr) (t:TE):Prop :=
 ∀ (pins:List (Addr×Obj)) (s:Shared) (σ:St) (H:Hp) (Q:VK),Jn X pins σ H s→t σ H Q →
  wpAny (model X.prog X.w) X.A (eval a X.env) (fun v s₁=>wpAny (model X.prog X.w) X.A (eval b X.env) (fun u s₂=>wpAny (model X.prog X.w) X.A (compareOp op v u) (EP X pins σ Q) X.xe s₂) X.xe s₁) X.xe s
theorem Zi (b:Expr) {op:CmpOp} (h:op≠.In) (h2:op≠.NotIn):behindInMarks op b=false:=by
 have e1:(op == CmpOp.In)=false:=by cases op <;> first | rfl | exact absurd rfl h
 have e2:(op == CmpOp.NotIn)=false:=by cases op <;> first | rfl | exact absurd rfl h2
 cases b <;> simp [behindInMarks,e1,e2]
def JwX (ta:TE):TE:=fun σ H Q=>ta σ H fun x H1=>Q (.bl (decide (x=.non))) H1
def Jwc (ta:TE):TE:=fun σ H Q=>ta σ H fun x H1=>Q (.bl (!decide (x=.non))) H1
theorem JR.none_iff {x:V} {v:Value} (r:JR x v):(v == Value.none)=decide (x=.non):=by
 cases x with
 | non=>cases r; rfl
 | bl _=>cases r; rfl
 | int _=>obtain ⟨t,rfl⟩:=r; rfl
 | str _=>obtain ⟨t,rfl⟩:=r; rfl
 | byt _=>obtain ⟨t,rfl⟩:=r; rfl
 | flt _=>obtain ⟨t,rfl⟩:=r; rfl
 | ref _=>cases r; rfl
 | ty _=>cases r; rfl
theorem JgI {j pos'} (ha:PE X a ta):PC X .Is a (.Constant .none j pos') (JwX ta):=by
 intro pins s σ H Q I h;refine J2 (ha pins s σ H _ I h) fun v s1 ⟨x,H1,I1,r1,q1⟩=>?_
 exact Constant_none (is_none_gen ⟨.bl _,H1,I1,by rw [r1.none_iff]; rfl,q1⟩)
theorem Jjl {j pos'} (ha:PE X a ta):PC X .IsNot a (.Constant .none j pos') (Jwc ta):=by
 intro pins s σ H Q I h;refine J2 (ha pins s σ H _ I h) fun v s1 ⟨x,H1,I1,r1,q1⟩=>?_
 exact Constant_none (isnot_none_gen ⟨.bl _,H1,I1,by rw [r1.none_iff]; rfl,q1⟩)
def tB (t:TE):TT:=fun σ H Q=>t σ H fun x H1=>∃ c,x=.bl c∧Q c H1
theorem Jri {op:CmpOp} {t:TE} (h:PC X op a b t) (h1:behindInMarks op b=false:=by first | exact Zi _ (by decide) (by decide) | rfl):PE X (.Compare a [op] [b] pos) t:=fun pins s σ H Q I hw=>wpAny_Compare1 (h pins s σ H Q I hw) h1
theorem Jbo {op:CmpOp} {t:TE} (h:PC X op a b t) (h1:behindInMarks op b=false:=by first | exact Zi _ (by decide) (by decide) | rfl):PT X (.Compare a [op] [b] pos) (tB t):=by
 intro pins s σ H Q I hw;refine wpAny_isTrue_Compare1 (J2 (h pins s σ H _ I hw) fun v s1 h1=>J2 h1 fun u s2 h2=>J2 h2 fun c s3 ⟨x,H1,I1,r1,q1⟩=>?_) h1;obtain ⟨d,rfl,q⟩:=q1;cases r1;exact wpAny_truthy_bool ⟨H1,I1,q⟩
theorem Zx {e:Expr} {t:TE} (h:PE X e t) (he:∀ whole,isTrue e X.env whole=(do let v ← whole; standAt e.pos; holding [v] (truthy v)):=by intro _; rfl):PT X e (tB t):=by
 intro pins s σ H Q I hw;refine isTrue_plain (J2 (h pins s σ H _ I hw) fun v s1 ⟨x,H1,I1,r1,q1⟩=>?_) (he _);obtain ⟨d,rfl,q⟩:=q1;cases r1;exact wpAny_truthy_bool ⟨H1,I1,q⟩
variable {tA tB':TT} {rest:List Expr}
def Jw2 (t u:TT):TT:=fun σ H Q=>t σ H fun c H1=>if c=true then u σ H1 Q else Q false H1
def tOr (t u:TT):TT:=fun σ H Q=>t σ H fun c H1=>if c=true then Q true H1 else u σ H1 Q
def JwU (t:TT):TT:=fun σ H Q=>t σ H fun c H1=>Q (!c) H1
theorem JgF (ha:PT X a tA):PW X (.BoolOp .And [a] pos) tA:=by
 intro wh pins s σ H Q I h;refine isTrue_and (J2 (ha pins s σ H Q I h) fun c s1 e=>?_);cases c with
 | true=>exact isTrue_and_nil e
 | false=>exact e
theorem Jax (ha:PT X a tA):PW X (.BoolOp .Or [a] pos) tA:=by
 intro wh pins s σ H Q I h;refine isTrue_or (J2 (ha pins s σ H Q I h) fun c s1 e=>?_);cases c with
 | false=>exact isTrue_or_nil e
 | true=>exact e
theorem Jif (ha:PT X a tA) (hb:PW X (.BoolOp .And (b :: rest) pos) tB'):PW X (.BoolOp .And (a :: b :: rest) pos) (Jw2 tA tB'):=by
 intro wh pins s σ H Q I h;refine isTrue_and (J2 (ha pins s σ H _ I h) fun c s1 ⟨H1,I1,q1⟩=>?_);cases c with
 | true=>exact hb wh pins s1 σ H1 Q I1 q1
 | false=>exact ⟨H1,I1,q1⟩
theorem Jac (ha:PT X a tA) (hb:PW X (.BoolOp .Or (b :: rest) pos) tB'):PW X (.BoolOp .Or (a :: b :: rest) pos) (tOr tA tB'):=by
 intro wh pins s σ H Q I h;refine isTrue_or (J2 (ha pins s σ H _ I h) fun c s1 ⟨H1,I1,q1⟩=>?_);cases c with
 | true=>exact ⟨H1,I1,q1⟩
 | false=>exact hb wh pins s1 σ H1 Q I1 q1
theorem Jag (ha:PT X a tA):PT X (.UnaryOp .Not a pos) (JwU tA):=by
 intro pins s σ H Q I h;exact isTrue_not (ha pins s σ H (fun c H1=>Q (!c) H1) I h)
def Jwh (ta tb:TE):TE:=fun σ H Q=>ta σ H fun x H1=>∃ c,x=.bl c∧if c=true then tb σ H1 Q else Q (.bl false) H1
def Jwb (ta:TE):TE:=fun σ H Q=>ta σ H fun x H1=>∃ c,x=.bl c∧Q (.bl (!c)) H1
theorem Jn3 {op} {t:TE} (h:PE X a t):PE X (.BoolOp op [a] pos) t:=fun pins s σ H Q I hw=>BoolOp_one (h pins s σ H Q I hw)
theorem Jn5 (ha:PE X a ta) (hb:PE X (.BoolOp .And (b :: rest) pos) tb):PE X (.BoolOp .And (a :: b :: rest) pos) (Jwh ta tb):=by
 intro pins s σ H Q I h;refine BoolOp_and (J2 (ha pins s σ H _ I h) fun v s1 ⟨x,H1,I1,r1,q1⟩=>?_);obtain ⟨c,rfl,q1⟩:=q1;cases r1;refine wpAny_truthy_bool ?_;cases c with
 | true=>exact hb pins s1 σ H1 Q I1 q1
 | false=>exact ⟨.bl false,H1,I1,rfl,q1⟩
theorem JvE (ha:PE X a ta):PE X (.UnaryOp .Not a pos) (Jwb ta):=by
 intro pins s σ H Q I h;refine UnaryOp_ (J2 (ha pins s σ H _ I h) fun v s1 ⟨x,H1,I1,r1,q1⟩=>?_);obtain ⟨c,rfl,q1⟩:=q1;cases r1;exact not_of (wpAny_truthy_bool ⟨.bl (!c),H1,I1,rfl,q1⟩)
def tIf (t:TT) (ta tb:TE):TE:=fun σ H Q=>t σ H fun c H1=>if c=true then ta σ H1 Q else tb σ H1 Q
theorem Jke {c:Expr} (hc:PT X c tA) (ha:PE X a ta) (hb:PE X b tb):PE X (.IfExp c a b pos) (tIf tA ta tb):=by
 intro pins s σ H Q I h;refine wpAny_IfExp (J2 (hc pins s σ H _ I h) fun d s1 ⟨H1,I1,q1⟩=>?_);cases d with
 | true=>exact ha pins s1 σ H1 Q I1 q1
 | false=>exact hb pins s1 σ H1 Q I1 q1
end
end L2
namespace L2
open PySem PySem.Spec PyProof.Rows
def Jz (K:PySem.W.Frag) (H:Hp) (a:Addr) (xs:List V):Prop :=
 Rd H a (.lst xs) ∨
  ∃ (o:Obj) (its:Array Value) (n:Nat),K.lookup a=some o∧o.cls=.type "list"∧o.dict=none∧o.data=.seq its n∧its.size≤sizeLine∧JF xs its.toList
def JQ (K:PySem.W.Frag) (H:Hp) (a:Addr) (xs:List V):Prop :=
 Rd H a (.tup xs) ∨
  ∃ (o:Obj) (its:Array Value) (n:Nat),K.lookup a=some o∧o.cls=.type "tuple"∧o.data=.seq its n∧its.size≤sizeLine∧JF xs its.toList
def Jxf:Value→Option V
 | .none=>some .non
 | .bool b=>some (.bl b)
 | .int i _=>some (.int i)
 | .str x _=>some (.str x)
 | .bytes b _=>some (.byt b)
 | .float b _=>some (.flt b)
 | .ref a=>some (.ref a)
 | .type n=>some (.ty n)
 | _=>none
theorem JR.abs {x:V} {u:Value} (r:JR x u):Jxf u=some x:=by
 cases x with
 | non=>cases r; rfl
 | bl _=>cases r; rfl
 | int _=>obtain ⟨t,rfl⟩:=r; rfl
 | str _=>obtain ⟨t,rfl⟩:=r; rfl
 | byt _=>obtain ⟨t,rfl⟩:=r; rfl
 | flt _=>obtain ⟨t,rfl⟩:=r; rfl
 | ref _=>cases r; rfl
 | ty _=>cases r; rfl
theorem JR.inj {x y:V} {u:Value} (r:JR x u) (q:JR y u):x=y:=Option.some.inj (r.abs.symm.trans q.abs)
theorem JF.inj:∀ {xs ys:List V} {us:List Value},JF xs us→JF ys us→xs=ys
 | _,_,_,.nil,.nil=>rfl
 | _,_,_,.cons r t,.cons r' t'=>by rw [r.inj r',JF.inj t t']
section
variable {X:Cx} {pins:List (Addr×Obj)} {σ:St} {H:Hp} {s:Shared} {a:Addr} {xs ys:List V}
theorem Jz.of {K:PySem.W.Frag} (h:H a=some (.lst xs)):Jz K H a xs:=.inl (.inl h)
theorem JQ.of {K:PySem.W.Frag} (h:H a=some (.tup xs)):JQ K H a xs:=.inl (.inl h)
theorem Jn.list (I:Jn X pins σ H s) (h:Jz X.K H a xs):∃ its:List Value,JF xs its∧PlainL s.heap a its.toArray∧xs.length≤sizeLine:=by
 rcases h with h | ⟨o,its,n,hk,hc,hd,hs,hz,r⟩
 ·obtain ⟨z,its,n,r,e⟩:=h.ok I.hok;exact ⟨its,r,⟨_,n,e,rfl,rfl,rfl⟩,z⟩
 ·refine ⟨its.toList,r,⟨o,n,I.kIn a o hk,hc,hd,by simpa using hs⟩,?_⟩;have e:=r.length;simp only [Array.length_toList] at e;omega
theorem Jn.tuple (I:Jn X pins σ H s) (h:JQ X.K H a xs):∃ its:List Value,JF xs its∧IsTup s.heap a its.toArray∧xs.length≤sizeLine:=by
 rcases h with h | ⟨o,its,n,hk,hc,hs,hz,r⟩
 ·obtain ⟨z,its,r,p⟩:=h.ok I.hok;exact ⟨its,r,p,z⟩
 ·refine ⟨its.toList,r,⟨o,I.kIn a o hk,hc,n,by simpa using hs⟩,?_⟩;have e:=r.length;simp only [Array.length_toList] at e;omega
theorem Jn.list_inj (I:Jn X pins σ H s) (h:Jz X.K H a xs) (h':Jz X.K H a ys):xs=ys:=by
 obtain ⟨its,r,⟨o,n,e,_,_,d⟩,_⟩:=I.list h;obtain ⟨its',r',⟨o',n',e',_,_,d'⟩,_⟩:=I.list h';rw [e] at e'; cases e';rw [d] at d';injection d' with d1 _;have:its=its':=by simpa using congrArg Array.toList d1
 subst this;exact r.inj r'
theorem Jn.tuple_inj (I:Jn X pins σ H s) (h:JQ X.K H a xs) (h':JQ X.K H a ys):xs=ys:=by
 obtain ⟨its,r,⟨o,e,_,n,d⟩,_⟩:=I.tuple h;obtain ⟨its',r',⟨o',e',_,n',d'⟩,_⟩:=I.tuple h';rw [e] at e'; cases e';rw [d] at d';injection d' with d1 _;have:its=its':=by simpa using congrArg Array.toList d1
 subst this;exact r.inj r'
end
abbrev Cx.wish (X:Cx) (E:Value→Shared→Prop):Cx:={ X with xe:=E }
abbrev Cx.nox (X:Cx):Cx:=X.wish fun _ _=>False
theorem Cx.Ok.wish {X:Cx} (ok:X.Ok) (E:Value→Shared→Prop):(X.wish E).Ok :=
 ⟨ok.mod,ok.kind,ok.glob,ok.blt,ok.above,ok.inj,ok.has,ok.cab,ok.hd,ok.frames,ok.stk,ok.exf,ok.bs,ok.bsz,ok.noex,ok.exfs,ok.funs,ok.frf⟩
theorem Cx.Ok.unwish {X:Cx} {E:Value→Shared→Prop} (ok:(X.wish E).Ok):X.Ok :=
 ⟨ok.mod,ok.kind,ok.glob,ok.blt,ok.above,ok.inj,ok.has,ok.cab,ok.hd,ok.frames,ok.stk,ok.exf,ok.bs,ok.bsz,ok.noex,ok.exfs,ok.funs,ok.frf⟩
section
variable {X:Cx} {pins:List (Addr×Obj)} {σ:St} {H:Hp} {s:Shared} {E:Value→Shared→Prop}
theorem Jn.wish (I:Jn X pins σ H s) (E:Value→Shared→Prop):Jn (X.wish E) pins σ H s:=⟨I.ok.wish E,I.os,I.bare,I.base,I.loc,I.cell,I.free,I.freeC,I.pin,I.hok,I.len⟩
theorem Jn.unwish (I:Jn (X.wish E) pins σ H s):Jn X pins σ H s:=⟨I.ok.unwish,I.os,I.bare,I.base,I.loc,I.cell,I.free,I.freeC,I.pin,I.hok,I.len⟩
theorem SP.unwish {D:Jja} {f:Flow} {s':Shared} (h:SP (X.wish E) pins D f s'):SP X pins D f s':=by
 cases f with
 | next=>obtain ⟨σ',H',I,q⟩:=h; exact ⟨σ',H',I.unwish,q⟩
 | brk=>obtain ⟨σ',H',I,q⟩:=h; exact ⟨σ',H',I.unwish,q⟩
 | cont=>obtain ⟨σ',H',I,q⟩:=h; exact ⟨σ',H',I.unwish,q⟩
 | ret u=>obtain ⟨v,σ',H',I,r,q⟩:=h; exact ⟨v,σ',H',I.unwish,r,q⟩
theorem PE.nox {e:Expr} {t:TE} (h:PE X.nox e t):PE X e t:=fun pins s σ H Q I hw =>
 wpAny_mono (h pins s σ H Q (I.wish _) hw) (fun _ _ ⟨v,H',I',r,q⟩=>⟨v,H',I'.unwish,r,q⟩) fun _ _ z=>False.elim z
theorem PT.nox {e:Expr} {t:TT} (h:PT X.nox e t):PT X e t:=fun pins s σ H Q I hw =>
 wpAny_mono (h pins s σ H Q (I.wish _) hw) (fun _ _ ⟨H',I',q⟩=>⟨H',I'.unwish,q⟩) fun _ _ z=>False.elim z
theorem PSs.nox {st:List Stmt} {t:TS} (h:PSs X.nox st t):PSs X st t:=fun pins s σ H D I hw =>
 wpAny_mono (h pins s σ H D (I.wish _) hw) (fun _ _ q=>q.unwish) fun _ _ z=>False.elim z
end
section
variable {X:Cx} {st:Stmt} {rest:List Stmt} {t u:TS} {e:Expr} {te:TE} {pos:Pos}
def Jwd:TS:=fun D σ H=>D.nx σ H
def JwS (t u:TS):TS:=fun D σ H=>@Jja.rec (fun _=>Prop) (fun nx rt bk ct=>t ⟨u ⟨nx,rt,bk,ct⟩,rt,bk,ct⟩ σ H) D
theorem Jy:PSs X [] Jwd:=fun _ _ σ H _ I h=>wpAny_execs_nil ⟨σ,H,I,h⟩
theorem Jf (h1:PS X st t) (h2:PSs X rest u):PSs X (st :: rest) (JwS t u):=by
 intro pins s σ H D I h;refine wpAny_execs_cons (J2 (h1 pins s σ H { D with nx:=u D } I h) fun f s1 q=>?_);cases f with
 | next =>
  obtain ⟨σ',H',I',q⟩:=q;exact h2 pins s1 σ' H' D I' q
 | ret v=>exact q
 | brk=>exact q
 | cont=>exact q
theorem Jj (h1:PS X st t):PSs X [st] t:=by
 intro pins s σ H D I h;refine wpAny_execs_cons (J2 (h1 pins s σ H D I h) fun f s1 q=>?_);cases f with
 | next=>exact wpAny_execs_nil q
 | ret v=>exact q
 | brk=>exact q
 | cont=>exact q
def Ju6:TS:=fun D σ H=>D.bk σ H
theorem JsV:PS X (.Break pos) Ju6:=fun _ _ σ H _ I h=>wpAny_Break ⟨σ,H,I,h⟩
theorem Jn.quiet {pins:List (Addr×Obj)} {σ:St} {H:Hp} {s:Shared} (I:Jn X pins σ H s):interactive X.env=false:=by simp [interactive,I.ok.kind]
def Jwe (te:TE):TS:=fun D σ H=>te σ H fun _ H1=>D.nx σ H1
theorem J7 (he:PE X e te) (hs:swapsWith e none pos.line X.env=pure false:=by rfl):PS X (.Expr e pos) (Jwe te):=by
 intro pins s σ H D I h;exact wpAny_Expr_any (J2 (he pins s σ H _ I h) fun v s1 ⟨x,H1,I1,r1,q1⟩=>⟨σ,H1,I1,q1⟩) I.quiet hs
def JwT (te:TE):TS:=fun D σ H=>te σ H D.rt
theorem Jq (he:PE X e te):PS X (.Return (some e) pos) (JwT te):=by
 intro pins s σ H D I h;exact wpAny_Return_some (J2 (he pins s σ H _ I h) fun v s1 ⟨x,H1,I1,r1,q1⟩=>⟨x,σ,H1,I1,r1,q1⟩)
def JwY (c:TT) (t u:TS):TS:=fun D σ H=>c σ H fun b H1=>if b=true then t D σ H1 else u D σ H1
theorem JM {c:Expr} {a b:List Stmt} {tc:TT} (hc:PT X c tc) (ha:PSs X a t) (hb:PSs X b u):PS X (.If c a b pos) (JwY tc t u):=by
 intro pins s σ H D I h;refine wpAny_If (J2 (hc pins s σ H _ I h) fun d s1 ⟨H1,I1,q1⟩=>?_);cases d with
 | true=>exact ha pins s1 σ H1 D I1 q1
 | false=>exact hb pins s1 σ H1 D I1 q1
def Ju2:TS:=fun _ _ _=>False
theorem Jhe:PS X st Ju2:=fun _ _ _ _ _ _ h=>h.elim
end
abbrev TG:=V→St→Hp→(St→Hp→Prop)→Prop
abbrev TGs:=List V→St→Hp→(St→Hp→Prop)→Prop
def PG (X:Cx) (target:Expr) (t:TG):Prop :=
 ∀ (pins:List (Addr×Obj)) (s:Shared) (σ:St) (H:Hp) (v:V) (u:Value) (Q:St→Hp→Prop),Jn X pins σ H s→JR v u→t v σ H Q →
  wpAny (model X.prog X.w) X.A (assign target X.env u) (fun _ s'=>∃ σ' H',Jn X pins σ' H' s'∧Q σ' H') X.xe s
def PGs (X:Cx) (ts:List Expr) (t:TGs):Prop :=
 ∀ (pins:List (Addr×Obj)) (s:Shared) (σ:St) (H:Hp) (vs:List V) (us:List Value) (Q:St→Hp→Prop),Jn X pins σ H s→JF vs us→t vs σ H Q →
  wpAny (model X.prog X.w) X.A (assignInOrder ((assignEach ts X.env).map (·.2)) us) (fun _ s'=>∃ σ' H',Jn X pins σ' H' s'∧Q σ' H') X.xe s
abbrev JtE:=V→V→V→Hp→(Hp→Prop)→Prop
def Jv3 (X:Cx) (t:JtE):Prop :=
 ∀ (pins:List (Addr×Obj)) (s:Shared) (σ:St) (H:Hp) (o i v:V) (ov iv u:Value) (Q:Hp→Prop),Jn X pins σ H s→JR o ov→JR i iv→JR v u→t o i v H Q →
  wpAny (model X.prog X.w) X.A (setItem ov iv u) (fun _ s'=>∃ H',Jn X pins σ H' s'∧Q H') X.xe s
section
variable {X:Cx} {pos:Pos}
def Jbc (i:Nat):TG:=fun v σ H Q=>Q (σ.set i (some v)) H
theorem YC {i:Nat} {x:Str} (hN:X.N.Nodup) (hi:X.N[i]?=some x) (hx:Loc X.env.scope x) (hf:X.fn x=true∨X.env.scope.names.lookup x=some .local:=by first | exact .inl rfl | exact .inr rfl | assumption):PG X (.Name x pos) (Jbc i):=by
 intro pins s σ H v u Q I r h;exact wpAny_assign_Name (Jj5 I hN hi hx r (fun s' I'=>⟨_,H,I',h⟩) hf)
def JvU:TGs:=fun vs σ H Q=>vs=[]∧Q σ H
def Jqp (t:TG) (u:TGs):TGs:=fun vs σ H Q=>∃ v r,vs=v :: r∧t v σ H fun σ' H'=>u r σ' H' Q
theorem JlT:PGs X [] JvU:=by
 intro pins s σ H vs us Q I r h;obtain ⟨e,h⟩:=h;subst e;cases r;exact assignInOrder_nil ⟨σ,H,I,h⟩
theorem ZO {e:Expr} {es:List Expr} {t:TG} {u:TGs} (h1:PG X e t) (h2:PGs X es u)
  (hs:(assignEach (e :: es) X.env).map (·.2)=assign e X.env :: (assignEach es X.env).map (·.2):=by rfl):PGs X (e :: es) (Jqp t u):=by
 intro pins s σ H vs us Q I r h;obtain ⟨v,vr,e1,h⟩:=h;subst e1;cases r with
 | cons r rr =>
  rw [hs];refine assignInOrder_cons (J2 (h1 pins s σ H _ _ _ I r h) fun _ s1 ⟨σ1,H1,I1,q1⟩=>?_);exact h2 pins s1 σ1 H1 _ _ Q I1 rr q1
def Jqo (K:PySem.W.Frag) (n:Nat) (t:TGs):TG:=fun v σ H Q=>∃ a xs,v=.ref a∧JQ K H a xs∧xs.length=n∧t xs σ H Q
theorem Jn1 {es:List Expr} {k:Nat} {t:TGs} {n:Nat} (hc:X.calm=true) (h:PGs X es t)
  (hn:(assignEach es X.env).length=n:=by rfl) (hst:(assignEach es X.env).findIdx? (·.1)=none:=by rfl):PG X (.Tuple es k pos) (Jqo X.K n t):=by
 intro pins s σ H v u Q I r hw;obtain ⟨a,xs,e1,hq,hl,hw⟩:=hw;subst e1;cases r;obtain ⟨its,rv,ht,hz⟩:=I.tuple hq;refine assign_Tuple_tuple (I.ok.hd hc) ht (by simp [hn,← hl,rv.length]) hst fun h' hx=>?_
 have I1:Jn X pins σ H { s with heap:=h' }:=I.kept (t':=s.toks) fun b o e=>hx b o (Nat.ne_of_lt (Heap.lt_size e)) e
 exact h pins _ σ H xs _ Q I1 (by simpa using rv) hw
def Jxd (to ti:TE) (t:JtE):TG:=fun v σ H Q=>to σ H fun o H1=>ti σ H1 fun i H2=>t o i v H2 fun H3=>Q σ H3
theorem JvD {o i:Expr} {to ti:TE} {t:JtE} (ho:PE X o to) (hi:PE X i ti) (hs:Jv3 X t)
  (ha:∀ v,assign (.Subscript o i pos) X.env v=(do
   let ov ← holding [v] (eval o X.env);let iv ← holding [v,ov] (eval i X.env)
   standAt pos
   holding [v,ov,iv] (setItem ov iv v)
   release [v,ov,iv] []):=by intro _; rfl):PG X (.Subscript o i pos) (Jxd to ti t):=by
 intro pins s σ H v u Q I r h;rw [ha];refine wpAny_bind (wpAny_holding (J2 (ho pins s σ H _ I h) fun ov s1 ⟨x,H1,I1,r1,q1⟩=>?_));refine wpAny_bind (wpAny_holding (J2 (hi pins s1 σ H1 _ I1 q1) fun iv s2 ⟨y,H2,I2,r2,q2⟩=>?_));refine wpAny_bind (wpAny_standAt (wpAny_bind (wpAny_holding (J2 (hs pins s2 σ H2 x y v ov iv u _ I2 r1 r2 r q2) fun _ s3 ⟨H3,I3,q3⟩=>?_))));exact wpAny_release ⟨σ,H3,I3,q3⟩
def Jsr (te:TE) (g:TG):TS:=fun D σ H=>te σ H fun x H1=>g x σ H1 D.nx
theorem Jre {tg e:Expr} {te:TE} {g:TG} (he:PE X e te) (hg:PG X tg g) (hs:swapsWithSole [tg] e pos.line X.env=pure false:=by rfl) (hw:swappedStores [tg] e X.env=pure none:=by rfl)
  (h1:(assignEach [tg] X.env).map (·.2)=[assign tg X.env]:=by rfl):PS X (.Assign [tg] e pos) (Jsr te g):=by
 intro pins s σ H D I h;refine wpAny_Assign_stores (J2 (he pins s σ H _ I h) fun v s1 ⟨x,H1,I1,r1,q1⟩=>?_) hs hw;rw [h1];exact J2 (hg pins s1 σ H1 x v _ I1 r1 q1) fun _ s2 q=>q
theorem JE {i:Nat} {x:Str} {e:Expr} {te:TE} {pos':Pos} (hN:X.N.Nodup) (hi:X.N[i]?=some x) (hx:Loc X.env.scope x) (he:PE X e te) (hs:swapsWith e (some (.Name x pos')) pos.line X.env=pure false:=by rfl) (hf:X.fn x=true∨X.env.scope.names.lookup x=some .local:=by first | exact .inl rfl | exact .inr rfl | assumption) :
  PS X (.Assign [.Name x pos'] e pos) (Jsr te (Jbc i)):=by
 intro pins s σ H D I h;refine wpAny_Assign_Name (J2 (he pins s σ H _ I h) fun v s1 ⟨y,H1,I1,r1,q1⟩=>?_) hs;exact Jj5 I1 hN hi hx r1 (fun s2 I2=>⟨_,H1,I2,q1⟩) hf
end
structure It where
 go:Nat→Hp→Prop
 yld:Nat→Hp→V→Hp→Prop
 stop:Nat→Hp→Prop
def JfI (X:Cx) (pins:List (Addr×Obj)) (H:Hp) (b:Addr):Prop :=
 H b=none∧b≠X.env.locals∧b∉X.fs∧(b∈X.ex∨X.s₀.heap.objs.size≤b)∧(∀ x c,X.env.cells.lookup x=some c→c≠b)∧∀ p∈X.pn ++ pins,p.1≠b
theorem Jn.fpOk {X:Cx} {pins:List (Addr×Obj)} {σ:St} {H H':Hp} {s:Shared} {b:Addr} (I:Jn X pins σ H s) (hb:s.heap.objs.size≤b) (hn:H' b=none):JfI X pins H' b:=by
 refine ⟨hn,Nat.ne_of_gt (Nat.lt_of_lt_of_le I.lt hb),I.nofs hb,.inr (Nat.le_trans I.sz hb),fun x c e z=>?_,fun p hp z=>?_⟩
 ·obtain ⟨v,q⟩:=I.cell x c e;exact absurd (Nat.lt_of_lt_of_le q.lt (by rw [z]; exact hb)) (Nat.lt_irrefl _)
 ·exact absurd (Nat.lt_of_lt_of_le (Heap.lt_size (I.pin p hp).1) (by rw [z]; exact hb)) (Nat.lt_irrefl _)
structure Jmi (P:Program) (w:World) (K:PySem.W.Frag) (tg:Expr) (J:It) (fp:List Addr) (it:Addr) (tn:Nat→Heap→Prop):Prop where
 mem:it∈fp
 obj:∀ i h,tn i h→∀ b∈fp,∃ o,h.get? b=some o∧∀ v,o.data≠.cell v
 keep:∀ i h h',tn i h→(∀ b∈fp,∀ o,h.get? b=some o→h'.get? b=some o)→tn i h'
 item:∀ (X:Cx),X.prog=P→X.w=w→X.K=K→X.calm=true→∀ (i:Nat) (pins:List (Addr×Obj)) (s:Shared) (σ:St) (H:Hp) (E:Value→Shared→Prop),Jn X pins σ H s→(∀ b∈fp,JfI X pins H b)→tn i s.heap→J.go i H →
  wpAny (model P w) X.A (pyNext (.ref it)) (fun r s1=>∃ u,r=some u ∧
   wpAny (model P w) X.A (letOwnedTupleGo tg (.ref it) u) (fun _ s2=>∃ x H',Jn X pins σ H' s2∧JR x u∧J.yld i H x H'∧tn (i + 1) s2.heap∧∀ b∈fp,H' b=none) E s1) E s
 done:∀ (X:Cx),X.prog=P→X.w=w→X.K=K→X.calm=true→∀ (i:Nat) (pins:List (Addr×Obj)) (s:Shared) (σ:St) (H:Hp) (E:Value→Shared→Prop),Jn X pins σ H s→(∀ b∈fp,JfI X pins H b)→tn i s.heap→J.stop i H →
  wpAny (model P w) X.A (pyNext (.ref it)) (fun r s1=>r=none∧Jn X pins σ H s1) E s
 self:∀ (A:Around) (i:Nat) (s:Shared) (Q:Value→Shared→Prop) (E:Value→Shared→Prop),tn i s.heap→Q (.ref it) s→wpAny (model P w) A (pyIter (.ref it)) Q E s
abbrev TI:=St→Hp→(It→Hp→Prop)→Prop
def PIE (X:Cx) (pins:List (Addr×Obj)) (σ:St) (tg:Expr) (R:It→Hp→Prop) (itv:Value) (s2:Shared):Prop :=
 ∃ (it:Addr) (fp:List Addr) (tn:Nat→Heap→Prop) (J:It) (H':Hp),itv=.ref it∧Jn X pins σ H' s2∧Jmi X.prog X.w X.K tg J fp it tn∧tn 0 s2.heap∧(∀ b∈fp,JfI X pins H' b)∧R J H'
def PI (X:Cx) (tg iter:Expr) (wi:TI):Prop :=
 ∀ (pins:List (Addr×Obj)) (s:Shared) (σ:St) (H:Hp) (R:It→Hp→Prop),Jn X pins σ H s→wi σ H R →
  wpAny (model X.prog X.w) X.A (eval iter X.env) (fun v s1=>wpAny (model X.prog X.w) X.A (pyIter v) (PIE X pins σ tg R) X.xe s1) X.xe s
theorem Jnp {M:Model} {A:Around} {E:Value→Shared→Prop} {s:Shared} {tg:Expr} {it:Addr} {u:Value} {o:Obj} {n:String} {vs:Array Value} {Q:Unit→Shared→Prop} (ho:s.heap.get? it=some o) (hc:o.cls=.type n) (hd:o.data=.fields vs)
    (hn:["enumerate", "zip", "dict_itemiterator", "dict_reverseitemiterator", "odict_iterator", "itertools.zip_longest", "itertools.pairwise"].contains n=false) (hQ:Q () s):wpAny M A (letOwnedTupleGo tg (.ref it) u) Q E s:=by
  unfold letOwnedTupleGo;cases tg <;> first
    | exact wpAny_pure hQ
    | (cases u <;> first
        | exact wpAny_pure hQ
        | (refine wpAny_bind (wpAny_load ho ?_)
           rw [hc,hd];show wpAny M A (if (["enumerate", "zip", "dict_itemiterator", "dict_reverseitemiterator", "odict_iterator", "itertools.zip_longest", "itertools.pairwise"].contains n && vs[0]? == some (rawInt _))=true then _ else _) Q E s;rw [if_neg (by intro h; rw [hn,Bool.false_and] at h; cases h)];exact wpAny_pure hQ))
def Itl (K:PySem.W.Frag) (a:Addr):It :=
 ⟨fun i H=>∃ xs x,Jz K H a xs∧xs[i]?=some x,fun i H x H'=>H'=H∧∀ xs,Jz K H a xs→xs[i]?=some x,fun i H=>∃ xs,Jz K H a xs∧xs.length≤i⟩
def Itt (K:PySem.W.Frag) (a:Addr):It :=
 ⟨fun i H=>∃ xs x,JQ K H a xs∧xs[i]?=some x,fun i H x H'=>H'=H∧∀ xs,JQ K H a xs→xs[i]?=some x,fun i H=>∃ xs,JQ K H a xs∧xs.length≤i⟩
def Itr (lo:Int) (n:Nat):It:=⟨fun i _=>i < n,fun i H x H'=>H'=H∧x=.int (lo + i),fun i _=>n≤i⟩
theorem JqO {P:Program} {w:World} {K:PySem.W.Frag} {tg:Expr} (a it:Addr):Jmi P w K tg (Itl K a) [it] it (fun i h=>h.IsListIter it a i) where
 mem:=by simp
 obj:=fun i h st b hb=>by
  have e:b=it:=by simpa using hb
  subst e;obtain ⟨o,e,c,d⟩:=st;exact ⟨o,e,fun v z=>by rw [d] at z; cases z⟩
 keep:=fun i h h' st k=>st.at fun o e=>k it (by simp) o e
 item:=by
  intro X hP hw hK hc i pins s σ H E I hf st hg;subst hP hw hK;obtain ⟨xs,x,hq,hx⟩:=hg;obtain ⟨its,rv,p,hz⟩:=I.list hq;obtain ⟨u,hu,ru⟩:=rv.get hx;obtain ⟨f0,f1,f2,f3,f4,f5⟩:=hf it (by simp);refine wpAny_pyNext_list_item st p.isList (x:=u) (by simpa using hu) fun h' st' sb=>?_
  have I1:Jn X pins σ H { s with heap:=h' }:=I.turned (t':=s.toks) (fun b o hb e=>(sb.2 b hb).trans e) f0 f1 f3 f4 f5;obtain ⟨o,e,c,d⟩:=id st';exact ⟨u,rfl,Jnp (s:={ s with heap:=h' }) e c d (by decide) ⟨x,H,I1,ru,⟨rfl,fun ys hy=>by rw [I.list_inj hy hq]; exact hx⟩,st',fun b hb=>(hf b hb).1⟩⟩
 done:=by
  intro X hP hw hK hc i pins s σ H E I hf st hg;subst hP hw hK;obtain ⟨xs,hq,hx⟩:=hg;obtain ⟨its,rv,p,hz⟩:=I.list hq;obtain ⟨f0,f1,f2,f3,f4,f5⟩:=hf it (by simp);have hl:=rv.length;exact wpAny_pyNext_list_end (I.ok.hd hc) st p.isList (by simp; omega) fun h' eb=>⟨rfl,I.turned (t':=s.toks) (fun b o hb e=>eb b o hb e) f0 f1 f3 f4 f5⟩
 self:=fun _ _ _ _ _ st h=>wpAny_pyIter_listiter st h
theorem JpS {P:Program} {w:World} {K:PySem.W.Frag} {tg:Expr} (a it:Addr):Jmi P w K tg (Itt K a) [it] it (fun i h=>h.IsTupleIter it a i) where
 mem:=by simp
 obj:=fun i h st b hb=>by
  have e:b=it:=by simpa using hb
  subst e;obtain ⟨o,e,c,d⟩:=st;exact ⟨o,e,fun v z=>by rw [d] at z; cases z⟩
 keep:=fun i h h' st k=>st.at fun o e=>k it (by simp) o e
 item:=by
  intro X hP hw hK hc i pins s σ H E I hf st hg;subst hP hw hK;obtain ⟨xs,x,hq,hx⟩:=hg;obtain ⟨its,rv,p,hz⟩:=I.tuple hq;obtain ⟨u,hu,ru⟩:=rv.get hx;obtain ⟨f0,f1,f2,f3,f4,f5⟩:=hf it (by simp);refine wpAny_pyNext_tuple_item st (show s.heap.IsTuple a its.toArray from p) (x:=u) (by simpa using hu) fun h' st' sb=>?_
  have I1:Jn X pins σ H { s with heap:=h' }:=I.turned (t':=s.toks) (fun b o hb e=>(sb.2 b hb).trans e) f0 f1 f3 f4 f5;obtain ⟨o,e,c,d⟩:=id st';exact ⟨u,rfl,Jnp (s:={ s with heap:=h' }) e c d (by decide) ⟨x,H,I1,ru,⟨rfl,fun ys hy=>by rw [I.tuple_inj hy hq]; exact hx⟩,st',fun b hb=>(hf b hb).1⟩⟩
 done:=by
  intro X hP hw hK hc i pins s σ H E I hf st hg;subst hP hw hK;obtain ⟨xs,hq,hx⟩:=hg;obtain ⟨its,rv,p,hz⟩:=I.tuple hq;obtain ⟨f0,f1,f2,f3,f4,f5⟩:=hf it (by simp);have hl:=rv.length;exact wpAny_pyNext_tuple_end (I.ok.hd hc) st (show s.heap.IsTuple a its.toArray from p) (by simp; omega) fun h' eb=>⟨rfl,I.turned (t':=s.toks) (fun b o hb e=>eb b o hb e) f0 f1 f3 f4 f5⟩
 self:=fun _ _ _ _ _ st h=>wpAny_pyIter_tupleiter st h
theorem JpT {P:Program} {w:World} {K:PySem.W.Frag} {tg:Expr} (it:Addr) (lo:Int) (n:Nat):Jmi P w K tg (Itr lo n) [it] it (fun i h=>IsRangeIter h it (lo + (i:Nat) * 1) ((n:Int) - (i:Nat)) 1) where
 mem:=by simp
 obj:=fun i h st b hb=>by
  have e:b=it:=by simpa using hb
  subst e;exact ⟨_,st,fun v z=>by
   have z':Data.fields _=Data.cell v:=z;cases z'⟩
 keep:=fun i h h' st k=>k it (by simp) _ st
 item:=by
  intro X hP hw hK hc i pins s σ H E I hf st hg;subst hP hw hK;obtain ⟨f0,f1,f2,f3,f4,f5⟩:=hf it (by simp);have W:=Walks.range (prog:=X.prog) (w:=X.w) (I.ok.hd hc) it lo 1 n;refine W.item i s _ _ hg st fun v h' tk hv st' kk=>?_
  obtain ⟨t,rfl⟩:=hv;have I1:Jn X pins σ H { s with heap:=h',toks:=tk }:=I.turned (fun b o hb e=>kk b o (by simpa using hb) e) f0 f1 f3 f4 f5;refine ⟨_,rfl,Jnp (s:={ s with heap:=h',toks:=tk }) (n := "range_iterator") st' rfl rfl (by decide) ⟨.int (lo + i),H,I1,⟨t,?_⟩,⟨rfl,rfl⟩,st',fun b hb=>(hf b hb).1⟩⟩;rw [Int.mul_one]
 done:=by
  intro X hP hw hK hc i pins s σ H E I hf st hg;subst hP hw hK;obtain ⟨f0,f1,f2,f3,f4,f5⟩:=hf it (by simp);exact wpAny_pyNext_range_end (I.ok.hd hc) st (by have:n≤i:=hg; omega) fun h' eb=>⟨rfl,I.turned (t':=s.toks) (fun b o hb e=>eb b o hb e) f0 f1 f3 f4 f5⟩
 self:=fun _ _ _ _ _ st h=>wpAny_pyIter_rangeiter st h
end L2
namespace L2
open PySem PySem.Spec PyProof.Rows
section
variable {X:Cx} {tg:Expr}
def Jwv (K:PySem.W.Frag) (tl:TE):TI:=fun σ H R=>tl σ H fun x H1=>∃ a,x=.ref a∧(∃ xs,Jz K H1 a xs)∧R (Itl K a) H1
def Jxb (K:PySem.W.Frag) (tl:TE):TI:=fun σ H R=>tl σ H fun x H1=>∃ a,x=.ref a∧(∃ xs,JQ K H1 a xs)∧R (Itt K a) H1
theorem JbR {l:Expr} {tl:TE} (hl:PE X l tl):PI X tg l (Jwv X.K tl):=by
 intro pins s σ H R I h;refine J2 (hl pins s σ H _ I h) fun v s1 ⟨x,H1,I1,r1,q1⟩=>?_
 obtain ⟨a,e,⟨xs,hq⟩,q⟩:=q1;subst e;cases r1;obtain ⟨its,rv,p,hz⟩:=I1.list hq;refine wpAny_pyIter_list p.isList ?_;refine ⟨s1.heap.objs.size,[s1.heap.objs.size],_,_,H1,rfl,I1.kept (t':=s1.toks) fun b o e=>Heap.get?_push_of_some _ e,JqO a _,⟨_,Heap.get?_push_size _ rfl,rfl,rfl⟩,fun b hb=>?_,q⟩;have e:b=s1.heap.objs.size:=by simpa using hb
 subst e;exact I1.fpOk (Nat.le_refl _) (I1.hok.fresh (Nat.le_refl _))
theorem Jih {l:Expr} {tl:TE} (hl:PE X l tl):PI X tg l (Jxb X.K tl):=by
 intro pins s σ H R I h;refine J2 (hl pins s σ H _ I h) fun v s1 ⟨x,H1,I1,r1,q1⟩=>?_
 obtain ⟨a,e,⟨xs,hq⟩,q⟩:=q1;subst e;cases r1;obtain ⟨its,rv,p,hz⟩:=I1.tuple hq;refine wpAny_pyIter_tuple (show s1.heap.IsTuple a its.toArray from p) ?_;refine ⟨s1.heap.objs.size,[s1.heap.objs.size],_,_,H1,rfl,I1.kept (t':=s1.toks) fun b o e=>Heap.get?_push_of_some _ e,JpS a _,⟨_,Heap.get?_push_size _ rfl,rfl,rfl⟩,fun b hb=>?_,q⟩;have e:b=s1.heap.objs.size:=by simpa using hb
 subst e;exact I1.fpOk (Nat.le_refl _) (I1.hok.fresh (Nat.le_refl _))
theorem JnX {pins:List (Addr×Obj)} {σ:St} {H:Hp} {s:Shared} {R:It→Hp→Prop} {E:Value→Shared→Prop} {lo hi:Int} {t u v:Tok} {tk:Nat} (I:Jn X pins σ H s) (h1:-(2 ^ 62)≤lo) (h2:lo < 2 ^ 62) (h3:-(2 ^ 62)≤hi) (h4:hi < 2 ^ 62)
  (q:R (Itr lo (hi - lo).toNat) H):wpAny (model X.prog X.w) X.A (pyIter (.ref s.heap.objs.size)) (PIE X pins σ tg R) E { s with heap:=s.heap.push { cls:=.type "range",data:=.fields #[.int lo t,.int hi u,.int 1 v] },toks:=tk }:=by
 refine wpAny_pyIter_range (IsRange.new ..) (small_one h1 h2 h3 h4) ?_;have I1:Jn X pins σ H { s with heap:=s.heap.push { cls:=.type "range",data:=.fields #[.int lo t,.int hi u,.int 1 v] },toks:=tk }:=I.kept fun b o e=>Heap.get?_push_of_some _ e
 refine ⟨(s.heap.push { cls:=.type "range",data:=.fields #[.int lo t,.int hi u,.int 1 v] }).objs.size,[(s.heap.push { cls:=.type "range",data:=.fields #[.int lo t,.int hi u,.int 1 v] }).objs.size],_,_,H,rfl,
  I1.kept (t':=tk) fun b o e=>Heap.get?_push_of_some _ e,JpT _ lo (hi - lo).toNat,?_,fun b hb=>?_,q⟩
 ·have e1:lo + ((0:Nat):Int) * 1=lo:=by simp
  have e2:(((hi - lo).toNat:Nat):Int) - ((0:Nat):Int)=Builtin.Range.rangeSize lo hi 1:=by rw [rangeSize_one]; split <;> omega
  show IsRangeIter _ _ (lo + ((0:Nat):Int) * 1) ((((hi - lo).toNat:Nat):Int) - ((0:Nat):Int)) 1;rw [e1,e2];exact Heap.get?_push_size _ rfl
 ·have e:b=(s.heap.push { cls:=.type "range",data:=.fields #[.int lo t,.int hi u,.int 1 v] }).objs.size:=by simpa using hb
  subst e;exact I1.fpOk (Nat.le_refl _) (I1.hok.fresh (Nat.le_refl _))
def Jwu (ta:TA):TI:=fun σ H R=>ta σ H fun vs H1=>∃ j:Int,vs=[.int j]∧-(2 ^ 62)≤j∧j < 2 ^ 62∧R (Itr 0 j.toNat) H1
def Jwt (ta:TA):TI:=fun σ H R=>ta σ H fun vs H1=>∃ i j:Int,vs=[.int i,.int j]∧(-(2 ^ 62)≤i∧i < 2 ^ 62∧-(2 ^ 62)≤j∧j < 2 ^ 62)∧R (Itr i (j - i).toNat) H1
theorem Zy {a:Expr} {ta:TA} {p pos:Pos} (hg:Gl X "range") (hm:X.mg "range" = none) (ha:PA X [a] ta) (hs:starEach [a] X.env=[(false,eval a X.env)]:=by rfl):PI X tg (.Call (.Name "range" p) [a] [] pos) (Jwu ta):=by
 intro pins s σ H R I h;refine Call_ (Jiz I hg hm boot_range (PyProof.Rows.callWith_type1 (J2 (ha pos pins s σ H _ I h) fun us s1 ⟨vs,H1,I1,r1,q1⟩=>?_) hs rfl));obtain ⟨j,e,q1,q2,q⟩:=q1;subst e;cases r1 with
 | cons r rr =>
  cases rr;obtain ⟨t,rfl⟩:=r;exact call_range_1 (JnX I1 (by omega) (by omega) q1 q2 (by simpa using q))
theorem Jrh {a b:Expr} {ta:TA} {p pos:Pos} (hg:Gl X "range") (hm:X.mg "range" = none) (ha:PA X [a,b] ta) (hs:starEach [a,b] X.env=[(false,eval a X.env),(false,eval b X.env)]:=by rfl) (hs2:starEach [b] X.env=[(false,eval b X.env)]:=by rfl) :
  PI X tg (.Call (.Name "range" p) [a,b] [] pos) (Jwt ta):=by
 intro pins s σ H R I h;refine Call_ (Jiz I hg hm boot_range (PyProof.Rows.callWith_type1 (J2 (ha pos pins s σ H _ I h) fun us s1 ⟨vs,H1,I1,r1,q1⟩=>?_) (by rw [hs,hs2]) (by rw [hs2]; rfl)));obtain ⟨i,j,e,⟨q1,q2,q3,q4⟩,q⟩:=q1;subst e;cases r1 with
 | cons r rr =>
  cases rr with
  | cons r' rr =>
   cases rr;obtain ⟨t,rfl⟩:=r;obtain ⟨t',rfl⟩:=r';exact call_range_2 (JnX I1 q1 q2 q3 q4 q)
def JwZ (wi:TI) (g:TG) (tb:TS):TS:=fun D σ H=>@Jja.rec (fun _=>Prop) (fun dn dr _ _=>wi σ H fun J H1=>∃ W:Nat→Nat→St→Hp→Prop,(∃ m,W 0 m σ H1)∧∀ i m σ H,W i m σ H →
 (J.stop i H∧dn σ H)∨(J.go i H∧∃ N:St→Hp→Prop,(∀ σ' H',N σ' H'→∃ m',m' < m∧W (i + 1) m' σ' H')∧∀ x H',J.yld i H x H'→g x σ H' fun σ2 H2=>tb ⟨N,dr,dn,N⟩ σ2 H2)) D
def Jig (fp:List Addr) (h:Heap):List (Addr×Obj):=fp.filterMap fun b=>(h.get? b).map fun o=>(b,o)
theorem Jet {fp:List Addr} {h:Heap} {b:Addr} {o:Obj} (hb:b∈fp) (e:h.get? b=some o):(b,o)∈Jig fp h:=List.mem_filterMap.mpr ⟨b,hb,by rw [e]; rfl⟩
theorem Jrr {fp:List Addr} {h:Heap} {p:Addr×Obj} (hp:p∈Jig fp h):p.1∈fp∧h.get? p.1=some p.2:=by
 obtain ⟨b,hb,e⟩:=List.mem_filterMap.mp hp;cases q:h.get? b with
 | none=>rw [q] at e; cases e
 | some o =>
  rw [q] at e;have e':(b,o)=p:=Option.some.inj e;subst e';exact ⟨hb,q⟩
theorem Jn.pinned {pins:List (Addr×Obj)} {σ:St} {H:Hp} {s:Shared} {fp:List Addr} (I:Jn X pins σ H s) (hf:∀ b∈fp,JfI X pins H b) (ho:∀ b∈fp,∃ o,s.heap.get? b=some o∧∀ v,o.data≠.cell v):Jn X (pins ++ Jig fp s.heap) σ H s :=
 I.pins_of fun p hp=>(List.mem_append.mp hp).elim (fun z=>I.pin p (List.mem_append_right _ z)) fun z=>by
  obtain ⟨hb,e⟩:=Jrr z;obtain ⟨f0,f1,f2,_⟩:=hf p.1 hb;obtain ⟨o,e',d⟩:=ho p.1 hb;rw [e] at e'; cases e';exact ⟨e,f0,f1,f2,d⟩
theorem Jn.unpinned {pins pl:List (Addr×Obj)} {σ:St} {H:Hp} {s:Shared} (I:Jn X (pins ++ pl) σ H s):Jn X pins σ H s:=I.pins_of fun p hp=>I.pin p (List.mem_append_right _ (List.mem_append_left _ hp))
theorem ZN {iter:Expr} {body:List Stmt} {wi:TI} {g:TG} {tb:TS} {pos:Pos} (hp:PassesOwn (model X.prog X.w) X.A X.env X.xe) (hc:X.calm=true) (hi:PI X tg iter wi) (hg:PG X tg g) (hb:PSs X body tb)
  (hs:∀ x,foldedSetIterable iter X.env x=pure x:=by intro _; rfl):PS X (.For tg iter body [] pos) (JwZ wi g tb):=by
 intro pins s σ H D I h;refine wpAny_For (J2 (hi pins s σ H _ I h) fun v s1 h1=>J2 h1 fun itv s2 h2=>?_) hs;obtain ⟨it,fp,tn,J,H2,e,I2,T,st2,f2,W,⟨m0,w0⟩,turn⟩:=h2;subst e;have stat:∀ {H':Hp},(∀ b∈fp,H' b=none)→∀ b∈fp,JfI X pins H' b:=fun hn b hb=>⟨hn b hb,(f2 b hb).2⟩
 refine codeAny_forLoop_any (fun n s'=>∃ i σ' H',Jn X pins σ' H' s'∧tn i s'.heap∧(∀ b∈fp,H' b=none)∧W i n σ' H') ?_ m0 ⟨0,σ,H2,I2,st2,fun b hb=>(f2 b hb).1,w0⟩;rintro n s3 ⟨i,σ3,H3,I3,st3,fr3,w3⟩;rcases turn i n σ3 H3 w3 with ⟨stop,qn⟩ | ⟨go,N,hN,step⟩
 ·refine wpAny_passesOwn hp (J2 (T.done X rfl rfl rfl hc i pins s3 σ3 H3 X.xe I3 (stat fr3) st3 stop) fun r s4 ⟨hr,I4⟩=>?_);subst hr;exact wpAny_execs_nil ⟨σ3,H3,I4,qn⟩
 ·refine wpAny_passesOwn hp (J2 (T.item X rfl rfl rfl hc i pins s3 σ3 H3 X.xe I3 (stat fr3) st3 go) fun r s4 ⟨u,hr,h4⟩=>?_);subst hr;refine wpAny_passesOwn hp (J2 h4 fun _ s5 ⟨x,H5,I5,r5,y5,st5,fr5⟩=>?_);have I5':=I5.pinned (stat fr5) (T.obj _ _ st5);refine wpAny_passesOwn hp (J2 (hg _ s5 σ3 H5 x u _ I5' r5 (step x H5 y5)) fun _ s6 ⟨σ6,H6,I6,q6⟩=>?_);refine wpAny_passesOwn hp (J2 (hb _ s6 σ6 H6 _ I6 q6) fun f s7 q7=>?_);have again:∀ {σ7:St} {H7:Hp},Jn X (pins ++ Jig fp s5.heap) σ7 H7 s7→N σ7 H7→∃ m,m < n∧∃ i σ' H',Jn X pins σ' H' s7∧tn i s7.heap∧(∀ b∈fp,H' b=none)∧W i m σ' H':=fun {σ7 H7} I7 n7=>by
   obtain ⟨m',hm,w7⟩:=hN σ7 H7 n7;refine ⟨m',hm,i + 1,σ7,H7,I7.unpinned,T.keep _ _ _ st5 fun b hb o e=>(I7.pin (b,o) (List.mem_append_right _ (List.mem_append_right _ (Jet hb e)))).1,fun b hb=>?_,w7⟩;obtain ⟨o,e,d⟩:=T.obj _ _ st5 b hb;exact (I7.pin (b,o) (List.mem_append_right _ (List.mem_append_right _ (Jet hb e)))).2.1
  cases f with
  | next=>obtain ⟨σ7,H7,I7,n7⟩:=q7; exact again I7 n7
  | cont=>obtain ⟨σ7,H7,I7,n7⟩:=q7; exact again I7 n7
  | brk=>obtain ⟨σ7,H7,I7,q7⟩:=q7; exact ⟨σ7,H7,I7.unpinned,q7⟩
  | ret v=>obtain ⟨x7,σ7,H7,I7,r7,q7⟩:=q7; exact ⟨x7,σ7,H7,I7.unpinned,r7,q7⟩
end
theorem Jhm {K:PySem.W.Frag} {a:Addr} {xs:List V} {g:TG} {tb:TS} {dn:St→Hp→Prop} {dr:VK} {σ:St} {H:Hp} (Pv:Nat→St→Hp→Prop) (h0:Pv 0 σ H) (hl:∀ i σ H,i≤xs.length→Pv i σ H→Jz K H a xs)
  (hs:∀ i x σ H,xs[i]?=some x→Pv i σ H→g x σ H fun σ2 H2=>tb ⟨Pv (i + 1),dr,dn,Pv (i + 1)⟩ σ2 H2) (hd:∀ σ H,Pv xs.length σ H→dn σ H) :
  ∃ W:Nat→Nat→St→Hp→Prop,(∃ m,W 0 m σ H)∧∀ i m σ H,W i m σ H →
   ((Itl K a).stop i H∧dn σ H)∨((Itl K a).go i H∧∃ N:St→Hp→Prop,(∀ σ' H',N σ' H'→∃ m',m' < m∧W (i + 1) m' σ' H')∧∀ x H',(Itl K a).yld i H x H'→g x σ H' fun σ2 H2=>tb ⟨N,dr,dn,N⟩ σ2 H2):=by
 refine ⟨fun i m σ H=>m=xs.length - i∧i≤xs.length∧Pv i σ H,⟨xs.length,by simp,Nat.zero_le _,h0⟩,?_⟩;rintro i m σ H ⟨rfl,hi,p⟩;have q:=hl i σ H hi p;by_cases hlt:i < xs.length
 ·refine .inr ⟨⟨xs,xs[i],q,by simp [hlt]⟩,Pv (i + 1),fun σ' H' p'=>⟨xs.length - (i + 1),by omega,rfl,hlt,p'⟩,fun x H' y=>?_⟩;obtain ⟨e,y⟩:=y;subst e;exact hs i x σ _ (y xs q) p
 ·have e:i=xs.length:=by omega
  subst e;exact .inl ⟨⟨xs,q,Nat.le_refl _⟩,hd σ H p⟩
theorem JpB {K:PySem.W.Frag} {a:Addr} {xs:List V} {g:TG} {tb:TS} {dn:St→Hp→Prop} {dr:VK} {σ:St} {H:Hp} (Pv:Nat→St→Hp→Prop) (h0:Pv 0 σ H) (hl:∀ i σ H,i≤xs.length→Pv i σ H→JQ K H a xs)
  (hs:∀ i x σ H,xs[i]?=some x→Pv i σ H→g x σ H fun σ2 H2=>tb ⟨Pv (i + 1),dr,dn,Pv (i + 1)⟩ σ2 H2) (hd:∀ σ H,Pv xs.length σ H→dn σ H) :
  ∃ W:Nat→Nat→St→Hp→Prop,(∃ m,W 0 m σ H)∧∀ i m σ H,W i m σ H →
   ((Itt K a).stop i H∧dn σ H)∨((Itt K a).go i H∧∃ N:St→Hp→Prop,(∀ σ' H',N σ' H'→∃ m',m' < m∧W (i + 1) m' σ' H')∧∀ x H',(Itt K a).yld i H x H'→g x σ H' fun σ2 H2=>tb ⟨N,dr,dn,N⟩ σ2 H2):=by
 refine ⟨fun i m σ H=>m=xs.length - i∧i≤xs.length∧Pv i σ H,⟨xs.length,by simp,Nat.zero_le _,h0⟩,?_⟩;rintro i m σ H ⟨rfl,hi,p⟩;have q:=hl i σ H hi p;by_cases hlt:i < xs.length
 ·refine .inr ⟨⟨xs,xs[i],q,by simp [hlt]⟩,Pv (i + 1),fun σ' H' p'=>⟨xs.length - (i + 1),by omega,rfl,hlt,p'⟩,fun x H' y=>?_⟩;obtain ⟨e,y⟩:=y;subst e;exact hs i x σ _ (y xs q) p
 ·have e:i=xs.length:=by omega
  subst e;exact .inl ⟨⟨xs,q,Nat.le_refl _⟩,hd σ H p⟩
theorem Z7 {lo:Int} {n:Nat} {g:TG} {tb:TS} {dn:St→Hp→Prop} {dr:VK} {σ:St} {H:Hp} (Pv:Nat→St→Hp→Prop) (h0:Pv 0 σ H)
  (hs:∀ i σ H,i < n→Pv i σ H→g (.int (lo + i)) σ H fun σ2 H2=>tb ⟨Pv (i + 1),dr,dn,Pv (i + 1)⟩ σ2 H2) (hd:∀ σ H,Pv n σ H→dn σ H) :
  ∃ W:Nat→Nat→St→Hp→Prop,(∃ m,W 0 m σ H)∧∀ i m σ H,W i m σ H →
   ((Itr lo n).stop i H∧dn σ H)∨((Itr lo n).go i H∧∃ N:St→Hp→Prop,(∀ σ' H',N σ' H'→∃ m',m' < m∧W (i + 1) m' σ' H')∧∀ x H',(Itr lo n).yld i H x H'→g x σ H' fun σ2 H2=>tb ⟨N,dr,dn,N⟩ σ2 H2):=by
 refine ⟨fun i m σ H=>m=n - i∧i≤n∧Pv i σ H,⟨n,by simp,Nat.zero_le _,h0⟩,?_⟩;rintro i m σ H ⟨rfl,hi,p⟩;by_cases hlt:i < n
 ·refine .inr ⟨hlt,Pv (i + 1),fun σ' H' p'=>⟨n - (i + 1),by omega,rfl,hlt,p'⟩,fun x H' y=>?_⟩;obtain ⟨e,y⟩:=y;subst e y;exact hs i σ _ hlt p
 ·have e:i=n:=by omega
  subst e;exact .inl ⟨Nat.le_refl _,hd σ H p⟩
end L2
namespace L2
open PySem PySem.Spec PyProof.Rows
abbrev R2:=V→V→Hp→VK→Prop
def ZF (X:Cx) (f:Value→Value→Sem Value) (r:R2):Prop :=
 ∀ (pins:List (Addr×Obj)) (s:Shared) (σ:St) (H:Hp) (x y:V) (v u:Value) (Q:VK),Jn X pins σ H s→JR x v→JR y u→r x y H Q →
  wpAny (model X.prog X.w) X.A (f v u) (EP X pins σ Q) X.xe s
def UnR (X:Cx) (f:Value→Sem Value) (r:V→Hp→VK→Prop):Prop :=
 ∀ (pins:List (Addr×Obj)) (s:Shared) (σ:St) (H:Hp) (x:V) (v:Value) (Q:VK),Jn X pins σ H s→JR x v→r x H Q →
  wpAny (model X.prog X.w) X.A (f v) (EP X pins σ Q) X.xe s
def Yn (X:Cx) (f:Value) (r:List V→Hp→VK→Prop):Prop :=
 ∀ (pins:List (Addr×Obj)) (s:Shared) (σ:St) (H:Hp) (xs:List V) (us:List Value) (Q:VK),Jn X pins σ H s→JF xs us→r xs H Q →
  wpAny (model X.prog X.w) X.A (call f us) (EP X pins σ Q) X.xe s
def tOp (r:R2) (ta tb:TE):TE:=fun σ H Q=>ta σ H fun x H1=>tb σ H1 fun y H2=>r x y H2 Q
def tUn (r:V→Hp→VK→Prop) (ta:TE):TE:=fun σ H Q=>ta σ H fun x H1=>r x H1 Q
def rI (C:Int→Int→Prop) (g:Int→Int→V):R2:=fun x y H Q=>∃ i j,x=.int i∧y=.int j∧C i j∧Q (g i j) H
def rI0 (g:Int→Int→V):R2:=fun x y H Q=>∃ i j,x=.int i∧y=.int j∧Q (g i j) H
def rU (g:Int→V):V→Hp→VK→Prop:=fun x H Q=>∃ i,x=.int i∧Q (g i) H
section
variable {X:Cx} {a b c:Expr} {ta tb tc:TE} {pos:Pos}
theorem JtA (ha:PE X a ta) (hb:PE X b tb) {pins:List (Addr×Obj)} {s:Shared} {σ:St} {H:Hp} {R:V→V→Hp→Prop} (I:Jn X pins σ H s)
  (h:ta σ H fun x H1=>tb σ H1 fun y H2=>R x y H2) {Q:Value→Shared→Prop} {f:Value→Value→Sem Value}
  (hf:∀ v u s2 x y H2,Jn X pins σ H2 s2→JR x v→JR y u→R x y H2→wpAny (model X.prog X.w) X.A (f v u) Q X.xe s2) :
  wpAny (model X.prog X.w) X.A (eval a X.env) (fun v s₁=>wpAny (model X.prog X.w) X.A (eval b X.env) (fun u s₂=>wpAny (model X.prog X.w) X.A (f v u) Q X.xe s₂) X.xe s₁) X.xe s:=by
 refine J2 (ha pins s σ H _ I h) fun v s1 ⟨x,H1,I1,r1,q1⟩=>?_
 refine J2 (hb pins s1 σ H1 _ I1 q1) fun u s2 ⟨y,H2,I2,r2,q2⟩=>?_
 exact hf v u s2 x y H2 I2 r1 r2 q2
theorem Jm {op:Operator} {r:R2} (ho:ZF X (binaryOp op) r) (ha:PE X a ta) (hb:PE X b tb):PE X (.BinOp a op b pos) (tOp r ta tb):=by
 intro pins s σ H Q I h;exact wpAny_BinOp (JtA ha hb I h fun v u s2 x y H2 I2 rx ry q=>ho pins s2 σ H2 x y v u Q I2 rx ry q)
theorem Jnl {op:UnaryOp} {r:V→Hp→VK→Prop} (ho:UnR X (unaryOp op) r) (ha:PE X a ta):PE X (.UnaryOp op a pos) (tUn r ta):=by
 intro pins s σ H Q I h;exact UnaryOp_ (J2 (ha pins s σ H _ I h) fun v s1 ⟨x,H1,I1,r1,q1⟩=>ho pins s1 σ H1 x v Q I1 r1 q1)
theorem opI {f:Value→Value→Sem Value} {C:Int→Int→Prop} {g:Int→Int→Int}
  (rule:∀ (i j:Int) (t u:Tok) (s:Shared) (Q:Value→Shared→Prop) (E:Value→Shared→Prop),C i j→Q (.int (g i j) s.toks) { s with toks:=s.toks + 1 }→wpAny (model X.prog X.w) X.A (f (.int i t) (.int j u)) Q E s) :
  ZF X f (rI C fun i j=>.int (g i j)):=by
 intro pins s σ H x y v u Q I rx ry h;obtain ⟨i,j,rfl,rfl,hc,q⟩:=h;obtain ⟨t,rfl⟩:=rx;obtain ⟨t',rfl⟩:=ry;exact rule i j t t' s _ _ hc ⟨.int (g i j),H,I.tok _,⟨_,rfl⟩,q⟩
theorem JvI {f:Value→Value→Sem Value} {g:Int→Int→Int}
  (rule:∀ (i j:Int) (t u:Tok) (s:Shared) (Q:Value→Shared→Prop) (E:Value→Shared→Prop),Q (.int (g i j) s.toks) { s with toks:=s.toks + 1 }→wpAny (model X.prog X.w) X.A (f (.int i t) (.int j u)) Q E s) :
  ZF X f (rI0 fun i j=>.int (g i j)):=by
 intro pins s σ H x y v u Q I rx ry h;obtain ⟨i,j,rfl,rfl,q⟩:=h;obtain ⟨t,rfl⟩:=rx;obtain ⟨t',rfl⟩:=ry;exact rule i j t t' s _ _ ⟨.int (g i j),H,I.tok _,⟨_,rfl⟩,q⟩
theorem Js2 {f:Value→Value→Sem Value} {g:Int→Int→Bool}
  (rule:∀ (i j:Int) (t u:Tok) (s:Shared) (Q:Value→Shared→Prop) (E:Value→Shared→Prop),Q (.bool (g i j)) s→wpAny (model X.prog X.w) X.A (f (.int i t) (.int j u)) Q E s) :
  ZF X f (rI0 fun i j=>.bl (g i j)):=by
 intro pins s σ H x y v u Q I rx ry h;obtain ⟨i,j,rfl,rfl,q⟩:=h;obtain ⟨t,rfl⟩:=rx;obtain ⟨t',rfl⟩:=ry;exact rule i j t t' s _ _ ⟨.bl (g i j),H,I,rfl,q⟩
def Jxi (i j:Int):Prop:=0 < j∧j < 1073741824
def Jxh (i j:Int):Prop:=0≤j∧j≤1000000∧i.natAbs < 2 ^ 64
def JtH (i j:Int):Prop:=(-(2 ^ 64) < i∧i < 2 ^ 64)∨(-(2 ^ 64) < j∧j < 2 ^ 64)
theorem JtH.ok {i j:Int} (h:JtH i j):IntMulOk i j:=by
 rcases h with ⟨h1,h2⟩ | ⟨h1,h2⟩
 ·exact .of_left (intBits_le_64 h1 h2)
 ·exact .of_right (intBits_le_64 h1 h2)
theorem Yj:ZF X (binaryOp .Add) (rI0 fun i j=>.int (i + j)):=JvI fun _ _ _ _ _ _ _ q=>add_int q
theorem Jay:ZF X (binaryOp .Sub) (rI0 fun i j=>.int (i - j)):=JvI fun _ _ _ _ _ _ _ q=>sub_int q
theorem Jaz:ZF X (binaryOp .Mult) (rI JtH fun i j=>.int (i * j)):=opI fun _ _ _ _ _ _ _ hc q=>mul_int q hc.ok
theorem Yx:ZF X (binaryOp .FloorDiv) (rI Jxi fun i j=>.int (i / j)):=opI fun i j _ _ _ _ _ hc q=>by
 have h1:(0:Int) < j:=hc.1;have h2:j < 1073741824:=hc.2;exact floordiv_int (by omega) (by rw [Int.fdiv_eq_ediv_of_nonneg i (by omega)]; exact q) (.inl (PyProof.noPylong_small (by omega)))
theorem JZ:ZF X (binaryOp .Mod) (rI (fun _ j=>0 < j) fun i j=>.int (i % j)):=opI fun i j _ _ _ _ _ hc q=>by
 have h1:(0:Int) < j:=hc;exact mod_int' (by omega) (by rw [Int.fmod_eq_emod_of_nonneg i (by omega)]; exact q)
theorem JvH:ZF X (binaryOp .Pow) (rI Jxh fun i j=>.int (i ^ j.toNat)):=opI fun _ _ _ _ _ _ _ hc q=>pow_int_small hc.1 hc.2.1 hc.2.2 q
theorem unI {f:Value→Sem Value} {g:Int→Int}
  (rule:∀ (i:Int) (t:Tok) (s:Shared) (Q:Value→Shared→Prop) (E:Value→Shared→Prop),Q (.int (g i) s.toks) { s with toks:=s.toks + 1 }→wpAny (model X.prog X.w) X.A (f (.int i t)) Q E s) :
  UnR X f (rU fun i=>.int (g i)):=by
 intro pins s σ H x v Q I rx h;obtain ⟨i,rfl,q⟩:=h;obtain ⟨t,rfl⟩:=rx;exact rule i t s _ _ ⟨.int (g i),H,I.tok _,⟨_,rfl⟩,q⟩
theorem JkJ:UnR X (unaryOp .USub) (rU fun i=>.int (-i)):=unI fun _ _ _ _ _ q=>neg_int q
end
def Jve:V→V→Bool
 | .non,.non=>true | .non,.int _=>true | .int _,.non=>true | .non,.bl _=>true | .bl _,.non=>true | .non,.str _=>true | .str _,.non=>true
 | .int _,.int _=>true | .bl _,.bl _=>true | .str _,.str _=>true | .byt _,.byt _=>true
 | .int _,.str _=>true | .str _,.int _=>true | .bl _,.str _=>true | .str _,.bl _=>true
 | _,_=>false
def rEq:R2:=fun x y H Q=>Jve x y=true∧Q (.bl (decide (x=y))) H
def rNe:R2:=fun x y H Q=>Jve x y=true∧Q (.bl (!decide (x=y))) H
theorem Jme {i j:Int}:decide (V.int i=V.int j)=(i == j):=by
 rw [Bool.eq_iff_iff];simp
theorem JrZ {i j:Bool}:decide (V.bl i=V.bl j)=(i == j):=by
 rw [Bool.eq_iff_iff];simp
theorem Jg1 {i j:Str}:decide (V.str i=V.str j)=(i == j):=by
 rw [Bool.eq_iff_iff];simp
theorem JpG {i j:Array UInt8}:decide (V.byt i=V.byt j)=(i.toList == j.toList):=by
 rw [Bool.eq_iff_iff];cases i;cases j;simp
section
variable {X:Cx} {a b c:Expr} {ta tb tc:TE} {pos:Pos}
theorem Yw {pins:List (Addr×Obj)} {σ:St} {H:Hp} {s:Shared} {Q:VK} {k k':Bool} (I:Jn X pins σ H s) (q:Q (.bl k) H) (e:k=k'):EP X pins σ Q (.bool k') s:=by
 subst e;exact ⟨.bl k,H,I,rfl,q⟩
theorem YU:ZF X (compareOp .Eq) rEq:=by
 intro pins s σ H x y v u Q I rx ry h;obtain ⟨hs,q⟩:=h;cases x with
 | non =>
  cases rx;cases y with
  | non=>cases ry; exact PySem.EqNone.eq_none_none (Yw I q (by simp))
  | bl j=>cases ry; exact PySem.EqNone.eq_none_bool (Yw I q (by simp))
  | int j=>obtain ⟨t',rfl⟩:=ry; exact PySem.EqNone.eq_none_int (Yw I q (by simp))
  | str j=>obtain ⟨t',rfl⟩:=ry; exact PySem.EqNone.eq_none_str (Yw I q (by simp))
  | _=>exact absurd (show false=true from hs) Bool.false_ne_true
 | bl i =>
  cases rx;cases y with
  | non=>cases ry; exact PySem.EqNone.eq_bool_none (Yw I q (by simp))
  | bl j=>cases ry; exact eq_bool (Yw I q JrZ)
  | str j=>obtain ⟨t',rfl⟩:=ry; exact PySem.EqMixed.eq_bool_str (Yw I q (by simp))
  | _=>exact absurd (show false=true from hs) Bool.false_ne_true
 | int i =>
  obtain ⟨t,rfl⟩:=rx;cases y with
  | non=>cases ry; exact PySem.EqNone.eq_int_none (Yw I q (by simp))
  | int j=>obtain ⟨t',rfl⟩:=ry; exact eq_int (Yw I q Jme)
  | str j=>obtain ⟨t',rfl⟩:=ry; exact PySem.EqMixed.eq_int_str (Yw I q (by simp))
  | _=>exact absurd (show false=true from hs) Bool.false_ne_true
 | str i =>
  obtain ⟨t,rfl⟩:=rx;cases y with
  | non=>cases ry; exact PySem.EqNone.eq_str_none (Yw I q (by simp))
  | bl j=>cases ry; exact PySem.EqMixed.eq_str_bool (Yw I q (by simp))
  | int j=>obtain ⟨t',rfl⟩:=ry; exact PySem.EqMixed.eq_str_int (Yw I q (by simp))
  | str j=>obtain ⟨t',rfl⟩:=ry; exact eq_str (Yw I q Jg1)
  | _=>exact absurd (show false=true from hs) Bool.false_ne_true
 | byt i =>
  obtain ⟨t,rfl⟩:=rx;cases y with
  | byt j=>obtain ⟨t',rfl⟩:=ry; exact PySem.W.eq_bytes (Yw I q JpG)
  | _=>exact absurd (show false=true from hs) Bool.false_ne_true
 | _=>cases y <;> exact absurd (show false=true from hs) Bool.false_ne_true
theorem Jc9:ZF X (compareOp .NotEq) rNe:=by
 intro pins s σ H x y v u Q I rx ry h;obtain ⟨hs,q⟩:=h;cases x with
 | non =>
  cases rx;cases y with
  | non=>cases ry; exact PySem.EqNone.ne_none_none (Yw I q (by simp))
  | bl j=>cases ry; exact PySem.EqNone.ne_none_bool (Yw I q (by simp))
  | int j=>obtain ⟨t',rfl⟩:=ry; exact PySem.EqNone.ne_none_int (Yw I q (by simp))
  | str j=>obtain ⟨t',rfl⟩:=ry; exact PySem.EqNone.ne_none_str (Yw I q (by simp))
  | _=>exact absurd (show false=true from hs) Bool.false_ne_true
 | bl i =>
  cases rx;cases y with
  | non=>cases ry; exact PySem.EqNone.ne_bool_none (Yw I q (by simp))
  | bl j=>cases ry; exact ne_bool (Yw I q (congrArg not JrZ))
  | str j=>obtain ⟨t',rfl⟩:=ry; exact PySem.EqMixed.ne_bool_str (Yw I q (by simp))
  | _=>exact absurd (show false=true from hs) Bool.false_ne_true
 | int i =>
  obtain ⟨t,rfl⟩:=rx;cases y with
  | non=>cases ry; exact PySem.EqNone.ne_int_none (Yw I q (by simp))
  | int j=>obtain ⟨t',rfl⟩:=ry; exact ne_int (Yw I q (congrArg not Jme))
  | str j=>obtain ⟨t',rfl⟩:=ry; exact PySem.EqMixed.ne_int_str (Yw I q (by simp))
  | _=>exact absurd (show false=true from hs) Bool.false_ne_true
 | str i =>
  obtain ⟨t,rfl⟩:=rx;cases y with
  | non=>cases ry; exact PySem.EqNone.ne_str_none (Yw I q (by simp))
  | bl j=>cases ry; exact PySem.EqMixed.ne_str_bool (Yw I q (by simp))
  | int j=>obtain ⟨t',rfl⟩:=ry; exact PySem.EqMixed.ne_str_int (Yw I q (by simp))
  | str j=>obtain ⟨t',rfl⟩:=ry; exact ne_str (Yw I q (congrArg not Jg1))
  | _=>exact absurd (show false=true from hs) Bool.false_ne_true
 | byt i =>
  obtain ⟨t,rfl⟩:=rx;cases y with
  | byt j=>obtain ⟨t',rfl⟩:=ry; exact PySem.W.ne_bytes (Yw I q (congrArg not JpG))
  | _=>exact absurd (show false=true from hs) Bool.false_ne_true
 | _=>cases y <;> exact absurd (show false=true from hs) Bool.false_ne_true
theorem Jcc:ZF X (compareOp .Lt) (rI0 fun i j=>.bl (decide (i < j))):=Js2 fun _ _ _ _ _ _ _ q=>lt_int q
theorem Jhh:ZF X (compareOp .Gt) (rI0 fun i j=>.bl (decide (j < i))):=Js2 fun _ _ _ _ _ _ _ q=>gt_int q
theorem JtT:ZF X (compareOp .GtE) (rI0 fun i j=>.bl (decide (j≤i))):=Js2 fun _ _ _ _ _ _ _ q=>ge_int q
theorem ZF.or {f:Value→Value→Sem Value} {r r':R2} (h:ZF X f r) (h':ZF X f r'):ZF X f (fun x y H Q=>r x y H Q∨r' x y H Q):=by
 intro pins s σ H x y v u Q I rx ry q;rcases q with q | q
 ·exact h pins s σ H x y v u Q I rx ry q
 ·exact h' pins s σ H x y v u Q I rx ry q
theorem JH (b:Expr) {op:CmpOp} (h:op≠.In:=by decide) (h2:op≠.NotIn:=by decide):behindInMarks op b=false:=by
 have e1:(op == CmpOp.In)=false:=by cases op <;> first | rfl | exact absurd rfl h
 have e2:(op == CmpOp.NotIn)=false:=by cases op <;> first | rfl | exact absurd rfl h2
 cases b <;> simp [behindInMarks,e1,e2]
theorem JlW {op:CmpOp} {r:R2} (ho:ZF X (compareOp op) r) (ha:PE X a ta) (hb:PE X b tb) (hm:behindInMarks op b=false):PE X (.Compare a [op] [b] pos) (tOp r ta tb):=by
 intro pins s σ H Q I h;exact wpAny_Compare1 (JtA ha hb I h fun v u s2 x y H2 I2 rx ry q=>ho pins s2 σ H2 x y v u Q I2 rx ry q) hm
def Jv9 (t:TE):TT:=fun σ H Q=>t σ H fun x H'=>∃ k,x=.bl k∧Q k H'
theorem Jx {op:CmpOp} {r:R2} (ho:ZF X (compareOp op) r) (ha:PE X a ta) (hb:PE X b tb) (hm:behindInMarks op b=false):PT X (.Compare a [op] [b] pos) (Jv9 (tOp r ta tb)):=by
 intro pins s σ H Q I h;refine wpAny_isTrue_Compare1 (J2 (ha pins s σ H _ I h) fun v s1 ⟨x,H1,I1,r1,q1⟩=>J2 (hb pins s1 σ H1 _ I1 q1) fun u s2 ⟨y,H2,I2,r2,q2⟩ =>
  J2 (ho pins s2 σ H2 x y v u _ I2 r1 r2 q2) fun c s3 ⟨z,H3,I3,r3,k,e,q3⟩=>?_) hm
 subst e;cases r3;exact wpAny_truthy_bool ⟨H3,I3,q3⟩
def Ju5 (r r':R2) (ta tb tc:TE):TE:=fun σ H Q=>ta σ H fun x H1=>tb σ H1 fun y H2=>r x y H2 fun z H3=>∃ k,z=.bl k ∧
 (if k=true then tc σ H3 fun w' H4=>r' y w' H4 Q else Q (.bl false) H3)
theorem Js0 {op op':CmpOp} {r r':R2} (ho:ZF X (compareOp op) r) (ho':ZF X (compareOp op') r') (ha:PE X a ta) (hb:PE X b tb) (hc:PE X c tc)
  (hm:lastMarks [op,op'] [b,c]=false:=by with_unfolding_all rfl):PE X (.Compare a [op,op'] [b,c] pos) (Ju5 r r' ta tb tc):=by
 intro pins s σ H Q I h;refine Compare_chain (J2 (ha pins s σ H _ I h) fun v s1 ⟨x,H1,I1,r1,q1⟩=>chain_link (J2 (hb pins s1 σ H1 _ I1 q1) fun u s2 ⟨y,H2,I2,r2,q2⟩ =>
  J2 (ho pins s2 σ H2 x y v u _ I2 r1 r2 q2) fun d s3 ⟨z,H3,I3,r3,k,e,q3⟩=>?_)) hm
 subst e;cases r3;refine wpAny_truthy_bool ?_;cases k with
 | false=>exact ite_ff ⟨.bl false,H3,I3,rfl,q3⟩
 | true=>exact ite_tt (chain_last (J2 (hc pins s3 σ H3 _ I3 q3) fun w' s4 ⟨z',H4,I4,r4,q4⟩=>ho' pins s4 σ H4 y z' u w' Q I4 r2 r4 q4))
theorem JgL:(sizeLine:Nat) < 2 ^ 63:=by rw [sizeLine_eq]; decide
theorem Jhi:ZF X (binaryOp .Add) (fun x y H Q=>∃ i j,x=.str i∧y=.str j∧i.length + j.length≤sizeLine∧Q (.str (i ++ j)) H):=by
 intro pins s σ H x y v u Q I rx ry h;obtain ⟨i,j,rfl,rfl,hz,q⟩:=h;obtain ⟨t,rfl⟩:=rx;obtain ⟨t',rfl⟩:=ry;exact add_str (fun t' tk=>⟨.str (i ++ j),H,I.tok _,⟨_,rfl⟩,q⟩) hz
theorem JkI {x:V} {us:List Value} (r:JF [x] us):∃ u,us=[u]∧JR x u:=by
 cases r with
 | cons r1 r2=>cases r2; exact ⟨_,rfl,r1⟩
theorem JtI {x y:V} {us:List Value} (r:JF [x,y] us):∃ u w',us=[u,w']∧JR x u∧JR y w':=by
 cases r with
 | cons r1 r2 =>
  cases r2 with
  | cons r3 r4=>cases r4; exact ⟨_,_,rfl,r1,r3⟩
theorem Jf6 (hc:X.calm=true):Yn X (.builtin "max") (fun xs H Q=>∃ i j,xs=[.int i,.int j]∧Q (.int (if j > i then j else i)) H):=by
 intro pins s σ H xs us Q I r h;obtain ⟨i,j,rfl,q⟩:=h;obtain ⟨u,w',rfl,⟨t,rfl⟩,⟨t',rfl⟩⟩:=JtI r;refine max_two_ints (I.ok.hd hc) fun h' tk k=>⟨_,H,I.kept k,?_,q⟩
 by_cases hj:j > i
 ·rw [if_pos hj,if_pos hj]; exact ⟨_,rfl⟩
 ·rw [if_neg hj,if_neg hj]; exact ⟨_,rfl⟩
theorem JmK (hc:X.calm=true):Yn X (.builtin "min") (fun xs H Q=>∃ i j,xs=[.int i,.int j]∧Q (.int (if j < i then j else i)) H):=by
 intro pins s σ H xs us Q I r h;obtain ⟨i,j,rfl,q⟩:=h;obtain ⟨u,w',rfl,⟨t,rfl⟩,⟨t',rfl⟩⟩:=JtI r;refine min_two_ints (I.ok.hd hc) fun h' tk k=>⟨_,H,I.kept k,?_,q⟩
 by_cases hj:j < i
 ·rw [if_pos hj,if_pos hj]; exact ⟨_,rfl⟩
 ·rw [if_neg hj,if_neg hj]; exact ⟨_,rfl⟩
end
end L2
namespace L2
open PySem PySem.Spec PyProof.Rows
structure JkC (h:Heap) (x dx C:Addr) (mA:Str→Option Value):Prop where
 obj:h.get? x=some (PySem.W.instObj C dx)
 ns:h.Ns1 dx mA
 ne:dx≠x
theorem JrB {h:Heap} {dx:Addr} {mA:Str→Option Value} (n:h.Ns1 dx mA):∃ od,h.get? dx=some od∧∀ name,PySem.W.lookIn name od=some (mA name):=by
 obtain ⟨o,es,ep,ho,hd,hk,_,hm⟩:=n;refine ⟨o,ho,fun name=>?_⟩;have e:=hm name;unfold nsFind findBy at e;rw [← Array.find?_toList] at e;unfold PySem.W.lookIn;rw [hd];dsimp only;split
 ·rename_i y q;rw [q] at e;exact congrArg some e
 ·rename_i q;rw [q] at e;have a:es.toList.any (·.refKey)=false:=by
   rw [List.any_eq_false];intro y hy;obtain ⟨z,t,hkey⟩:=hk y (Array.mem_toList_iff.mp hy);simp [DictEntry.refKey,hkey]
  have a':¬ es.toList.any (·.refKey)=true:=by rw [a]; exact Bool.false_ne_true
  rw [if_neg a'];exact congrArg some e
theorem JkC.look {h:Heap} {x dx C:Addr} {mA:Str→Option Value} (I:JkC h x dx C mA):∃ od,PySem.W.InstAt h x (PySem.W.instObj C dx) C (some od)∧∀ name,PySem.W.lookIn name od=some (mA name) :=
 let ⟨od,ho,hl⟩:=JrB I.ns
 ⟨od,⟨I.obj,rfl,rfl,ho⟩,hl⟩
section
variable {prog:Program} {w:World} {A:Around} {E:Value→Shared→Prop} {s:Shared} {K:PySem.W.Frag} {x dx C f:Addr} {mA:Str→Option Value} {name:Str} {v:Value}
theorem JuN {expr:Bool} {Q:Value→Shared→Prop} (X:K.In s.heap) (I:JkC s.heap x dx C mA) (hg:PySem.W.plainGet K C name=true) (hh:PySem.W.hasDictIn K C=true)
  (ha:PySem.W.findIn K (.ref C) name=some none) (hv:mA name=some v) (hv':PySem.W.handedIn v=true) (h:Q v { s with toks:=s.toks + 1 }) :
  wpAny (model prog w) A (getAttr (.ref x) name expr) Q E s:=by
 obtain ⟨od,J,hl⟩:=I.look;exact PySem.W.get_value X J (PySem.W.plainGet_of hg).1 (PySem.W.findObj_own hh ha rfl (by rw [hl,hv])) hv' h
theorem Jtn {pl:Sem Bool} {Q:Value×List Value→Shared→Prop} (X:K.In s.heap) (I:JkC s.heap x dx C mA) (hg:PySem.W.plainGet K C name=true)
  (hf:PySem.W.findIn K (.ref C) name=some (some (.ref f))) (ht:PySem.W.isFn K (.ref f)=true) (hv:mA name=none) (h:Q (.ref f,[.ref x]) s) :
  wpAny (model prog w) A (getMethod (.ref x) name pl) Q E s:=by
 obtain ⟨od,J,hl⟩:=I.look;exact PySem.W.method_fn X J (PySem.W.plainGet_of hg).1 (PySem.W.plainGet_of hg).2 hf (beq_iff_eq.mp ht) (by show (PySem.W.lookIn name od).map (·.isSome)=some false; rw [hl,hv]; rfl) h
theorem Jur {ns:List Str} {Q:Unit→Shared→Prop} (X:K.In s.heap) (I:JkC s.heap x dx C mA)
  (hs:PySem.W.findIn K (.ref C) "__setattr__" = some (some (.builtin "object.__setattr__"))) (hp:PySem.W.plainOver K C=true) (ht:PySem.W.takerIn K C name=some none) (hh:PySem.W.hasDictIn K C=true)
  (hw:PySem.Within mA ns) (hsz:ns.length≤sizeLine)
  (h:∀ h',JkC h' x dx C (fun y=>if y=name then some v else mA y)→Heap.SameBut dx s.heap h'→Q () { s with heap:=h',toks:=s.toks + 2 }) :
  wpAny (model prog w) A (setAttr (.ref x) name v) Q E s:=by
 obtain ⟨od,J,hl⟩:=I.look;refine PySem.W.set_plain X J hs (PySem.W.osa_open (s:={ s with toks:=s.toks + 1 }) (r:=none) X J hp ht fun b=>?_);obtain ⟨cd,hc,hd'⟩:=PySem.W.any_some hh;have hx:s.heap.get? x=some ⟨.ref C,some dx,.plain,#[]⟩:=I.obj;refine wpAny_bind (wpAny_pure (wpAny_bind (wpAny_bind (wpAny_loadPart hx (wpAny_bind (PySem.W.Looks.here (s:={ s with toks:=s.toks + 1 }) (PySem.W.looks_clsIn X hc) ?_))))));rw [hd'];refine wpAny_pure (a:=some dx) (wpAny_bind (wpAny_pure (wpAny_bind ?_)));refine wpAny_nsSet1 (s:={ s with toks:=s.toks + 1 }) I.ns fun h' hn2 hs2=>?_
 obtain ⟨oD,esD,epD,hoD,hdD,hcD⟩:=hn2.count (PySem.Within.cons name v hw);refine wpAny_bind (wpAny_lookBehind hoD (by rw [hdD]; exact pastItsLine_dict (Nat.le_trans hcD (by rw [List.length_cons]; omega))) ?_);exact wpAny_pure (h _ ⟨(hs2.2 _ (Ne.symm I.ne)).trans I.obj,hn2,I.ne⟩ hs2)
theorem Jtf {R:Result→Shared→Prop} {vs:List Value} {kw:List (Str×Value)} (X:K.In s.heap) (hm:PySem.W.makesIn K C=true)
  (hi:PySem.W.findIn K (.ref C) "__init__" = some (some (.ref f))) (hf:PySem.W.typeIn K (.ref f)=some (.type "function"))
  (h:codeAny (model prog w) (A.under (.builtin "type.__call__" ⟨.ref C :: vs,kw⟩)) (.call (.ref f) ⟨.ref (s.heap.objs.size + 1) :: vs,kw⟩) (PySem.W.InitBack (s.heap.objs.size + 1) R)
   { s with heap:=(s.heap.push PySem.W.emptyDict).push (PySem.W.instObj C s.heap.objs.size) }) :
  codeAny (model prog w) A (.call (.ref C) ⟨vs,kw⟩) R s:=by
 obtain ⟨hh,g,d,t,os⟩:=s;exact PySem.W.make_core (PySem.W.makes_of X hm) (PySem.W.looks_findIn X hi) (fun self=>PySem.W.bind_fn X self hf) (.inl rfl) h
end
def Yh (f:Str) (v:V):List (Str×V)→List (Str×V)
 | []=>[(f,v)]
 | (g,x) :: r=>if g=f then (g,v) :: r else (g,x) :: Yh f v r
theorem JjM (f g:Str) (v:V):∀ fs:List (Str×V),(Yh f v fs).lookup g=if g=f then some v else fs.lookup g
 | []=>by
  show List.lookup g [(f,v)]=_;by_cases h:g=f
  ·have hb:(g == f)=true:=beq_iff_eq.mpr h;simp only [List.lookup,hb,if_pos h]
  ·have hb:(g == f)=false:=beq_eq_false_iff_ne.mpr h;simp only [List.lookup,hb,if_neg h]
 | (k,x) :: r=>by
  have ih:=JjM f g v r;rw [show Yh f v ((k,x) :: r)=(if k=f then (k,v) :: r else (k,x) :: Yh f v r) from rfl];by_cases hk:k=f
  ·rw [if_pos hk];by_cases h:g=k
   ·have hb:(g == k)=true:=beq_iff_eq.mpr h;simp only [List.lookup,hb,if_pos (h.trans hk)]
   ·have hb:(g == k)=false:=beq_eq_false_iff_ne.mpr h;simp only [List.lookup,hb,if_neg (fun e:g=f=>h (e.trans hk.symm))]
  ·rw [if_neg hk];by_cases h:g=k
   ·have hb:(g == k)=true:=beq_iff_eq.mpr h;simp only [List.lookup,hb,if_neg (fun e:g=f=>hk (h.symm.trans e))]
   ·have hb:(g == k)=false:=beq_eq_false_iff_ne.mpr h;simp only [List.lookup,hb];exact ih
theorem JiC (f:Str) (v:V):∀ fs:List (Str×V),f∈(Yh f v fs).map (·.1)∧∀ g,g∈fs.map (·.1)→g∈(Yh f v fs).map (·.1)
 | []=>⟨by simp [Yh],fun g h=>by simp at h⟩
 | (k,x) :: r=>by
  obtain ⟨i1,i2⟩:=JiC f v r;rw [show Yh f v ((k,x) :: r)=(if k=f then (k,v) :: r else (k,x) :: Yh f v r) from rfl];by_cases hk:k=f
  ·rw [if_pos hk];subst hk;exact ⟨by simp,fun g h=>by simpa using h⟩
  ·rw [if_neg hk];refine ⟨?_,fun g h=>?_⟩
   ·rw [List.map_cons];exact List.mem_cons_of_mem _ i1
   ·rw [List.map_cons] at h ⊢;rcases List.mem_cons.mp h with e | e
    ·exact List.mem_cons.mpr (.inl e)
    ·exact List.mem_cons_of_mem _ (i2 g e)
theorem JjO (f:Str) (v:V):∀ fs:List (Str×V),(Yh f v fs).length≤fs.length + 1
 | []=>by simp [Yh]
 | (k,x) :: r=>by
  have ih:=JjO f v r;rw [show Yh f v ((k,x) :: r)=(if k=f then (k,v) :: r else (k,x) :: Yh f v r) from rfl];by_cases hk:k=f
  ·rw [if_pos hk,List.length_cons,List.length_cons]; omega
  ·rw [if_neg hk,List.length_cons,List.length_cons]; omega
theorem JaE.some_of {v:V} {o:Option Value} (r:JaE (some v) o):∃ u,o=some u∧JR v u:=by
 cases o with
 | none=>exact (show False from r).elim
 | some u=>exact ⟨u,rfl,r⟩
theorem JaE.none_of {o:Option Value} (r:JaE none o):o=none:=by
 cases o with
 | none=>rfl
 | some u=>exact (show False from r).elim
theorem JrQ {v:V} {u:Value} (r:JR v u):PySem.W.handedIn u=true:=by
 cases v with
 | non=>cases (show u=Value.none from r); rfl
 | bl b=>cases (show u=Value.bool b from r); rfl
 | int i=>obtain ⟨t,e⟩:=(show ∃ t,u=Value.int i t from r); cases e; rfl
 | str x=>obtain ⟨t,e⟩:=(show ∃ t,u=Value.str x t from r); cases e; rfl
 | byt b=>obtain ⟨t,e⟩:=(show ∃ t,u=Value.bytes b t from r); cases e; rfl
 | flt b=>obtain ⟨t,e⟩:=(show ∃ t,u=Value.float b t from r); cases e; rfl
 | ref a=>cases (show u=Value.ref a from r); rfl
 | ty n=>cases (show u=Value.type n from r); rfl
section
variable {P:Program} {w:World} {H H':Hp} {h h':Heap} {a C dx:Addr} {fs fs':List (Str×V)}
theorem Jjo (hok:ZK P w H h) (e:H a=some (.ins C dx fs)):∃ mA,JkC h a dx C mA∧(∀ f,JaE (fs.lookup f) (mA f))∧PySem.Within mA (fs.map (·.1))∧fs.length≤1000∧H dx=some (.own a):=by
 obtain ⟨d,z,ne,ob,mA,n,r,q⟩:=(show YF P w H h a (.ins C dx fs) from hok a _ e)
 exact ⟨mA,⟨ob,n,ne⟩,r,q,z,d⟩
end
structure Cls (K:PySem.W.Frag) (C:Addr):Prop where
 pg:PySem.W.plainGet K C Str.empty=true
 hd:PySem.W.hasDictIn K C=true
 po:PySem.W.plainOver K C=true
 sa:PySem.W.findIn K (.ref C) "__setattr__" = some (some (.builtin "object.__setattr__"))
theorem Cls.get {K:PySem.W.Frag} {C:Addr} (c:Cls K C) (f:Str):PySem.W.plainGet K C f=true:=c.pg
def YE (K:PySem.W.Frag) (C:Addr) (f:Str):Prop:=PySem.W.findIn K (.ref C) f=some none
theorem YE.taker {K:PySem.W.Frag} {C:Addr} {f:Str} (n:YE K C f):PySem.W.takerIn K C f=some none:=by
 unfold PySem.W.takerIn;rw [show PySem.W.findIn K (.ref C) f=some none from n];rfl
structure JqG (K:PySem.W.Frag) (C:Addr) (m:Str) (f:Addr):Prop where
 at_:PySem.W.findIn K (.ref C) m=some (some (.ref f))
 fn:PySem.W.isFn K (.ref f)=true
 kp:PySem.W.keepIn K (.ref f)=true
section
variable {X:Cx} {pins:List (Addr×Obj)} {σ:St} {H:Hp} {s:Shared} {a C dx:Addr} {fs:List (Str×V)} {f:Str} {v:V} {A:Around} {E:Value→Shared→Prop}
theorem Jqn {b:Bool} {Q:Value→Shared→Prop} (I:Jn X pins σ H s) (e:H a=some (.ins C dx fs)) (c:Cls X.K C) (n:YE X.K C f) (l:fs.lookup f=some v)
  (h:∀ u s',Jn X pins σ H s'→JR v u→Q u s'):wpAny (model X.prog X.w) A (getAttr (.ref a) f b) Q E s:=by
 obtain ⟨mA,O,r,_,_,_⟩:=Jjo I.hok e;obtain ⟨u,hu,ru⟩:=JaE.some_of (v:=v) (o:=mA f) (by rw [← l]; exact r f);exact JuN I.kIn O (c.get f) c.hd n hu (JrQ ru) (h u _ (I.tok _) ru)
theorem Jlc {m:Str} {g:Addr} {pl:Sem Bool} {Q:Value×List Value→Shared→Prop} (I:Jn X pins σ H s) (e:H a=some (.ins C dx fs)) (c:Cls X.K C) (k:JqG X.K C m g) (l:fs.lookup m=none)
  (h:Q (.ref g,[.ref a]) s):wpAny (model X.prog X.w) A (getMethod (.ref a) m pl) Q E s:=by
 obtain ⟨mA,O,r,_,_,_⟩:=Jjo I.hok e;have hn:mA m=none:=JaE.none_of (by rw [← l]; exact r m);exact Jtn I.kIn O (c.get m) k.at_ k.fn hn h
theorem Jp2 {y:V} {u:Value} {Q:Unit→Shared→Prop} (I:Jn X pins σ H s) (e:H a=some (.ins C dx fs)) (c:Cls X.K C) (n:YE X.K C f) (hl:fs.length < 1000) (ry:JR y u)
  (h:∀ s',Jn X pins σ (upd H a (.ins C dx (Yh f y fs))) s'→Q () s'):wpAny (model X.prog X.w) A (setAttr (.ref a) f u) Q E s:=by
 obtain ⟨mA,O,r,wi,_,ho⟩:=Jjo I.hok e;have hz:(fs.map (·.1)).length≤sizeLine:=by rw [List.length_map,sizeLine_eq]; omega
 refine Jur I.kIn O c.sa c.po n.taker c.hd wi hz fun h' O' sb=>h _ ?_
 have hd:∃ o,h'.get? dx=some o:=let ⟨o,_,_,e',_⟩:=O'.ns; ⟨o,e'⟩;refine I.write (x:=a) (e:=dx) (by rw [e]; exact True.intro) (.inr ho) (fun b q hb z=>(sb.2 b hb).trans z) hd ?_;refine ⟨by rw [Jt O.ne]; exact ho,?_,O.ne,O'.obj,_,O'.ns,fun g=>?_,fun g hg=>?_⟩
 ·have:=JjO f y fs; omega
 ·show JaE ((Yh f y fs).lookup g) (if g=f then some u else mA g);rw [JjM];by_cases q:g=f
  ·rw [if_pos q,if_pos q]; exact ry
  ·rw [if_neg q,if_neg q]; exact r g
 ·by_cases q:g=f
  ·rw [q]; exact (JiC f y fs).1
  ·refine (JiC f y fs).2 g (wi g fun z=>hg ?_);show (if g=f then some u else mA g)=none;rw [if_neg q]; exact z
theorem Jn.made (I:Jn X pins σ H s):Jn X pins σ (upd (upd H s.heap.objs.size (.own (s.heap.objs.size + 1))) (s.heap.objs.size + 1) (.ins C s.heap.objs.size []))
  { s with heap:=(s.heap.push PySem.W.emptyDict).push (PySem.W.instObj C s.heap.objs.size) }:=by
 have e1:(s.heap.push PySem.W.emptyDict).get? s.heap.objs.size=some PySem.W.emptyDict:=Heap.get?_push_size s.heap rfl;have e2:((s.heap.push PySem.W.emptyDict).push (PySem.W.instObj C s.heap.objs.size)).get? (s.heap.objs.size + 1)=some (PySem.W.instObj C s.heap.objs.size):=by
  have:=Heap.get?_push_size (s.heap.push PySem.W.emptyDict) (o:=PySem.W.instObj C s.heap.objs.size) rfl;rwa [Heap.size_push] at this
 have e3:(s.heap.push PySem.W.emptyDict).Ns s.heap.objs.size (fun _=>none):=⟨PySem.W.emptyDict,#[],_,e1,rfl,(fun e he=>absurd he (by simp)),fun _=>rfl⟩
 have I1:=I.laid (a:=s.heap.objs.size) (o:=.own (s.heap.objs.size + 1)) (h':=s.heap.push PySem.W.emptyDict) (t':=s.toks) (fun b u q=>Heap.get?_push_of_some _ q) (Nat.le_refl _) ⟨_,e1⟩;refine I1.laid (a:=s.heap.objs.size + 1) (o:=.ins C s.heap.objs.size []) (t':=s.toks) (fun b u q=>Heap.get?_push_of_some _ q) (Nat.le_of_eq (Heap.size_push _ _)) ?_;have ne:s.heap.objs.size≠s.heap.objs.size + 1:=Nat.ne_of_lt (Nat.lt_succ_self _);refine ⟨by rw [Jt ne,Jg],Nat.zero_le _,ne,e2,fun _=>none,(Heap.Ns1.of_empty e3).at fun o q=>Heap.get?_push_of_some _ q,fun _=>True.intro,fun y hy=>absurd rfl hy⟩
theorem JuT {prog:Program} {w:World} {env:Env} {e:Expr} {f:Str} {pos:Pos} {s:Shared} {Q:Value→Shared→Prop} (hb:attributeBase e f env (eval e env)=eval e env)
  (h:wpAny (model prog w) A (eval e env) (fun o s₁=>wpAny (model prog w) A (getAttr o f true) Q E s₁) E s):wpAny (model prog w) A (eval (.Attribute e f pos) env) Q E s :=
 Attribute_any_ h (by rw [arm_eval_Attribute,hb])
end
def Jw0 (K:PySem.W.Frag) (ta:TE) (f:Str):TE:=fun σ H Q=>ta σ H fun x H1=>∃ a C dx fs v,x=.ref a∧H1 a=some (.ins C dx fs)∧Cls K C∧YE K C f∧fs.lookup f=some v∧Q v H1
def Jw3 (K:PySem.W.Frag) (ta tv:TE) (f:Str):TS:=fun D σ H=>tv σ H fun y H1=>ta σ H1 fun x H2=>∃ a C dx fs,x=.ref a∧H2 a=some (.ins C dx fs)∧Cls K C∧YE K C f∧fs.length < 1000 ∧
 D.nx σ (upd H2 a (.ins C dx (Yh f y fs)))
section
variable {X:Cx} {o e value:Expr} {f:Str} {pos pos' tpos:Pos} {ta tv:TE}
theorem Yd (he:PE X e ta) (hb:attributeBase e f X.env (eval e X.env)=eval e X.env):PE X (.Attribute e f pos) (Jw0 X.K ta f):=by
 intro pins s σ H Q I h;refine JuT hb (J2 (he pins s σ H _ I h) fun u s1 ⟨x,H1,I1,rx,a,C,dx,fs,v,ex,ea,c,n,l,q⟩=>?_);subst ex;obtain rfl:u=Value.ref a:=rx;exact Jqn I1 ea c n l fun u' s2 I2 ru=>⟨v,H1,I2,ru,q⟩
theorem Y6 (ha:PE X o ta) (hv:PE X value tv) (hs:swapsWith value (some (.Attribute o f pos')) pos.line X.env=pure false):PS X (.Assign [.Attribute o f pos'] value pos) (Jw3 X.K ta tv f):=by
 intro pins s σ H D I h;refine plainObj_wpAny_Assign_Attribute (J2 (hv pins s σ H _ I h) fun u s1 ⟨y,H1,I1,ry,q⟩=>J2 (ha pins s1 σ H1 _ I1 q) fun ov s2 ⟨x,H2,I2,rx,a,C,dx,fs,ex,ea,c,n,l,q2⟩=>?_) hs;subst ex;obtain rfl:ov=Value.ref a:=rx;exact Jp2 I2 ea c n l ry fun s3 I3=>⟨σ,_,I3,q2⟩
end
section
variable {X:Cx} {pins:List (Addr×Obj)} {σ:St} {H:Hp} {s:Shared} {A:Around} {E:Value→Shared→Prop} {Q:Value→Shared→Prop} {c:Value} {b:Bool}
inductive Jc5 (K:PySem.W.Frag) (H:Hp):V→Value→Prop where
 | non:Jc5 K H .non (.type "NoneType")
 | bl (x:Bool):Jc5 K H (.bl x) (.type "bool")
 | int (i:Int):Jc5 K H (.int i) (.type "int")
 | str (x:Str):Jc5 K H (.str x) (.type "str")
 | flt (x:UInt64):Jc5 K H (.flt x) (.type "float")
 | lst {a:Addr} {xs:List V} (e:H a=some (.lst xs)):Jc5 K H (.ref a) (.type "list")
 | frz {a:Addr} {o:Obj} {xs:List V} (e:H a=some (.frz o (.lst xs))):Jc5 K H (.ref a) (.type "list")
 | tup {a:Addr} {xs:List V} (e:H a=some (.tup xs)):Jc5 K H (.ref a) (.type "tuple")
 | dK {a:Addr} {kvs:List (JK×V)} (e:H a=some (.dK kvs)):Jc5 K H (.ref a) (.type "dict")
 | dT {a:Addr} {kvs:List (List JK×V)} (e:H a=some (.dT kvs)):Jc5 K H (.ref a) (.type "dict")
 | ins {a C dx:Addr} {fs:List (Str×V)} (e:H a=some (.ins C dx fs)) (cl:Cls K C) (ha:PySem.W.findIn K (.ref C) "__class__" = some (some (.builtin "object.__class__")))
   (hn:PySem.W.specialIn K (.builtin "object.__class__") "__get__" = some (some (.builtin "getset_descriptor.__get__"))) (htk:PySem.W.takesIn K (.builtin "object.__class__")=some true)
   (hm:PySem.W.mroIn K C (.type "object")=some true):Jc5 K H (.ref a) (.ref C)
theorem JrK {x:V} {u t:Value} (I:Jn X pins σ H s) (rx:JR x u) (ty:Jc5 X.K H x t) (e:PySem.W.kitOne X.K t c=some b) (h:∀ tk,Q (.bool b) { s with toks:=tk }) :
  wpAny (model X.prog X.w) A (call (.builtin "isinstance") [u,c]) Q E s:=by
 cases ty with
 | non=>cases (show u=Value.none from rx); exact PySem.W.kia_one PySem.W.kitx_none I.kIn True.intro e (fun z=>nomatch z) h
 | bl y=>cases (show u=Value.bool y from rx); exact PySem.W.kia_one PySem.W.kitx_bool I.kIn True.intro e (fun z=>nomatch z) h
 | int i=>obtain ⟨t,q⟩:=(show ∃ t,u=Value.int i t from rx); cases q; exact PySem.W.kia_one PySem.W.kitx_int I.kIn True.intro e (fun z=>nomatch z) h
 | str y=>obtain ⟨t,q⟩:=(show ∃ t,u=Value.str y t from rx); cases q; exact PySem.W.kia_one PySem.W.kitx_str I.kIn True.intro e (fun z=>nomatch z) h
 | flt y=>obtain ⟨t,q⟩:=(show ∃ t,u=Value.float y t from rx); cases q; exact PySem.W.kia_one PySem.W.kitx_float I.kIn True.intro e (fun z=>nomatch z) h
 | @lst a xs ea =>
  cases (show u=Value.ref a from rx);obtain ⟨_,_,n,_,h1⟩:=(show YF X.prog X.w H s.heap a (.lst xs) from I.hok a _ ea)
  exact PySem.W.kia_one PySem.W.kitx_list I.kIn ⟨_,h1,rfl⟩ e (fun z=>nomatch z) h
 | @frz a ob xs ea =>
  cases (show u=Value.ref a from rx);obtain ⟨_,_,_,n,_,h1⟩:=(show YF X.prog X.w H s.heap a (.frz ob (.lst xs)) from I.hok a _ ea)
  exact PySem.W.kia_one PySem.W.kitx_list I.kIn ⟨_,h1,rfl⟩ e (fun z=>nomatch z) h
 | @tup a xs ea =>
  cases (show u=Value.ref a from rx);obtain ⟨_,_,_,p⟩:=(show YF X.prog X.w H s.heap a (.tup xs) from I.hok a _ ea)
  obtain ⟨o,h1,h2,_⟩:=p;exact PySem.W.kia_one PySem.W.kitx_tuple I.kIn ⟨o,h1,h2⟩ e (fun z=>nomatch z) h
 | @dK a kvs ea =>
  cases (show u=Value.ref a from rx);obtain ⟨_,_,vs,_,p⟩:=(show YF X.prog X.w H s.heap a (.dK kvs) from I.hok a _ ea)
  obtain ⟨o,es,ep,h1,h2,_⟩:=p;exact PySem.W.kia_one PySem.W.kitx_dict I.kIn ⟨o,h1,h2.1⟩ e (fun z=>nomatch z) h
 | @dT a kvs ea =>
  cases (show u=Value.ref a from rx);obtain ⟨_,_,xs,_,o,es,ep,h1,h2,_⟩:=(show YF X.prog X.w H s.heap a (.dT kvs) from I.hok a _ ea)
  exact PySem.W.kia_one PySem.W.kitx_dict I.kIn ⟨o,h1,h2.1⟩ e (fun z=>nomatch z) h
 | @ins a C dx fs ea cl ha hn htk hm =>
  cases (show u=Value.ref a from rx);obtain ⟨mA,O,_⟩:=Jjo I.hok ea;obtain ⟨od,J,_⟩:=O.look;exact PySem.W.kia_one (PySem.W.kitx_own (cl.get _) cl.hd ha hn htk hm) I.kIn J e (fun z=>nomatch z) h
end
end L2
namespace L2
open PySem PySem.Spec PyProof.Rows
structure Y3 (k:Nat) (A:Around):Prop where
 hd:A.handled=none
 dp:A.depth + 3 * k + 5 < recursionLimit
 un:A.units + 16 * k + 200 < cLine
theorem Y3.mono {j k:Nat} {A:Around} (r:Y3 k A) (h:j≤k):Y3 j A:=⟨r.hd,by have:=r.dp; omega,by have:=r.un; omega⟩
theorem Y3.deeper {k:Nat} {A:Around} (r:Y3 (k + 1) A) (env:Env):Y3 k (A.deeper env) :=
 ⟨r.hd,by have:=r.dp; show A.depth + 1 + 3 * k + 5 < _; omega,by have:=r.un; show A.units + 3 + 16 * k + 200 < _; omega⟩
theorem Y3.in1 {k:Nat} {A:Around} (r:Y3 (k + 1) A):Y3 k A.in1 :=
 ⟨r.hd,by have:=r.dp; show A.depth + 3 * k + 5 < _; omega,by have:=r.un; show A.units + 1 + 16 * k + 200 < _; omega⟩
theorem Jql {A:Around} {C:Addr} {us:List Value} {kw:List (Str×Value)}:(A.under (.builtin "type.__call__" ⟨.ref C :: us,kw⟩)).depth=A.depth + 1:=by
 first | rfl | simp [Around.under,Code.weight,Code.isCreation,Code.isGuard,Code.isCaller,Code.frames,Code.isFrame,guardIds]
theorem Jqk {A:Around} {C:Addr} {us:List Value} {kw:List (Str×Value)}:(A.under (.builtin "type.__call__" ⟨.ref C :: us,kw⟩)).units=A.units + 1:=by
 first | rfl | simp [Around.under,Code.cUnits,Code.frames,Code.isFrame]
theorem Y3.make {k:Nat} {A:Around} (r:Y3 (k + 1) A) (C:Addr) (us:List Value) (kw:List (Str×Value)):Y3 k (A.under (.builtin "type.__call__" ⟨.ref C :: us,kw⟩)) :=
 ⟨r.hd,by have:=r.dp; rw [Jql]; omega,by have:=r.un; rw [Jqk]; omega⟩
theorem Y3.depth {k:Nat} {A:Around} (r:Y3 k A):A.depth < recursionLimit:=by have:=r.dp; omega
theorem Y3.units {k:Nat} {A:Around} (r:Y3 k A):A.units + 64 < cLine:=by have:=r.un; omega
theorem Y3.units0 {k:Nat} {A:Around} (r:Y3 k A):A.units < cLine:=by have:=r.un; omega
def Jsq:TA:=fun _ H Q=>Q [] H
def Jwg (ta:TE) (tr:TA):TA:=fun σ H Q=>ta σ H fun x H1=>tr σ H1 fun xs H2=>Q (x :: xs) H2
section
variable {X:Cx} {e:Expr} {es:List Expr} {te:TE} {t:TA} {pos:Pos}
theorem Jd:PA X [] Jsq:=fun _ _ _ _ H Q I h=>Calls.spliced_nil ⟨[],H,I,.nil,h⟩
theorem Ja (ha:PE X e te) (hr:PA X es t) (hs:starEach (e :: es) X.env=(false,eval e X.env) :: starEach es X.env:=by rfl):PA X (e :: es) (Jwg te t):=by
 intro pos pins s σ H Q I h;rw [hs];show wpAny _ _ (spliced ((false,eval e X.env) :: backTo pos (starEach es X.env))) _ _ s;refine Calls.spliced_cons (J2 (ha pins s σ H _ I h) fun u s1 ⟨x,H1,I1,r1,q1⟩=>?_);exact J2 (hr pos pins s1 σ H1 _ I1 q1) fun us s2 ⟨xs,H2,I2,r2,q2⟩=>⟨x :: xs,H2,I2,.cons r1 r2,q2⟩
def JwQ (t:TA):TE:=fun σ H Q=>t σ H fun xs H1=>xs.length≤sizeLine∧∀ p,H1 p=none→Q (.ref p) (upd H1 p (.tup xs))
def JwW (t:TA):TE:=fun σ H Q=>t σ H fun xs H1=>xs.length≤sizeLine∧∀ p,H1 p=none→Q (.ref p) (upd H1 p (.lst xs))
theorem YX {x1} (h:PA X es t):PE X (.Tuple es x1 pos) (JwQ t):=by
 intro pins s σ H Q I hq;refine wpAny_Tuple_spliced (J2 (h pos pins s σ H _ I hq) fun us s1 ⟨xs,H1,I1,r,z,q⟩=>⟨by rw [← r.length]; exact z,?_⟩);have hf:H1 s1.heap.objs.size=none:=I1.hok.fresh (Nat.le_refl _);refine ⟨.ref s1.heap.objs.size,upd H1 s1.heap.objs.size (.tup xs),I1.laid (t':=s1.toks) (fun b u e=>Heap.get?_push_of_some _ e) (Nat.le_refl _) ?_,rfl,q _ hf⟩;exact ⟨z,us,r,⟨_,Heap.get?_push_size _ rfl,rfl,_,rfl⟩⟩
theorem Yv (h:PA X es t):PE X (.List es pos) (JwW t):=by
 intro pins s σ H Q I hq;refine wpAny_List_spliced (J2 (h pos pins s σ H _ I hq) fun us s1 ⟨xs,H1,I1,r,z,q⟩=>⟨by rw [← r.length]; exact z,?_⟩);have hf:H1 s1.heap.objs.size=none:=I1.hok.fresh (Nat.le_refl _);refine ⟨.ref s1.heap.objs.size,upd H1 s1.heap.objs.size (.lst xs),I1.laid (t':=s1.toks) (fun b u e=>Heap.get?_push_of_some _ e) (Nat.le_refl _) ?_,rfl,q _ hf⟩;exact ⟨z,us,0,r,Heap.get?_push_size _ rfl⟩
end
abbrev Sp:=List V→Hp→VK→XK→Prop
abbrev CXT:=List Env→Hp→Shared→XK→Value→Shared→Prop
structure Jgw (P:Program) (w:World) (K:PySem.W.Frag) (mg:Str→Option Value) (base:Heap) (A:Around) (outer:List Env) (s:Shared) (H:Hp):Prop where
 frames:A.frames=some outer
 mod:Mod K mg base
 bs:∀ b o,base.get? b=some o→s.heap.get? b=some o∧H b=none
 bsz:base.objs.size≤s.heap.objs.size
 funs:s.heap.FunFrames base outer
 frf:∀ b∈ZQ outer,H b=none
 hok:ZK P w H s.heap
 bare:AllBare s.gens
def CE (outer:List Env) (P:Program) (w:World) (H:Hp) (s:Shared) (Q:VK) (u:Value) (s':Shared):Prop :=
 ∃ v H',s'.os=s.os∧AllBare s'.gens∧Un (ZQ outer) [] H H' s.heap s'.heap∧ZK P w H' s'.heap∧JR v u∧Q v H'
def CR (CX:CXT) (outer:List Env) (P:Program) (w:World) (H:Hp) (s:Shared) (Q:VK) (E:XK) (r:Result) (s':Shared):Prop :=
 match r with
 | .ok (.ret u)=>CE outer P w H s Q u s'
 | .ok _=>False
 | .error e=>CX outer H s E e s'
structure JL (P:Program) (w:World) (K:PySem.W.Frag) (mg:Str→Option Value) (base:Heap) (CX:CXT) (k:Nat) (f:Addr) (fd:FuncData) (ps:List Str) (sp:Sp):Prop where
 len:∀ vs H Q E,sp vs H Q E→vs.length=ps.length
 run:∀ (A:Around) (outer:List Env) (s:Shared) (H:Hp) (args:Args) (us:List Value) (vs:List V) (Q:VK) (E:XK),Y3 k A→Jgw P w K mg base A outer s H→BindsTo s fd args (ps.zip us)→JF vs us→sp vs H Q E →
  codeAny (model P w) A (.call (.ref f) args) (CR CX outer P w H s Q E) s
theorem JL.mono {P:Program} {w:World} {K:PySem.W.Frag} {mg:Str→Option Value} {base:Heap} {CX:CXT} {j k:Nat} {f:Addr} {fd:FuncData} {ps:List Str} {sp:Sp} (F:JL P w K mg base CX j f fd ps sp) (h:j≤k) :
  JL P w K mg base CX k f fd ps sp:=⟨F.len,fun A outer s H args us vs Q E hr=>F.run A outer s H args us vs Q E (hr.mono h)⟩
theorem JL.imp {P:Program} {w:World} {K:PySem.W.Frag} {mg:Str→Option Value} {base:Heap} {CX:CXT} {k:Nat} {f:Addr} {fd:FuncData} {ps:List Str} {sp sp':Sp} (F:JL P w K mg base CX k f fd ps sp)
  (h:∀ vs H Q E,sp' vs H Q E→sp vs H Q E):JL P w K mg base CX k f fd ps sp' :=
 ⟨fun vs H Q E q=>F.len vs H Q E (h _ _ _ _ q),fun A outer s H args us vs Q E hr he hb hv hs=>F.run A outer s H args us vs Q E hr he hb hv (h _ _ _ _ hs)⟩
theorem Jgw.make {P:Program} {w:World} {K:PySem.W.Frag} {mg:Str→Option Value} {base:Heap} {A:Around} {outer:List Env} {s:Shared} {H:Hp} (e:Jgw P w K mg base A outer s H) (C:Addr) (us:List Value) (kw:List (Str×Value)) :
  Jgw P w K mg base (A.under (.builtin "type.__call__" ⟨.ref C :: us,kw⟩)) outer s H:=⟨by first | exact e.frames | (simpa [Around.under,Code.envs,Code.isFrame,pushEnvs] using e.frames),e.mod,e.bs,e.bsz,e.funs,e.frf,e.hok,e.bare⟩
theorem Jgw.in1 {P:Program} {w:World} {K:PySem.W.Frag} {mg:Str→Option Value} {base:Heap} {A:Around} {outer:List Env} {s:Shared} {H:Hp} (e:Jgw P w K mg base A outer s H) :
  Jgw P w K mg base A.in1 outer s H:=⟨e.frames,e.mod,e.bs,e.bsz,e.funs,e.frf,e.hok,e.bare⟩
section
variable {X:Cx} {pins:List (Addr×Obj)} {σ:St} {H:Hp} {s s':Shared}
theorem Jn.env0 (I:Jn X pins σ H s):Jgw X.prog X.w X.K X.mg X.base X.A X.stack s H :=
 ⟨I.ok.frames,I.ok.mod,I.bs,Nat.le_trans I.ok.bsz I.sz,I.stack,I.stkFree,I.hok,I.bare⟩
theorem Jn.after {Q:VK} {u:Value} (I:Jn X pins σ H s) (h:CE X.stack X.prog X.w H s Q u s'):EP X pins σ Q u s':=by
 obtain ⟨v,H',os,bare,un,hok,r,q⟩:=h;obtain ⟨hh,g,d,t,os'⟩:=s';obtain rfl:os'=s.os:=os;exact ⟨v,H',I.call (h':=hh) (g':=g) (d':=d) (t':=t) (ch:=[]) un hok bare (fun b z=>absurd z (by simp)),r,q⟩
end
def JtN (sp:Sp) (dvs:List V) (E:XK) (t:TA):TE:=fun σ H Q=>t σ H fun vs H1=>sp (vs ++ dvs) H1 Q E
def JtL (C:Addr) (m:Str) (sp:Sp) (dvs:List V) (E:XK) (ta:TE) (t:TA):TE:=fun σ H Q=>ta σ H fun x H1=>∃ a dx fs,x=.ref a∧H1 a=some (.ins C dx fs)∧fs.lookup m=none ∧
 t σ H1 fun vs H2=>sp (x :: (vs ++ dvs)) H2 Q E
def JtM (C:Addr) (sp:Sp) (dvs:List V) (E:XK) (t:TA):TE:=fun σ H Q=>t σ H fun vs H1=>∀ x dx,H1 x=none→H1 dx=none→dx≠x →
 sp (.ref x :: (vs ++ dvs)) (upd (upd H1 dx (.own x)) x (.ins C dx [])) (fun v H2=>v=.non∧Q (.ref x) H2) E
def JbC (K:PySem.W.Frag) (fd:FuncData) (ps:List Str) (ds:List Value):Prop :=
 ∀ (s:Shared) (us:List Value),K.In s.heap→(us ++ ds).length=ps.length→BindsTo s fd ⟨us,[]⟩ (ps.zip (us ++ ds))
theorem JbC.all {K:PySem.W.Frag} {fd:FuncData} {ps:List Str} (h:∀ us:List Value,us.length=ps.length→bindArgs fd ⟨us,[]⟩=pure (ps.zip us)):JbC K fd ps []:=fun s us _ hl=>by
 rw [List.append_nil] at hl ⊢;exact .of_eq (h us hl)
def Jan (CX:CXT) (X:Cx) (E:XK):Prop:=∀ (pins:List (Addr×Obj)) (σ:St) (H:Hp) (s:Shared) (e:Value) (s':Shared),Jn X pins σ H s→CX X.stack H s E e s'→X.xe e s'
section
variable {X:Cx} {CX:CXT} {k:Nat} {f C:Addr} {fd:FuncData} {ps:List Str} {sp:Sp} {dvs:List V} {ds:List Value} {E:XK} {x m:Str} {p pos apos:Pos} {e o:Expr} {es:List Expr} {ta:TE} {t:TA}
theorem JnV {pins:List (Addr×Obj)} {σ:St} {H:Hp} {s:Shared} {Q:VK} {us:List Value} {vs:List V} (F:JL X.prog X.w X.K X.mg X.base CX k f fd ps sp) (hr:Y3 k X.A) (hb:JbC X.K fd ps ds) (hd:JF dvs ds) (hx:Jan CX X E)
  (I:Jn X pins σ H s) (r:JF vs us) (h:sp (vs ++ dvs) H Q E):wpAny (model X.prog X.w) X.A (call (.ref f) us) (EP X pins σ Q) X.xe s:=by
 have r2:JF (vs ++ dvs) (us ++ ds):=r.append hd;have hl:(us ++ ds).length=ps.length:=by rw [← r2.length]; exact F.len _ _ _ _ h
 refine wpAny_call (codeAny_mono (F.run X.A X.stack s H ⟨us,[]⟩ (us ++ ds) (vs ++ dvs) Q E hr I.env0 (hb s us I.kIn hl) r2 h) fun r s' hq=>?_);cases r with
 | error e=>exact hx pins σ H s e s' I hq
 | ok fl =>
  cases fl with
  | ret u=>exact I.after hq
  | next=>exact False.elim hq
  | brk=>exact False.elim hq
  | cont=>exact False.elim hq
theorem Juw (F:JL X.prog X.w X.K X.mg X.base CX k f fd ps sp) (hr:Y3 k X.A) (hg:Gl X x) (hm:X.mg x=some (.ref f)) (hk:PySem.W.keepIn X.K (.ref f)=true) (hb:JbC X.K fd ps ds) (hd:JF dvs ds) (hx:Jan CX X E)
  (ha:PA X (e :: es) t) (hdb:(x == ("__debug__" : Str))=false:=by decide) (he:starEach (e :: es) X.env=(false,eval e X.env) :: starEach es X.env:=by rfl) (hpl:(backTo pos (starEach es X.env)).any (·.1)=false:=by rfl) :
  PE X (.Call (.Name x p) (e :: es) [] pos) (JtN sp dvs E t):=by
 intro pins s σ H Q I h;refine wpAny_Call_Name_kw (JeC I hg hm ?_ hdb);refine PySem.W.callWith_K (h₀:=X.base) I.ok.mod.kin hk (J2 (ha pos pins s σ H _ I h) fun us s1 ⟨vs,H1,I1,r,q⟩=>⟨I1.kIn,?_⟩) he hpl;exact JnV F hr hb hd hx I1 r q
theorem Ys {pl:Sem Bool} (he:PE X o ta) (c:Cls X.K C) (hm:JqG X.K C m f) (F:JL X.prog X.w X.K X.mg X.base CX k f fd ps sp) (hr:Y3 k X.A) (hb:JbC X.K fd ps ds) (hd:JF dvs ds) (hx:Jan CX X E) (ha:PA X (e :: es) t)
  (hst:starEach (e :: es) X.env=(false,eval e X.env) :: starEach es X.env:=by rfl) (hpl:(backTo pos (starEach es X.env)).any (·.1)=false:=by rfl)
  (ht:eval (.Call (.Attribute o m apos) (e :: es) [] pos) X.env=(do
   let ov ← eval o X.env
   standAt apos.atName
   let (f,first) ← holding [ov] (getMethod ov m pl)
   callWith pos f first (backTo pos (starEach (e :: es) X.env)) (backToKw pos (keywordEach [] X.env))):=by rfl) :
  PE X (.Call (.Attribute o m apos) (e :: es) [] pos) (JtL C m sp dvs E ta t):=by
 intro pins s σ H Q I h;refine PySem.W.methodCall_KW (pl:=pl) (J2 (he pins s σ H _ I h) fun u s1 ⟨x,H1,I1,rx,a,dx,fs,ex,ea,l,q⟩=>?_) ht;subst ex;obtain rfl:u=Value.ref a:=rx;refine Jlc I1 ea c hm l ?_;refine PySem.W.callWith_K (first:=[.ref a]) (h₀:=X.base) I.ok.mod.kin hm.kp (J2 (ha pos pins s1 σ H1 _ I1 q) fun us s2 ⟨vs,H2,I2,r,q2⟩=>⟨I2.kIn,?_⟩) hst hpl;exact JnV (us:=.ref a :: us) (vs:=.ref a :: vs) F hr hb hd hx I2 (.cons rfl r) q2
theorem JbG {pl:Sem Bool} (he:PE X o ta) (c:Cls X.K C) (hm:JqG X.K C m f) (F:JL X.prog X.w X.K X.mg X.base CX k f fd ps sp) (hr:Y3 k X.A) (hb:JbC X.K fd ps ds) (hd:JF dvs ds) (hx:Jan CX X E)
  (ht:eval (.Call (.Attribute o m apos) [] [] pos) X.env=(do
   let ov ← eval o X.env
   standAt apos.atName
   let (f,first) ← holding [ov] (getMethod ov m pl)
   callWith pos f first (backTo pos (starEach [] X.env)) (backToKw pos (keywordEach [] X.env))):=by rfl) :
  PE X (.Call (.Attribute o m apos) [] [] pos) (JtL C m sp dvs E ta Jsq):=by
 intro pins s σ H Q I h;refine PySem.W.methodCall_KW (pl:=pl) (J2 (he pins s σ H _ I h) fun u s1 ⟨x,H1,I1,rx,a,dx,fs,ex,ea,l,q⟩=>?_) ht;subst ex;obtain rfl:u=Value.ref a:=rx;refine Jlc I1 ea c hm l ?_;exact PySem.W.callWith_K0 (first:=[.ref a]) I1.kIn hm.kp (JnV (us:=[.ref a]) (vs:=[.ref a]) F hr hb hd hx I1 (.cons rfl .nil) q)
structure Mk (K:PySem.W.Frag) (C f:Addr):Prop where
 makes:PySem.W.makesIn K C=true
 init:PySem.W.findIn K (.ref C) "__init__" = some (some (.ref f))
 fn:PySem.W.isFn K (.ref f)=true
 kp:PySem.W.keepIn K (.ref C)=true
theorem JnU {pins:List (Addr×Obj)} {σ:St} {H:Hp} {s:Shared} {Q:VK} {us:List Value} {vs:List V} (M:Mk X.K C f) (F:JL X.prog X.w X.K X.mg X.base CX k f fd ps sp) (hr:Y3 (k + 1) X.A) (hb:JbC X.K fd ps ds) (hd:JF dvs ds)
  (hx:Jan CX X E) (I:Jn X pins σ H s) (r:JF vs us)
  (h:∀ x dx,H x=none→H dx=none→dx≠x→sp (.ref x :: (vs ++ dvs)) (upd (upd H dx (.own x)) x (.ins C dx [])) (fun v H2=>v=.non∧Q (.ref x) H2) E) :
  wpAny (model X.prog X.w) X.A (call (.ref C) us) (EP X pins σ Q) X.xe s:=by
 have hq:=h (s.heap.objs.size + 1) s.heap.objs.size (I.hok.fresh (Nat.le_succ _)) (I.hok.fresh (Nat.le_refl _)) (Nat.ne_of_lt (Nat.lt_succ_self _));have I2:=Jn.made (C:=C) I;have r2:JF (V.ref (s.heap.objs.size + 1) :: (vs ++ dvs)) (Value.ref (s.heap.objs.size + 1) :: (us ++ ds)):=.cons rfl (r.append hd);have hl:(Value.ref (s.heap.objs.size + 1) :: us ++ ds).length=ps.length:=by
  have e:=r2.length;rw [F.len _ _ _ _ hq] at e;exact e.symm
 refine wpAny_call (Jtf (f:=f) I.kIn M.makes M.init (beq_iff_eq.mp M.fn) (codeAny_mono (F.run _ X.stack _ _ ⟨Value.ref (s.heap.objs.size + 1) :: us,[]⟩ (Value.ref (s.heap.objs.size + 1) :: (us ++ ds)) _ _ E (hr.make C us [])
  (I2.env0.make C us []) (hb _ (Value.ref (s.heap.objs.size + 1) :: us) I2.kIn hl) r2 hq) fun r s' hq'=>?_))
 cases r with
 | error e=>exact hx pins σ _ _ e s' I2 hq'
 | ok fl =>
  cases fl with
  | ret u =>
   obtain ⟨v,H',I3,rv,ev,q3⟩:=I2.after hq';subst ev;exact ⟨rv,⟨V.ref (s.heap.objs.size + 1),H',I3,rfl,q3⟩⟩
  | next=>exact False.elim hq'
  | brk=>exact False.elim hq'
  | cont=>exact False.elim hq'
theorem JgH (M:Mk X.K C f) (F:JL X.prog X.w X.K X.mg X.base CX k f fd ps sp) (hr:Y3 (k + 1) X.A) (hg:Gl X x) (hm:X.mg x=some (.ref C)) (hb:JbC X.K fd ps ds) (hd:JF dvs ds) (hx:Jan CX X E)
  (ha:PA X (e :: es) t) (hdb:(x == ("__debug__" : Str))=false:=by decide) (he:starEach (e :: es) X.env=(false,eval e X.env) :: starEach es X.env:=by rfl) (hpl:(backTo pos (starEach es X.env)).any (·.1)=false:=by rfl) :
  PE X (.Call (.Name x p) (e :: es) [] pos) (JtM C sp dvs E t):=by
 intro pins s σ H Q I h;refine wpAny_Call_Name_kw (JeC I hg hm ?_ hdb);refine PySem.W.callWith_K (h₀:=X.base) I.ok.mod.kin M.kp (J2 (ha pos pins s σ H _ I h) fun us s1 ⟨vs,H1,I1,r,q⟩=>⟨I1.kIn,?_⟩) he hpl;exact JnU M F hr hb hd hx I1 r q
theorem JsY (M:Mk X.K C f) (F:JL X.prog X.w X.K X.mg X.base CX k f fd ps sp) (hr:Y3 (k + 1) X.A) (hg:Gl X x) (hm:X.mg x=some (.ref C)) (hb:JbC X.K fd ps ds) (hd:JF dvs ds) (hx:Jan CX X E)
  (hdb:(x == ("__debug__" : Str))=false:=by decide):PE X (.Call (.Name x p) [] [] pos) (JtM C sp dvs E Jsq):=by
 intro pins s σ H Q I h;refine wpAny_Call_Name_kw (JeC I hg hm ?_ hdb);exact PySem.W.callWith_K0 I.kIn M.kp (JnU (us:=[]) M F hr hb hd hx I .nil h)
end
structure Ju (N P:List Str) (sc:Scope):Prop where
 kind:sc.kind=.function
 co:sc.isCoroutine=false
 gen:sc.isGenerator=false
 nd:N.Nodup
 pre:N.take P.length=P
 par:∀ x∈P,sc.names.lookup x=some .local∨sc.names.lookup x=some .cell
 nofree:∀ y∈sc.names,y.2≠.free
theorem JmL {kindOf:Str→Option NameKind} {x:Str}:∀ {binds:List (Str×Value)} {m:Str→Option Value},(∀ v,(x,v)∉binds)→bindL kindOf binds m x=m x
 | [],_,_=>rfl
 | (n,v) :: r,m,h=>by
  unfold bindL;rw [JmL fun w hw=>h w (List.mem_cons_of_mem _ hw)];split
  ·have:x≠n:=by rintro rfl; exact h v List.mem_cons_self
   simp [this]
  ·rfl
theorem JmN {kindOf:Str→Option NameKind} {x:Str}:∀ {binds:List (Str×Value)} {m:Str→Option Value},(∀ v,(x,v)∉binds)→bindC kindOf binds m x=m x
 | [],_,_=>rfl
 | (n,v) :: r,m,h=>by
  unfold bindC;rw [JmN fun w hw=>h w (List.mem_cons_of_mem _ hw)];split
  ·rfl
  ·have:x≠n:=by rintro rfl; exact h v List.mem_cons_self
   simp [this]
theorem JmM {kindOf:Str→Option NameKind} {x:Str} {v:Value}:∀ {P:List Str} {vs:List Value} {i:Nat} {m:Str→Option Value},P.Nodup→P[i]?=some x→vs[i]?=some v→kindOf x=some .local →
  bindL kindOf (P.zip vs) m x=some v
 | [],_,_,_,_,h,_,_=>by simp at h
 | _ :: _,[],_,_,_,_,h,_=>by simp at h
 | p :: P,w :: vs,0,m,nd,h1,h2,hk=>by
  simp at h1 h2; subst h1; subst h2;show bindL kindOf ((p,w) :: P.zip vs) m p=_;unfold bindL;rw [JmL fun v hv=>(List.nodup_cons.mp nd).1 (List.of_mem_zip hv).1,if_pos hk];simp
 | p :: P,w :: vs,i + 1,m,nd,h1,h2,hk=>by
  show bindL kindOf ((p,w) :: P.zip vs) m x=_;unfold bindL;exact JmM (i:=i) (List.nodup_cons.mp nd).2 (by simpa using h1) (by simpa using h2) hk
theorem JmO {kindOf:Str→Option NameKind} {x:Str} {v:Value}:∀ {P:List Str} {vs:List Value} {i:Nat} {m:Str→Option Value},P.Nodup→P[i]?=some x→vs[i]?=some v→kindOf x≠some .local →
  bindC kindOf (P.zip vs) m x=some v
 | [],_,_,_,_,h,_,_=>by simp at h
 | _ :: _,[],_,_,_,_,h,_=>by simp at h
 | p :: P,w :: vs,0,m,nd,h1,h2,hk=>by
  simp at h1 h2; subst h1; subst h2;show bindC kindOf ((p,w) :: P.zip vs) m p=_;unfold bindC;rw [JmN fun v hv=>(List.nodup_cons.mp nd).1 (List.of_mem_zip hv).1,if_neg hk];simp
 | p :: P,w :: vs,i + 1,m,nd,h1,h2,hk=>by
  show bindC kindOf ((p,w) :: P.zip vs) m x=_;unfold bindC;exact JmO (i:=i) (List.nodup_cons.mp nd).2 (by simpa using h1) (by simpa using h2) hk
def YN (N:List Str) (vs:List V):St:=vs.map some ++ List.replicate (N.length - vs.length) none
def ZU (CX:CXT) (P:Program) (w:World) (K:PySem.W.Frag) (mg:Str→Option Value) (base:Heap) (N:List Str) (qual:Str) (scope:Scope) (f:Addr) (cd:Value) (A:Around) (outer:List Env) (s:Shared) (H:Hp) (E:XK):Cx where
 prog:=P
 w:=w
 K:=K
 mg:=mg
 base:=base
 A:=A.deeper (envOfC qual scope s.heap.objs.size f cd)
 N:=N
 s₀:=s
 H₀:=H
 env:=envOfC qual scope s.heap.objs.size f cd
 outer:=outer
 stack:=envOfC qual scope s.heap.objs.size f cd :: outer
 ex:=[]
 calm:=true
 fn:=fun _=>true
 pn:=[]
 xe:=fun e s'=>wpAny (model P w) (A.deeper (envOfC qual scope s.heap.objs.size f cd)) (leaving (envOfC qual scope s.heap.objs.size f cd) e) (fun _ s''=>CX outer H s E e s'') (fun e' s''=>CX outer H s E e' s'') s'
theorem JoD {sc:Scope} {n:Nat} {x:Str} (h:sc.names.lookup x=some .cell):∃ c,(cellsFrom n sc.names []).lookup x=some c:=by
 have q:=PySem.W.cellsFrom_some sc.names n [] (.inl h);exact Option.isSome_iff_exists.mp q
theorem JrL {CX:CXT} {P:Program} {w:World} {K:PySem.W.Frag} {mg:Str→Option Value} {base:Heap} {N ps:List Str} {qual:Str} {scope:Scope} {f:Addr} {cd:Value} {A:Around} {outer:List Env} {s s1:Shared} {H:Hp} {E:XK} {us:List Value} {vs:List V}
  (S:Ju N ps scope) (hd:A.handled=none) (e0:Jgw P w K mg base A outer s H) (hl:vs.length=ps.length) (r:JF vs us)
  (x:InCallC s s.heap.objs.size (bindL (envOfC qual scope s.heap.objs.size f cd).kindOf (ps.zip us) fun _=>none) (cellsFrom (s.heap.objs.size + 1) scope.names []) (bindC (envOfC qual scope s.heap.objs.size f cd).kindOf (ps.zip us) fun _=>none) s1) :
  Jn (ZU CX P w K mg base N qual scope f cd A outer s H E) [] (YN N vs) H s1:=by
 have hpl:ps.length≤N.length:=by have:=congrArg List.length S.pre; rw [List.length_take] at this; omega
 obtain ⟨h1,tk,rfl,hk⟩:=x.done;have noA:∀ b:Addr,b∉(ZU CX P w K mg base N qual scope f cd A outer s H E).ex:=fun b z=>absurd (show b∈([]:List Addr) from z) (by simp)
 refine ⟨⟨e0.mod,S.kind,rfl,rfl,Nat.le_refl _,fun y z c h1 h2=>?_,fun y hy=>?_,fun y c _ h=>?_,fun _=>hd,Around.frames_deeper e0.frames,.inr ⟨rfl,rfl⟩,fun b z=>absurd z (noA b),e0.bs,e0.bsz,fun b _ _=>noA b,fun b z=>absurd z (noA b),e0.funs,e0.frf⟩,
  rfl,e0.bare,Un.kept hk,⟨_,x.toInCall.ns,fun i y v h1 h2 h3=>?_⟩,fun y c h=>⟨_,x.cell y c h⟩,e0.hok.fresh (Nat.le_refl _),fun y c h=>?_,fun p hp=>absurd (show p∈([]:List (Addr×Obj)) from hp) (by simp),e0.hok.kept hk,?_⟩
 ·exact name_of_addr x.apart (PySem.mem_of_lookup h1) (PySem.mem_of_lookup h2)
 ·have hy:scope.names.lookup y=some .cell∨scope.names.lookup y=some .free:=hy;rcases hy with hy | hy
  ·exact JoD hy
  ·exact absurd rfl (S.nofree _ (PySem.mem_of_lookup hy))
 ·exact Nat.le_of_lt (x.above y c (PySem.mem_of_lookup h))
 ·have hi:i < vs.length:=by
   unfold YN at h2;by_cases hi:i < vs.length
   ·exact hi
   ·rw [List.getElem?_append_right (by simpa using hi)] at h2;rw [List.getElem?_replicate] at h2;split at h2 <;> cases h2
  have ha:vs[i]?=some v:=by
   unfold YN at h2;rw [List.getElem?_append_left (by simpa using hi),List.getElem?_map] at h2;cases e:vs[i]? with
   | none=>rw [e] at h2; cases h2
   | some a=>rw [e] at h2; cases h2; rfl
  obtain ⟨u,hu,rv⟩:=r.get ha;have hp:ps[i]?=some y:=by
   rw [← S.pre,List.getElem?_take_of_lt (by omega)]; exact h1
  have ndP:ps.Nodup:=by rw [← S.pre]; exact S.nd.sublist (List.take_sublist _ _)
  refine ⟨u,rv,?_⟩;rcases S.par y (List.mem_of_getElem? hp) with k | k
  ·exact .inl ⟨k,JmM ndP hp hu k⟩
  ·obtain ⟨c,e⟩:=JoD (n:=s.heap.objs.size + 1) k;refine .inr ⟨.inl k,c,e,?_⟩;have q:=x.cell y c e;rw [JmO ndP hp hu (by show scope.names.lookup y≠_; rw [k]; decide)] at q;exact q
 ·exact e0.hok.fresh (Nat.le_of_lt (x.above y c (PySem.mem_of_lookup h)))
 ·unfold YN;show _=N.length;rw [List.length_append,List.length_map,List.length_replicate];omega
theorem Jt0 {CX:CXT} {P:Program} {w:World} {K:PySem.W.Frag} {mg:Str→Option Value} {base:Heap} {k:Nat} {f:Addr} {name qual:Str} {params:Arguments} {body:List Stmt} {scope:Scope} {dV kV doc pm cdv ct oc:Value} {an od:Option Addr}
  {osl:Array (Option Value)} {N ps:List Str} {sp:Sp} (lk:K.lookup f=some ⟨oc,od,.func (PySem.W.fnOf name qual params body scope dV kV doc pm an cdv ct),osl⟩) (hcd:PySem.W.codeIn K cdv qual=true) (S:Ju N ps scope)
  (len:∀ vs H Q E,sp vs H Q E→vs.length=ps.length)
  (hbody:∀ (A:Around) (outer:List Env) (s:Shared) (H:Hp) (vs:List V) (Q:VK) (E:XK),Y3 k (A.deeper (envOfC qual scope s.heap.objs.size f cdv))→sp vs H Q E →
   ∃ t,PSs (ZU CX P w K mg base N qual scope f cdv A outer s H E) body t∧t { nx:=fun _ H'=>Q .non H',rt:=Q } (YN N vs) H) :
  JL P w K mg base CX (k + 1) f (PySem.W.fnOf name qual params body scope dV kV doc pm an cdv ct) ps sp:=by
 refine ⟨len,fun A outer s H args us vs Q E hr e0 hb r hsp=>?_⟩;have hl:=len _ _ _ _ hsp;have KX:K.In s.heap:=e0.mod.kin.keeps fun b o e=>(e0.bs b o e).1
 have lim:s.heap.NoLimit:=e0.mod.nolimit.keeps fun b o e=>(e0.bs b o e).1
 have hkind:∀ y∈ps.zip us,scope.names.lookup y.1=some .local∨(scope.names.lookup y.1=some .cell∧((cellsFrom (s.heap.objs.size + 1) scope.names []).lookup y.1).isSome=true):=fun ⟨n,v⟩ hy=>by
  rcases S.par n (List.of_mem_zip hy).1 with q | q
  ·exact .inl q
  ·exact .inr ⟨q,PySem.W.cellsFrom_some _ _ _ (.inl q)⟩
 refine codeAny_call_function hr.depth (KX _ _ lk) rfl S.co S.gen rfl (PySem.W.codeRec_of KX hcd) (hb _ _ _ _ ?_);refine wpAny_newFunctionEnv_cells S.kind hkind fun env he s1 x=>?_
 subst he;refine ⟨lim.keeps x.toInCall.keep,codeAny_func ?_⟩;obtain ⟨t,ht,hq⟩:=hbody A outer s H vs Q E (hr.deeper _) hsp;have I:Jn (ZU CX P w K mg base N qual scope f cdv A outer s H E) [] (YN N vs) H s1:=JrL S hr.hd e0 hl r x;refine wpAny_mono (ht [] s1 (YN N vs) H _ I hq) (fun fl s' hs=>?_) fun e s' hs=>hs
 have fin:∀ {σ':St} {H':Hp} {v:V} {u:Value},Jn (ZU CX P w K mg base N qual scope f cdv A outer s H E) [] σ' H' s'→JR v u→Q v H'→CE outer P w H s Q u s' :=
  fun {σ' H' v u} J rv q=>⟨v,H',J.os,J.bare,J.base,J.hok,rv,q⟩
 cases fl with
 | ret u =>
  obtain ⟨v,σ',H',J,rv,q⟩:=hs;exact fin J rv q
 | next =>
  obtain ⟨σ',H',J,q⟩:=hs;exact fin (v:=V.non) (u:=Value.none) J rfl q
 | brk =>
  obtain ⟨_,_,_,q⟩:=hs;exact False.elim q
 | cont =>
  obtain ⟨_,_,_,q⟩:=hs;exact False.elim q
end L2
namespace L2
open PySem PySem.Spec PyProof.Rows
section
variable {X:Cx} {x:Str} {p pos:Pos} {e:Expr} {es:List Expr} {t:TA} {id T:String} {r:List V→Hp→VK→Prop}
def tCB (r:List V→Hp→VK→Prop) (t:TA):TE:=fun σ H Q=>t σ H fun vs H1=>r vs H1 Q
theorem JA (hc:Yn X (.builtin id) r) (hg:Gl X x) (hm:X.mg x=none) (hv:bootBuiltins x=some (.builtin id)) (ha:PA X (e :: es) t) (hn:x ≠ "__name__":=by decide) (hdb:(x == ("__debug__" : Str))=false:=by decide)
  (he:starEach (e :: es) X.env=(false,eval e X.env) :: starEach es X.env:=by rfl) (hpl:(backTo pos (starEach es X.env)).any (·.1)=false:=by rfl):PE X (.Call (.Name x p) (e :: es) [] pos) (tCB r t):=by
 intro pins s σ H Q I h;refine wpAny_Call_Name_kw (Jiz I hg hm hv ?_ hn hdb);exact PyProof.Rows.callWith_builtin1 (J2 (ha pos pins s σ H _ I h) fun us s1 ⟨vs,H1,I1,r1,q1⟩=>hc pins s1 σ H1 vs us Q I1 r1 q1) he hpl
theorem ZI (hc:Yn X (.type T) r) (hg:Gl X x) (hm:X.mg x=none) (hv:bootBuiltins x=some (.type T)) (ha:PA X (e :: es) t) (hn:x ≠ "__name__":=by decide) (hdb:(x == ("__debug__" : Str))=false:=by decide)
  (he:starEach (e :: es) X.env=(false,eval e X.env) :: starEach es X.env:=by rfl) (hpl:(backTo pos (starEach es X.env)).any (·.1)=false:=by rfl):PE X (.Call (.Name x p) (e :: es) [] pos) (tCB r t):=by
 intro pins s σ H Q I h;refine wpAny_Call_Name_kw (Jiz I hg hm hv ?_ hn hdb);exact PyProof.Rows.callWith_type1 (J2 (ha pos pins s σ H _ I h) fun us s1 ⟨vs,H1,I1,r1,q1⟩=>hc pins s1 σ H1 vs us Q I1 r1 q1) he hpl
end
end L2
namespace HT
open PySem PyProof.Rows
section
variable {prog:Program} {w:World} {A:Around} {E:Value→Shared→Prop} {s:Shared}
theorem JuR {t b:Addr} {vs ws:List Value} {Q:Value→Shared→Prop} (ht:IsTup s.heap t vs.toArray) (hb:IsTup s.heap b ws.toArray) (hv:vs≠[])
  (h1:ws=[]→Q (.ref t) s) (h2:ws≠[]→Q (.ref s.heap.objs.size) { s with heap:=s.heap.push { cls:=.type "tuple",data:=.seq (vs ++ ws).toArray } })
  (hsz:vs.length + ws.length≤sizeLine):wpAny (model prog w) A (binaryOp .Add (.ref t) (.ref b)) Q E s:=by
 obtain ⟨⟨cls,dd,data,sl⟩,ho,hc,n,hd⟩:=id ht;obtain ⟨⟨cls2,dd2,data2,sl2⟩,ho2,hc2,n2,hd2⟩:=id hb;simp only at hc hd hc2 hd2;subst hc hd hc2 hd2;have e:vs.toArray ++ ws.toArray=(vs ++ ws).toArray:=by simp
 by_cases hw:ws=[]
 ·exact concat_meets ⟨_,ho,rfl⟩ ⟨_,ho2,rfl⟩ noFill_tuple_add seq_tuple_add PySem.F.slot_tuple_add PySem.F.entry_tuple_add (PySem.F.args_tuple_add_2 _ _)
   (tuple_addW1 t b vs.toArray ws.toArray n n2 dd dd2 sl sl2 (by simpa using hv) (by simp [hw])) ⟨ho,ho2,h1 hw⟩
 ·refine concat_meets ⟨_,ho,rfl⟩ ⟨_,ho2,rfl⟩ noFill_tuple_add seq_tuple_add PySem.F.slot_tuple_add PySem.F.entry_tuple_add (PySem.F.args_tuple_add_2 _ _)
   (tuple_addW2 t b vs.toArray ws.toArray n n2 dd dd2 sl sl2 (by simpa using hv) (by simpa using hw) (by rw [List.size_toArray,List.size_toArray]; exact hsz)) ⟨ho,ho2,?_⟩
  rw [e];exact h2 hw
def YA (n d:Nat):Option Int→Nat
 | none=>d
 | some v=>if v < 0 then (v + (n:Int)).toNat else min v.toNat n
theorem JsU (n d:Nat):YA n d none=d:=rfl
theorem Jpq (n d k:Nat):YA n d (some (k:Int))=min k n:=by
 show (if (k:Int) < 0 then ((k:Int) + (n:Int)).toNat else min (k:Int).toNat n)=min k n;rw [if_neg (by omega),Int.toNat_natCast]
theorem Jvh (n d:Nat) (hd:d≤n) (o:Option Int):YA n d o≤n:=by
 cases o with
 | none=>exact hd
 | some v =>
  show (if v < 0 then (v + (n:Int)).toNat else min v.toNat n)≤n;by_cases hv:v < 0
  ·rw [if_pos hv]; omega
  ·rw [if_neg hv]; exact Nat.min_le_right _ _
theorem JpK (v:Int) (n d:Nat):(if v < 0 then max (v + (n:Int)) 0 else min v (n:Int))=((YA n d (some v):Nat):Int):=by
 show (if v < 0 then max (v + (n:Int)) 0 else min v (n:Int))=(((if v < 0 then (v + (n:Int)).toNat else min v.toNat n):Nat):Int)
 by_cases hv:v < 0
 ·simp only [if_pos hv]; omega
 ·simp only [if_neg hv]; omega
theorem JqE (lo hi:Option Int) (n:Nat):Builtin.Slice.sliceAdjust lo hi 1 (n:Int)=(((YA n 0 lo:Nat):Int),((YA n n hi:Nat):Int)):=by
 have h1:¬ ((1:Int) < 0):=by omega
 unfold Builtin.Slice.sliceAdjust;simp only [h1,if_false];refine Prod.ext ?_ ?_
 ·cases lo with
  | none=>rfl
  | some v=>exact JpK v n 0
 ·cases hi with
  | none=>rfl
  | some v=>exact JpK v n n
theorem Jqb (i j:Nat):Builtin.Slice.slicePlaces (i:Int) (j:Int) 1=j - i:=by
 unfold Builtin.Slice.slicePlaces;have h1:(1:Int) > 0:=by omega
 simp only [h1,if_true,Int.ediv_one];split <;> omega
theorem JkP {v:Value} {o:Option Int} {Q:Option Int→Shared→Prop} (p:IsPart v o) (h:Q o s):wpAny (model prog w) A (Builtin.Slice.slicePartIndex v) Q E s:=by
 cases p with
 | none=>exact slicePart_none h
 | int i t=>exact slicePart_int h
theorem Jj8 {sl:Addr} {vl vu:Value} {lo hi:Option Int} {n:Nat} {Q:Int×Int×Nat→Shared→Prop} (hs:s.heap.IsSliceOf sl vl vu .none) (pl:IsPart vl lo) (pu:IsPart vu hi)
  (h:Q (((YA n 0 lo:Nat):Int),1,YA n n hi - YA n 0 lo) s):wpAny (model prog w) A (Builtin.Slice.sliceApplied (.ref sl) (pure (n:Int))) Q E s:=by
 obtain ⟨os,hos,hcs,hds⟩:=id hs;unfold Builtin.Slice.sliceApplied Builtin.Slice.sliceFields;refine wpAny_bind (wpAny_bind (wpAny_field hos hds (x:=vl) rfl (wpAny_bind (wpAny_field hos hds (x:=vu) rfl (wpAny_bind (wpAny_field hos hds (x:=.none) rfl (wpAny_pure ?_)))))));refine wpAny_bind (slicePart_none ?_);show wpAny _ _ (if ((1:Int) == 0)=true then _ else _) _ _ s;rw [if_neg (by decide)];refine wpAny_bind (JkP pl (wpAny_bind (JkP pu (wpAny_bind (wpAny_pure ?_)))));show wpAny _ _ (match Builtin.Slice.sliceAdjust lo hi 1 (n:Int) with | (lo,hi)=>pure (lo,(1:Int),Builtin.Slice.slicePlaces lo hi 1)) _ _ s;rw [JqE lo hi n];show wpAny _ _ (pure (((YA n 0 lo:Nat):Int),(1:Int),Builtin.Slice.slicePlaces ((YA n 0 lo:Nat):Int) ((YA n n hi:Nat):Int) 1)) _ _ s;rw [Jqb];exact wpAny_pure h
theorem JsX (xs:Array Value) (i k:Nat):((List.range k).filterMap fun (m:Nat)=>xs[((i:Int) + (m:Int) * 1).toNat]?).toArray=((xs.toList.drop i).take k).toArray:=by
 have e:(fun (m:Nat)=>xs[((i:Int) + (m:Int) * 1).toNat]?)=fun m=>xs[i + m]?:=by
  funext m;have:((i:Int) + (m:Int) * 1).toNat=i + m:=by omega
  rw [this]
 rw [e];have:=pick_run xs i k;rw [List.filterMap_map] at this;have e2:((fun x=>xs[x]?) ∘ fun x=>i + x)=fun m=>xs[i + m]?:=rfl
 rw [e2] at this;rw [this]
theorem Jjy {t sl:Addr} {items:Array Value} {vl vu:Value} {lo hi:Option Int} {Q:Value→Shared→Prop} (ht:IsTup s.heap t items) (hs:s.heap.IsSliceOf sl vl vu .none) (pl:IsPart vl lo) (pu:IsPart vu hi)
  (hw:¬ (YA items.size 0 lo=0∧YA items.size items.size hi=items.size))
  (h:Q (.ref s.heap.objs.size) { s with heap:=s.heap.push { cls:=.type "tuple",data:=.seq ((items.toList.drop (YA items.size 0 lo)).take (YA items.size items.size hi - YA items.size 0 lo)).toArray } })
  (hsz:items.size≤sizeLine):wpAny (model prog w) A (getItem (.ref t) (.ref sl)) Q E s:=by
 have htake:sizeOk (.seq ((items.toList.drop (YA items.size 0 lo)).take (YA items.size items.size hi - YA items.size 0 lo)).toArray):=by
  show ((items.toList.drop (YA items.size 0 lo)).take (YA items.size items.size hi - YA items.size 0 lo)).toArray.size≤sizeLine;rw [List.size_toArray,List.length_take,List.length_drop,Array.length_toList];omega
 have hj:YA items.size items.size hi≤items.size:=Jvh _ _ (Nat.le_refl _) hi;obtain ⟨os,hos,hcs,hds⟩:=id hs;have hTs:s.TypeIs (.ref sl) "slice":=⟨os,hos,hcs⟩
 unfold getItem
 try with_reducible refine wpAny_holding ?_
 first | refine wpAny_bind (wpAny_pure ?_) | skip
 refine wpAny_bind (wpAny_sequenceKey ht.typeIs (by decide) ?_);refine wpAny_bind (wpAny_callSpecial?_slot (name:=Str.ofString "__getitem__") ht.typeIs PyProof.Rows.slot_tuple_getitem
  (wpAny_call_entry PyProof.Rows.slot_tuple_getitem ht.typeIs entry_tuple_getitem ?_ (args_tuple_getitem _ _)))
 show wpAny _ _ (Builtin.Tuple.tupleItemsOf (.ref t) >>= _) _ _ s;refine wpAny_bind (tupleItemsOf_ ht ?_);refine wpAny_bind (wpAny_typeOf hTs ?_);rw [if_pos (by decide)];refine wpAny_bind (Jj8 hs pl pu ?_);have hno:¬ ((((YA items.size 0 lo:Nat):Int) == 0 && (1:Int) == 1 && (YA items.size items.size hi - YA items.size 0 lo) == items.size)=true):=by
  intro q;rw [Bool.and_eq_true,Bool.and_eq_true] at q;have q1:((YA items.size 0 lo:Nat):Int)=0:=eq_of_beq q.1.1;have q2:YA items.size items.size hi - YA items.size 0 lo=items.size:=eq_of_beq q.2;exact hw ⟨by omega,by omega⟩
 show wpAny _ _ (if (((YA items.size 0 lo:Nat):Int) == 0 && (1:Int) == 1 && (YA items.size items.size hi - YA items.size 0 lo) == items.size)=true then _ else _) _ _ s;rw [if_neg hno,JsX]
 first
  | exact wpAny_bind (m:=Builtin.Tuple.tupleExact _) (wpAny_newObj_type (wpAny_pure ⟨_,rfl,wpAny_pure h⟩) htake)
  | exact wpAny_bind (m:=Builtin.Tuple.tupleExact _) (wpAny_newObj_type (wpAny_bind (wpAny_pure (wpAny_pure ⟨_,rfl,wpAny_pure h⟩))) htake)
  | exact wpAny_bind (wpAny_bind (m:=Builtin.Tuple.tupleExact _) (wpAny_newObj_type (wpAny_pure (wpAny_pure ⟨_,rfl,wpAny_pure h⟩)) htake))
  | exact wpAny_bind (wpAny_bind (m:=Builtin.Tuple.tupleExact _) (wpAny_newObj_type (wpAny_pure ⟨_,rfl,wpAny_pure h⟩) htake))
end
end HT
namespace L2
open PySem PySem.Spec PyProof.Rows
abbrev TO:=St→Hp→(Option Int→Hp→Prop)→Prop
def PO (X:Cx) (e:Option Expr) (t:TO):Prop :=
 ∀ (pins:List (Addr×Obj)) (s:Shared) (σ:St) (H:Hp) (Q:Option Int→Hp→Prop),Jn X pins σ H s→t σ H Q →
  wpAny (model X.prog X.w) X.A (evalPart e X.env) (fun u s'=>∃ o H',Jn X pins σ H' s'∧IsPart u o∧Q o H') X.xe s
def Jub:TO:=fun _ H Q=>Q none H
def Jwa (t:TE):TO:=fun σ H Q=>t σ H fun x H1=>∃ i,x=.int i∧Q (some i) H1
section
variable {X:Cx} {e:Expr} {te:TE} {lo hi:Option Expr} {tl th:TO} {pos p2:Pos}
theorem JlR:PO X none Jub:=by
 intro pins s σ H Q I h;rw [evalPart_none];exact wpAny_pure ⟨none,H,I,.none,h⟩
theorem JgG (h:PE X e te):PO X (some e) (Jwa te):=by
 intro pins s σ H Q I hw;rw [evalPart_some];refine J2 (h pins s σ H _ I hw) fun u s1 ⟨x,H1,I1,r1,q1⟩=>?_
 obtain ⟨i,rfl,q⟩:=q1;obtain ⟨t,rfl⟩:=r1;exact ⟨some i,H1,I1,.int i t,q⟩
def SlR (X:Cx) (r:V→Option Int→Option Int→Hp→VK→Prop):Prop :=
 ∀ (pins:List (Addr×Obj)) (s:Shared) (σ:St) (H:Hp) (x:V) (v vl vu:Value) (lo hi:Option Int) (sl:Addr) (Q:VK),Jn X pins σ H s→JR x v→s.heap.IsSliceOf sl vl vu .none→IsPart vl lo→IsPart vu hi→r x lo hi H Q →
  ∃ T id,typeLookup (.type T) "__getitem__" = pure (some (.builtin id))∧s.TypeIs v T∧wpAny (model X.prog X.w) X.A (getItem v (.ref sl)) (EP X pins σ Q) X.xe s
theorem SlR.or {r r':V→Option Int→Option Int→Hp→VK→Prop} (h:SlR X r) (h':SlR X r'):SlR X (fun x lo hi H Q=>r x lo hi H Q∨r' x lo hi H Q):=by
 intro pins s σ H x v vl vu lo hi sl Q I rx hs pl pu q;rcases q with q | q
 ·exact h pins s σ H x v vl vu lo hi sl Q I rx hs pl pu q
 ·exact h' pins s σ H x v vl vu lo hi sl Q I rx hs pl pu q
def tSl (r:V→Option Int→Option Int→Hp→VK→Prop) (te:TE) (tl th:TO):TE:=fun σ H Q=>te σ H fun x H1=>tl σ H1 fun l H2=>th σ H2 fun u H3=>r x l u H3 Q
theorem Jhf {r:V→Option Int→Option Int→Hp→VK→Prop} (hr:SlR X r) (he:PE X e te) (hl:PO X lo tl) (hu:PO X hi th):PE X (.Subscript e (.Slice lo hi none p2) pos) (tSl r te tl th):=by
 intro pins s σ H Q I h;refine Subscript_ (J2 (he pins s σ H _ I h) fun v s1 ⟨x,H1,I1,r1,q1⟩=>?_);refine wpAny_Slice (J2 (hl pins s1 σ H1 _ I1 q1) fun vl s2 ⟨l,H2,I2,pl,q2⟩=>J2 (hu pins s2 σ H2 _ I2 q2) fun vu s3 ⟨u,H3,I3,pu,q3⟩=>?_);rw [evalPart_none];refine wpAny_pure ?_;have I4:Jn X pins σ H3 { s3 with heap:=s3.heap.push { cls:=.type "slice",data:=.fields #[vl,vu,.none] } }:=I3.kept (t':=s3.toks) fun b ob q=>Heap.get?_push_of_some _ q
 obtain ⟨T,id,hT,ht,hg⟩:=hr pins { s3 with heap:=s3.heap.push { cls:=.type "slice",data:=.fields #[vl,vu,.none] } } σ H3 x v vl vu l u s3.heap.objs.size Q I4 r1 (Heap.IsSliceOf.new ..) pl pu q3;show wpAny (model X.prog X.w) X.A (subscriptTail e (.Slice lo hi none p2) v (.ref s3.heap.objs.size)) (EP X pins σ Q) X.xe { s3 with heap:=s3.heap.push { cls:=.type "slice",data:=.fields #[vl,vu,.none] } };exact tail_any (ops:=[.ref s3.heap.objs.size,v]) ht hT hg (by with_unfolding_all rfl)
def Jal (xs:List V) (lo hi:Option Int):List V:=(xs.drop (HT.YA xs.length 0 lo)).take (HT.YA xs.length xs.length hi - HT.YA xs.length 0 lo)
theorem Jj1 (xs:List V) (lo hi:Option Int):(Jal xs lo hi).length≤xs.length:=by
 unfold Jal;rw [List.length_take,List.length_drop];omega
def Jw4 (K:PySem.W.Frag):V→Option Int→Option Int→Hp→VK→Prop:=fun x lo hi H Q=>∃ a xs,x=.ref a∧JQ K H a xs ∧
 ¬ (HT.YA xs.length 0 lo=0∧HT.YA xs.length xs.length hi=xs.length)∧∀ p,H p=none→Q (.ref p) (upd H p (.tup (Jal xs lo hi)))
theorem Jvc:SlR X (Jw4 X.K):=by
 intro pins s σ H x v vl vu lo hi sl Q I rx hs pl pu h;obtain ⟨a,xs,rfl,hx,hw,q⟩:=h;cases rx;obtain ⟨its,r,ht,hz⟩:=I.tuple hx;have hlen:its.toArray.size=xs.length:=by rw [List.size_toArray]; exact r.length.symm
 refine ⟨"tuple",_,PyProof.Rows.slot_tuple_getitem.lookup,ht.typeIs,?_⟩;refine HT.Jjy ht hs pl pu (by rw [hlen]; exact hw) ?_ (by rw [hlen]; exact hz);rw [hlen];refine ⟨.ref s.heap.objs.size,_,I.laid (t':=s.toks) (o:=.tup (Jal xs lo hi)) (fun b ob q=>Heap.get?_push_of_some _ q) (Nat.le_refl _) ?_,rfl,q _ (I.hok.fresh (Nat.le_refl _))⟩;exact ⟨Nat.le_trans (Jj1 xs lo hi) hz,_,(r.drop (HT.YA xs.length 0 lo)).take (HT.YA xs.length xs.length hi - HT.YA xs.length 0 lo),IsTup.new _ _⟩
def Jwr (K:PySem.W.Frag):R2:=fun x y H Q=>∃ a b xs ys,x=.ref a∧y=.ref b∧JQ K H a xs∧JQ K H b ys∧xs≠[]∧xs.length + ys.length≤sizeLine ∧
 (ys=[]→Q (.ref a) H)∧(ys≠[]→∀ p,H p=none→Q (.ref p) (upd H p (.tup (xs ++ ys))))
theorem JF.nil_iff {xs:List V} {us:List Value} (r:JF xs us):us=[]↔xs=[]:=by
 cases r with
 | nil=>simp
 | cons _ _=>simp
theorem Juz:ZF X (binaryOp .Add) (Jwr X.K):=by
 intro pins s σ H x y v u Q I rx ry h;obtain ⟨a,b,xs,ys,rfl,rfl,ha,hb,hx,hz,q1,q2⟩:=h;cases rx;cases ry;obtain ⟨its,r1,p1,_⟩:=I.tuple ha;obtain ⟨its2,r2,p2,_⟩:=I.tuple hb;refine HT.JuR p1 p2 (fun z=>hx (r1.nil_iff.mp z)) (fun z=>⟨.ref a,H,I,rfl,q1 (r2.nil_iff.mp z)⟩) (fun z=>?_) (by rw [← r1.length,← r2.length]; exact hz);refine ⟨.ref s.heap.objs.size,_,I.laid (t':=s.toks) (o:=.tup (xs ++ ys)) (fun b ob q=>Heap.get?_push_of_some _ q) (Nat.le_refl _) ?_,rfl,q2 (fun w=>z (r2.nil_iff.mpr w)) _ (I.hok.fresh (Nat.le_refl _))⟩;exact ⟨by rw [List.length_append]; exact hz,_,r1.append r2,IsTup.new _ _⟩
end
end L2
namespace L2
open PySem PySem.Spec PyProof.Rows
def ixN (n:Nat) (i:Int):Option Nat:=if 0≤i then (if i < n then some i.toNat else none) else if -(n:Int)≤i then some (i + n).toNat else none
def Z8 {α:Type} (xs:List α) (i:Int):Option α:=(ixN xs.length i).bind fun j=>xs[j]?
theorem Jpx {n:Nat} {i:Int} {j:Nat} (h:ixN n i=some j):seqIndex? i n=some j∧j < n∧-(n:Int)≤i∧i < n:=by
 unfold ixN at h;by_cases h0:0≤i
 ·rw [if_pos h0] at h;by_cases h1:i < n
  ·rw [if_pos h1] at h;have e:i.toNat=j:=Option.some.inj h;exact ⟨by rw [seqIndex_of h0 h1,e],by omega,by omega,h1⟩
  ·rw [if_neg h1] at h; cases h
 ·rw [if_neg h0] at h;by_cases h1:-(n:Int)≤i
  ·rw [if_pos h1] at h;have e:(i + n).toNat=j:=Option.some.inj h;exact ⟨by rw [seqIndex_neg (by omega) h1,e],by omega,h1,by omega⟩
  ·rw [if_neg h1] at h; cases h
theorem Jmh {α:Type} {xs:List α} {i:Int} {v:α} (h:Z8 xs i=some v):∃ j,seqIndex? i xs.length=some j∧xs[j]?=some v∧j < xs.length∧-(xs.length:Int)≤i∧i < xs.length:=by
 unfold Z8 at h;cases e:ixN xs.length i with
 | none=>rw [e] at h; cases h
 | some j =>
  rw [e] at h;obtain ⟨h1,h2,h3,h4⟩:=Jpx e;exact ⟨j,h1,h,h2,h3,h4⟩
theorem Y0 {α:Type} {xs:List α} {j:Nat} {v:α} (h:xs[j]?=some v):Z8 xs (j:Int)=some v:=by
 have hj:j < xs.length:=(List.getElem?_eq_some_iff.mp h).1;have e:ixN xs.length (j:Int)=some j:=by
  unfold ixN;rw [if_pos (by omega),if_pos (by omega)]; simp
 unfold Z8; rw [e]; exact h
theorem JfF {α:Type} (xs:List α) (v:α):Z8 (xs ++ [v]) (-1)=some v:=by
 have hl:(xs ++ [v]).length=xs.length + 1:=by simp
 have e:ixN (xs ++ [v]).length (-1)=some xs.length:=by
  unfold ixN;rw [hl,if_neg (by decide),if_pos (by omega)];congr 1;omega
 unfold Z8;rw [e];show (xs ++ [v])[xs.length]?=some v;simp
def JuW (b:Expr):Prop:=∀ o i,subscripted b false o i=operate [o,i] (getItem o i)
def IxR (X:Cx) (r:R2):Prop :=
 ∀ (value slice:Expr) (pins:List (Addr×Obj)) (s:Shared) (σ:St) (H:Hp) (x y:V) (v u:Value) (Q:VK),Jn X pins σ H s→JR x v→JR y u→r x y H Q →
  subscripted slice false v u=operate [v,u] (getItem v u)→wpAny (model X.prog X.w) X.A (subscriptTail value slice v u) (EP X pins σ Q) X.xe s
def MtR (X:Cx) (id:String) (r:V→List V→Hp→VK→Prop):Prop :=
 ∀ (pins:List (Addr×Obj)) (s:Shared) (σ:St) (H:Hp) (x:V) (xs:List V) (v:Value) (us:List Value) (Q:VK),Jn X pins σ H s→JR x v→JF xs us→r x xs H Q →
  wpAny (model X.prog X.w) X.A (call (.builtin id) (v :: us)) (EP X pins σ Q) X.xe s
section
variable {X:Cx} {a b:Expr} {ta tb:TE} {pos:Pos}
theorem IxR.or {r r':R2} (h:IxR X r) (h':IxR X r'):IxR X (fun x y H Q=>r x y H Q∨r' x y H Q):=by
 intro value slice pins s σ H x y v u Q I rx ry q hs;rcases q with q | q
 ·exact h value slice pins s σ H x y v u Q I rx ry q hs
 ·exact h' value slice pins s σ H x y v u Q I rx ry q hs
theorem MtR.or {id:String} {r r':V→List V→Hp→VK→Prop} (h:MtR X id r) (h':MtR X id r'):MtR X id (fun x xs H Q=>r x xs H Q∨r' x xs H Q):=by
 intro pins s σ H x xs v us Q I rx rs q;rcases q with q | q
 ·exact h pins s σ H x xs v us Q I rx rs q
 ·exact h' pins s σ H x xs v us Q I rx rs q
theorem JD {r:R2} (hr:IxR X r) (ha:PE X a ta) (hb:PE X b tb) (hs:JuW b):PE X (.Subscript a b pos) (tOp r ta tb):=by
 intro pins s σ H Q I h;exact Subscript_ (JtA ha hb I h fun v u s2 x y H2 I2 rx ry q=>hr a b pins s2 σ H2 x y v u Q I2 rx ry q (hs _ _))
def Jie (K:PySem.W.Frag):R2:=fun x y H Q=>∃ p xs i v,x=.ref p∧y=.int i∧Jz K H p xs∧Z8 xs i=some v∧Q v H
def JnY (K:PySem.W.Frag):R2:=fun x y H Q=>∃ p xs i v,x=.ref p∧y=.int i∧JQ K H p xs∧Z8 xs i=some v∧Q v H
def Jvx:R2:=fun x y H Q=>∃ z i c,x=.str z∧y=.int i∧z.length≤sizeLine∧Z8 z.cps.toList i=some c∧Q (.str ⟨#[c]⟩) H
theorem JU:IxR X (Jie X.K):=by
 intro value slice pins s σ H x y v u Q I rx ry h hs;obtain ⟨p,xs,i,z,rfl,rfl,hq,he,q⟩:=h;cases rx;obtain ⟨t,rfl⟩:=ry;obtain ⟨its,r,pl,hz⟩:=I.list hq;obtain ⟨j,h1,h2,h3,h4,h5⟩:=Jmh he;obtain ⟨w,ew,rw'⟩:=r.get h2;have hl:=r.length;have hn:=JgL;have fin:EP X pins σ Q w s:=⟨z,H,I,rw',q⟩
 by_cases h0:0≤i
 ·have hj:i.toNat=j:=by
   rw [seqIndex_of h0 h5] at h1;exact Option.some.inj h1
  exact item_listR pl.isList h0 (by omega) (by rw [hj]; simpa using ew) fin hs
 ·have hj:(i + (its.toArray.size:Int)).toNat=j:=by
   rw [seqIndex_neg (by omega) h4] at h1;rw [List.size_toArray,← hl];exact Option.some.inj h1
  exact subscriptTail_builtinR (x:=w) pl.isList.typeIs slot_list_getitem.lookup
   (wpAny_getItem_list_neg (Q:=fun r s'=>r=w∧EP X pins σ Q r s') pl.isList (by omega) (by rw [List.size_toArray] <;> omega) (by omega) (by rw [hj]; simpa using ew) ⟨rfl,fin⟩) hs
theorem Yq:IxR X (JnY X.K):=by
 intro value slice pins s σ H x y v u Q I rx ry h hs;obtain ⟨p,xs,i,z,rfl,rfl,hq,he,q⟩:=h;cases rx;obtain ⟨t,rfl⟩:=ry;obtain ⟨its,r,pl,hz⟩:=I.tuple hq;obtain ⟨j,h1,h2,h3,h4,h5⟩:=Jmh he;obtain ⟨w,ew,rw'⟩:=r.get h2;have hl:=r.length;have hn:=JgL;have fin:EP X pins σ Q w s:=⟨z,H,I,rw',q⟩
 exact subscriptTail_builtinR (x:=w) pl.typeIs slot_tuple_getitem.lookup
  (getItem_tuple (j:=j) (Q:=fun r s'=>r=w∧EP X pins σ Q r s') pl (by omega) (by omega) (by rw [List.size_toArray,← hl]; exact h1) (by simpa using ew) ⟨rfl,fin⟩) hs
theorem Jk9:IxR X Jvx:=by
 intro value slice pins s σ H x y v u Q I rx ry h hs;obtain ⟨z,i,c,rfl,rfl,hz,he,q⟩:=h;obtain ⟨t,rfl⟩:=rx;obtain ⟨t',rfl⟩:=ry;obtain ⟨j,h1,h2,h3,h4,h5⟩:=Jmh he;have hl:z.cps.toList.length=z.length:=by simp [Str.length]
 rw [hl] at h1 h4 h5;have hn:=JgL;exact tail_any (typeIs_str s z t) slot_str_getitem.lookup (getItem_str (c:=c) (by
  have e1:decide (i < -(2 ^ 63:Int))=false:=decide_eq_false (by omega);have e2:decide (i≥2 ^ 63)=false:=decide_eq_false (by omega);rw [e1,e2,Bool.or_false]) (by rw [h1]; simpa using h2) ⟨.str ⟨#[c]⟩,H,I.tok _,⟨_,rfl⟩,q⟩) hs
def rIx (K:PySem.W.Frag):R2:=fun x y H Q=>Jie K x y H Q∨JnY K x y H Q∨Jvx x y H Q
theorem JrJ:IxR X (rIx X.K):=JU.or (Yq.or Jk9)
theorem Jqj (its:List Value) (n j:Nat) (u:Value):Obj.mapSeq (·.setIfInBounds j u) { cls:=.type "list",data:=.seq its.toArray n }={ cls:=.type "list",data:=.seq (its.set j u).toArray n }:=by
 simp [Obj.mapSeq]
theorem Jn.lst {pins:List (Addr×Obj)} {σ:St} {H:Hp} {s:Shared} {p:Addr} {xs:List V} (I:Jn X pins σ H s) (h:H p=some (.lst xs)) :
  ∃ (its:List Value) (n:Nat),JF xs its∧s.heap.get? p=some { cls:=.type "list",data:=.seq its.toArray n }∧xs.length≤sizeLine:=by
 obtain ⟨z,its,n,r,e⟩:=I.hok p _ h;exact ⟨its,n,r,e,z⟩
theorem Jn.lstUpd {pins:List (Addr×Obj)} {σ:St} {H:Hp} {s:Shared} {p:Addr} {xs ys:List V} {its its':List Value} {n n':Nat} {f:Obj→Obj} (I:Jn X pins σ H s) (h:H p=some (.lst xs))
  (ho:s.heap.get? p=some { cls:=.type "list",data:=.seq its.toArray n }) (hf:f { cls:=.type "list",data:=.seq its.toArray n }={ cls:=.type "list",data:=.seq its'.toArray n' }) (r:JF ys its') (hz:ys.length≤sizeLine) (t:Nat) :
  Jn X pins σ (upd H p (.lst ys)) { s with heap:=s.heap.update p f,toks:=t }:=by
 have e:(s.heap.update p f).get? p=some { cls:=.type "list",data:=.seq its'.toArray n' }:=by
  rw [Heap.get?_update_self f ho (by rw [hf] <;> rfl),hf]
 refine I.write (x:=p) (e:=p) (by rw [h]; trivial) (.inl rfl) (fun b u hb q=>(Heap.get?_update_other _ _ (Ne.symm hb)).trans q) ⟨_,e⟩ ?_;exact ⟨hz,its',n',r,e⟩
def Jwm:V→V→V→Hp→(Hp→Prop)→Prop:=fun o i v H Q=>∃ p xs k j,o=.ref p∧i=.int k∧H p=some (.lst xs)∧ixN xs.length k=some j∧Q (upd H p (.lst (xs.set j v)))
theorem JsH:Jv3 X Jwm:=by
 intro pins s σ H o i v ov iv u Q I ro ri rv h;obtain ⟨p,xs,k,j,rfl,rfl,hp,hj,q⟩:=h;cases ro;obtain ⟨t,rfl⟩:=ri;obtain ⟨its,n,r,ho,hz⟩:=I.lst hp;obtain ⟨h1,h2,h3,h4⟩:=Jpx hj;have hl:=r.length;have hn:=JgL;have I':Jn X pins σ (upd H p (.lst (xs.set j v))) { s with heap:=s.heap.update p (Obj.mapSeq (·.setIfInBounds j u)) } :=
  I.lstUpd hp ho (Jqj its n j u) (r.set rv j) (by rw [List.length_set]; exact hz) s.toks
 by_cases h0:0≤k
 ·have hk:k.toNat=j:=by
   rw [seqIndex_of h0 h4] at h1;exact Option.some.inj h1
  exact PySem.W.ki_setAt ho h0 (by omega) (by rw [List.size_toArray,← hl]; exact h4) (by rw [hk]; exact ⟨_,I',q⟩)
 ·have hk:(k + (its.toArray.size:Int)).toNat=j:=by
   rw [seqIndex_neg (by omega) h3] at h1;rw [List.size_toArray,← hl];exact Option.some.inj h1
  exact PySem.W.ki_setBack ho (by omega) (by rw [List.size_toArray,← hl]; exact h3) (by omega) (by rw [hk]; exact ⟨_,I',q⟩)
theorem JnG (lo hi:Option Int) (n:Nat):(sliceBounds lo hi none n).1=((HT.YA n 0 lo:Nat):Int)∧(sliceBounds lo hi none n).2.1=((HT.YA n n hi:Nat):Int)∧(sliceBounds lo hi none n).2.2=1:=by
 refine ⟨?_,?_,rfl⟩
 ·cases lo with
  | none=>simp [sliceBounds,HT.YA]
  | some i =>
   simp only [sliceBounds,HT.YA,Option.getD_none,show (1:Int) > 0 by decide,if_true];by_cases h:i < 0
   ·simp only [h,if_true] <;> omega
   ·simp only [h,if_false] <;> omega
 ·cases hi with
  | none=>simp [sliceBounds,HT.YA]
  | some i =>
   simp only [sliceBounds,HT.YA,Option.getD_none,show (1:Int) > 0 by decide,if_true];by_cases h:i < 0
   ·simp only [h,if_true] <;> omega
   ·simp only [h,if_false] <;> omega
theorem JmT (its:List Value) (lo hi:Option Int):slicePick its.toArray lo hi none=((its.drop (HT.YA its.length 0 lo)).take (HT.YA its.length its.length hi - HT.YA its.length 0 lo)).toArray:=by
 obtain ⟨h1,h2,h3⟩:=JnG lo hi its.toArray.size;unfold slicePick;rw [h1,h2,h3];simp only [sliceRange_one,pick_run,List.size_toArray] <;> rfl
def Jw5 (K:PySem.W.Frag):V→Option Int→Option Int→Hp→VK→Prop:=fun x lo hi H Q=>∃ a xs,x=.ref a∧Jz K H a xs∧∀ p,H p=none→Q (.ref p) (upd H p (.lst (Jal xs lo hi)))
theorem JlD:SlR X (Jw5 X.K):=by
 intro pins s σ H x v vl vu lo hi sl Q I rx hs pl pu h;obtain ⟨a,xs,rfl,hx,q⟩:=h;cases rx;obtain ⟨its,r,ht,hz⟩:=I.list hx;have hlen:=r.length;refine ⟨"list",_,slot_list_getitem.lookup,ht.isList.typeIs,?_⟩;refine wpAny_getItem_list_slice ht.isList hs pl pu .none (by simp) ?_ (by rw [List.size_toArray] <;> omega);rw [JmT,← hlen];refine ⟨.ref s.heap.objs.size,_,I.laid (t':=s.toks) (o:=.lst (Jal xs lo hi)) (fun b ob q=>Heap.get?_push_of_some _ q) (Nat.le_refl _) ?_,rfl,q _ (I.hok.fresh (Nat.le_refl _))⟩;exact ⟨Nat.le_trans (Jj1 xs lo hi) hz,_,0,(r.drop (HT.YA xs.length 0 lo)).take (HT.YA xs.length xs.length hi - HT.YA xs.length 0 lo),Heap.get?_push_size _ rfl⟩
def Jeu:V→Bool
 | .non=>true
 | .bl _=>true
 | .int _=>true
 | .str _=>true
 | _=>false
def eqV:V→V→Bool
 | .non,.non=>true
 | .bl a,.bl b=>a == b
 | .bl a,.int b=>(if a then 1 else 0) == b
 | .int a,.bl b=>a == (if b then 1 else 0)
 | .int a,.int b=>a == b
 | .str a,.str b=>a == b
 | _,_=>false
theorem JvV {A:Around} {s:Shared} {y x:V} {u v:Value} (ry:JR y u) (rx:JR x v) (fy:Jeu y=true) (fx:Jeu x=true):SeqAt.EqAt A s u v (eqV y x):=by
 cases y with
 | non =>
  cases ry;cases x with
  | non=>cases rx; exact SeqAt.EqAt.same _
  | bl b=>cases rx; exact SeqAt.EqAt.none_bool b
  | int b=>obtain ⟨t,rfl⟩:=rx; exact SeqAt.EqAt.none_int b t
  | str b=>obtain ⟨t,rfl⟩:=rx; exact SeqAt.EqAt.none_str b t
  | _=>exact absurd (show false=true from fx) Bool.false_ne_true
 | bl a =>
  cases ry;cases x with
  | non=>cases rx; exact SeqAt.EqAt.bool_none a
  | bl b=>cases rx; exact SeqAt.EqAt.bool_bool a b
  | int b=>obtain ⟨t,rfl⟩:=rx; exact SeqAt.EqAt.bool_int a b t
  | str b=>obtain ⟨t,rfl⟩:=rx; exact SeqAt.EqAt.bool_str a b t
  | _=>exact absurd (show false=true from fx) Bool.false_ne_true
 | int a =>
  obtain ⟨t',rfl⟩:=ry;cases x with
  | non=>cases rx; exact SeqAt.EqAt.int_none a t'
  | bl b=>cases rx; exact SeqAt.EqAt.int_bool a t' b
  | int b=>obtain ⟨t,rfl⟩:=rx; exact SeqAt.EqAt.int_int a t' b t
  | str b=>obtain ⟨t,rfl⟩:=rx; exact SeqAt.EqAt.int_str a t' b t
  | _=>exact absurd (show false=true from fx) Bool.false_ne_true
 | str a =>
  obtain ⟨t',rfl⟩:=ry;cases x with
  | non=>cases rx; exact SeqAt.EqAt.str_none a t'
  | bl b=>cases rx; exact SeqAt.EqAt.str_bool a t' b
  | int b=>obtain ⟨t,rfl⟩:=rx; exact SeqAt.EqAt.str_int a t' b t
  | str b=>obtain ⟨t,rfl⟩:=rx; exact SeqAt.EqAt.str_str a t' b t
  | _=>exact absurd (show false=true from fx) Bool.false_ne_true
 | _=>exact absurd (show false=true from fy) Bool.false_ne_true
def eqU (x:V) (u:Value):Bool:=match u with
 | .none=>eqV .non x
 | .bool b=>eqV (.bl b) x
 | .int i _=>eqV (.int i) x
 | .str z _=>eqV (.str z) x
 | _=>false
theorem JrW {x y:V} {u:Value} (r:JR y u) (f:Jeu y=true):eqU x u=eqV y x:=by
 cases y with
 | non=>cases r; rfl
 | bl b=>cases r; rfl
 | int i=>obtain ⟨t,rfl⟩:=r; rfl
 | str z=>obtain ⟨t,rfl⟩:=r; rfl
 | _=>exact absurd (show false=true from f) Bool.false_ne_true
theorem Jg2 {x:V}:∀ {xs:List V} {us:List Value},JF xs us→xs.all Jeu=true→us.any (eqU x)=xs.any fun y=>eqV y x
 | _,_,.nil,_=>rfl
 | y :: xs,u :: us,.cons r t,f=>by
  rw [List.all_cons,Bool.and_eq_true] at f;rw [List.any_cons,List.any_cons,JrW r f.1,Jg2 t f.2]
theorem Je5 {A:Around} {s:Shared} {x:V} {v:Value} (rx:JR x v) (fx:Jeu x=true):∀ {xs:List V} {us:List Value},JF xs us→xs.all Jeu=true→∀ u∈us,SeqAt.EqAt A s u v (eqU x u)
 | _,_,.nil,_=>fun u hu=>by cases hu
 | y :: xs,u :: us,.cons r t,f=>fun u' hu=>by
  rw [List.all_cons,Bool.and_eq_true] at f;rcases List.mem_cons.mp hu with rfl | hu
  ·rw [JrW r f.1]; exact JvV r rx f.1 fx
  ·exact Je5 rx fx t f.2 u' hu
def inV (x:V) (xs:List V):Bool:=xs.any fun y=>eqV y x
def rIn (K:PySem.W.Frag) (neg:Bool):R2:=fun x y H Q=>∃ p xs,y=.ref p∧(Jz K H p xs∨JQ K H p xs)∧Jeu x=true∧xs.all Jeu=true∧Q (.bl (if neg then !inV x xs else inV x xs)) H
theorem Jdm:ZF X (compareOp .In) (rIn X.K false):=by
 intro pins s σ H x y v u Q I rx ry h;obtain ⟨p,xs,rfl,hq,fx,fs,q⟩:=h;cases ry;rcases hq with hq | hq
 ·obtain ⟨its,r,pl,hz⟩:=I.list hq;refine SeqAt.in_listAt (eqU x) pl.isList (fun w hw=>Je5 rx fx r fs w (by simpa using hw)) ⟨.bl _,H,I,rfl,?_⟩;rw [show its.toArray.any (eqU x)=its.any (eqU x) by simp,Jg2 r fs];exact q
 ·obtain ⟨its,r,pl,hz⟩:=I.tuple hq;refine SeqAt.in_tupleAt (eqU x) pl (fun w hw=>Je5 rx fx r fs w (by simpa using hw)) ⟨.bl _,H,I,rfl,?_⟩;rw [show its.toArray.any (eqU x)=its.any (eqU x) by simp,Jg2 r fs];exact q
theorem Jcb:ZF X (compareOp .NotIn) (rIn X.K true):=by
 intro pins s σ H x y v u Q I rx ry h;obtain ⟨p,xs,rfl,hq,fx,fs,q⟩:=h;cases ry;rcases hq with hq | hq
 ·obtain ⟨its,r,pl,hz⟩:=I.list hq;refine SeqAt.notIn_listAt (eqU x) pl.isList (fun w hw=>Je5 rx fx r fs w (by simpa using hw)) ⟨.bl _,H,I,rfl,?_⟩;rw [show its.toArray.any (eqU x)=its.any (eqU x) by simp,Jg2 r fs];exact q
 ·obtain ⟨its,r,pl,hz⟩:=I.tuple hq;refine SeqAt.notIn_tupleAt (eqU x) pl (fun w hw=>Je5 rx fx r fs w (by simpa using hw)) ⟨.bl _,H,I,rfl,?_⟩;rw [show its.toArray.any (eqU x)=its.any (eqU x) by simp,Jg2 r fs];exact q
theorem Yl:Yn X (.builtin "len") (fun xs H Q=>∃ p ys,xs=[.ref p]∧(Jz X.K H p ys∨JQ X.K H p ys)∧Q (.int ys.length) H):=by
 intro pins s σ H xs us Q I r h;obtain ⟨p,ys,rfl,hq,q⟩:=h;obtain ⟨u,rfl,rx⟩:=JkI r;cases rx;have hn:=JgL;rcases hq with hq | hq
 ·obtain ⟨its,r',pl,hz⟩:=I.list hq;have hlen:=r'.length;exact Calls.call_len_list pl.isList (by simp only [List.size_toArray] <;> omega) ⟨.int ys.length,H,I.tok _,⟨s.toks + 1,by rw [List.size_toArray,hlen]⟩,q⟩
 ·obtain ⟨its,r',pl,hz⟩:=I.tuple hq;have hlen:=r'.length;exact len_tuple pl (by simp only [List.size_toArray] <;> omega) ⟨.int ys.length,H,I.tok _,⟨s.toks + 1,by rw [List.size_toArray,hlen]⟩,q⟩
theorem Ji3:Yn X (.builtin "len") (fun xs H Q=>∃ z,xs=[.str z]∧z.length≤sizeLine∧Q (.int z.length) H):=by
 intro pins s σ H xs us Q I r h;obtain ⟨z,rfl,hz,q⟩:=h;obtain ⟨u,rfl,t,rfl⟩:=JkI r;have hn:=JgL;exact len_str (by omega) ⟨.int z.length,H,I.tok _,⟨_,rfl⟩,q⟩
theorem Yn.or {f:Value} {r r':List V→Hp→VK→Prop} (h:Yn X f r) (h':Yn X f r'):Yn X f (fun xs H Q=>r xs H Q∨r' xs H Q):=by
 intro pins s σ H xs us Q I rs q;rcases q with q | q
 ·exact h pins s σ H xs us Q I rs q
 ·exact h' pins s σ H xs us Q I rs q
theorem JfE:Yn X (.type "list") (fun xs H Q=>∃ p ys,xs=[.ref p]∧(Jz X.K H p ys∨JQ X.K H p ys)∧∀ l,H l=none→Q (.ref l) (upd H l (.lst ys))):=by
 intro pins s σ H xs us Q I r h;obtain ⟨p,ys,rfl,hq,q⟩:=h;obtain ⟨u,rfl,rx⟩:=JkI r;cases rx;have fin:∀ (its:List Value),JF ys its→ys.length≤sizeLine→∀ (h':Heap) (c':Nat),(∀ b o',s.heap.get? b=some o'→h'.get? b=some o') →
   h'.get? s.heap.objs.size=some { cls:=.type "list",dict:=none,data:=.seq its.toArray c',slots:=#[] }→EP X pins σ Q (.ref s.heap.objs.size) { s with heap:=h' }:=fun its r' hz h' c' kp e =>
  ⟨.ref s.heap.objs.size,_,I.laid (t':=s.toks) kp (Nat.le_refl _) (show YF X.prog X.w _ h' _ (.lst ys) from ⟨hz,its,c',r',e⟩),rfl,q _ (I.hok.fresh (Nat.le_refl _))⟩
 rcases hq with hq | hq
 ·obtain ⟨its,r',pl,hz⟩:=I.list hq;have hlen:=r'.length;obtain ⟨o,ho,hc,n,hd⟩:=pl.isList;exact call_list_seq p (.inl rfl) ho hc hd (fun h' c' kp e=>fin its r' hz h' c' kp e) (by simp only [List.size_toArray] <;> omega)
 ·obtain ⟨its,r',pl,hz⟩:=I.tuple hq;have hlen:=r'.length;obtain ⟨o,ho,hc,n,hd⟩:=pl;exact call_list_seq p (.inr rfl) ho hc hd (fun h' c' kp e=>fin its r' hz h' c' kp e) (by simp only [List.size_toArray] <;> omega)
theorem ZX:Yn X (.type "tuple") (fun xs H Q=>∃ p ys,xs=[.ref p]∧((Jz X.K H p ys∧∀ l,H l=none→Q (.ref l) (upd H l (.tup ys)))∨(JQ X.K H p ys∧Q (.ref p) H))):=by
 intro pins s σ H xs us Q I r h;obtain ⟨p,ys,rfl,h⟩:=h;obtain ⟨u,rfl,rx⟩:=JkI r;cases rx;rcases h with ⟨hq,q⟩ | ⟨hq,q⟩
 ·obtain ⟨its,r',pl,hz⟩:=I.list hq;have hlen:=r'.length;refine call_tuple_list pl.isList (fun h' kp=>?_) (by simp only [List.size_toArray] <;> omega);have I1:Jn X pins σ H { s with heap:=h' }:=I.kept (t':=s.toks) kp;have I2:Jn X pins σ (upd H h'.objs.size (.tup ys)) { s with heap:=h'.push { cls:=.type "tuple",data:=.seq its.toArray } } :=
   I1.laid (t':=s.toks) (fun b o e=>Heap.get?_push_of_some _ e) (Nat.le_refl _) (show YF X.prog X.w _ _ _ (.tup ys) from ⟨hz,its,r',IsTup.new _ _⟩)
  exact ⟨.ref h'.objs.size,_,I2,rfl,q _ (I1.hok.fresh (Nat.le_refl _))⟩
 ·obtain ⟨its,r',pl,hz⟩:=I.tuple hq;exact call_tuple_same pl ⟨.ref p,H,I,rfl,q⟩
def tyV (K:PySem.W.Frag) (T:String) (x:V) (H:Hp):Prop:=match x with
 | .str _=>T = "str"
 | .int _=>T = "int"
 | .ref p=>(T = "list"∧∃ xs,Jz K H p xs)∨(T = "tuple"∧∃ o,K.lookup p=some o∧o.cls=.type "tuple"∧o.dict=none) ∨
   (T = "dict"∧((∃ kvs,H p=some (.dK kvs))∨∃ kvs,H p=some (.dT kvs)))∨(T = "set"∧∃ S n,H p=some (.set S n))
 | _=>False
theorem JuY {pins:List (Addr×Obj)} {σ:St} {H:Hp} {s:Shared} {T:String} {x:V} {v:Value} (I:Jn X pins σ H s) (r:JR x v) (ty:tyV X.K T x H) :
  s.TypeIs v T∧∀ a,v=.ref a→∃ ob,s.heap.get? a=some ob∧ob.dict=none:=by
 cases x with
 | str z =>
  obtain ⟨t,rfl⟩:=r;cases (show T = "str" from ty);exact ⟨typeIs_str s z t,fun _ e=>nomatch e⟩
 | int i =>
  obtain ⟨t,rfl⟩:=r;cases (show T = "int" from ty);exact ⟨typeIs_int s i t,fun _ e=>nomatch e⟩
 | ref p =>
  cases r;rcases ty with ⟨rfl,xs,hq⟩ | ⟨rfl,o,hk,hc,hd⟩ | ⟨rfl,hk⟩ | ⟨rfl,S,n,hk⟩
  ·obtain ⟨its,_,pl,_⟩:=I.list hq;refine ⟨pl.isList.typeIs,fun a e=>?_⟩;cases e;obtain ⟨o,n,e,c,hd,_⟩:=pl;exact ⟨o,e,hd⟩
  ·refine ⟨⟨o,I.kIn p o hk,hc⟩,fun a e=>?_⟩;cases e;exact ⟨o,I.kIn _ o hk,hd⟩
  ·have z:∃ o,s.heap.get? p=some o∧o.ExactDict:=by
    rcases hk with ⟨kvs,hk⟩ | ⟨kvs,hk⟩
    ·obtain ⟨_,_,_,_,o,_,_,e,ex,_⟩:=I.hok p _ hk;exact ⟨o,e,ex⟩
    ·obtain ⟨_,_,_,_,o,_,_,e,ex,_⟩:=I.hok p _ hk;exact ⟨o,e,ex⟩
   obtain ⟨o,e,ex⟩:=z;refine ⟨⟨o,e,ex.1⟩,fun a e2=>?_⟩;cases e2;exact ⟨o,e,ex.2.1⟩
  ·obtain ⟨o,_,_,_,e,ex,_⟩:=I.hok p _ hk;refine ⟨⟨o,e,ex.1⟩,fun a e2=>?_⟩;cases e2;exact ⟨o,e,ex.2.1⟩
 | _=>exact False.elim ty
def tBM (K:PySem.W.Frag) (T:String) (r:V→List V→Hp→VK→Prop) (to:TE) (t:TA):TE:=fun σ H Q=>to σ H fun x H1=>tyV K T x H1∧t σ H1 fun xs H2=>r x xs H2 Q
variable {o e:Expr} {es:List Expr} {to:TE} {t:TA} {name:Str} {apos cpos:Pos} {T id:String} {r:V→List V→Hp→VK→Prop}
theorem Jc8 (pa:PlainAttrs T) (slot:Slot T name id) (hty:typeOf (.builtin id)=pure (.type "method_descriptor")) (hm:MtR X id r) (ho:PE X o to) (ha:PA X (e :: es) t)
  (hbase:attributeBase o name X.env (eval o X.env)=eval o X.env:=by rfl)
  (hfew:((backTo cpos (starEach (e :: es) X.env)).all (fun x=>!x.1) && (backToKw cpos (keywordEach [] X.env)).all (fun x=>x.1.isSome)
   && decide ((e :: es).length + ([]:List Keyword).length + (if ([]:List Keyword).isEmpty then 0 else 1) < 30))=true:=by rfl)
  (hline:(apos.endLine == cpos.line)=true:=by rfl) (hs:starEach (e :: es) X.env=(false,eval e X.env) :: starEach es X.env:=by rfl) (hplain:(backTo cpos (starEach es X.env)).any (·.1)=false:=by rfl) :
  PE X (.Call (.Attribute o name apos) (e :: es) [] cpos) (tBM X.K T r to t):=by
 intro pins s σ H Q I h;refine wpAny_Call_method_late hbase hfew hline rfl (J2 (ho pins s σ H _ I h) fun v s1 ⟨x,H1,I1,r1,ty,q1⟩=>?_);obtain ⟨h1,h2⟩:=JuY I1 r1 ty;refine ⟨T,id,pa,slot,hty,h1,h2,?_⟩;have hA:=ha cpos pins s1 σ H1 _ I1 q1;rw [hs] at hA ⊢;refine Calls.callWith_builtin (by show (false || (backTo cpos (starEach es X.env)).any (·.1))=false; rw [hplain] <;> rfl) (Calls.evalArgs_plain ?_);exact J2 hA fun us s2 ⟨vs,H2,I2,r2,q2⟩=>hm pins s2 σ H2 x vs v us Q I2 r1 r2 q2
end
end L2
namespace L2
open PySem PySem.Spec PyProof.Rows
def MtM (X:Cx) (id:String) (r:V→List V→Hp→VK→Prop):Prop :=
 ∀ (pins:List (Addr×Obj)) (s:Shared) (σ:St) (H:Hp) (x:V) (xs:List V) (v:Value) (us:List Value) (Q:VK),Jn X pins σ H s→JR x v→JF xs us→r x xs H Q →
  wpAny (model X.prog X.w) X.A (call (.builtin id) (v :: us)) (EP X pins σ Q) X.xe s
theorem JF.one:∀ {x:V} {us:List Value},JF [x] us→∃ u,us=[u]∧JR x u
 | _,_,.cons r .nil=>⟨_,rfl,r⟩
theorem JF.zero:∀ {us:List Value},JF [] us→us=[]
 | _,.nil=>rfl
theorem JF.rep {xs:List V} {us:List Value} (h:JF xs us):∀ k:Nat,JF (List.replicate k xs).flatten (List.replicate k us).flatten
 | 0=>.nil
 | k + 1=>by
  rw [List.replicate_succ,List.replicate_succ,List.flatten_cons,List.flatten_cons];exact JF.append h (JF.rep h k)
theorem JmE (its:List Value):∀ (k:Nat) (acc:List Value),
  List.foldl (fun x1 x2=>x1 ++ x2) acc.toArray (List.replicate k its.toArray)=(acc ++ (List.replicate k its).flatten).toArray
 | 0,acc=>by simp
 | k + 1,acc=>by
  have e:acc.toArray ++ its.toArray=(acc ++ its).toArray:=by simp
  have e2:(acc ++ its) ++ (List.replicate k its).flatten=acc ++ (List.replicate (k + 1) its).flatten:=by
   rw [List.replicate_succ,List.flatten_cons,List.append_assoc]
  rw [← e2,← JmE its k (acc ++ its),← e,List.replicate_succ,List.foldl_cons]
section
variable {X:Cx} {pins:List (Addr×Obj)} {σ:St} {H:Hp} {s:Shared} {l b:Addr} {xs ys zs:List V}
theorem Jn.lset {its its':List Value} {n:Nat} {f:Array Value→Array Value} {t':Nat} (I:Jn X pins σ H s) (hH:H l=some (.lst xs))
  (e:s.heap.get? l=some { cls:=.type "list",data:=.seq its.toArray n }) (hf:f its.toArray=its'.toArray) (hv:JF ys its') (hz:ys.length≤sizeLine) :
  Jn X pins σ (upd H l (.lst ys)) { s with heap:=s.heap.update l (Obj.mapSeq f),toks:=t' }:=by
 have q:=PySem.IsL.update e f;rw [hf] at q;refine I.write (x:=l) (e:=l) (by rw [hH]; exact trivial) (.inl rfl) (fun b' u hb hu=>(Heap.get?_update_other s.heap (Obj.mapSeq f) (Ne.symm hb)).trans hu) ⟨_,q⟩ ?_;exact ⟨hz,its',_,hv,q⟩
theorem Jn.lnew {its:List Value} {t':Nat} (I:Jn X pins σ H s) (hv:JF ys its) (hz:ys.length≤sizeLine) :
  Jn X pins σ (upd H s.heap.objs.size (.lst ys)) { s with heap:=s.heap.push { cls:=.type "list",data:=.seq its.toArray },toks:=t' } :=
 I.laid (fun _ _ q=>Heap.get?_push_of_some _ q) (Nat.le_refl _) ⟨hz,its,0,hv,Heap.get?_push_size _ rfl⟩
theorem Jn.fresh (I:Jn X pins σ H s):H s.heap.objs.size=none:=I.hok.fresh (Nat.le_refl _)
theorem Jn.lstM (I:Jn X pins σ H s) (hH:H l=some (.lst xs)):xs.length≤sizeLine∧∃ (its:List Value) (n:Nat),JF xs its∧xs.length=its.length∧s.heap.get? l=some { cls:=.type "list",data:=.seq its.toArray n }:=by
 obtain ⟨z,its,n,r,e⟩:=I.hok l _ hH;exact ⟨z,its,n,r,r.length,e⟩
theorem Jta {n:Nat} (h:n≤sizeLine):Builtin.List.listTooLong n=false:=by
 unfold Builtin.List.listTooLong;exact decide_eq_false (by omega)
end
section
variable {X:Cx}
def Juv:V→List V→Hp→VK→Prop:=fun x vs H Q=>∃ l xs y,x=.ref l∧vs=[y]∧H l=some (.lst xs)∧xs.length < sizeLine∧Q .non (upd H l (.lst (xs ++ [y])))
theorem ZJ:MtM X "list.append" Juv:=by
 intro pins s σ H x vs v us Q I rx rv h;obtain ⟨l,xs,y,rfl,rfl,hH,hz,q⟩:=h;cases rx;obtain ⟨u,rfl,ru⟩:=rv.one;obtain ⟨z,its,n,r,hl,e⟩:=I.lstM hH;refine call_meets F.slot_list_append ⟨_,e,rfl⟩ F.entry_list_append (F.args_list_append_2 _ _) (PySem.list_append l its.toArray n u (by rw [List.size_toArray]; omega)) ⟨e,?_⟩;refine ⟨.non,_,I.lset (its':=its ++ [u]) hH e (by simp) (r.append (.cons ru .nil)) ?_,rfl,q⟩;rw [List.length_append,List.length_singleton];omega
def Jw9:R2:=fun x y H Q=>∃ l b xs zs,x=.ref l∧y=.ref b∧H l=some (.lst xs)∧H b=some (.lst zs)∧xs.length + zs.length≤sizeLine∧∀ p,H p=none→Q (.ref p) (upd H p (.lst (xs ++ zs)))
theorem Jrm:ZF X (binaryOp .Add) Jw9:=by
 intro pins s σ H x y v u Q I rx ry h;obtain ⟨l,b,xs,zs,rfl,rfl,hH,hB,hz,q⟩:=h;cases rx;cases ry;obtain ⟨z,its,n,r,hl,e⟩:=I.lstM hH;obtain ⟨z2,its2,n2,r2,hl2,e2⟩:=I.lstM hB;refine PySem.P.add_list e e2 ?_ (by rw [List.size_toArray,List.size_toArray]; omega);have ea:its.toArray ++ its2.toArray=(its ++ its2).toArray:=by simp
 rw [ea];exact ⟨.ref _,_,I.lnew (t':=s.toks) (r.append r2) (by rw [List.length_append]; omega),rfl,q _ I.fresh⟩
def Jw6:R2:=fun x y H Q=>∃ l k xs,x=.ref l∧y=.int k∧H l=some (.lst xs)∧-(2 ^ 63)≤k∧k < 2 ^ 63∧xs.length * k.toNat≤sizeLine ∧
 ∀ p,H p=none→Q (.ref p) (upd H p (.lst (List.replicate k.toNat xs).flatten))
theorem JuK {α:Type} (xs:List α) (k:Nat):(List.replicate k xs).flatten.length=k * xs.length:=by
 induction k with
 | zero=>simp
 | succ k ih=>rw [List.replicate_succ,List.flatten_cons,List.length_append,ih,Nat.succ_mul,Nat.add_comm]
theorem JvG:ZF X (binaryOp .Mult) Jw6:=by
 intro pins s σ H x y v u Q I rx ry h;obtain ⟨l,k,xs,rfl,rfl,hH,h1,h2,hz,q⟩:=h;cases rx;obtain ⟨t,rfl⟩:=ry;obtain ⟨z,its,n,r,hl,e⟩:=I.lstM hH;have hlen:its.toArray.size * k.toNat≤sizeLine:=by rw [List.size_toArray,← hl]; exact hz
 have hcap:¬ its.toArray.size * k.toNat > (2 ^ 63 - 1) / 8:=by
  have:(sizeLine:Nat)≤(2 ^ 63 - 1) / 8:=by decide
  omega
 have hfit:¬ (!Builtin.List.listFitsIndex k)=true:=by
  rw [fitsIndex_both h1 h2];exact Bool.false_ne_true
 have hlong:¬ Builtin.List.listTooLong (its.toArray.size * k.toNat)=true:=by
  rw [Jta hlen];exact Bool.false_ne_true
 have hnew:List.foldl (fun x1 x2=>x1 ++ x2) #[] (List.replicate (if its.toArray.isEmpty=true then 0 else k.toNat) its.toArray)=(List.replicate k.toNat its).flatten.toArray:=by
  have f0:∀ m:Nat,List.foldl (fun x1 x2=>x1 ++ x2) #[] (List.replicate m its.toArray)=(List.replicate m its).flatten.toArray:=fun m=>by
   have:=JmE its m [];rw [List.nil_append] at this;exact this
  rw [f0];cases its with
  | nil=>simp
  | cons a r'=>rw [if_neg (by simp)]
 refine wpAny_binaryOp_repeat_ref (T := "list") (U := "int") (by decide) ⟨_,e,rfl⟩ (fun s'=>typeIs_int s' k t) noFill_list_mul F.fills_int_mul F.slot_int_rmul repeat_list F.slot_int_index.lookup
  (call_meets F.slot_int_rmul (typeIs_int s k t) F.entry_int_rmul (F.args_int_rmul_2 _ _) (int___rmul___int_list k t l its.toArray n)
   ⟨e,rfl,⟨_,e,rfl⟩,call_meets F.slot_list_mul ⟨_,e,rfl⟩ F.entry_list_mul (F.args_list_mul_2 _ _) (AutoListH.list___mul___list_int_3 l its.toArray n k t hfit hcap hlong) ⟨e,?_⟩⟩)
 rw [hnew];exact ⟨.ref _,_,I.lnew (t':=s.toks) (r.rep k.toNat) (by rw [JuK,Nat.mul_comm]; exact hz),rfl,q _ I.fresh⟩
end
end L2
namespace L2
open PySem PySem.Spec PyProof.Rows
section
variable {κ:Type} [DecidableEq κ]
def Yi (kvs:List (κ×V)) (k:κ):Option V:=(kvs.find? fun kv=>decide (kv.1=k)).map (·.2)
def JaU (kvs:List (κ×V)) (k:κ) (v:V):List (κ×V) :=
 if (kvs.any fun kv=>decide (kv.1=k))=true then kvs.map (fun kv=>if kv.1=k then (kv.1,v) else kv) else kvs ++ [(k,v)]
def Jt2 (kvs:List (κ×V)) (k:κ):List (κ×V):=kvs.filter fun kv=>decide (kv.1≠k)
theorem ZC {p:κ×V} {r:List (κ×V)} {k:κ} (e:p.1=k):Yi (p :: r) k=some p.2:=by simp [Yi,List.find?_cons,e]
theorem ZD {p:κ×V} {r:List (κ×V)} {k:κ} (e:¬ p.1=k):Yi (p :: r) k=Yi r k:=by simp [Yi,List.find?_cons,e]
theorem JcN (k:κ):∀ kvs:List (κ×V),(kvs.any fun kv=>decide (kv.1=k))=(Yi kvs k).isSome
 | []=>rfl
 | p :: r=>by
  rw [List.any_cons];by_cases e:p.1=k
  ·simp only [ZC e,decide_eq_true e,Bool.true_or,Option.isSome_some]
  ·rw [ZD e,decide_eq_false e,Bool.false_or]; exact JcN k r
theorem Jnv (k j:κ) (y:V):∀ kvs:List (κ×V),Yi (kvs.map fun kv=>if kv.1=k then (kv.1,y) else kv) j=(Yi kvs j).map fun x=>if j=k then y else x
 | []=>rfl
 | p :: r=>by
  have ih:=Jnv k j y r;rw [List.map_cons];by_cases h:p.1=k
  ·rw [if_pos h];by_cases e:p.1=j
   ·rw [ZC (p:=(p.1,y)) e,ZC e,Option.map_some,if_pos (e.symm.trans h)]
   ·rw [ZD (p:=(p.1,y)) e,ZD e,ih]
  ·rw [if_neg h];by_cases e:p.1=j
   ·rw [ZC (p:=p) e,ZC e,Option.map_some,if_neg (fun z=>h (e.trans z))]
   ·rw [ZD (p:=p) e,ZD e,ih]
theorem Jh2 (k j:κ) (y:V):∀ kvs:List (κ×V),Yi kvs k=none→Yi (kvs ++ [(k,y)]) j=if j=k then some y else Yi kvs j
 | [],_=>by
  by_cases e:k=j
  ·rw [if_pos e.symm]; exact ZC (p:=(k,y)) e
  ·rw [if_neg (fun z=>e z.symm)]; exact ZD (p:=(k,y)) e
 | p :: r,hn=>by
  rw [List.cons_append];have hk:¬ p.1=k:=fun z=>by rw [ZC z] at hn; cases hn
  rw [ZD hk] at hn;have ih:=Jh2 k j y r hn;by_cases e:p.1=j
  ·rw [ZC e,ZC e,if_neg (fun z=>hk (e.trans z))]
  ·rw [ZD e,ZD e,ih]
theorem Jj4 (kvs:List (κ×V)) (k j:κ) (y:V):Yi (JaU kvs k y) j=if j=k then some y else Yi kvs j:=by
 unfold JaU;by_cases a:(kvs.any fun kv=>decide (kv.1=k))=true
 ·rw [if_pos a,Jnv];rw [JcN] at a;by_cases e:j=k
  ·obtain ⟨x,hx⟩:=Option.isSome_iff_exists.mp a;rw [if_pos e,e,hx,Option.map_some,if_pos rfl]
  ·rw [if_neg e];cases Yi kvs j with
   | none=>rfl
   | some x=>rw [Option.map_some,if_neg e]
 ·rw [if_neg a];refine Jh2 k j y kvs ?_;rw [JcN] at a;cases q:Yi kvs k with
  | none=>rfl
  | some x=>rw [q] at a; exact (a rfl).elim
theorem JjN (kvs:List (κ×V)) (k:κ) (v:V):(JaU kvs k v).length≤kvs.length + 1:=by
 unfold JaU;split
 ·rw [List.length_map]; omega
 ·rw [List.length_append,List.length_cons,List.length_nil]; omega
theorem Jn0 {kvs:List (κ×V)} {k:κ} (v:V) (h:Yi kvs k=none):JaU kvs k v=kvs ++ [(k,v)]:=by
 unfold JaU;rw [JcN,h];exact if_neg (by decide)
theorem JaE.isSome_eq {o:Option V} {u:Option Value} (r:JaE o u):o.isSome=u.isSome:=by
 cases o with
 | none=>cases u with
  | none=>rfl
  | some _=>exact (show False from r).elim
 | some _=>cases u with
  | none=>exact (show False from r).elim
  | some _=>rfl
theorem JaE.getD {o:Option V} {u:Option Value} {d:V} {d':Value} (r:JaE o u) (rd:JR d d'):JR (o.getD d) (u.getD d'):=by
 cases o with
 | none=>cases u with
  | none=>exact rd
  | some _=>exact (show False from r).elim
 | some _=>cases u with
  | none=>exact (show False from r).elim
  | some _=>exact r
theorem KV.val {kvs:List (κ×V)} {vs:List (κ×Value)} (r:KV kvs vs) (k:κ):JaE (Yi kvs k) (valueAt vs k):=by
 unfold KV at r
 induction r with
 | nil=>exact True.intro
 | @cons p q ps qs h t ih =>
  obtain ⟨h1,h2⟩:=h;by_cases e:p.1=k
  ·have e':q.1=k:=h1.symm.trans e;have b:valueAt (q :: qs) k=some q.2:=by simp [valueAt,List.find?_cons,e']
   rw [ZC e,b]; exact h2
  ·have e':¬ q.1=k:=fun z=>e (h1.trans z)
   have b:valueAt (q :: qs) k=valueAt qs k:=by simp [valueAt,List.find?_cons,e']
   rw [ZD e,b]; exact ih
theorem KV.any {kvs:List (κ×V)} {vs:List (κ×Value)} (r:KV kvs vs) (k:κ):(kvs.any fun kv=>decide (kv.1=k))=vs.any fun kv=>decide (kv.1=k):=by
 unfold KV at r
 induction r with
 | nil=>rfl
 | cons h t ih=>rw [List.any_cons,List.any_cons,ih,h.1]
theorem KV.repl {kvs:List (κ×V)} {vs:List (κ×Value)} (r:KV kvs vs) (k:κ) {y:V} {u:Value} (ry:JR y u) :
  KV (kvs.map fun kv=>if kv.1=k then (kv.1,y) else kv) (vs.map fun kv=>if kv.1=k then (kv.1,u) else kv):=by
 unfold KV at r ⊢
 induction r with
 | nil=>exact .nil
 | @cons p q ps qs h t ih =>
  rw [List.map_cons,List.map_cons];refine .cons ?_ ih;obtain ⟨h1,h2⟩:=h;by_cases e:p.1=k
  ·rw [if_pos e,if_pos (h1.symm.trans e)]; exact ⟨h1,ry⟩
  ·rw [if_neg e,if_neg (fun z=>e (h1.trans z))]; exact ⟨h1,h2⟩
theorem KV.put {kvs:List (κ×V)} {vs:List (κ×Value)} (r:KV kvs vs) (k:κ) {y:V} {u:Value} (ry:JR y u):KV (JaU kvs k y) (stored vs k u):=by
 unfold JaU stored;rw [r.any k];by_cases e:(vs.any fun kv=>decide (kv.1=k))=true
 ·rw [if_pos e,if_pos e]; exact r.repl k ry
 ·rw [if_neg e,if_neg e]; exact Paired.snoc r ⟨rfl,ry⟩
theorem KV.drop {kvs:List (κ×V)} {vs:List (κ×Value)} (r:KV kvs vs) (k:κ):KV (Jt2 kvs k) (without vs k):=by
 unfold KV at r ⊢;unfold Jt2 without
 induction r with
 | nil=>exact .nil
 | @cons p q ps qs h t ih =>
  obtain ⟨h1,h2⟩:=h;rw [List.filter_cons,List.filter_cons];by_cases e:p.1=k
  ·have a:¬ decide (p.1≠k)=true:=by simp [e]
   have b:¬ decide (q.1≠k)=true:=by simp [h1.symm.trans e]
   rw [if_neg a,if_neg b]; exact ih
  ·have e':¬ q.1=k:=fun z=>e (h1.trans z)
   have a:decide (p.1≠k)=true:=by simp [e]
   have b:decide (q.1≠k)=true:=by simp [e']
   rw [if_pos a,if_pos b]; exact .cons ⟨h1,h2⟩ ih
theorem KV.keys {kvs:List (κ×V)} {vs:List (κ×Value)} (r:KV kvs vs):kvs.map (·.1)=vs.map (·.1):=by
 unfold KV at r
 induction r with
 | nil=>rfl
 | cons h t ih=>rw [List.map_cons,List.map_cons,ih,h.1]
theorem KV.length {kvs:List (κ×V)} {vs:List (κ×Value)} (r:KV kvs vs):kvs.length=vs.length:=Paired.length r
end
theorem Jjn {P:Program} {w:World} {k:JK} {u:Value} (r:JR (kV k) u):(Yy P w).is k u=true:=by
 cases k with
 | inl i=>obtain ⟨t,e⟩:=(show ∃ t,u=Value.int i t from r); subst e; exact Jo6 P w i t
 | inr x=>obtain ⟨t,e⟩:=(show ∃ t,u=Value.str x t from r); subst e; exact Jbq P w x t
theorem JmA {P:Program} {w:World}:∀ {ks:List JK} {us:List Value},JF (ks.map kV) us→ItemsAre (Yy P w) ks us
 | [],_,r=>by rw [List.map_nil] at r; cases r; exact .nil
 | k :: ks,_,r=>by
  rw [List.map_cons] at r;cases r with
  | cons h t=>exact .cons (Jjn h) (JmA t)
abbrev KT (H:Hp):List (List JK×V)→List (List JK×Addr×Value)→Prop:=Paired fun p q=>p.1=q.1∧H q.2.1=some (.tup (p.1.map kV))∧JR p.2 q.2.2
theorem KT.val {H:Hp} {kvs:List (List JK×V)} {xs:List (List JK×Addr×Value)} (r:KT H kvs xs) (k:List JK):JaE (Yi kvs k) ((atKey xs k).map (·.2)):=by
 induction r with
 | nil=>exact True.intro
 | @cons p q ps qs h t ih =>
  obtain ⟨h1,_,h2⟩:=h;by_cases e:p.1=k
  ·have e':q.1=k:=h1.symm.trans e;have b:atKey (q :: qs) k=some q.2:=by simp [atKey,List.find?_cons,e']
   rw [ZC e,b]; exact h2
  ·have e':¬ q.1=k:=fun z=>e (h1.trans z)
   have b:atKey (q :: qs) k=atKey qs k:=by simp [atKey,List.find?_cons,e']
   rw [ZD e,b]; exact ih
theorem KT.repl {H:Hp} {kvs:List (List JK×V)} {xs:List (List JK×Addr×Value)} (r:KT H kvs xs) (k:List JK) {y:V} {u:Value} (ry:JR y u) :
  KT H (kvs.map fun kv=>if kv.1=k then (kv.1,y) else kv) (xs.map (putAt k u)):=by
 induction r with
 | nil=>exact .nil
 | @cons p q ps qs h t ih =>
  rw [List.map_cons,List.map_cons];refine .cons ?_ ih;obtain ⟨h1,h2,h3⟩:=h;unfold putAt;by_cases e:p.1=k
  ·rw [if_pos e,if_pos (h1.symm.trans e)]; exact ⟨h1,h2,ry⟩
  ·rw [if_neg e,if_neg (fun z=>e (h1.trans z))]; exact ⟨h1,h2,h3⟩
theorem KT.put {H:Hp} {kvs:List (List JK×V)} {xs:List (List JK×Addr×Value)} (r:KT H kvs xs) (k:List JK) {b:Addr} {y:V} {u:Value} (hb:H b=some (.tup (k.map kV))) (ry:JR y u) :
  KT H (JaU kvs k y) (storedH xs k b u):=by
 have e:(kvs.any fun kv=>decide (kv.1=k))=(atKey xs k).isSome:=by
  rw [JcN,(r.val k).isSome_eq,Option.isSome_map]
 unfold JaU storedH;rw [e];by_cases q:(atKey xs k).isSome=true
 ·rw [if_pos q,if_pos q]; exact r.repl k ry
 ·rw [if_neg q,if_neg q]; exact Paired.snoc r ⟨rfl,hb,ry⟩
theorem KT.keeps {H H':Hp} {kvs:List (List JK×V)} {xs:List (List JK×Addr×Value)} (r:KT H kvs xs) (ht:∀ b ys,H b=some (.tup ys)→H' b=some (.tup ys)):KT H' kvs xs :=
 Paired.mapP r fun _ _ z=>⟨z.1,ht _ _ z.2.1,z.2.2⟩
section
variable {P:Program} {w:World} {H:Hp} {h:Heap} {a:Addr}
theorem JtP {u:HO} (ok:ZK P w H h) (e:Rd H a u):YF P w H h a u:=e.ok ok
theorem Jjq {kvs:List (JK×V)} (ok:ZK P w H h) (e:Rd H a (.dK kvs)):kvs.length≤sizeLine∧(a == sysModules)=false∧∃ vs,KV kvs vs∧h.DictOf (Yy P w) a vs :=
 show YF P w H h a (.dK kvs) from JtP ok e
theorem Jt3 {kvs:List (JK×V)} (ok:ZK P w H h) (e:H a=some (.dK kvs)):kvs.length≤sizeLine∧(a == sysModules)=false∧∃ vs,KV kvs vs∧h.DictOf (Yy P w) a vs:=Jjq ok (.inl e)
theorem JiE {ks:List JK} (ok:ZK P w H h) (e:H a=some (.tup (ks.map kV))):(tupleKind (Yy P w)).is h ks a:=by
 obtain ⟨_,its,r,o,h1,h2,n,h3⟩:=(show YF P w H h a (.tup (ks.map kV)) from ok a _ e)
 exact ⟨o,its.toArray,n,h1,h2,h3,by simpa using JmA r⟩
theorem Jln {kvs:List (List JK×V)} (ok:ZK P w H h) (e:Rd H a (.dT kvs)):kvs.length≤sizeLine∧(a == sysModules)=false ∧
  ∃ xs,KT H kvs xs∧h.DictOfH (tupleKind (Yy P w)) a xs:=by
 obtain ⟨z,y,xs,r,o,es,ep,h1,h2,h3,h4,h5⟩:=(show YF P w H h a (.dT kvs) from JtP ok e)
 refine ⟨z,y,xs,r,o,es,ep,h1,h2,h3,h4,fun x hx=>?_,h5⟩;have all:∀ {l:List (List JK×V)} {m:List (List JK×Addr×Value)},KT H l m→∀ x∈m,(tupleKind (Yy P w)).is h x.1 x.2.1:=by
  intro l m q
  induction q with
  | nil=>intro x hx; exact nomatch hx
  | @cons p q ps qs hq t ih =>
   intro x hx;rcases List.mem_cons.mp hx with e | hx
   ·subst e;exact JiE ok (by rw [← hq.1]; exact hq.2.1)
   ·exact ih x hx
 exact all r x hx
theorem Jwx {kvs:List (List JK×V)} (ok:ZK P w H h) (e:H a=some (.dT kvs)):kvs.length≤sizeLine∧(a == sysModules)=false ∧
  ∃ xs,KT H kvs xs∧h.DictOfH (tupleKind (Yy P w)) a xs:=Jln ok (.inl e)
end
def Jbn (H:Hp) (a:Addr) (y:V) (r:Option V):Prop :=
 (∃ kvs k,Rd H a (.dK kvs)∧y=kV k∧r=Yi kvs k)∨∃ kvs k b,Rd H a (.dT kvs)∧y=.ref b∧H b=some (.tup (k.map kV))∧r=Yi kvs k
def Jhw (H:Hp) (a:Addr) (y v:V) (H':Hp):Prop :=
 (∃ kvs k,H a=some (.dK kvs)∧y=kV k∧kvs.length < sizeLine∧H'=upd H a (.dK (JaU kvs k v))) ∨
 ∃ kvs k b,H a=some (.dT kvs)∧y=.ref b∧H b=some (.tup (k.map kV))∧kvs.length < sizeLine∧H'=upd H a (.dT (JaU kvs k v))
theorem Jbn.k {H:Hp} {a:Addr} {kvs:List (JK×V)} {k:JK} (e:H a=some (.dK kvs)):Jbn H a (kV k) (Yi kvs k):=.inl ⟨kvs,k,.inl e,rfl,rfl⟩
theorem Jbn.t {H:Hp} {a b:Addr} {kvs:List (List JK×V)} {k:List JK} (e:H a=some (.dT kvs)) (eb:H b=some (.tup (k.map kV))):Jbn H a (.ref b) (Yi kvs k):=.inr ⟨kvs,k,b,.inl e,rfl,eb,rfl⟩
theorem Jhw.k {H:Hp} {a:Addr} {kvs:List (JK×V)} {k:JK} {v:V} (e:H a=some (.dK kvs)) (hl:kvs.length < sizeLine):Jhw H a (kV k) v (upd H a (.dK (JaU kvs k v))):=.inl ⟨kvs,k,e,rfl,hl,rfl⟩
theorem Jhw.t {H:Hp} {a b:Addr} {kvs:List (List JK×V)} {k:List JK} {v:V} (e:H a=some (.dT kvs)) (eb:H b=some (.tup (k.map kV))) (hl:kvs.length < sizeLine) :
  Jhw H a (.ref b) v (upd H a (.dT (JaU kvs k v))):=.inr ⟨kvs,k,b,e,rfl,eb,hl,rfl⟩
section
variable {X:Cx} {pins:List (Addr×Obj)} {σ:St} {H:Hp} {s:Shared} {a:Addr} {y v:V} {u r:Value} {o:Option V} {A:Around} {E:Value→Shared→Prop}
theorem Jn.big (I:Jn X pins σ H s):sysModules < s.heap.objs.size:=by
 have h:mainGlobals < s.heap.objs.size:=(I.mod.glob.keeps I.bk).lt;exact Nat.lt_trans (by decide) h
theorem Jr1 {Q:Value→Shared→Prop} (hu:A.units + 1 < cLine) (I:Jn X pins σ H s) (g:Jbn H a y (some v)) (ry:JR y u) (h:∀ w' s',Jn X pins σ H s'→JR v w'→Q w' s') :
  wpAny (model X.prog X.w) A (getItem (.ref a) u) Q E s:=by
 rcases g with ⟨kvs,k,e,ey,l⟩ | ⟨kvs,k,b,e,ey,eb,l⟩
 ·subst ey;obtain ⟨z,hd,vs,rel,dd⟩:=Jjq I.hok e;obtain ⟨w',hw,rw'⟩:=JaE.some_of (v:=v) (o:=valueAt vs k) (by rw [l]; exact rel.val k);exact wpAny_getItem_of (Jjn ry) dd.mapOf hw (h w' _ (I.tok _) rw')
 ·subst ey;cases (show u=Value.ref b from ry);obtain ⟨z,hd,xs,rel,dd⟩:=Jln I.hok e;obtain ⟨w',hw,rw'⟩:=JaE.some_of (v:=v) (o:=(atKey xs k).map (·.2)) (by rw [l]; exact rel.val k);obtain ⟨p,hp,hp2⟩:=Option.map_eq_some_iff.mp hw;refine wpAny_getItem_heap (tupleKind_room_in1 hu) (JiE I.hok eb) dd hp ?_;rw [hp2];exact h w' _ (I.tok _) rw'
theorem Jxe {Q:Value→Shared→Prop} (hu:A.units + 1 < cLine) (I:Jn X pins σ H s) (g:Jbn H a y o) (ry:JR y u) (h:∀ s',Jn X pins σ H s'→Q (.bool o.isSome) s') :
  wpAny (model X.prog X.w) A (compareOp .In u (.ref a)) Q E s:=by
 rcases g with ⟨kvs,k,e,ey,l⟩ | ⟨kvs,k,b,e,ey,eb,l⟩
 ·subst ey;obtain ⟨z,hd,vs,rel,dd⟩:=Jjq I.hok e;refine wpAny_in_of (Jjn ry) hd dd.mapOf ?_;rw [← (rel.val k).isSome_eq,← l];exact h _ (I.tok _)
 ·subst ey;cases (show u=Value.ref b from ry);obtain ⟨z,hd,xs,rel,dd⟩:=Jln I.hok e;refine wpAny_in_heap (tupleKind_room_in1 hu) (JiE I.hok eb) hd dd ?_;have q:=(rel.val k).isSome_eq;rw [Option.isSome_map] at q;rw [← q,← l];exact h _ (I.tok _)
theorem JuQ {Q:Value→Shared→Prop} (hu:A.units + 1 < cLine) (I:Jn X pins σ H s) (g:Jbn H a y o) (ry:JR y u) (h:∀ s',Jn X pins σ H s'→Q (.bool (!o.isSome)) s') :
  wpAny (model X.prog X.w) A (compareOp .NotIn u (.ref a)) Q E s:=by
 rcases g with ⟨kvs,k,e,ey,l⟩ | ⟨kvs,k,b,e,ey,eb,l⟩
 ·subst ey;obtain ⟨z,hd,vs,rel,dd⟩:=Jjq I.hok e;refine wpAny_notIn_of (Jjn ry) hd dd.mapOf ?_;rw [← (rel.val k).isSome_eq,← l];exact h _ (I.tok _)
 ·subst ey;cases (show u=Value.ref b from ry);obtain ⟨z,hd,xs,rel,dd⟩:=Jln I.hok e;refine wpAny_notIn_heap (tupleKind_room_in1 hu) (JiE I.hok eb) hd dd ?_;have q:=(rel.val k).isSome_eq;rw [Option.isSome_map] at q;rw [← q,← l];exact h _ (I.tok _)
theorem JpH {h':Heap} {t':Nat} {ob:HO} (I:Jn X pins σ H s) (mu:Mut (H a)) (hs:Heap.SameBut a s.heap h') (he:∃ q,h'.get? a=some q) (new:YF X.prog X.w (upd H a ob) h' a ob) :
  Jn X pins σ (upd H a ob) { s with heap:=h',toks:=t' } :=
 I.write (x:=a) (e:=a) mu (.inl rfl) (fun b q hb z=>(hs.2 b hb).trans z) he new
theorem JvW {P:Program} {w:World} {H':Hp} {h':Heap} {kvs:List (JK×V)} {vs:List (JK×Value)} (z:kvs.length≤sizeLine) (hd:(a == sysModules)=false) (rel:KV kvs vs) (dd:h'.DictOf (Yy P w) a vs) :
  YF P w H' h' a (.dK kvs):=⟨z,hd,vs,rel,dd⟩
theorem Jr0 {H':Hp} {Q:Unit→Shared→Prop} (hu:A.units + 1 < cLine) (I:Jn X pins σ H s) (g:Jhw H a y v H') (ry:JR y u) (rv:JR v r) (h:∀ s',Jn X pins σ H' s'→Q () s') :
  wpAny (model X.prog X.w) A (setItem (.ref a) u r) Q E s:=by
 rcases g with ⟨kvs,k,e,ey,l,eH⟩ | ⟨kvs,k,b,e,ey,eb,l,eH⟩
 ·subst ey eH;obtain ⟨z,hd,vs,rel,dd⟩:=Jt3 I.hok e;have hz:vs.length≤sizeLine:=by rw [← rel.length]; exact z
  have hl:(JaU kvs k v).length≤sizeLine:=by have:=JjN kvs k v; omega
  refine wpAny_setItem_pairs (hsz:=hz) (Jjn ry) dd fun h' dd' hs=>h _ ?_
  have he:∃ q,h'.get? a=some q:=let ⟨q,_,_,hq,_⟩:=dd'; ⟨q,hq⟩;exact JpH I (by rw [e]; exact True.intro) hs he (JvW hl hd (rel.put k rv) dd')
 ·subst ey eH;cases (show u=Value.ref b from ry);obtain ⟨z,hd,xs,rel,dd⟩:=Jwx I.hok e;have hz:xs.length≤sizeLine:=by rw [← Paired.length rel]; exact z
  have hl:(JaU kvs k v).length≤sizeLine:=by have:=JjN kvs k v; omega
  refine wpAny_setItem_heap (hsz:=hz) (tupleKind_room_in1 hu) (JiE I.hok eb) dd fun h' dd' hs=>h _ ?_
  obtain ⟨q,es,ep,hq,h2,h3,h4,_,h5⟩:=dd';refine JpH I (by rw [e]; exact True.intro) hs ⟨q,hq⟩ ⟨hl,hd,_,(rel.put k eb rv).keeps fun c ys ec=>?_,q,es,ep,hq,h2,h3,h4,h5⟩;rw [Jt (Jas ec e (fun z=>nomatch z))];exact ec
end
section
variable {X:Cx} {pins:List (Addr×Obj)} {σ:St} {H:Hp} {s:Shared} {a:Addr} {kvs:List (JK×V)} {k:JK} {u:Value} {A:Around} {E:Value→Shared→Prop}
theorem Jwy {Q:Value→Shared→Prop} (I:Jn X pins σ H s) (e:Rd H a (.dK kvs)) (h:∀ t s',Jn X pins σ H s'→Q (.int kvs.length t) s'):wpAny (model X.prog X.w) A (call (.builtin "len") [.ref a]) Q E s:=by
 obtain ⟨z,hd,vs,rel,dd⟩:=Jjq I.hok e;refine call_len_dict hd dd (by rw [← rel.length]; rw [sizeLine_eq] at z; omega) ?_;rw [← rel.length];exact h _ _ (I.tok _)
end
def Jv4 (i:Expr):Prop:=∀ ov iv,subscripted i false ov iv=operate [ov,iv] (getItem ov iv)
theorem Jud {prog:Program} {w:World} {A:Around} {E:Value→Shared→Prop} {s:Shared} {env:Env} {value slice:Expr} {pos:Pos} {T id:String} {Q:Value→Shared→Prop}
  (hl:typeLookup (.type T) "__getitem__" = pure (some (.builtin id))) (hs:Jv4 slice)
  (h:wpAny (model prog w) A (eval value env) (fun o s₁=>wpAny (model prog w) A (eval slice env) (fun i s₂=>s₂.TypeIs o T∧wpAny (model prog w) A (getItem o i) Q E s₂) E s₁) E s) :
  wpAny (model prog w) A (eval (.Subscript value slice pos) env) Q E s:=by
 refine Subscript_ (wpAny_mono h (fun o s₁ h₁=>wpAny_mono h₁ (fun i s₂ h₂=>?_) fun _ _ x=>x) fun _ _ x=>x);obtain ⟨hT,h₂⟩:=h₂;unfold subscriptTail;refine wpAny_bind ?_;rw [getitemInPython_of_ne hT.not_modules];refine wpAny_bind (wpAny_specialOf hT hl ?_);have fin:wpAny (model prog w) A (subscripted slice false o i) (fun r s₃=>wpAny (model prog w) A (letTemporaryGo value o r >>= fun _=>pure r) Q E s₃) E s₂:=by
  rw [hs o i];exact wpAny_operating (wpAny_mono h₂ (fun r s₃ h₃=>wpAny_bind (wpAny_letTemporaryGo (wpAny_pure h₃))) fun _ _ x=>x)
 first
  | exact wpAny_pure (wpAny_bind fin)
  | exact wpAny_bind (wpAny_pure (wpAny_bind fin))
  | exact wpAny_bind fin
theorem Jo9 {X:Cx} {pins:List (Addr×Obj)} {σ:St} {H:Hp} {s:Shared} {a:Addr} {y:V} {o:Option V} (I:Jn X pins σ H s) (g:Jbn H a y o):s.TypeIs (.ref a) "dict":=by
 rcases g with ⟨kvs,k,e,_,_⟩ | ⟨kvs,k,b,e,_,_,_⟩
 ·obtain ⟨_,_,vs,_,dd⟩:=Jjq I.hok e;exact dd.typeIs
 ·obtain ⟨_,_,xs,_,dd⟩:=Jln I.hok e;exact dd.typeIs
def Jwf (td ty:TE):TE:=fun σ H Q=>td σ H fun x H1=>ty σ H1 fun y H2=>∃ a v,x=.ref a∧Jbn H2 a y (some v)∧Q v H2
def Jw1 (ty td:TE):TE:=fun σ H Q=>ty σ H fun y H1=>td σ H1 fun x H2=>∃ a o,x=.ref a∧Jbn H2 a y o∧Q (.bl o.isSome) H2
def Juc (ty td:TE):TE:=fun σ H Q=>ty σ H fun y H1=>td σ H1 fun x H2=>∃ a o,x=.ref a∧Jbn H2 a y o∧Q (.bl (!o.isSome)) H2
def Jwk (td ty tv:TE):TS:=fun D σ H=>tv σ H fun v H1=>td σ H1 fun x H2=>ty σ H2 fun y H3=>∃ a H4,x=.ref a∧Jhw H3 a y v H4∧D.nx σ H4
section
variable {X:Cx} {o i e value:Expr} {pos pos' tpos:Pos} {td ty tv:TE}
theorem JlV (hu:X.A.units + 1 < cLine) (ho:PE X o td) (hi:PE X i ty) (hs:Jv4 i):PE X (.Subscript o i pos) (Jwf td ty):=by
 intro pins s σ H Q I h;refine Jud PySem.F.slot_dict_getitem.lookup hs (J2 (ho pins s σ H _ I h) fun u s1 ⟨x,H1,I1,rx,q1⟩=>J2 (hi pins s1 σ H1 _ I1 q1) fun iv s2 ⟨y,H2,I2,ry,a,v,ex,g,q2⟩=>?_);subst ex;obtain rfl:u=Value.ref a:=rx;exact ⟨Jo9 I2 g,Jr1 hu I2 g ry fun w' s3 I3 rw'=>⟨v,H2,I3,rw',q2⟩⟩
theorem JvF (hu:X.A.units + 1 < cLine) (hi:PE X i ty) (ho:PE X o td):PC X .In i o (Jw1 ty td):=by
 intro pins s σ H Q I h;refine J2 (hi pins s σ H _ I h) fun iv s1 ⟨y,H1,I1,ry,q1⟩=>J2 (ho pins s1 σ H1 _ I1 q1) fun u s2 ⟨x,H2,I2,rx,a,ov,ex,g,q2⟩=>?_
 subst ex;obtain rfl:u=Value.ref a:=rx;exact Jxe hu I2 g ry fun s3 I3=>⟨.bl ov.isSome,H2,I3,rfl,q2⟩
theorem Jrj (hu:X.A.units + 1 < cLine) (hi:PE X i ty) (ho:PE X o td):PC X .NotIn i o (Juc ty td):=by
 intro pins s σ H Q I h;refine J2 (hi pins s σ H _ I h) fun iv s1 ⟨y,H1,I1,ry,q1⟩=>J2 (ho pins s1 σ H1 _ I1 q1) fun u s2 ⟨x,H2,I2,rx,a,ov,ex,g,q2⟩=>?_
 subst ex;obtain rfl:u=Value.ref a:=rx;exact JuQ hu I2 g ry fun s3 I3=>⟨.bl (!ov.isSome),H2,I3,rfl,q2⟩
theorem JlQ (hu:X.A.units + 1 < cLine) (ho:PE X o td) (hi:PE X i ty) (hv:PE X value tv) (hs:swapsWith value (some (.Subscript o i pos')) pos.line X.env=pure false) :
  PS X (.Assign [.Subscript o i pos'] value pos) (Jwk td ty tv):=by
 intro pins s σ H D I h;refine wpAny_Assign_Subscript (J2 (hv pins s σ H _ I h) fun r s1 ⟨v,H1,I1,rv,q1⟩=>J2 (ho pins s1 σ H1 _ I1 q1) fun u s2 ⟨x,H2,I2,rx,q2⟩=>J2 (hi pins s2 σ H2 _ I2 q2) fun iv s3 ⟨y,H3,I3,ry,a,H4,ex,g,q3⟩=>?_) hs;subst ex;obtain rfl:u=Value.ref a:=rx;exact Jr0 hu I3 g ry rv fun s4 I4=>⟨σ,H4,I4,q3⟩
end
theorem Jtw {P:Program} {w:World} {H:Hp} (h:Heap) (hb:sysModules < h.objs.size):YF P w H (h.push { cls:=.type "dict",data:=.dict #[] }) h.objs.size (.dK []) :=
 ⟨Nat.zero_le _,beq_eq_false_iff_ne.mpr (Ne.symm (Nat.ne_of_lt hb)),[],.nil,Heap.DictOf.new h⟩
theorem Jtv {P:Program} {w:World} {H:Hp} (h:Heap) (hb:sysModules < h.objs.size):YF P w H (h.push { cls:=.type "dict",data:=.dict #[] }) h.objs.size (.dT []) :=
 ⟨Nat.zero_le _,beq_eq_false_iff_ne.mpr (Ne.symm (Nat.ne_of_lt hb)),[],.nil,_,#[],0,Heap.get?_push_size _ rfl,⟨rfl,rfl,rfl⟩,rfl,rfl,List.nodup_nil⟩
def Ju4:TE:=fun _ H Q=>∀ p,H p=none→Q (.ref p) (upd H p (.dK []))
def Ju3:TE:=fun _ H Q=>∀ p,H p=none→Q (.ref p) (upd H p (.dT []))
section
variable {X:Cx} {pos:Pos}
theorem Jn4:PE X (.Dict [] [] pos) Ju4:=fun pins s σ H Q I h =>
 wpAny_Dict_empty ⟨.ref s.heap.objs.size,_,I.laid (a:=s.heap.objs.size) (o:=.dK []) (t':=s.toks) (fun _ _ q=>Heap.get?_push_of_some _ q) (Nat.le_refl _) (Jtw s.heap I.big),rfl,h _ (I.hok.fresh (Nat.le_refl _))⟩
theorem JsZ:PE X (.Dict [] [] pos) Ju3:=fun pins s σ H Q I h =>
 wpAny_Dict_empty ⟨.ref s.heap.objs.size,_,I.laid (a:=s.heap.objs.size) (o:=.dT []) (t':=s.toks) (fun _ _ q=>Heap.get?_push_of_some _ q) (Nat.le_refl _) (Jtv s.heap I.big),rfl,h _ (I.hok.fresh (Nat.le_refl _))⟩
end
end L2
namespace Att
open PySem PySem.W PySem.Calls PyProof.Rows
theorem Jlb {P:Params} {h:Heap}:∀ (ns:List Int) (vs:List Value),WellAll P h vs (ns.map WData.int)→IntsAre vs ns:=by
 intro ns
 induction ns with
 | nil =>
  intro vs w;rw [List.map_nil] at w;cases w;exact .nil
 | cons n ns ih =>
  intro vs w;rw [List.map_cons] at w;cases w with
  | cons a b =>
   cases a;exact .cons _ _ (ih _ b)
theorem Jrb {l:OpenLaw} {n:Nat} (hn:l.most=some n) {P:Params} {h:Heap} {args:List WData} {vals:List Value}
  (hpre:l.row.toRowW.claim.pre args=true) (hwl:WellAll P h vals args) :
  ∃ a vs ns,vals=[Value.ref a]∧args=[WData.list (ns.map WData.int)]∧h.get? a=some { cls:=.type "list",data:=.seq vs.toArray }∧IntsAre vs ns∧ns.length≤n:=by
 have hsh:WShape.hasAll [] args [.list .int]=true:=(pre_splitW hpre).1;have hc:l.pre.holds [] { args:=args }=true:=(pre_splitW hpre).2;obtain ⟨d,r,rfl,h1,h2⟩:=hasAllW_cons hsh;obtain rfl:=hasAllW_nil h2;obtain ⟨xs,rfl,h3⟩:=hasW_list h1;obtain ⟨ns,rfl⟩:=items_int h3;have hlen:ns.length≤n:=by
  unfold OpenLaw.pre at hc;have h4:(WTm.not (.lt (.lit (.int (n:Int))) (.len (.arg 0)))).holds [] { args:=[.list (ns.map .int)] }=true:=by
   have h4:=(holds_andW hc).1;rw [hn] at h4;exact h4
  have h5:=condW_of h4 (w_not (w_lt w_lit (w_len_list (w_arg rfl))));rw [List.length_map] at h5;refine Nat.le_of_not_lt fun q=>?_
  have q':(n:Int) < ((ns.length:Nat):Int):=by omega
  first
   | (rw [decide_eq_true q'] at h5; exact absurd h5 (by decide))
   | (simp at h5; omega)
 cases hwl with
 | cons w1 w2 =>
  cases w2;cases w1 with
  | list ho hall=>exact ⟨_,_,ns,rfl,rfl,ho,Jlb ns _ hall,hlen⟩
theorem Jrf (l:OpenLaw) (args:List WData):l.row.toRowW.claim.post args (.bool true) args=true :=
 postW_of (r:=l.row.toRowW) (X:=(true == true))
  (show WShape.has [] (.bool true) .bool=true by first | rfl | decide | simp [WShape.has,WShape.arms,WShape.armsAll])
  (show (WTm.eq .res (.lit (.bool true))).value [] { args:=args,res:=some (.bool true),after:=args }=some (.bool (true == true)) from w_eq_bool (w_res rfl) w_lit) rfl
theorem Jpb {l:OpenLaw} {n:Nat} {q:Program} {loose:List Str} {XP:(Str→Option Value)→Heap→Prop} {YP:World→Heap→Prop} {d:DefRec}
  (hn:l.most=some n) (hdf:d.params.defaults=[])
  (call:∀ (w:World) (s₀ s₁:Shared) (mg mb:Str→Option Value) (fa:Addr) (o:Obj) (pm cd doc:Value) (a:Addr) (vs:List Value) (ns:List Int),
   Ground q loose [] XP w s₀ mg mb s₁.heap→YP w s₁.heap →
   s₁.heap.get? fa=some o→o.data=.func (docDef d.name d.params d.body d.scope pm cd doc)→s₁.heap.CodeRec cd d.name→mg d.name=some (.ref fa) →
   s₁.heap.get? a=some { cls:=.type "list",data:=.seq vs.toArray }→IntsAre vs ns→ns.length≤n→s₁.gens=#[] →
   codeAny (model l.prog w) callerA (.call (.ref fa) ⟨[.ref a],[]⟩) (fun r s'=>r=.ok (.ret (.bool true))∧OldK s₁.heap s'.heap∧s'.os=s₁.os∧AllBare s'.gens) s₁) :
  WalkO q loose XP YP l.row.toRowW d [] (fun f vs=>PySem.call f vs):=by
 intro w s₀ s₁ mg mb G Y fa o pm cd doc dV kV ho hd hcd hD hmg hg args vals as hpre hlay hrd hwl hlo;obtain rfl:dV=.none:=Dflts.none hD hdf;obtain rfl:kV=.none:=Dflts.noKw hD;obtain ⟨a,vs,ns,rfl,rfl,hobj,hints,hlen⟩:=Jrb hn hpre hwl;refine enter_call (codeAny_mono (call w s₀ s₁ mg mb fa o pm cd doc a vs ns G Y ho (fd_plain hd) hcd hmg hobj hints hlen hg) fun r s' hq=>?_);obtain ⟨rfl,h2,h3,h4⟩:=hq;exact ⟨.inl ⟨.bool true,.bool true,[],rfl,fun _=>rfl,.bool true,Jrf l _,fun _=>⟨List.Pairwise.nil,fun _ hm=>(nomatch hm)⟩⟩,h2,h3,h4⟩
end Att
namespace L2
open PySem PySem.Spec PyProof.Rows
theorem Jmr:∀ {vs:List Value} {ns:List Int},IntsAre vs ns→JF (ns.map V.int) vs
 | _,_,.nil=>.nil
 | _,_,.cons n t h=>.cons ⟨t,rfl⟩ (Jmr h)
def JtF (H:Hp):Prop:=∀ b,H b=none∨∃ o xs,H b=some (.frz o (.lst xs))
theorem Jth {P:Program} {w:World} {K:PySem.W.Frag} {mg mb:Str→Option Value} {CX:CXT} {k:Nat} {fa a:Addr} {fd:FuncData} {x:Str} {sp:Sp} {s₁:Shared} {vs:List Value} {ns:List Int}
  (KX:K.In s₁.heap) (hns:s₁.heap.Ns mainGlobals mg) (hb:s₁.heap.Ns builtinsNs mb) (hbb:∀ x:Str,x ≠ "__name__"→mb x=bootBuiltins x) (hlim:s₁.heap.NoLimit) (hg:s₁.gens=#[])
  (ha:s₁.heap.get? a=some { cls:=.type "list",data:=.seq vs.toArray }) (hi:IntsAre vs ns) (hl:ns.length≤sizeLine) (hr:Y3 k callerA)
  (F:∀ base:Heap,K.In base→base.Ns mainGlobals mg→JL P w K mg base CX k fa fd [x] sp) (hbind:∀ (s:Shared) (u:Value),BindsTo s fd ⟨[u],[]⟩ [(x,u)])
  (hsp:∀ H:Hp,JtF H→Jz K H a (ns.map V.int)→sp [.ref a] H (fun v _=>v=.bl true) fun _ _ _=>False)
  (hCX:∀ H e s',CX [] H s₁ (fun _ _ _=>False) e s'→False) :
  codeAny (model P w) callerA (.call (.ref fa) ⟨[.ref a],[]⟩) (fun r s'=>r=.ok (.ret (.bool true))∧OldK s₁.heap s'.heap∧s'.os=s₁.os∧AllBare s'.gens) s₁:=by
 have rv:=Jmr hi;have lenV:=hi.length;have core:∀ H:Hp,JtF H→Jz K H a (ns.map V.int)→ZK P w H s₁.heap→(∀ b,H b≠none→b=a)→(H a≠none→K.lookup a=none) →
   codeAny (model P w) callerA (.call (.ref fa) ⟨[.ref a],[]⟩) (fun r s'=>r=.ok (.ret (.bool true))∧OldK s₁.heap s'.heap∧s'.os=s₁.os∧AllBare s'.gens) s₁:=by
  intro H hO hS hok hA hK;have base_of:∀ {b:Addr} {o:Obj},s₁.heap.get? b=some o→H b=none→(Jhk s₁.heap H).get? b=some o:=fun e n=>Jtl e n
  have noA:∀ {b:Addr} {o:Obj} {es:Array DictEntry} {ep:Nat},s₁.heap.get? b=some o→o.data=.dict es ep→H b=none:=fun {b o es ep} e d=>by
   cases q:H b with
   | none=>rfl
   | some u =>
    have e':b=a:=hA b (by rw [q]; simp);subst e';rw [ha] at e; cases e;have d':Data.seq vs.toArray _=Data.dict es ep:=d;cases d'
  have nsK:∀ {b:Addr} {m:Str→Option Value},s₁.heap.Ns b m→(Jhk s₁.heap H).Ns b m:=fun {b m} ⟨o,es,ep,e,d,r⟩=>⟨o,es,ep,base_of e (noA e d),d,r⟩
  have hKb:K.In (Jhk s₁.heap H):=fun b o e=>base_of (KX b o e) (by
   cases q:H b with
   | none=>rfl
   | some u =>
    have e':b=a:=hA b (by rw [q]; simp);subst e';rw [hK (by rw [q]; simp)] at e; cases e)
  have hM:Mod K mg (Jhk s₁.heap H):=⟨hKb,nsK hns,⟨mb,nsK hb,hbb⟩,let ⟨mc,h1,h2⟩:=hlim; ⟨mc,nsK h1,h2⟩⟩
  have e0:Jgw P w K mg (Jhk s₁.heap H) callerA [] s₁ H:=⟨rfl,hM,fun b o e=>JuC e,Nat.le_of_eq (JrP _ _),trivial,fun b hb=>absurd (show b∈([]:List Addr) from hb) (by simp),hok,.of_eq hg⟩
  refine codeAny_mono ((F _ hKb (nsK hns)).run callerA [] s₁ H ⟨[.ref a],[]⟩ [.ref a] [.ref a] _ _ hr e0 (hbind s₁ (.ref a)) (.cons rfl .nil) (hsp H hO hS)) fun r s' h=>?_
  cases r with
  | error e=>exact (hCX H e s' h).elim
  | ok fl =>
   cases fl with
   | next=>exact False.elim h
   | brk=>exact False.elim h
   | cont=>exact False.elim h
   | ret u =>
    obtain ⟨v,H',os,bare,un,hok',r',q⟩:=h;have q':v=.bl true:=q;subst q';obtain rfl:u=Value.bool true:=r';refine ⟨rfl,OldK.of_keep fun b o e=>?_,os,bare⟩;cases q:H b with
    | none=>exact un.keep b o e q (by intro z; exact absurd (show b∈([]:List Addr) from z) (by simp)) (by simp)
    | some u =>
     rcases hO b with z | ⟨ob,xs,z⟩
     ·rw [q] at z; cases z
     ·have z2:=un.frzs b ob _ z;obtain ⟨e1,_⟩:=hok b _ z;obtain ⟨e2,_⟩:=hok' b _ z2;rw [e] at e1; cases e1;exact e2
 cases hk:K.lookup a with
 | some o =>
  have e:=KX a o hk;rw [ha] at e;cases e;refine core (fun _=>none) (fun _=>.inl rfl) (.inr ⟨_,vs.toArray,_,hk,rfl,rfl,rfl,by rw [List.size_toArray,lenV]; exact hl,by simpa using rv⟩) (fun b u z=>by have z':(none:Option HO)=some u:=z; cases z') (fun b z=>absurd rfl z) fun z=>absurd rfl z
 | none =>
  refine core (fun b=>if b=a then some (.frz { cls:=.type "list",data:=.seq vs.toArray } (.lst (ns.map V.int))) else none) (fun b=>?_) (.inl (.inr ⟨{ cls:=.type "list",data:=.seq vs.toArray },if_pos rfl⟩)) (fun b u z=>?_) (fun b z=>?_) fun _=>hk
  ·by_cases hb:b=a
   ·exact .inr ⟨_,_,if_pos hb⟩
   ·exact .inl (if_neg hb)
  ·by_cases hb:b=a
   ·have z':=(if_pos hb).symm.trans z;cases z';subst hb;exact ⟨ha,by rw [List.length_map]; exact hl,vs,_,rv,ha⟩
   ·have z':=(if_neg hb).symm.trans z;cases z'
  ·by_cases hb:b=a
   ·exact hb
   ·exact absurd (if_neg hb) z
end L2
namespace L2
open PySem PySem.Spec PyProof.Rows
abbrev YR:CXT:=fun _ _ _ _ _ _=>False
abbrev E0:XK:=fun _ _ _=>False
theorem JG {X:Cx}:Jan YR X E0:=fun _ _ _ _ _ _ _ h=>h.elim
structure Fun (K:PySem.W.Frag) (x qual:Str) (st:Stmt) (f:Addr) (fd:FuncData):Prop where
 ex:∃ (oc:Value) (od:Option Addr) (kV doc pm:Value) (an:Option Addr) (cdv ct:Value) (osl:Array (Option Value)),
  fd=PySem.W.fnOf x qual (JeG st) (Jb1 st) (Jl st) .none kV doc pm an cdv ct∧K.lookup f=some ⟨oc,od,.func fd,osl⟩∧PySem.W.codeIn K cdv qual=true
 kp:PySem.W.keepIn K (.ref f)=true
section
variable {P:Program} {w:World} {K:PySem.W.Frag} {mg:Str→Option Value} {base:Heap}
theorem Fun.ok {x qual:Str} {st:Stmt} {f:Addr} {fd:FuncData} {N ps:List Str} {k:Nat} {sp:Sp} (F:Fun K x qual st f fd) (S:Ju N ps (Jl st)) (len:∀ vs H Q E,sp vs H Q E→vs.length=ps.length)
  (hbody:∀ (cdv:Value) (A:Around) (outer:List Env) (s:Shared) (H:Hp) (vs:List V) (Q:VK) (E:XK),Y3 k (A.deeper (envOfC qual (Jl st) s.heap.objs.size f cdv))→sp vs H Q E →
   ∃ t,PSs (ZU YR P w K mg base N qual (Jl st) f cdv A outer s H E).nox (Jb1 st) t∧t { nx:=fun _ H'=>Q .non H',rt:=Q } (YN N vs) H):JL P w K mg base YR (k + 1) f fd ps sp:=by
 obtain ⟨oc,od,kV,doc,pm,an,cdv,ct,osl,rfl,lk,hcd⟩:=F.ex;refine Jt0 lk hcd S len fun A outer s H vs Q E hr hsp=>?_
 obtain ⟨t,h,q⟩:=hbody cdv A outer s H vs Q E hr hsp;exact ⟨t,h.nox,q⟩
theorem Fun.binds {x qual:Str} {st:Stmt} {f:Addr} {fd:FuncData} {ps:List Str} (F:Fun K x qual st f fd)
  (h:∀ (kV doc pm:Value) (an:Option Addr) (cdv ct:Value) (us:List Value),us.length=ps.length→bindArgs (PySem.W.fnOf x qual (JeG st) (Jb1 st) (Jl st) .none kV doc pm an cdv ct) ⟨us,[]⟩=pure (ps.zip us)):JbC K fd ps []:=by
 obtain ⟨oc,od,kV,doc,pm,an,cdv,ct,osl,rfl,lk,hcd⟩:=F.ex;exact .all (h kV doc pm an cdv ct)
end
theorem Jf3 {A:Around} {k:Nat} (hr:Y3 k A):A.units + 1 < cLine:=Nat.lt_of_le_of_lt (Nat.add_le_add_left (by decide:1≤64) _) hr.units
section
variable {X:Cx}
theorem pv (i:Nat) {x:Str} {pos:Pos} (hN:X.N[i]?=some x:=by rfl) (hv:Vis X.env.scope x:=by first | exact Or.inl rfl | exact Or.inr (Or.inl rfl) | exact Or.inr (Or.inr rfl)) (hd:(x == ("__debug__" : Str))=false:=by decide)
  (hcd:(x == ("__classdict__" : Str))=false:=by decide):PE X (.Name x pos) (JpW i):=Jn2 hN hv hd hcd
end
theorem YG {A B:Prop} (h:B):if false=true then A else B:=by
 rw [if_neg Bool.false_ne_true];exact h
theorem Y1 {A B:Prop} (h:A):if true=true then A else B:=by
 rw [if_pos rfl];exact h
theorem YM {c A B:Prop} [Decidable c] (h1:c→A) (h2:¬ c→B):if c then A else B:=by
 by_cases h:c
 ·rw [if_pos h];exact h1 h
 ·rw [if_neg h];exact h2 h
def Ji (H H':Hp):Prop:=∀ b o,H b=some o→H' b=some o
theorem Ji.refl (H:Hp):Ji H H:=fun _ _ h=>h
theorem Ji.trans {H H1 H2:Hp} (a:Ji H H1) (b:Ji H1 H2):Ji H H2:=fun c o h=>b c o (a c o h)
theorem Ji.free {H H':Hp} (e:Ji H H') {l:Addr} (h:H' l=Option.none):H l=Option.none:=by
 cases q:H l with
 | none=>rfl
 | some o =>
  rw [e l o q] at h;cases h
theorem Ji.seq {K:PySem.W.Frag} {H H':Hp} {a:Addr} {xs:List V} (e:Ji H H') (h:Jz K H a xs):Jz K H' a xs:=by
 rcases h with (h | ⟨o,h⟩) | h
 ·exact .inl (.inl (e _ _ h))
 ·exact .inl (.inr ⟨o,e _ _ h⟩)
 ·exact .inr h
end L2
namespace L2
open PySem PySem.Spec PyProof.Rows
section
variable {X:Cx}
theorem Jr8:Yn X (.builtin "len") (fun xs H Q=>∃ a kvs,xs=[V.ref a]∧H a=some (.dK kvs)∧Q (.int kvs.length) H):=by
 intro pins s σ H xs us Q I r h;obtain ⟨a,kvs,rfl,ha,q⟩:=h;obtain ⟨u,rfl,ru⟩:=JkI r;cases ru;exact Jwy I (.inl ha) fun t s' I'=>⟨.int kvs.length,H,I',⟨t,rfl⟩,q⟩
end
end L2
namespace L2
open PySem PySem.Spec PyProof.Rows
structure Df (K:PySem.W.Frag) (mg:Str→Option Value) (x:Str) (st:Stmt) (ps:List Str) (f:Addr) (fd:FuncData):Prop where
 F:Fun K x x st f fd
 b:JbC K fd ps []
 m:mg x=some (.ref f)
section
variable {X:Cx} {CX:CXT} {k:Nat} {f C:Addr} {fd:FuncData} {ps:List Str} {sp:Sp} {E:XK} {x m:Str} {p pos apos:Pos} {st:Stmt} {e o:Expr} {es:List Expr} {te ta:TE} {t:TA}
theorem Jo (D:Df X.K X.mg x st ps f fd) (G:JL X.prog X.w X.K X.mg X.base CX k f fd ps sp) (hr:Y3 k X.A) (hx:Jan CX X E) (ha:PA X (e :: es) t)
  (hg:Gl X x:=by rfl) (hdb:(x == ("__debug__" : Str))=false:=by decide) (he:starEach (e :: es) X.env=(false,eval e X.env) :: starEach es X.env:=by rfl) (hpl:(backTo pos (starEach es X.env)).any (·.1)=false:=by rfl) :
  PE X (.Call (.Name x p) (e :: es) [] pos) (JtN sp [] E t):=Juw G hr hg D.m D.F.kp D.b .nil hx ha hdb he hpl
def Jqz:V→Value
 | .ty n=>.type n
 | .ref a=>.ref a
 | _=>.none
theorem Jbv:Yn X (.builtin "isinstance") (fun xs H Q=>∃ x c t b,xs=[x,c]∧(∃ n,c=.ty n∨∃ a,c=.ref a)∧Jc5 X.K H x t∧PySem.W.kitOne X.K t (Jqz c)=some b∧Q (.bl b) H):=by
 intro pins s σ H xs us Q I r h;obtain ⟨x,c,t,b,rfl,hc,ty,e,q⟩:=h;cases r with
 | cons r rr =>
  cases rr with
  | cons r' rr =>
   cases rr;rename_i u u';have e':u'=Jqz c:=by
    obtain ⟨n,rfl | ⟨a,rfl⟩⟩:=hc
    ·exact r'
    ·exact r'
   subst e';exact JrK I r ty e fun tk=>⟨.bl b,H,I.tok _,rfl,q⟩
def Jws (S C:String):Option Bool:=if (Value.type S == Value.type C)=true then some true else if PySem.W.kitMeta C=true then (fastBuiltinMro S).map (·.contains (Value.type C)) else none
theorem JiB {K:PySem.W.Frag} {S C:String} {b:Bool} (h:Jws S C=some b):PySem.W.kitOne K (.type S) (.type C)=some b:=h
theorem JvP {K:PySem.W.Frag}:PySem.W.kitOne K (.type "int") (.type "int")=some true:=JiB (by decide +kernel)
theorem JvQ {K:PySem.W.Frag}:PySem.W.kitOne K (.type "int") (.type "bool")=some false:=JiB (by decide +kernel)
theorem JvO {K:PySem.W.Frag}:PySem.W.kitOne K (.type "int") (.type "str")=some false:=JiB (by decide +kernel)
theorem JrF {K:PySem.W.Frag}:PySem.W.kitOne K (.type "str") (.type "str")=some true:=JiB (by decide +kernel)
theorem JrE {K:PySem.W.Frag}:PySem.W.kitOne K (.type "tuple") (.type "tuple")=some true:=JiB (by decide +kernel)
end
def JwV (t:TS):TS:=fun D σ H=>@Jja.rec (fun _=>Prop) (fun nx rt bk ct=>∃ R:St→Hp→Prop,t ⟨R,rt,bk,ct⟩ σ H∧∀ σ' H',R σ' H'→nx σ' H') D
theorem Yb {X:Cx} {st:Stmt} {t:TS} (h:PS X st t):PS X st (JwV t):=by
 intro pins s σ H D I ⟨R,q,n⟩;refine J2 (h pins s σ H _ I q) fun f s1 z=>?_
 cases f with
 | next =>
  obtain ⟨σ',H',I',r⟩:=z;exact ⟨σ',H',I',n _ _ r⟩
 | brk=>exact z
 | cont=>exact z
 | ret u=>exact z
theorem Ji.upd {H:Hp} {p:Addr} {o:HO} (h:H p=none):Ji H (upd H p o):=fun b u e=>by
 rw [Jt (Jw e h)];exact e
theorem Ji.tup {K:PySem.W.Frag} {H H':Hp} {a:Addr} {xs:List V} (e:Ji H H') (h:JQ K H a xs):JQ K H' a xs:=by
 rcases h with (h | ⟨o,h⟩) | h
 ·exact .inl (.inl (e _ _ h))
 ·exact .inl (.inr ⟨o,e _ _ h⟩)
 ·exact .inr h
theorem Zw {c:Bool} {A B:Prop} (hc:c=true) (h:A):if c=true then A else B:=by rw [if_pos hc]; exact h
theorem YQ {c:Bool} {A B:Prop} (hc:c=false) (h:B):if c=true then A else B:=by rw [hc,if_neg Bool.false_ne_true]; exact h
section
variable {X:Cx} {x:Str} {pos:Pos}
theorem Je2 {S:String} (hg:Gl X x) (hm:X.mg x=none) (hv:bootBuiltins x=some (.type S)) (hn:x ≠ "__name__":=by decide) (hd:(x == ("__debug__" : Str))=false:=by decide):PE X (.Name x pos) (tC (.ty S)):=Jux hg hm hv rfl hn hd
theorem ZA {a:Addr} (hg:Gl X x) (hm:X.mg x=some (.ref a)) (hd:(x == ("__debug__" : Str))=false:=by decide):PE X (.Name x pos) (tC (.ref a)):=ZV hg hm rfl hd
end
end L2
namespace L2
open PySem PySem.Spec PyProof.Rows
structure ExC (K:PySem.W.Frag) (C:Addr):Prop where
 ex:PySem.W.excIn K C [.type "ValueError",.type "Exception",.type "BaseException",.type "object"] "ValueError.__new__" = true
 ga:PySem.W.findIn K (.ref C) "__getattribute__" = some (some (.builtin "BaseException.__getattribute__"))
 gt:PySem.W.findIn K (.ref C) "__getattr__" = some none
 cl:PySem.W.findIn K (.ref C) "__class__" = some (some (.builtin "object.__class__"))
 sp:PySem.W.specialIn K (.builtin "object.__class__") "__get__" = some (some (.builtin "getset_descriptor.__get__"))
 tk:PySem.W.takesIn K (.builtin "object.__class__")=some true
 mo:PySem.W.mroIn K C (.type "object")=some true
 mb:PySem.W.mroIn K C (.type "BaseException")=some true
 ci:(PySem.W.clsIn K C).isSome=true
section
variable {prog:Program} {w:World} {A:Around} {E:Value→Shared→Prop} {s:Shared} {K:PySem.W.Frag} {e C:Addr} {oe:Obj}
def JkD (h:Heap) (e C:Addr):Prop:=∃ oe,h.get? e=some oe∧oe.cls=.ref C
theorem JkD.type {h:Heap} {M:Model} (I:JkD h e C):PySem.W.Looks M h (typeOf (.ref e)) (.ref C):=by
 obtain ⟨oe,h1,h2⟩:=I;exact h2 ▸ (PySem.W.Looks.ld h1).andThen .now
theorem Jtt {M:Model} {h:Heap} (XC:ExC K C) (X:K.In h):PySem.W.Looks M h (Builtin.ObjectAttr.find (.ref e) (.ref C) "__class__") (.bind (.builtin "getset_descriptor.__get__") (.builtin "object.__class__")):=by
 have L1:=PySem.W.looks_findIn (M:=M) X XC.cl;have L2:=PySem.W.looks_specialIn (M:=M) X XC.sp;have L3:=PySem.W.looks_takesIn (M:=M) X XC.tk;unfold Builtin.ObjectAttr.find;refine L1.andThen (L2.andThen ?_);exact (show PySem.W.Looks M h (Builtin.ObjectAttr.dataDescriptor? (some (.builtin "object.__class__")) (some (.builtin "getset_descriptor.__get__"))) (some (.builtin "getset_descriptor.__get__",.builtin "object.__class__")) from L3.andThen .now).andThen (PySem.W.Looks.tag .now)
theorem Jtu {tp:Value} {R:Result→Shared→Prop} (XC:ExC K C) (X:K.In s.heap) (I:JkD s.heap e C)
  (h:R (.ok (.ret (.ref C))) s):codeAny (model prog w) A (.call (.builtin "getset_descriptor.__get__") ⟨[.builtin "object.__class__",.ref e,tp],[]⟩) R s:=by
 obtain ⟨hh,g,dr,t,os⟩:=s;have L0:=I.type (M:=model prog w);have L1:=PySem.W.looks_mroIn (M:=model prog w) X XC.mo;refine codeAny_call_builtin PySem.W.KF.slot_gs.plain PySem.W.KF.entry_gs (PySem.W.KF.slot_gs.check _ _ _ _ _ _ _ _ PySem.W.KF.type_class (PySem.W.KF.args_gs _ _ _) ?_);unfold Builtin.«getset_descriptor.__get__» Builtin.Getset_descriptor.descrGet;rw [PySem.W.dga_obj];refine wpAny_bind (wpAny_pure ?_);unfold Builtin.Getset_descriptor.descrGetter Builtin.Getset_descriptor.descrCheckInstance Builtin.Getset_descriptor.descrNameAndClass isInstance;simp only [PySem.W.KF.owner_class]
 repeat lk
 refine ⟨Code.quiet_builtin _ (by decide +kernel),codeAny_builtin PySem.W.KF.entry_class ?_⟩;unfold Builtin.«object.__class__» shownTypeOf
 repeat lk
 exact h
theorem Jo8 {tk:Tok} {R:Result→Shared→Prop} (XC:ExC K C) (X:K.In s.heap) (I:JkD s.heap e C) (h:R (.ok (.ret (.ref C))) s) :
  codeAny (model prog w) A (.call (.builtin "BaseException.__getattribute__") ⟨[.ref e,.str "__class__" tk],[]⟩) R s:=by
 obtain ⟨hh,g,d,t,os⟩:=s;have L0:=I.type (M:=model prog w);have LB:=PySem.W.looks_mroIn (M:=model prog w) X XC.mb;have L1:=Jtt (M:=model prog w) (e:=e) XC X;have hk:builtinKind "BaseException.__getattribute__" = some .slot:=by decide +kernel
 have hsplit:splitId "BaseException.__getattribute__" = some ("BaseException", "__getattribute__"):=by decide +kernel
 have ha:=F.args_bexc_ga (.ref e) (.str "__class__" tk);refine codeAny_call_builtin F.attr_ValueError.ga.plain F.entry_bexc_ga ?_;simp only [checkBuiltinCall,hk,hsplit];refine wpAny_bind ?_;unfold isInstance;refine wpAny_bind (L0.at (LB.at ?_));simp only [Bool.not_true,Bool.false_eq_true,if_false];have hc:wpAny (model prog w) A.in1 (Builtin.«object.__getattribute__» ⟨[.ref e,.str "__class__" tk],[]⟩) (fun fin s'=>match fin with | .done f=>R (.ok f) s' | .again c'=>c'.quiet=true∧codeAny (model prog w) A c' R s') (fun e s'=>R (.error e) s') ⟨hh,g,d,t,os⟩:=by
  unfold Builtin.«object.__getattribute__»;refine wpAny_bind (m:=slotArgs _ _ _) (wpAny_pure ?_);refine wpAny_bind (m:=Builtin.ObjectAttr.attrName _) (wpAny_pure ?_);refine wpAny_bind (L0.at (wpAny_bind (L1.at ?_)));show wpAny _ _ (holding [.builtin "object.__class__"] (call (.builtin "getset_descriptor.__get__") [.builtin "object.__class__",.ref e,.ref C]) >>= ret) _ _ _;refine wpAny_bind (wpAny_holding (wpAny_call (Jtu (s:=⟨hh,g,d,t,os⟩) XC X I ?_)));exact wpAny_pure h
 repeat (any_goals (first | assumption | wp_step))
theorem JrV {Q:Option Value→Shared→Prop} (XC:ExC K C) (X:K.In s.heap) (I:JkD s.heap e C) (h:Q (some (.ref C)) { s with toks:=s.toks + 1 }):wpAny (model prog w) A (getAttr? (.ref e) "__class__") Q E s:=by
 obtain ⟨hh,g,d,t,os⟩:=s;have L0:=I.type (M:=model prog w);have L1:=PySem.W.looks_findIn (M:=model prog w) X XC.ga;have L2:=PySem.W.looks_findIn (M:=model prog w) X XC.gt;have f3:=F.attr_ValueError.ga.bind (.ref e);unfold getAttr? getAttrBy? getAttrBy;refine wpAny_bind (wpAny_mkText (wpAny_bind (wpAny_attempt (wpAny_holding (wpAny_bind (L0.at (wpAny_bind (L1.at ?_))))))));have hx2:(onTheHeap (Value.ref C) && Value.builtin "BaseException.__getattribute__" == Value.builtin "object.__getattribute__")=false:=by
  rw [show (Value.builtin "BaseException.__getattribute__" == Value.builtin "object.__getattribute__")=false by decide +kernel,Bool.and_false]
 dsimp only;rw [hx2,if_neg Bool.false_ne_true];unfold getAttrByItsOwn hookBefore;rw [if_pos (show onTheHeap (Value.ref C)=true from rfl)];refine wpAny_bind (L2.at ?_);refine wpAny_bind (wpAny_attempt (wpAny_holding ?_));unfold callGetattribute boundAndCalled;rw [Bool.false_and,if_neg Bool.false_ne_true];refine wpAny_bind (wpAny_of_eq f3 ?_);refine wpAny_call (Jo8 (s:=⟨hh,g,d,t + 1,os⟩) XC X I ?_);exact PySem.W.handed_on rfl (wpAny_pure h)
theorem Jti (XC:ExC K C):PySem.W.KitX K (.ref e) (.ref C) (fun h=>JkD h e C) where
 ty:=fun _ _ _ I=>I.type
 it:=fun _ _ X _=>by
  obtain ⟨cd,hc⟩:=Option.isSome_iff_exists.mp XC.ci;unfold PySem.W.clsIn at hc;split at hc
  ·rename_i c' d' cd' sl' ho;intro A' Q' E' s' k q;unfold isType loadHead;exact wpAny_bind (wpAny_loadPart (k _ _ (X _ _ ho)) (wpAny_pure q))
  ·cases hc
 ne:=fun h tp dd its n sl X htp=>by
  obtain ⟨cd,hc⟩:=Option.isSome_iff_exists.mp XC.ci;refine Bool.eq_false_iff.mpr fun q=>?_
  have e:C=tp:=Value.ref.inj (beq_iff_eq.mp q);subst e;unfold PySem.W.clsIn at hc;split at hc
  ·rename_i c' d' cd' sl' ho;have z:=(X _ _ ho).symm.trans htp;cases z
  ·cases hc
 ca:=fun X I k=>JrV XC X I k
end
structure JqH (P:Program) (w:World) (outer:List Env) (H:Hp) (h:Heap) (ea C:Addr) (B:Heap) (H':Hp) (h':Heap):Prop where
 fly:∃ a0,Heap.FlyingW B outer ea (.ref C) a0 h'
 hok:ZK P w H' B
 keep:∀ b o,h.get? b=some o→H b=none→b∉ZQ outer→B.get? b=some o
 there:∀ b o,h.get? b=some o→b∉ZQ outer→∃ o',B.get? b=some o'
 slot:∀ b o,h.get? b=some o→b∈ZQ outer→∃ sl,h'.get? b=some { o with slots:=sl }
 free:∀ b o,h.get? b=some o→H b=none→H' b=none
 tups:∀ b xs,H b=some (.tup xs)→H' b=some (.tup xs)
 frzs:∀ b o u,H b=some (.frz o u)→H' b=some (.frz o u)
 tbls:∀ b ps,H b=some (.tbl ps)→∃ more,H' b=some (.tbl (ps ++ more))
theorem JqH.un {P:Program} {w:World} {outer:List Env} {H H':Hp} {h h' h'' B:Heap} {ea C:Addr} (F:JqH P w outer H h ea C B H' h') (st:B.StaysIn h'') (sl:∀ b o,h.get? b=some o→b∈ZQ outer→∃ sl,h''.get? b=some { o with slots:=sl }) :
  Un (ZQ outer) [] H H' h h'' where
 keep:=fun b o e n hb _=>st b o (F.keep b o e n hb)
 slot:=fun b o e n hb _=>sl b o e hb
 free:=fun b o e n _=>F.free b o e n
 there:=fun b o e _=>by
  by_cases hb:b∈ZQ outer
  ·obtain ⟨s,q⟩:=sl b o e hb;exact ⟨_,q⟩
  ·obtain ⟨o',q⟩:=F.there b o e hb;exact ⟨o',st b o' q⟩
 tups:=F.tups
 frzs:=F.frzs
 tbls:=F.tbls
theorem Jj7 {h' h'' base:Heap} {l:List Env} (hl:h'.FunFrames base l) (k:h'.UpToSlots h'') {b:Addr} {o:Obj} {sl:Array (Option Value)} (e:h'.get? b=some { o with slots:=sl }) (hb:b∈ZQ l):∃ sl,h''.get? b=some { o with slots:=sl }:=by
 obtain ⟨_,o',ho',hd⟩:=hl.mem hb;rw [e] at ho';cases ho';obtain ⟨s,q⟩:=k b _ e hd;exact ⟨s,q⟩
abbrev Y8 (P:Program) (w:World):CXT:=fun outer H s E e s'=>∃ (ea C:Addr) (B:Heap) (H':Hp),e=.ref ea∧s'.os=s.os∧AllBare s'.gens∧JqH P w outer H s.heap ea C B H' s'.heap∧E (.ref C) none H'
def Jsj (X:Cx) (E:XK):Prop:=∀ (pins:List (Addr×Obj)) (σ:St) (H:Hp) (s:Shared) (ea C:Addr) (vs:List Value) (h':Heap),Jn X pins σ H s→Heap.MadeExcOf s.heap h' ea (.ref C) vs→E (.ref C) none H→X.xe (.ref ea) { s with heap:=h' }
section
variable {P:Program} {w:World} {K:PySem.W.Frag} {mg:Str→Option Value} {base:Heap} {N:List Str} {qual:Str} {sc:Scope} {f:Addr} {cd:Value} {A:Around} {outer:List Env} {s:Shared} {H:Hp} {E:XK}
theorem JbQ:Jsj (ZU (Y8 P w) P w K mg base N qual sc f cd A outer s H E) E:=by
 intro pins σ H1 s1 ea C vs h' I hx q;have hstk:ZQ (ZU (Y8 P w) P w K mg base N qual sc f cd A outer s H E).stack=s.heap.objs.size :: ZQ outer:=rfl;have hin:∀ env∈(ZU (Y8 P w) P w K mg base N qual sc f cd A outer s H E).stack,∀ a,env.frame=some a→a∈ZQ (ZU (Y8 P w) P w K mg base N qual sc f cd A outer s H E).stack:=fun env he a ha=>List.mem_filterMap.mpr ⟨env,he,ha⟩
 have notin:∀ {b:Addr} {o:Obj},s.heap.get? b=some o→b∉ZQ outer→b∉ZQ (ZU (Y8 P w) P w K mg base N qual sc f cd A outer s H E).stack:=fun {b o} e hb hm=>by
  rw [hstk] at hm;rcases List.mem_cons.mp hm with z | z
  ·exact absurd (Heap.lt_size e) (by rw [z]; exact Nat.lt_irrefl _)
  ·exact hb z
 have noex:∀ b:Addr,b∉(ZU (Y8 P w) P w K mg base N qual sc f cd A outer s H E).ex:=fun b z=>absurd (show b∈([]:List Addr) from z) (by simp)
 refine wpAny_leaves_madeW (base:=PySem.W.hideAll s1.heap (ZQ (ZU (Y8 P w) P w K mg base N qual sc f cd A outer s H E).stack)) (h:=s1.heap) I.ok.frames rfl (fun b o e=>PySem.W.of_hideAll _ e) (PySem.W.funFrames_hide I.stack hin) hx fun h'' t x1 x2 x3 x4=>?_
 have hF0:s1.heap.FunFrames base outer:=I.funs;have hF1:h'.FunFrames base outer:=hF0.of_keeps fun b o e _=>⟨o,hx.keeps b o e,rfl⟩
 refine ⟨ea,C,_,H1,rfl,I.os,I.bare,⟨⟨_,x1⟩,fun a o e=>?_,fun b o e n hb=>?_,fun b o e hb=>?_,fun b o e hb=>?_,fun b o e n=>I.base.free b o e n (noex b),I.base.tups,I.base.frzs,I.base.tbls⟩,q⟩
 ·have tin:∀ b u,H1 b=some u→∀ o,s1.heap.get? b=some o→(PySem.W.hideAll s1.heap (ZQ (ZU (Y8 P w) P w K mg base N qual sc f cd A outer s H E).stack)).get? b=some o:=fun b u hu o ho=>PySem.W.hideAll_get _ ho fun hm=>by
   rw [I.stkFree b hm] at hu; cases hu
  refine (I.hok a o e).stay (fun b u hb hq=>?_) (fun _ z=>z) fun _ _ z=>z
  rcases hb with rfl | hb
  ·exact tin _ _ e u hq
  ·exact tin _ _ hb u hq
 ·exact PySem.W.hideAll_get _ (I.base.keep b o e n hb (noex b)) (notin e hb)
 ·obtain ⟨o',e'⟩:=I.base.there b o e (noex b);exact ⟨o',PySem.W.hideAll_get _ e' (notin e hb)⟩
 ·obtain ⟨sl,e1⟩:=I.base.slot b o e (I.ok.frf b hb) hb (noex b);exact Jj7 hF1 x4 (hx.keeps _ _ e1) hb
theorem Y4:Jan (Y8 P w) (ZU (Y8 P w) P w K mg base N qual sc f cd A outer s H E) E:=by
 intro pins σ H1 s1 e s' I hq;obtain ⟨ea,C,B,H2,rfl,os,bare,fl,q⟩:=hq;have hstk:ZQ (ZU (Y8 P w) P w K mg base N qual sc f cd A outer s H E).stack=s.heap.objs.size :: ZQ outer:=rfl;have sub:∀ {b:Addr},b∈ZQ outer→b∈ZQ (ZU (Y8 P w) P w K mg base N qual sc f cd A outer s H E).stack:=fun hb=>by rw [hstk]; exact List.mem_cons_of_mem _ hb
 have notin:∀ {b:Addr} {o:Obj},s.heap.get? b=some o→b∉ZQ outer→b∉ZQ (ZU (Y8 P w) P w K mg base N qual sc f cd A outer s H E).stack:=fun {b o} e hb hm=>by
  rw [hstk] at hm;rcases List.mem_cons.mp hm with z | z
  ·exact absurd (Heap.lt_size e) (by rw [z]; exact Nat.lt_irrefl _)
  ·exact hb z
 have noex:∀ b:Addr,b∉(ZU (Y8 P w) P w K mg base N qual sc f cd A outer s H E).ex:=fun b z=>absurd (show b∈([]:List Addr) from z) (by simp)
 obtain ⟨a0,fly⟩:=fl.fly;refine wpAny_leaves_onW I.ok.frames rfl fly fun h'' x1 x2=>?_
 refine ⟨ea,C,B,H2,rfl,os.trans I.os,bare,⟨⟨_,x1⟩,fl.hok,fun b o e n hb=>?_,fun b o e hb=>?_,fun b o e hb=>?_,fun b o e n=>?_,fun b xs e=>fl.tups b xs (I.base.tups b xs e),fun b o u e=>fl.frzs b o u (I.base.frzs b o u e),fun b ps e=>?_⟩,q⟩
 ·exact fl.keep b o (I.base.keep b o e n hb (noex b)) (I.base.free b o e n (noex b)) (notin e hb)
 ·obtain ⟨o',e'⟩:=I.base.there b o e (noex b);exact fl.there b o' e' (notin e hb)
 ·obtain ⟨sl,e1⟩:=I.base.slot b o e (I.ok.frf b hb) hb (noex b);obtain ⟨sl',e2⟩:=fl.slot b _ e1 (sub hb);exact Jj7 fly.2.2.1 x2 e2 (sub hb)
 ·obtain ⟨o',e'⟩:=I.base.there b o e (noex b);exact fl.free b o' e' (I.base.free b o e n (noex b))
 ·obtain ⟨m1,e1⟩:=I.base.tbls b ps e;obtain ⟨m2,e2⟩:=fl.tbls b _ e1;exact ⟨m1 ++ m2,by rw [e2,Array.append_assoc]⟩
theorem Fun.ok1 {x:Str} {st:Stmt} {fd:FuncData} {ps:List Str} {k:Nat} {sp:Sp} (F:Fun K x qual st f fd) (S:Ju N ps (Jl st)) (len:∀ vs H Q E,sp vs H Q E→vs.length=ps.length)
  (hbody:∀ (cdv:Value) (A:Around) (outer:List Env) (s:Shared) (H:Hp) (vs:List V) (Q:VK) (E:XK),Y3 k (A.deeper (envOfC qual (Jl st) s.heap.objs.size f cdv))→sp vs H Q E →
   ∃ t,PSs (ZU (Y8 P w) P w K mg base N qual (Jl st) f cdv A outer s H E) (Jb1 st) t∧t { nx:=fun _ H'=>Q .non H',rt:=Q } (YN N vs) H):JL P w K mg base (Y8 P w) (k + 1) f fd ps sp:=by
 obtain ⟨oc,od,kV,doc,pm,an,cdv,ct,osl,rfl,lk,hcd⟩:=F.ex;exact Jt0 lk hcd S len fun A outer s H vs Q E hr hsp=>hbody cdv A outer s H vs Q E hr hsp
end
section
variable {X:Cx} {x:Str} {C:Addr} {e:Expr} {te:TE} {np cpos pos:Pos} {E:XK}
def Jny (C:Addr) (E:XK) (te:TE):TS:=fun D σ H=>te σ H fun v H'=>E (.ref C) none H'
theorem Juy {K:PySem.W.Frag} {h:Heap} {bmB:List Value} {newId:String} (X:K.In h) (q:PySem.W.excIn K C bmB newId=true):OwnCls x C bmB newId (fun _=>some (.ref C)) h:=by
 refine ⟨rfl,?_⟩;unfold PySem.W.excIn at q;split at q
 ·rename_i dd cd sl ho;split at q
  ·rename_i C' bm k0 k1 k2 k3 n k5 hm hs;simp only [Bool.and_eq_true,beq_iff_eq,Bool.not_eq_true'] at q;obtain ⟨⟨⟨⟨⟨rfl,rfl⟩,hdel⟩,ht⟩,hok⟩,hni⟩:=q;obtain ⟨nm,bs,mro,ns,qn,hd,sn,sub,ab,col,del⟩:=cd;dsimp only at hm hdel hok hni;subst hm hdel;have hsl:sl=#[k0,k1,k2,k3,some (.builtin n),k5]:=by
    obtain ⟨l⟩:=sl;simp only at hs;rw [hs]
   subst hsl;exact ⟨bm,ns,nm,qn,bs,hd,sn,sub,ab,col,dd,k0,k1,k2,k3,k5,_,X _ _ ho,.of_isNs (PySem.W.isNs_of_in X hok),PySem.W.nsMap_none_of_in X hok hni,PySem.W.tail_of_in X ht⟩
  ·cases q
 ·cases q
theorem JaV (XC:ExC X.K C) (hm:X.mg x=some (.ref C)) (hr:Jsj X E) (he:PE X e te) (hc:X.calm=true:=by rfl) (hg:Gl X x:=by rfl) (hd:(x == ("__debug__" : Str))=false:=by decide)
  (hs:starEach [e] X.env=[(false,eval e X.env)]:=by rfl):PS X (.Raise (some (.Call (.Name x np) [e] [] cpos)) none pos) (Jny C E te):=by
 intro pins s σ H D I h;obtain ⟨tl,N,nm,q,bs,hdct,sn,sub,ab,col,dd,k0,k1,k2,k3,k5,mN,hC,hN,hni,T⟩:=(Juy (x:=x) I.mod.kin XC.ex).obj;refine wpAny_Raise_call_subU (C:=C) (nm:=nm) (q:=q) (N:=N) (bs:=bs) (bm:=tl) (hdct:=hdct) (sn:=sn) (sub:=sub) (ab:=ab) (col:=col) (dd:=dd) (k0:=k0) (k1:=k1) (k2:=k2) (k3:=k3) (k5:=k5) (mN:=mN)
  F.excBase_ValueError F.excBase_ValueError.hasB F.excBase_ValueError (T.hasType F.excBase_ValueError.hasBase) (I.ok.hd hc) (by rw [hs]; rfl) hni (JeC I hg hm ⟨rfl,?_⟩ hd)
 rw [hs];refine Calls.evalArgs_plain (Calls.spliced_cons (J2 (he pins s σ H _ I h) fun u s1 ⟨v,H1,I1,r1,q1⟩=>?_));exact Calls.spliced_nil ⟨rfl,by show 1≤sizeLine; decide,I1.bk _ _ hC,hN.keeps I1.bk,T.keeps I1.bk,fun h' ea hx=>hr pins σ H1 s1 ea C _ h' I1 hx q1⟩
end
theorem YF.at_ {P:Program} {w:World} {H:Hp} {h:Heap} {a:Addr} {o:HO} (x:YF P w H h a o):∃ ob,h.get? a=some ob:=by
 cases o with
 | lst xs=>obtain ⟨_,_,_,_,e⟩:=x; exact ⟨_,e⟩
 | tup xs=>obtain ⟨_,_,_,ob,e,_⟩:=x; exact ⟨_,e⟩
 | dK kvs=>obtain ⟨_,_,_,_,o,_,_,e,_⟩:=x; exact ⟨_,e⟩
 | dT kvs=>obtain ⟨_,_,_,_,o,_,_,e,_⟩:=x; exact ⟨_,e⟩
 | set S n=>obtain ⟨o,_,_,_,e,_⟩:=x; exact ⟨_,e⟩
 | ins C dx fs=>obtain ⟨_,_,_,e,_⟩:=x; exact ⟨_,e⟩
 | own y=>obtain ⟨_,e⟩:=x; exact ⟨_,e⟩
 | xd fs=>obtain ⟨_,⟨_,_,_,e,_⟩,_⟩:=x; exact ⟨_,e⟩
 | rng lo hi=>obtain ⟨_,_,_,e⟩:=x; exact ⟨_,e⟩
 | frz ob u=>obtain ⟨e,_⟩:=x; exact ⟨_,e⟩
 | tbl ps=>exact ⟨_,(show h.get? a=some _ from x)⟩
 | met f y=>exact ⟨_,(show h.get? a=some _ from x)⟩
 | ext φ=>obtain ⟨_,⟨_,e⟩,_⟩:=x; exact ⟨_,e⟩
section
variable {X:Cx} {pins:List (Addr×Obj)} {σ:St} {H:Hp} {s:Shared}
theorem Jf4 {M:Model} {A:Around} {E:Value→Shared→Prop} {i:Nat} {x:Str} {pos:Pos} {Q:Unit→Shared→Prop} (I:Jn X pins σ H s) (hN:X.N.Nodup) (hi:X.N[i]?=some x) (hk:X.env.scope.names.lookup x=some .local)
  (h:∀ s',Jn X pins (σ.set i none) H s'→Q () s'):wpAny M A (do bindName X.env x .none; unbindBehindTheSuite X.env x pos) Q E s:=by
 obtain ⟨m,hn,hl⟩:=id I.loc;have hcls:(X.env.scope.kind == .class || (X.env.scope.kind == .module && X.env.locals != X.env.globals))=false:=by rw [I.ok.kind]; rfl
 have hiσ:i < σ.length:=by rw [I.len]; exact (List.getElem?_eq_some_iff.mp hi).1
 have cne:=I.cne;have tracked:∀ {a:Addr} {h':Heap},(∃ o,s.heap.get? a=some o∧H a=none)→Heap.SameBut a s.heap h'→ZK X.prog X.w H h':=fun {a h'} ha hs b ob e=>by
  obtain ⟨_,_,hfree⟩:=ha;refine (I.hok b ob e).stay (fun c w' hc q=>(hs.2 c ?_).trans q) (fun _ q=>q) fun _ _ q=>q
  rintro rfl;rcases hc with rfl | hc
  ·rw [hfree] at e; cases e
  ·rw [hfree] at hc; cases hc
 refine wpAny_nameGoes_keeps hk hn hcls (fun h' v0 hn' hs=>?_);obtain ⟨oL,_,_,hoL,_⟩:=id hn;refine h _ ⟨I.ok,I.os,I.bare,⟨fun b o e n hb hx=>?_,fun b o e n hb hx=>?_,I.base.free,fun b o e hx=>?_,I.base.tups,I.base.frzs,I.base.tbls⟩,⟨_,hn',fun j y v' e1 e2 e3=>?_⟩,fun y c e=>?_,I.free,I.freeC,fun p hp=>?_,tracked ⟨oL,hoL,I.free⟩ hs,by simpa using I.len⟩
 ·exact (hs.2 b (Nat.ne_of_lt (Nat.lt_of_lt_of_le (Heap.lt_size e) I.ok.above))).trans (I.base.keep b o e n hb hx)
 ·obtain ⟨sl,e1⟩:=I.base.slot b o e n hb hx;exact ⟨sl,(hs.2 b (Nat.ne_of_lt (Nat.lt_of_lt_of_le (Heap.lt_size e) I.ok.above))).trans e1⟩
 ·obtain ⟨o',e1⟩:=I.base.there b o e hx;exact ⟨o',(hs.2 b (Nat.ne_of_lt (Nat.lt_of_lt_of_le (Heap.lt_size e) I.ok.above))).trans e1⟩
 ·by_cases hj:j=i
  ·subst hj;rw [List.getElem?_set_self hiσ] at e2;cases e2
  ·rw [List.getElem?_set_ne (Ne.symm hj)] at e2;obtain ⟨u',r',q⟩:=hl j y v' e1 e2 e3;refine ⟨u',r',?_⟩;rcases q with ⟨k,e⟩ | ⟨k,c,e,z⟩
   ·refine .inl ⟨k,?_⟩;have:y≠x:=fun e=>hj (Jkm hN e1 (e ▸ hi))
    simp [this,e]
   ·exact .inr ⟨k,c,e,z.sameBut hs (cne y c e)⟩
 ·obtain ⟨w',z⟩:=I.cell y c e;exact ⟨w',z.sameBut hs (cne y c e)⟩
 ·obtain ⟨e,n,ne,nf,d⟩:=I.pin p hp;exact ⟨(hs.2 p.1 ne).trans e,n,ne,nf,d⟩
theorem Jn.turn_to {A:Around} {calm:Bool} {pn pins':List (Addr×Obj)} {xe:Value→Shared→Prop} {σ':St} (I:Jn X pins σ H s) (hf:A.frames=X.A.frames) (hc:calm=true→A.handled=none) (hp:∀ p∈pn ++ pins',p∈X.pn ++ pins∨(s.heap.get? p.1=some p.2∧H p.1=none∧p.1≠X.env.locals∧p.1∉X.fs∧∀ v,p.2.data≠.cell v))
  (hl:σ'.length=σ.length) (wk:∀ (i:Nat) v,σ'[i]?=some (some v)→σ[i]?=some (some v)):Jn { X with A:=A,calm:=calm,pn:=pn,xe:=xe } pins' σ' H s :=
 ⟨⟨I.ok.mod,I.ok.kind,I.ok.glob,I.ok.blt,I.ok.above,I.ok.inj,I.ok.has,I.ok.cab,hc,hf.trans I.ok.frames,I.ok.stk,I.ok.exf,I.ok.bs,I.ok.bsz,I.ok.noex,I.ok.exfs,I.ok.funs,I.ok.frf⟩,I.os,I.bare,I.base,
  let ⟨m,hn,hl'⟩:=I.loc; ⟨m,hn,fun i x v e1 e2 e3=>hl' i x v e1 (wk i v e2) e3⟩,I.cell,I.free,I.freeC,fun p q=>(hp p q).elim (fun z=>I.pin p z) fun z=>z,I.hok,hl.trans I.len⟩
end
def JwR (K:PySem.W.Frag) (Ch:Addr) (i n:Nat) (E:XK) (tb:TS) (th:Addr→Addr→TS):TS:=fun D σ H=>tb D σ H∧∀ ea C H',E (.ref C) none H'→PySem.W.exmOne K (.ref C) (.ref Ch)=some true ∧
 th ea C { nx:=fun σ' H''=>D.nx (σ'.set i none) H'',rt:=D.rt,bk:=fun σ' H''=>D.bk (σ'.set i none) H'',ct:=fun σ' H''=>D.ct (σ'.set i none) H'' } ((List.replicate n none).set i (some (.ref ea))) H'
theorem JvB {X:Cx} {body:List Stmt} {x nm:Str} {i:Nat} {Ch:Addr} {h0:Stmt} {hs:List Stmt} {tb:TS} {th:Addr→Addr→TS} {np hpos pos:Pos} (E:XK) (hN:X.N.Nodup) (hm:X.mg x=some (.ref Ch)) (hi:X.N[i]?=some nm)
  (hb:∀ (pn:List (Addr×Obj)) (xe:Value→Shared→Prop),Jan (Y8 X.prog X.w) { X with A:=X.A,calm:=X.calm,pn:=pn,xe:=xe } E→PSs { X with A:=X.A,calm:=X.calm,pn:=pn,xe:=xe } body tb)
  (hh:∀ (ea C:Addr) (oe:Obj) (A:Around) (pn:List (Addr×Obj)),(ea,oe)∈pn→oe.cls=.ref C→PSs { X with A:=A,calm:=false,pn:=pn,xe:=fun _ _=>False } (h0 :: hs) (th ea C))
  (hl:X.env.scope.names.lookup nm=some .local:=by rfl) (hg:Gl X x:=by rfl) (hst:X.stack=X.env :: X.outer:=by rfl) (hfr:X.env.frame=some X.env.locals:=by rfl) (hd:(x == ("__debug__" : Str))=false:=by decide) :
  PS X (.Try body [.ExceptHandler (some (.Name x np)) (some nm) (h0 :: hs) hpos] [] [] pos) (JwR X.K Ch i X.N.length E tb th):=by
 intro pins s σ H D I ⟨hbq,hhq⟩;let XE:Value→Shared→Prop:=fun e s'=>∃ pins' σ' H1 s1,Jn { X with A:=X.A,calm:=X.calm,pn:=X.pn ++ pins,xe:=fun _ _=>False } pins' σ' H1 s1∧Y8 X.prog X.w X.stack H1 s1 E e s'
 have I1:Jn { X with A:=X.A,calm:=X.calm,pn:=X.pn ++ pins,xe:=XE } [] σ H s:=I.turn_to rfl I.ok.hd (fun p hp=>.inl (by simpa using hp)) rfl fun _ _ e=>e
 have hpass:Jan (Y8 X.prog X.w) { X with A:=X.A,calm:=X.calm,pn:=X.pn ++ pins,xe:=XE } E:=fun pins' σ' H1 s1 e s' I' hq=>⟨pins',σ',H1,s1,I'.turn_to (X:={ X with A:=X.A,calm:=X.calm,pn:=X.pn ++ pins,xe:=XE }) rfl I'.ok.hd (fun p hp=>.inl hp) rfl fun _ _ e=>e,hq⟩
 have back:∀ {A:Around} {calm:Bool} {pn:List (Addr×Obj)} {xe:Value→Shared→Prop} {σ':St} {H':Hp} {s':Shared},(∀ p∈X.pn ++ pins,p∈pn ++ [])→Jn { X with A:=A,calm:=calm,pn:=pn,xe:=xe } [] σ' H' s'→Jn X pins σ' H' s':=fun hp I' =>
  ⟨I.ok,I'.os,I'.bare,I'.base,I'.loc,I'.cell,I'.free,I'.freeC,fun p q=>I'.pin p (hp p q),I'.hok,I'.len⟩
 refine wpAny_Try_except (wpAny_mono (hb _ _ hpass [] s σ H D I1 hbq) (fun f s1 z=>?_) fun e s1 z=>?_)
 ·have bk:=fun {σ' H' s'}=>back (A:=X.A) (calm:=X.calm) (pn:=X.pn ++ pins) (xe:=XE) (σ':=σ') (H':=H') (s':=s') (fun p hp=>by simpa using hp)
  cases f with
  | next=>obtain ⟨σ',H',I',q⟩:=z; exact wpAny_execs_nil ⟨σ',H',bk I',q⟩
  | brk=>obtain ⟨σ',H',I',q⟩:=z; exact ⟨σ',H',bk I',q⟩
  | cont=>obtain ⟨σ',H',I',q⟩:=z; exact ⟨σ',H',bk I',q⟩
  | ret u=>obtain ⟨v,σ',H',I',r,q⟩:=z; exact ⟨v,σ',H',bk I',r,q⟩
 ·obtain ⟨pins',σ',H1,s0,I',ea,C,B,H2,rfl,os,bare,fl,q⟩:=z;obtain ⟨hexm,hth⟩:=hhq ea C H2 q;obtain ⟨a0,fly⟩:=fl.fly;have fly':Heap.FlyingW B (X.env :: X.outer) ea (.ref C) a0 s1.heap:=by rw [← hst]; exact fly
  refine wpAny_looks_onW (env:=X.env) (outer:=X.outer) (by rw [← hst]; exact I.ok.frames) hfr fly' fun h4 held4 sm4=>?_
  refine wpAny_landsW held4 fun h5 fly5 sm5=>?_
  have mk:∀ {h6:Heap} {t:Nat},Heap.FlyingW B (X.env :: X.outer) ea (.ref C) a0 h6→s1.heap.UpToSlots h6→Jn { X with A:=X.A,calm:=X.calm,pn:=X.pn ++ pins,xe:=fun _ _=>False } pins' σ' H2 { s1 with heap:=h6,toks:=t }:=fun {h6 t} f6 u6=>by
   refine I'.call' (s':={ s1 with heap:=h6,toks:=t }) (ch:=[]) os (fl.un f6.1 fun b o e hb=>?_) (fl.hok.kept fun b u e=>f6.1 b u e) bare (fun b z=>nomatch z);obtain ⟨sl,e1⟩:=fl.slot b o e hb;exact Jj7 fly.2.2.1 u6 e1 hb
  have I5:Jn { X with A:=X.A.mark (some (.ref ea)),calm:=false,pn:=X.pn ++ pins,xe:=fun _ _=>False } [] (List.replicate X.N.length none) H2 { s1 with heap:=h5 } :=
   (mk (t:=s1.toks) fly5 (sm4.trans sm5)).turn_to rfl (fun z=>by cases z) (fun p hp=>.inl (List.mem_append_left _ (by simpa using hp))) (by rw [List.length_replicate]; exact I'.len.symm) fun j v e=>by
    rw [List.getElem?_replicate] at e;split at e <;> cases e
  refine wpAny_handleBy_cons (codeAny_handlers_test (JeC I5 hg hm ?_ hd)) (by intro q; cases q);obtain ⟨ob,hob,hobc⟩:=fly5.there;refine PySem.W.exm_one (M:=model X.prog X.w) I5.kIn (JkD.type ⟨ob,hob,hobc⟩) hexm _ _ _ _ (fun _ _ e=>e) ?_;refine codeAny_handlers_suite_as (lands_againW fly5 fun h6 fly6 sm6=>?_);obtain ⟨oe,ws,hoe,hoec,hoed,hoe0⟩:=fly6.first;have u6:=(sm4.trans sm5).trans sm6;have n2:H2 ea=none:=by
   cases z:H2 ea with
   | none=>rfl
   | some u =>
    obtain ⟨ob,zz⟩:=(fl.hok ea u z).at_;rw [fly6.2.1] at zz; cases zz
  have nL:ea≠X.env.locals:=fun z=>by
   obtain ⟨_,⟨L,o,hf,_,ho,hdd⟩,_⟩:=fly6.2.2.1;rw [hfr] at hf; cases hf;rw [← z,hoe] at ho; cases ho;exact hdd _ hoed
  have nF:ea∉X.fs:=fun z=>by
   obtain ⟨_,o,ho,hdd⟩:=fly6.2.2.1.2.2.mem z;rw [hoe] at ho; cases ho;exact hdd _ hoed
  have I6:Jn { X with A:=X.A.mark (some (.ref ea)),calm:=false,pn:=X.pn ++ pins ++ [(ea,oe)],xe:=fun _ _=>False } [] (List.replicate X.N.length none) H2 { s1 with heap:=h6 } :=
   (mk (t:=s1.toks) fly6 u6).turn_to rfl (fun z=>by cases z) (fun p hp=>by
    rw [List.append_nil] at hp;rcases List.mem_append.mp hp with z | z
    ·exact .inl (List.mem_append_left _ z)
    ·have z':p=(ea,oe):=by simpa using z
     subst z';exact .inr ⟨hoe,n2,nL,nF,fun v z=>by rw [hoed] at z; cases z⟩) (by rw [List.length_replicate]; exact I'.len.symm) fun j v e=>by
    rw [List.getElem?_replicate] at e;split at e <;> cases e
  refine Jj5 (X:={ X with A:=X.A.mark (some (.ref ea)),calm:=false,pn:=X.pn ++ pins ++ [(ea,oe)],xe:=fun _ _=>False }) I6 hN hi (Or.inl hl) (v:=.ref ea) rfl (fun s7 I7=>?_) (Or.inr hl);have run:=hh ea C oe (X.A.mark (some (.ref ea))) (X.pn ++ pins ++ [(ea,oe)]) (by simp) hoec [] s7 _ H2 _ I7 hth;refine wpAny_mono run (fun f s8 z=>?_) fun _ _ z=>z.elim
  have bk:=fun {σ' H' s'}=>back (A:=X.A.mark (some (.ref ea))) (calm:=false) (pn:=X.pn ++ pins ++ [(ea,oe)]) (xe:=fun _ _=>False) (σ':=σ') (H':=H') (s':=s') (fun p hp=>by rw [List.append_nil]; exact List.mem_append_left _ hp)
  cases f with
  | next=>obtain ⟨σ8,H8,I8,q8⟩:=z; exact Jf4 (bk I8) hN hi hl fun s9 I9=>⟨_,H8,I9,q8⟩
  | brk=>obtain ⟨σ8,H8,I8,q8⟩:=z; exact Jf4 (bk I8) hN hi hl fun s9 I9=>⟨_,H8,I9,q8⟩
  | cont=>obtain ⟨σ8,H8,I8,q8⟩:=z; exact Jf4 (bk I8) hN hi hl fun s9 I9=>⟨_,H8,I9,q8⟩
  | ret u=>obtain ⟨v8,σ8,H8,I8,r8,q8⟩:=z; exact Jf4 (bk I8) hN hi hl fun s9 I9=>⟨v8,_,H8,I9,r8,q8⟩
def Jca (K:PySem.W.Frag) (ea C:Addr):List V→Hp→VK→Prop:=fun xs H Q=>∃ c b,xs=[.ref ea,c]∧(∃ n,c=.ty n∨∃ a,c=.ref a)∧ExC K C∧PySem.W.kitOne K (.ref C) (Jqz c)=some b∧Q (.bl b) H
theorem YZ {X:Cx} {ea C:Addr} {oe:Obj} (hp:(ea,oe)∈X.pn) (hc:oe.cls=.ref C):Yn X (.builtin "isinstance") (Jca X.K ea C):=by
 intro pins s σ H xs us Q I r h;obtain ⟨c,b,rfl,hcc,XC,e,q⟩:=h;cases r with
 | cons r rr =>
  cases rr with
  | cons r' rr =>
   cases rr;rename_i u u';have e':u'=Jqz c:=by
    obtain ⟨n,rfl | ⟨a,rfl⟩⟩:=hcc
    ·exact r'
    ·exact r'
   subst e';cases (show u=Value.ref ea from r);obtain ⟨h1,_⟩:=I.pin (ea,oe) (List.mem_append_left _ hp);exact PySem.W.kia_one (Jti XC) I.kIn ⟨oe,h1,hc⟩ e (fun z=>nomatch z) fun tk=>⟨.bl b,H,I.tok _,rfl,q⟩
end L2
namespace L2
open PySem PySem.Spec PyProof.Rows
theorem PE.imp {X:Cx} {e:Expr} {t t':TE} (h:PE X e t) (i:∀ σ H Q,t' σ H Q→t σ H Q):PE X e t':=fun pins s σ H Q I q=>h pins s σ H Q I (i _ _ _ q)
theorem PS.imp {X:Cx} {e:Stmt} {t t':TS} (h:PS X e t) (i:∀ D σ H,t' D σ H→t D σ H):PS X e t':=fun pins s σ H D I q=>h pins s σ H D I (i _ _ _ q)
theorem Jls {sc:Scope} {env:Env} (h:∀ y∈sc.names,y.2=.free→∃ c,env.cells.lookup y.1=some c) :
  ∃ cl,closureFor sc env=pure cl∧(∀ x c,cl.lookup x=some c→env.cells.lookup x=some c)∧∀ y∈sc.names,y.2=.free→∃ c,cl.lookup y.1=some c:=by
 have gen:∀ (names:List (Str×NameKind)) (acc:List (Str×Addr)),(∀ y∈names,y.2=.free→∃ c,env.cells.lookup y.1=some c)→(∀ x c,acc.lookup x=some c→env.cells.lookup x=some c) →
   ∃ cl,(forIn names acc fun x cs=>(do
    if x.2 == NameKind.free then
     let c ← cellOf env x.1
     pure (ForInStep.yield ((x.1,c) :: cs))
    else pure (ForInStep.yield cs)):Sem (List (Str×Addr)))=pure cl∧(∀ x c,cl.lookup x=some c→env.cells.lookup x=some c)∧(∀ x c,acc.lookup x=some c→∃ c,cl.lookup x=some c)∧∀ y∈names,y.2=.free→∃ c,cl.lookup y.1=some c:=by
  intro names
  induction names with
  | nil=>intro acc _ ha; exact ⟨acc,rfl,ha,fun x c e=>⟨c,e⟩,fun y hy=>nomatch hy⟩
  | cons n r ih =>
   intro acc hn ha;obtain ⟨x,k⟩:=n;by_cases hk:k=.free
   ·subst hk;obtain ⟨c,hc⟩:=hn (x,.free) List.mem_cons_self rfl;obtain ⟨cl,e1,e2,e3,e4⟩:=ih ((x,c) :: acc) (fun y hy=>hn y (List.mem_cons_of_mem _ hy)) (fun y d e=>by
     rw [List.lookup_cons] at e;split at e
     ·rename_i q;cases e;rw [beq_iff_eq.mp q];exact hc
     ·exact ha y d e)
    refine ⟨cl,?_,e2,fun y d e=>?_,fun y hy hf=>?_⟩
    ·rw [List.forIn_cons];have z:cellOf env x=pure c:=by unfold cellOf; rw [hc]
     simp only [beq_self_eq_true,if_true,z,pure_bind];exact e1
    ·refine e3 y (if y == x then c else d) ?_;rw [List.lookup_cons];split
     ·rename_i q; simp [q]
     ·rename_i q; simp [q,e]
    ·rcases List.mem_cons.mp hy with rfl | hy
     ·exact e3 x c (by rw [List.lookup_cons]; simp)
     ·exact e4 y hy hf
   ·obtain ⟨cl,e1,e2,e3,e4⟩:=ih acc (fun y hy=>hn y (List.mem_cons_of_mem _ hy)) ha;refine ⟨cl,?_,e2,e3,fun y hy hf=>?_⟩
    ·rw [List.forIn_cons];have z:(k == NameKind.free)=false:=by simpa using hk
     simp only [z,Bool.false_eq_true,if_false,pure_bind];exact e1
    ·rcases List.mem_cons.mp hy with rfl | hy
     ·exact absurd hf hk
     ·exact e4 y hy hf
 obtain ⟨cl,e1,e2,_,e4⟩:=gen sc.names [] h (fun x c e=>by simp at e);refine ⟨cl,?_,e2,e4⟩;unfold closureFor;rw [← bind_pure (pure cl:Sem (List (Str×Addr))),← e1]
def Y7 (X:Cx) (Nc:List Str) (sc:Scope) (cl:List (Str×Addr)) (fp:List Addr) (s:Shared) (H:Hp):Cx :=
 { X with N:=Nc,s₀:=s,H₀:=H,env:=compEnvC sc cl s.heap.objs.size X.env,outer:=X.stack,stack:=X.stack,ex:=fp,fn:=fun _=>false,pn:=[],xe:=fun _ _=>False }
def Ji2 (js:List Nat) (σ:St):St:=js.map fun j=>(σ[j]?).join
def Jjs (N:List Str) (names:List (Str×NameKind)) (nt:Nat) (Nc:List Str) (sc:Scope) (js:List Nat):Bool :=
 decide Nc.Nodup && decide (Nc.length=nt + js.length) && ((Nc.drop nt).zip js).all (fun p=>N[p.2]? == some p.1 && sc.names.lookup p.1 == some NameKind.free && names.lookup p.1 == some NameKind.cell) &&
  sc.names.all (fun y=>(y.2 == NameKind.local && sc.names.lookup y.1 == some NameKind.local) || (y.2 == NameKind.free && names.lookup y.1 == some NameKind.cell) || (y.2 != NameKind.local && y.2 != NameKind.free && y.2 != NameKind.cell)) && sc.kind == .function
def Jgd (σ σ':St):Prop:=σ'.length=σ.length∧∀ (i:Nat) v,σ[i]?=some (some v)→σ'[i]?=some (some v)
theorem Jgd.refl (σ:St):Jgd σ σ:=⟨rfl,fun _ _ e=>e⟩
theorem Jgd.set {σ σ':St} {i:Nat} {x:Option V} (h:Jgd σ σ') (e:σ[i]?=some none):Jgd σ (σ'.set i x):=by
 refine ⟨by rw [List.length_set]; exact h.1,fun j v q=>?_⟩;by_cases hj:j=i
 ·subst hj; rw [e] at q; cases q
 ·rw [List.getElem?_set_ne (Ne.symm hj)]; exact h.2 j v q
def Jey (J:It) (g:TG) (tc:TT) (te:TE) (σc:St) (D:Addr) (H1:Hp) (Q:Hp→Prop):Prop :=
 ∃ W:Nat→Nat→List V→Hp→Prop,(∃ m,W 0 m [] (upd H1 D (.lst [])))∧∀ i m ys H,W i m ys H→H D=some (.lst ys) ∧
  ((J.stop i H∧Q H)∨(J.go i H∧∃ N:List V→Hp→Prop,(∀ zs H',N zs H'→∃ m',m' < m∧W (i + 1) m' zs H')∧∀ x H',J.yld i H x H'→g x σc H' fun σ2 H2=>Jgd σc σ2 ∧
   tc σ2 H2 fun b H3=>if b=true then te σ2 H3 fun v H4=>H4 D=some (.lst ys)∧ys.length < sizeLine∧N (ys ++ [v]) (upd H4 D (.lst (ys ++ [v]))) else N ys H3))
def JoM (X:Cx) (ifs:List Expr) (tc:TT):Prop:=∀ (pins:List (Addr×Obj)) (s:Shared) (σ:St) (H:Hp) (Q:Bool→Hp→Prop),Jn X pins σ H s→tc σ H Q →
 wpAny (model X.prog X.w) X.A (forIn ifs true fun c r=>if r=true then do let ok ← isTrue c X.env (eval c X.env); pure (ForInStep.yield ok) else pure (ForInStep.yield r)) (TP X pins σ Q) X.xe s
def JeH:TT:=fun _ H Q=>Q true H
theorem JcS {X:Cx}:JoM X [] JeH:=fun _ _ _ H _ I q=>wpAny_tests_nil ⟨H,I,q⟩
theorem Jjk {X:Cx} {c:Expr} {tc:TT} (h:PT X c tc):JoM X [c] tc:=fun pins s σ H Q I q=>wpAny_tests_one (h pins s σ H Q I q)
theorem Jqy {prog:Program} {w:World} {A:Around} {R:Result→Shared→Prop} {s:Shared} {elt target iter:Expr} {ifs:List Expr} {scope:Scope} {pos:Pos} {it acc:Value} {env:Env} (I:Nat→Shared→Prop)
  (turn:∀ n s,I n s→wpAny (model prog w) A (pyNext it) (fun r s₁=>match r with
   | none=>R (.ok .next) s₁
   | some v=>wpAny (model prog w) A (letOwnedTupleGo target it v) (fun _ s₁'=>wpAny (model prog w) A (assign target env v) (fun _ s₂ =>
     wpAny (model prog w) A (forIn ifs true fun c r=>if r=true then do let ok ← isTrue c env (eval c env); pure (ForInStep.yield ok) else pure (ForInStep.yield r)) (fun ok s₃ =>
      if ok=true then wpAny (model prog w) A (eval elt env) (fun x s₄ =>
       wpAny (model prog w) A (call (.builtin "list.append") [acc,x]) (fun _ s₅=>∃ m,m < n∧I m s₅) (fun _ _=>False) s₄) (fun _ _=>False) s₃
      else ∃ m,m < n∧I m s₃) (fun _ _=>False) s₂) (fun _ _=>False) s₁') (fun _ _=>False) s₁) (fun _ _=>False) s)
  (n:Nat) (h:I n s) :
  codeAny (model prog w) A (.compLoop (.ListComp elt [⟨target,iter,ifs,0⟩] scope pos) 0 it acc env) R s:=by
 refine codeAny_loop rfl I (fun n s hI=>?_) n h;show wpAny _ A ((compTurn (.ListComp elt [⟨target,iter,ifs,0⟩] scope pos) 0 it acc env).onRaise (fun x=>do noteFrame x env; theTreesLotGoes x)) _ _ s;refine wpAny_noted ?_;rw [compTurn_list];refine wpAny_bind (wpAny_standAt (wpAny_bind (wpAny_mono (turn n s hI) (fun r s₁ h₁=>?_) fun _ _ h'=>h'.elim)));cases r with
 | none=>exact wpAny_pure h₁
 | some v =>
  refine wpAny_bind (wpAny_mono h₁ (fun _ s₁' h₁'=>?_) fun _ _ h'=>h'.elim);refine wpAny_bind (wpAny_mono h₁' (fun _ s₂ h₂=>wpAny_bind (wpAny_mono h₂ (fun ok s₃ h₃=>?_) fun _ _ h'=>h'.elim)) fun _ _ h'=>h'.elim);cases ok with
  | false=>exact wpAny_pure ⟨rfl,h₃⟩
  | true =>
   exact wpAny_bind (wpAny_bind (wpAny_mono h₃ (fun x s₄ h₄=>wpAny_bind (wpAny_mono h₄ (fun _ s₅ h₅=>wpAny_pure (wpAny_pure ⟨rfl,h₅⟩)) fun _ _ h'=>h'.elim)) fun _ _ h'=>h'.elim))
theorem JeZ {env:Env}:∀ {names:List (Str×NameKind)} {x:Str} {k':NameKind},
  (names.map fun (n,k)=>if (k == NameKind.free && env.scope.kind == .function && env.kindOf n == some .cell) then (n,NameKind.cell) else (n,k)).lookup x=some k'→∃ k,names.lookup x=some k∧(k'=k∨(k=.free∧k'=.cell))
 | [],x,k',h=>by simp at h
 | (n,k) :: r,x,k',h=>by
  rw [List.map_cons] at h;by_cases hx:x=n
  ·subst hx;by_cases hc:(k == NameKind.free && env.scope.kind == .function && env.kindOf x == some .cell)=true
   ·have h:List.lookup x ((if (k == NameKind.free && env.scope.kind == .function && env.kindOf x == some .cell)=true then (x,NameKind.cell) else (x,k)) :: _)=some k':=h;rw [if_pos hc] at h;simp only [Bool.and_eq_true,beq_iff_eq] at hc;exact ⟨k,by simp [List.lookup_cons],.inr ⟨hc.1.1,by simpa [List.lookup_cons] using h.symm⟩⟩
   ·have h:List.lookup x ((if (k == NameKind.free && env.scope.kind == .function && env.kindOf x == some .cell)=true then (x,NameKind.cell) else (x,k)) :: _)=some k':=h;rw [if_neg hc] at h;exact ⟨k,by simp [List.lookup_cons],.inl (by simpa [List.lookup_cons] using h.symm)⟩
  ·have hb:(x == n)=false:=beq_eq_false_iff_ne.mpr hx;have h:List.lookup x ((if (k == NameKind.free && env.scope.kind == .function && env.kindOf n == some .cell)=true then (n,NameKind.cell) else (n,k)) :: _)=some k':=h;have h2:(r.map fun (n,k)=>if (k == NameKind.free && env.scope.kind == .function && env.kindOf n == some .cell) then (n,NameKind.cell) else (n,k)).lookup x=some k':=by
    by_cases hc:(k == NameKind.free && env.scope.kind == .function && env.kindOf n == some .cell)=true
    ·rw [if_pos hc] at h; simpa [List.lookup_cons,hb] using h
    ·rw [if_neg hc] at h; simpa [List.lookup_cons,hb] using h
   obtain ⟨k0,e,z⟩:=JeZ h2;exact ⟨k0,by simpa [List.lookup_cons,hb] using e,z⟩
theorem Je0 {env:Env}:∀ {names:List (Str×NameKind)} {x:Str},names.lookup x=some .free →
  (names.map fun (n,k)=>if (k == NameKind.free && env.scope.kind == .function && env.kindOf n == some .cell) then (n,NameKind.cell) else (n,k)).lookup x=some .cell∨(names.map fun (n,k)=>if (k == NameKind.free && env.scope.kind == .function && env.kindOf n == some .cell) then (n,NameKind.cell) else (n,k)).lookup x=some .free
 | [],x,h=>by simp at h
 | (n,k) :: r,x,h=>by
  rw [List.map_cons];show List.lookup x ((if (k == NameKind.free && env.scope.kind == .function && env.kindOf n == some .cell)=true then (n,NameKind.cell) else (n,k)) :: _)=_∨List.lookup x ((if (k == NameKind.free && env.scope.kind == .function && env.kindOf n == some .cell)=true then (n,NameKind.cell) else (n,k)) :: _)=_;by_cases hx:x=n
  ·subst hx;have hk:k=.free:=by simpa [List.lookup_cons] using h
   subst hk;split
   ·exact .inl (by simp [List.lookup_cons])
   ·exact .inr (by simp [List.lookup_cons])
  ·have hb:(x == n)=false:=beq_eq_false_iff_ne.mpr hx;have ih:=Je0 (env:=env) (names:=r) (x:=x) (by simpa [List.lookup_cons,hb] using h);split
   ·simpa [List.lookup_cons,hb] using ih
   ·simpa [List.lookup_cons,hb] using ih
section
variable {X:Cx} {pins:List (Addr×Obj)} {σ:St} {H2:Hp} {s2:Shared}
theorem Jlr {elt tg iter:Expr} {ifs:List Expr} {sc:Scope} {pos:Pos} {nt:Nat} {Nc:List Str} {js:List Nat} {J:It} {fp:List Addr} {it:Addr} {tn:Nat→Heap→Prop} {g:TG} {tc:TT} {te:TE} {Q:Addr→Hp→Prop} {E:Value→Shared→Prop}
  {N:List Str} {names:List (Str×NameKind)} (hcap:Jjs N names nt Nc sc js=true) (hNX:X.N=N) (hsX:X.env.scope.names=names)
  (hg:∀ (cl:List (Str×Addr)) (fp:List Addr) (s:Shared) (H:Hp),PG (Y7 X Nc sc cl fp s H) tg g) (hc:∀ (cl:List (Str×Addr)) (fp:List Addr) (s:Shared) (H:Hp),JoM (Y7 X Nc sc cl fp s H) ifs tc)
  (he:∀ (cl:List (Str×Addr)) (fp:List Addr) (s:Shared) (H:Hp),PE (Y7 X Nc sc cl fp s H) elt te) (calm:X.calm=true)
  (I2:Jn X pins σ H2 s2) (T:Jmi X.prog X.w X.K tg J fp it tn) (st2:tn 0 s2.heap) (f2:∀ b∈fp,JfI X pins H2 b)
  (hw:∀ D,H2 D=none→Jey J g tc te (List.replicate nt none ++ Ji2 js σ) D H2 (Q D)) {cl:List (Str×Addr)} (hcl:closureFor sc X.env=pure cl) (hcl1:∀ x c,cl.lookup x=some c→X.env.cells.lookup x=some c) (hcl2:∀ y∈sc.names,y.2=.free→∃ c,cl.lookup y.1=some c) :
  wpAny (model X.prog X.w) X.A (newList []) (fun acc s₃=>wpAny (model X.prog X.w) X.A (newFunctionEnv sc X.env.globals cl [] X.env.qual none .none (some X.env)) (fun cenv s₄ =>
   codeAny (model X.prog X.w) X.A (.compStart (.ListComp elt [⟨tg,iter,ifs,0⟩] sc pos) 0 (.ref it) acc { cenv with scope:=relabel sc X.env }) (fun r s'=>(∃ f,r=.ok f)∧∃ D H',acc=.ref D∧Jn X pins σ H' s'∧(∃ m,s'.heap.Ns cenv.locals m)∧JfI X pins H' cenv.locals∧Q D H') s₄) E s₃) E s2:=by
 simp only [Jjs,Bool.and_eq_true,decide_eq_true_eq,List.all_eq_true,beq_iff_eq] at hcap;obtain ⟨⟨⟨⟨nd,hlen⟩,all1⟩,all2⟩,hkind⟩:=hcap;subst hNX hsX;have hcell:∀ y∈sc.names,y.2≠.cell:=fun y hy z=>by
  have q:=all2 y hy;rw [z] at q;simp at q
 refine wpAny_newObj_type (wpAny_newFunctionEnv hcell (by intro y hy; simp at hy) (fun h₁ hns₁ hsb₁=>?_) hkind);have n2:H2 s2.heap.objs.size=none:=I2.hok.fresh (Nat.le_refl _);have I3:Jn X pins σ (upd H2 s2.heap.objs.size (.lst [])) { s2 with heap:=s2.heap.push { cls:=.type "list",data:=.seq ([]:List Value).toArray },toks:=s2.toks } :=
  I2.laid (fun b u e=>Heap.get?_push_of_some _ e) (Nat.le_refl _) ⟨Nat.zero_le _,[],0,.nil,Heap.get?_push_size _ rfl⟩
 obtain ⟨W,⟨m0,w0⟩,step⟩:=hw s2.heap.objs.size n2;generalize eH3:upd H2 s2.heap.objs.size (.lst [])=H3 at I3 w0;generalize es3:({ s2 with heap:=s2.heap.push { cls:=.type "list",data:=.seq ([]:List Value).toArray },toks:=s2.toks }:Shared)=s3 at I3;have e3:s2.heap.push { cls:=.type "list",data:=.seq ([]:List Value).toArray }=s3.heap:=by rw [← es3]
 have old3:∀ b o,s2.heap.get? b=some o→s3.heap.get? b=some o:=fun b o e=>by rw [← e3]; exact Heap.get?_push_of_some _ e
 have old4:∀ b o,s3.heap.get? b=some o→h₁.get? b=some o:=fun b o e=>by
  refine hsb₁.extBut b o ?_ (Heap.get?_push_of_some _ (by rw [← e3] at e; exact e));have:=Heap.lt_size e;rw [← e3] at this;exact Nat.ne_of_lt this
 have eC:(s2.heap.push { cls:=.type "list",data:=.seq ([]:List Value).toArray }).objs.size=s3.heap.objs.size:=by rw [e3]
 have fpold:∀ b∈fp,b < s3.heap.objs.size:=fun b hb=>by
  obtain ⟨o,e,_⟩:=T.obj 0 _ st2 b hb;exact Heap.lt_size (old3 b o e)
 have ok:(Y7 X Nc sc cl fp s3 H3).Ok:=⟨I3.mod,hkind,I3.ok.glob,I3.ok.blt,Nat.le_refl _,fun x y c e1 e2=>I3.ok.inj x y c (hcl1 _ _ e1) (hcl1 _ _ e2),fun x hx=>?_,fun x c z=>(by cases z),fun _=>I3.ok.hd calm,I3.ok.frames,.inl rfl,
  fun b hb=>⟨Nat.ne_of_lt (fpold b hb),fun x c e=>(f2 b hb).2.2.2.2.1 x c (hcl1 _ _ e)⟩,I3.bs,Nat.le_trans I3.ok.bsz I3.sz,fun b o e hb=>?_,fun b hb hm=>?_,I3.stack,I3.stkFree⟩
 rotate_left
 ·have hx:(relabel sc X.env).names.lookup x=some .cell∨(relabel sc X.env).names.lookup x=some .free:=hx;have k:sc.names.lookup x=some .free:=by
   rcases hx with hx | hx
   ·obtain ⟨k,e,z⟩:=JeZ hx;rcases z with z | z
    ·subst z; exact absurd rfl (hcell _ (PySem.mem_of_lookup e))
    ·rw [z.1] at e; exact e
   ·obtain ⟨k,e,z⟩:=JeZ hx;rcases z with z | z
    ·subst z; exact e
    ·cases z.2
  exact hcl2 _ (PySem.mem_of_lookup k) rfl
 ·rcases (f2 b hb).2.2.2.1 with z | z
  ·exact I3.ok.noex b o e z
  ·exact absurd (Nat.lt_of_lt_of_le (Heap.lt_size (I3.ok.bs b o e).1) z) (Nat.lt_irrefl _)
 ·rcases List.mem_cons.mp (I3.stkSub b hm) with z | z
  ·exact (f2 b hb).2.1 z
  ·exact (f2 b hb).2.2.1 z
 have Ic:Jn (Y7 X Nc sc cl fp s3 H3) [] (List.replicate nt none ++ Ji2 js σ) H3 { s3 with heap:=h₁,toks:=s3.toks + ([]:List (Str×Value)).length }:=by
  refine ⟨ok,rfl,I3.bare,Un.kept old4,⟨_,(by have z:=hns₁; rw [eC] at z; exact z),fun i x v e1 e2 e3'=>?_⟩,fun x c e=>?_,I3.hok.fresh (Nat.le_refl _),fun x c e=>I3.freeC x c (hcl1 _ _ e),(fun p hp=>nomatch hp),I3.hok.kept old4,?_⟩
  ·have hi:nt≤i:=by
    refine Nat.le_of_not_lt fun z=>?_
    rw [List.getElem?_append_left (by simpa using z),List.getElem?_replicate] at e2;split at e2 <;> cases e2
   obtain ⟨k,rfl⟩:∃ k,i=nt + k:=⟨i - nt,by omega⟩
   rw [List.getElem?_append_right (by simp),List.length_replicate,Nat.add_sub_cancel_left] at e2;unfold Ji2 at e2;rw [List.getElem?_map] at e2;cases hj:js[k]? with
   | none=>rw [hj] at e2; cases e2
   | some j =>
    rw [hj] at e2;have e2':(σ[j]?).join=some v:=Option.some.inj e2;have e2'':σ[j]?=some (some v):=by
     cases q:σ[j]? with
     | none=>rw [q] at e2'; cases e2'
     | some o=>rw [q] at e2'; rw [show o=some v from e2']
    have hz:(x,j)∈(Nc.drop nt).zip js:=by
     refine List.mem_of_getElem? (i:=k) ?_;rw [List.getElem?_zip_eq_some];exact ⟨by rw [List.getElem?_drop]; exact e1,hj⟩
    obtain ⟨⟨q1,q2⟩,q3⟩:=all1 _ hz;obtain ⟨m,hn,hl⟩:=I3.loc;obtain ⟨u,r,look⟩:=hl j x v q1 e2'' (Or.inr (Or.inl q3));refine ⟨u,r,.inr ⟨Je0 q2,?_⟩⟩;obtain ⟨c',hc'⟩:=hcl2 _ (PySem.mem_of_lookup q2) rfl;rcases look with ⟨z,_⟩ | ⟨_,c,z1,z2⟩
    ·have z:X.env.scope.names.lookup x=some .local:=z;rw [q3] at z; cases z
    ·have z3:=hcl1 _ _ hc';rw [z1] at z3;cases z3;obtain ⟨o,ho,hd⟩:=z2;exact ⟨_,hc',o,old4 _ _ ho,hd⟩
  ·obtain ⟨v,o,ho,hd⟩:=I3.cell x c (hcl1 _ _ e);exact ⟨v,o,old4 _ _ ho,hd⟩
  ·show (List.replicate nt none ++ Ji2 js σ).length=Nc.length;unfold Ji2;rw [List.length_append,List.length_replicate,List.length_map,hlen]
 have fpok:∀ {H:Hp},(∀ b∈fp,H b=none)→∀ b∈fp,JfI (Y7 X Nc sc cl fp s3 H3) [] H b:=fun hn b hb =>
  ⟨hn b hb,Nat.ne_of_lt (fpold b hb),ok.exfs b hb,.inl hb,fun x c e=>(f2 b hb).2.2.2.2.1 x c (hcl1 _ _ e),(fun p hp=>nomatch hp)⟩
 have fr0:∀ b∈fp,H3 b=none:=fun b hb=>by
  rw [← eH3,Jt (Nat.ne_of_lt (by obtain ⟨o,e,_⟩:=T.obj 0 _ st2 b hb; exact Heap.lt_size e))];exact (f2 b hb).1
 have st4:tn 0 h₁:=T.keep 0 _ _ st2 fun b hb o e=>old4 b o (old3 b o e)
 have back:∀ {σ':St} {H:Hp} {s':Shared} {pn:List (Addr×Obj)},Jn (Y7 X Nc sc cl fp s3 H3) pn σ' H s'→Jn X pins σ H s':=fun {σ' H s' pn} Jv =>
  I3.call' (ch:=fp) Jv.os Jv.base Jv.hok Jv.bare fun b hb=>⟨(f2 b hb).2.2.2.1,(f2 b hb).2.1,(f2 b hb).2.2.2.2.1,(f2 b hb).2.2.2.2.2⟩
 have loop:codeAny (model X.prog X.w) X.A (.compLoop (.ListComp elt [⟨tg,iter,ifs,0⟩] sc pos) 0 (.ref it) (.ref s2.heap.objs.size) (compEnvC sc cl s3.heap.objs.size X.env))
   (fun r s'=>(∃ f,r=.ok f)∧∃ D H',(Value.ref s2.heap.objs.size)=.ref D∧Jn X pins σ H' s'∧(∃ m,s'.heap.Ns s3.heap.objs.size m)∧JfI X pins H' s3.heap.objs.size∧Q D H') { s3 with heap:=h₁,toks:=s3.toks + ([]:List (Str×Value)).length }:=by
  refine Jqy (fun n s'=>∃ i ys H,Jn (Y7 X Nc sc cl fp s3 H3) [] (List.replicate nt none ++ Ji2 js σ) H s'∧tn i s'.heap∧(∀ b∈fp,H b=none)∧W i n ys H) ?_ m0 ⟨0,[],H3,Ic,st4,fr0,w0⟩;rintro n s' ⟨i,ys,H,I,st,fr,w⟩;obtain ⟨hD,⟨stop,qn⟩ | ⟨go,Nx,hNx,stepx⟩⟩:=step i n ys H w
  ·refine J2 (T.done (Y7 X Nc sc cl fp s3 H3) rfl rfl rfl calm i [] s' _ H _ I (fpok fr) st stop) fun r s1 ⟨hr,I1⟩=>?_
   subst hr;obtain ⟨m,hn,_⟩:=I1.loc;exact ⟨⟨_,rfl⟩,_,H,rfl,back I1,⟨m,hn⟩,I3.fpOk (Nat.le_refl _) I1.free,qn⟩
  ·refine J2 (T.item (Y7 X Nc sc cl fp s3 H3) rfl rfl rfl calm i [] s' _ H _ I (fpok fr) st go) fun r s1 ⟨u,hr,h4⟩=>?_
   subst hr;refine J2 h4 fun _ s5 ⟨x,H5,I5,r5,y5,st5,fr5⟩=>?_
   have I5':=I5.pinned (fpok fr5) (T.obj _ _ st5);refine J2 (hg cl fp s3 H3 _ s5 _ H5 x u _ I5' r5 (stepx x H5 y5)) fun _ s6 ⟨σ6,H6,I6,ag,q6⟩=>?_
   have again:∀ {H7:Hp} {s7:Shared} {m':Nat} {zs:List V},Jn (Y7 X Nc sc cl fp s3 H3) ([] ++ Jig fp s5.heap) σ6 H7 s7→m' < n→W (i + 1) m' zs H7→∃ m,m < n∧∃ i ys H,Jn (Y7 X Nc sc cl fp s3 H3) [] (List.replicate nt none ++ Ji2 js σ) H s7∧tn i s7.heap∧(∀ b∈fp,H b=none)∧W i m ys H:=fun {H7 s7 m' zs} I7 hm w7=>by
    refine ⟨m',hm,i + 1,zs,H7,I7.unpinned.weak ag.1.symm ag.2,T.keep _ _ _ st5 fun b hb o e=>(I7.pin (b,o) (List.mem_append_right _ (List.mem_append_right _ (Jet hb e)))).1,fun b hb=>?_,w7⟩;obtain ⟨o,e,d⟩:=T.obj _ _ st5 b hb;exact (I7.pin (b,o) (List.mem_append_right _ (List.mem_append_right _ (Jet hb e)))).2.1
   refine J2 (hc cl fp s3 H3 _ s6 σ6 H6 _ I6 q6) fun bk s7 ⟨H7,I7,q7⟩=>?_
   cases bk with
   | false =>
    rw [if_neg Bool.false_ne_true] at q7 ⊢;obtain ⟨m',hm,w7⟩:=hNx _ _ q7;exact again I7 hm w7
   | true =>
    rw [if_pos rfl] at q7 ⊢;refine J2 (he cl fp s3 H3 _ s7 σ6 H7 _ I7 q7) fun xv s8 ⟨v,H8,I8,r8,hD8,hlen8,qN⟩=>?_
    obtain ⟨m',hm,w8⟩:=hNx _ _ qN;refine J2 (ZJ _ s8 σ6 H8 (.ref s2.heap.objs.size) [v] (.ref s2.heap.objs.size) [xv] (fun _ H9=>H9=upd H8 s2.heap.objs.size (.lst (ys ++ [v]))) I8 rfl (.cons r8 .nil) ?_) fun _ s9 ⟨_,H9,I9,_,e9⟩=>?_
    ·exact ⟨_,_,_,rfl,rfl,hD8,hlen8,rfl⟩
    ·subst e9;exact again I9 hm w8
 rw [eC] at *;exact codeAny_compStart_list loop (T.self _ 0 _ _ _ st4 loop)
def tLC (wi:TI) (g:TG) (tc:TT) (te:TE) (nt:Nat) (js:List Nat):TE:=fun σ H Q=>wi σ H fun J H1=>∀ D,H1 D=none→Jey J g tc te (List.replicate nt none ++ Ji2 js σ) D H1 fun H'=>Q (.ref D) H'
theorem JmJ {N:List Str} {names:List (Str×NameKind)} {nt:Nat} {Nc:List Str} {sc:Scope} {js:List Nat} (h:Jjs N names nt Nc sc js=true):(∀ y∈sc.names,y.2=.local→sc.names.lookup y.1=some .local)∧(∀ y∈sc.names,y.2=.free→names.lookup y.1=some .cell)∧sc.kind=.function:=by
 simp only [Jjs,Bool.and_eq_true,decide_eq_true_eq,List.all_eq_true,beq_iff_eq] at h;obtain ⟨⟨⟨⟨nd,hlen⟩,all1⟩,all2⟩,hkind⟩:=h;refine ⟨fun y hy hl=>?_,fun y hy hl=>?_,hkind⟩
 ·have q:=all2 y hy;rw [hl] at q;simpa using q
 ·have q:=all2 y hy;rw [hl] at q;simpa using q
theorem Jhg {elt tg iter:Expr} {ifs:List Expr} {sc:Scope} {pos:Pos} {nt:Nat} {Nc:List Str} {js:List Nat} {wi:TI} {g:TG} {tc:TT} {te:TE} {N:List Str} {names:List (Str×NameKind)}
  (hcap:Jjs N names nt Nc sc js=true) (hi:PI X tg iter wi)
  (hg:∀ (cl:List (Str×Addr)) (fp:List Addr) (s:Shared) (H:Hp),PG (Y7 X Nc sc cl fp s H) tg g) (hc:∀ (cl:List (Str×Addr)) (fp:List Addr) (s:Shared) (H:Hp),JoM (Y7 X Nc sc cl fp s H) ifs tc)
  (he:∀ (cl:List (Str×Addr)) (fp:List Addr) (s:Shared) (H:Hp),PE (Y7 X Nc sc cl fp s H) elt te) (hNX:X.N=N:=by rfl) (hsX:X.env.scope.names=names:=by rfl) (calm:X.calm=true:=by rfl)
  (hs:∀ x,foldedSetIterable iter X.env x=pure x:=by intro _; rfl):PE X (.ListComp elt [⟨tg,iter,ifs,0⟩] sc pos) (tLC wi g tc te nt js):=by
 intro pins s σ H Q I h;obtain ⟨hn1,hn2,hkind⟩:=JmJ hcap;obtain ⟨cl,hcl,hcl1,hcl2⟩:=Jls (sc:=sc) (env:=X.env) fun y hy hf=>I.ok.has y.1 (.inl (by show X.env.scope.names.lookup y.1=_; rw [hsX]; exact hn2 y hy hf))
 rw [eval_ListComp];refine wpAny_comprehension_free (use:=none) rfl hs hcl hkind hn1 (J2 (hi pins s σ H _ I h) fun v s1 h1=>J2 h1 fun itv s2 h2=>?_);obtain ⟨it,fp,tn,J,H2,e,I2,T,st2,f2,hw⟩:=h2;subst e;refine wpAny_mono (Jlr (E:=fun _ _=>False) (Q:=fun D H'=>Q (.ref D) H') hcap hNX hsX hg hc he calm I2 T st2 f2 hw hcl hcl1 hcl2) (fun acc s3 h3=>wpAny_mono h3 (fun cenv s4 h4=>codeAny_mono h4 fun r s' hr=>?_) fun _ _ z=>z.elim) fun _ _ z=>z.elim
 obtain ⟨⟨f,rfl⟩,D,H',rfl,Jv,⟨m,hn⟩,fC,q⟩:=hr;obtain ⟨f0,f1,f2',f3,f4,f5⟩:=fC;exact ⟨m,hn,fun h' hs'=>⟨.ref D,H',Jv.turned (t':=s'.toks) (fun b o hb e=>(hs'.2 b hb).trans e) f0 f1 f3 f4 f5,rfl,q⟩⟩
theorem Jnk {elt tg iter:Expr} {ifs:List Expr} {sc:Scope} {pos spos py:Pos} {y:Str} {i:Nat} {nt:Nat} {Nc:List Str} {js:List Nat} {wi:TI} {g:TG} {tc:TT} {te:TE} {N:List Str} {names:List (Str×NameKind)}
  (hcap:Jjs N names nt Nc sc js=true) (hN:X.N.Nodup) (hiy:X.N[i]?=some y) (hi:PI X tg iter wi)
  (hg:∀ (cl:List (Str×Addr)) (fp:List Addr) (s:Shared) (H:Hp),PG (Y7 X Nc sc cl fp s H) tg g) (hc:∀ (cl:List (Str×Addr)) (fp:List Addr) (s:Shared) (H:Hp),JoM (Y7 X Nc sc cl fp s H) ifs tc)
  (he:∀ (cl:List (Str×Addr)) (fp:List Addr) (s:Shared) (H:Hp),PE (Y7 X Nc sc cl fp s H) elt te) (hNX:X.N=N:=by rfl) (hsX:X.env.scope.names=names:=by rfl) (calm:X.calm=true:=by rfl)
  (hsw:swapsWith (.ListComp elt [⟨tg,iter,ifs,0⟩] sc pos) (some (.Name y py)) spos.line X.env=pure true:=by rfl) (hy:X.env.scope.names.lookup y=some .local:=by rfl)
  (hs:∀ x,foldedSetIterable iter X.env x=pure x:=by intro _; rfl):PS X (.Assign [.Name y py] (.ListComp elt [⟨tg,iter,ifs,0⟩] sc pos) spos) (Jsr (tLC wi g tc te nt js) (Jbc i)):=by
 intro pins s σ H D0 I h;obtain ⟨hn1,hn2,hkind⟩:=JmJ hcap;obtain ⟨cl,hcl,hcl1,hcl2⟩:=Jls (sc:=sc) (env:=X.env) fun y hy hf=>I.ok.has y.1 (.inl (by show X.env.scope.names.lookup y.1=_; rw [hsX]; exact hn2 y hy hf))
 rw [exec_Assign_Name_used _ _ _ _ hsw];refine wpAny_bind (wpAny_standAt (wpAny_bind ?_));show wpAny _ X.A (do let _ ← comprehension (.ListComp elt [⟨tg,iter,ifs,0⟩] sc pos) sc X.env _ (newList []) false (eval iter X.env) (some (assign (.Name y py) X.env))) _ _ s;refine wpAny_bind (wpAny_mono (wpAny_comprehension_free (use:=some (assign (.Name y py) X.env)) (Q:=fun _ s'=>SP X pins D0 .next s') rfl hs hcl hkind hn1
  (J2 (hi pins s σ H _ I h) fun v s1 h1=>J2 h1 fun itv s2 h2=>?_)) (fun _ s' hq=>wpAny_pure (wpAny_pure hq)) fun _ _ e=>e)
 obtain ⟨it,fp,tn,J,H2,e,I2,T,st2,f2,hw⟩:=h2;subst e;refine wpAny_mono (Jlr (E:=fun _ _=>False) (Q:=fun D H'=>Jbc i (.ref D) σ H' D0.nx) hcap hNX hsX hg hc he calm I2 T st2 f2 hw hcl hcl1 hcl2) (fun acc s3 h3=>wpAny_mono h3 (fun cenv s4 h4=>codeAny_mono h4 fun r s' hr=>?_) fun _ _ z=>z.elim) fun _ _ z=>z.elim
 obtain ⟨⟨f,rfl⟩,D,H',rfl,Jv,⟨m,hn⟩,fC,q⟩:=hr;obtain ⟨f0,f1,f2',f3,f4,f5⟩:=fC;show wpAny _ X.A (assign (.Name y py) X.env (.ref D)) _ _ _;refine wpAny_assign_Name (Jms Jv hN hiy (Or.inl hy) (v:=.ref D) rfl (fun s'' I'' ⟨a,hsame,ha⟩=>?_) (Or.inr hy));refine ⟨m,hn.sameBut hsame ?_,fun h' hs'=>⟨_,H',I''.turned (t':=s''.toks) (fun b o hb e=>(hs'.2 b hb).trans e) f0 f1 f3 f4 f5,q⟩⟩;rcases ha with rfl | ha
 ·exact f1
 ·exact (f4 y a ha).symm
end
section
variable {X:Cx} {Nc:List Str} {sc:Scope} {cl:List (Str×Addr)} {fp:List Addr} {s:Shared} {H:Hp} {x:Str} {pos:Pos}
theorem JaW (i:Nat) (hN:Nc[i]?=some x:=by rfl) (hf:sc.names.lookup x=some .free:=by rfl) (hd:(x == ("__debug__" : Str))=false:=by decide) (hcd:(x == ("__classdict__" : Str))=false:=by decide):PE (Y7 X Nc sc cl fp s H) (.Name x pos) (JpW i) :=
 Jn2 hN (Or.inr (Je0 hf)) hd hcd
theorem ZE (i:Nat) (hN:Nc[i]?=some x:=by rfl) (hl:sc.names.lookup x=some .local:=by rfl) (hd:(x == ("__debug__" : Str))=false:=by decide) (hcd:(x == ("__classdict__" : Str))=false:=by decide):PE (Y7 X Nc sc cl fp s H) (.Name x pos) (JpW i) :=
 Jn2 hN (Or.inl (lookup_relabel_local hl)) hd hcd
theorem Jah (i:Nat) (nd:Nc.Nodup) (hN:Nc[i]?=some x:=by rfl) (hl:sc.names.lookup x=some .local:=by rfl):PG (Y7 X Nc sc cl fp s H) (.Name x pos) (Jbc i) :=
 YC nd hN (Or.inl (lookup_relabel_local hl)) (Or.inr (lookup_relabel_local hl))
end
section
variable {tc:TT} {te:TE} {σc:St} {D:Addr} {H1:Hp} {Q:Hp→Prop}
theorem Jmf {J:It} {n:Nat} {X1:Nat→V→Prop} (Pv:Nat→List V→Hp→Prop) (h00:σc[0]?=some none) (hgo:∀ i H,i < n→(∃ ys,Pv i ys H)→J.go i H∧∀ x H',J.yld i H x H'→H'=H∧X1 i x) (hstop:∀ H,(∃ ys,Pv n ys H)→J.stop n H)
  (h0:Pv 0 [] (upd H1 D (.lst []))) (hl:∀ i ys H,Pv i ys H→H D=some (.lst ys))
  (hs:∀ i x ys H,i < n→X1 i x→Pv i ys H→tc (σc.set 0 (some x)) H fun b H3=>if b=true then te (σc.set 0 (some x)) H3 fun v H4=>H4 D=some (.lst ys)∧ys.length < sizeLine∧Pv (i + 1) (ys ++ [v]) (upd H4 D (.lst (ys ++ [v]))) else Pv (i + 1) ys H3)
  (hd:∀ ys H,Pv n ys H→Q H):Jey J (Jbc 0) tc te σc D H1 Q:=by
 refine ⟨fun i m ys H=>m=n - i∧i≤n∧Pv i ys H,⟨n,by simp,Nat.zero_le _,h0⟩,?_⟩;rintro i m ys H ⟨rfl,hi,p⟩;refine ⟨hl _ _ _ p,?_⟩;by_cases hlt:i < n
 ·obtain ⟨g1,g2⟩:=hgo i H hlt ⟨_,p⟩;refine .inr ⟨g1,Pv (i + 1),fun zs H' p'=>⟨n - (i + 1),by omega,rfl,hlt,p'⟩,fun x H' y=>?_⟩;obtain ⟨e,y1⟩:=g2 x H' y;subst e;exact ⟨(Jgd.refl _).set h00,hs i x ys _ hlt y1 p⟩
 ·have e:i=n:=by omega
  subst e;exact .inl ⟨hstop H ⟨_,p⟩,hd _ _ p⟩
theorem Jht {lo:Int} {n:Nat} (Pv:Nat→List V→Hp→Prop) (h00:σc[0]?=some none) (h0:Pv 0 [] (upd H1 D (.lst []))) (hl:∀ i ys H,Pv i ys H→H D=some (.lst ys))
  (hs:∀ i ys H,i < n→Pv i ys H→tc (σc.set 0 (some (.int (lo + i)))) H fun b H3=>if b=true then te (σc.set 0 (some (.int (lo + i)))) H3 fun v H4=>H4 D=some (.lst ys)∧ys.length < sizeLine∧Pv (i + 1) (ys ++ [v]) (upd H4 D (.lst (ys ++ [v]))) else Pv (i + 1) ys H3)
  (hd:∀ ys H,Pv n ys H→Q H):Jey (Itr lo n) (Jbc 0) tc te σc D H1 Q :=
 Jmf (n:=n) (X1:=fun i x=>x=.int (lo + i)) Pv h00 (fun i H hi _=>⟨hi,fun x H' y=>y⟩) (fun H _=>Nat.le_refl _) h0 hl (fun i x ys H hi hx p=>by subst hx; exact hs i ys H hi p) hd
end
end L2
namespace L2
open PySem PySem.Spec PyProof.Rows
section
variable {X:Cx} {e v1 v2:Expr} {es:List Expr} {te:TE} {pos:Pos}
def Ju1 (te:TE):TE:=fun σ H Q=>te σ H fun v H1=>∃ z,v=.str z∧(reprText z).length≤sizeLine∧Q (.str (reprText z)) H1
theorem Je1 (he:PE X e te):PE X (.FormattedValue e 114 none pos) (Ju1 te):=by
 intro pins s σ H Q I h;refine wpAny_FormattedValue_repr (J2 (he pins s σ H _ I h) fun v s1 ⟨x,H1,I1,r1,z,ez,hz,q⟩=>?_);subst ez;obtain ⟨t,rfl⟩:=r1;refine pyReprObj_str (PyProof.Rows.formatField_str (fun t' tk=>?_) hz) hz;exact ⟨.str (reprText z),H1,(I1.tok _).tok _,⟨_,rfl⟩,q⟩
def JpX (te:TE):TE:=fun σ H Q=>te σ H fun v H1=>∃ i:Int,v=.int i∧i.natAbs.log2 < 1920∧Q (.str (toString i)) H1
theorem JlU (he:PE X e te):PE X (.FormattedValue e (-1) none pos) (JpX te):=by
 intro pins s σ H Q I h;refine PyProof.Rows.FormattedValue_plain (J2 (he pins s σ H _ I h) fun v s1 ⟨x,H1,I1,r1,i,ei,hi,q⟩=>?_);subst ei;obtain ⟨t,rfl⟩:=r1;exact PyProof.Rows.formatField_int_small hi ⟨.str (toString i),H1,I1.tok _,⟨_,rfl⟩,q⟩
def JkL:List TE→Str→TE
 | [],acc=>fun _ H Q=>acc.length≤sizeLine∧Q (.str acc) H
 | t :: r,acc=>fun σ H Q=>t σ H fun v H1=>∃ y,v=.str y∧(acc ++ y).length≤sizeLine∧JkL r (acc ++ y) σ H1 Q
inductive PJ (X:Cx):List Expr→List TE→Prop
 | nil:PJ X [] []
 | cons {e:Expr} {t:TE} {es:List Expr} {ts:List TE}:PE X e t→PJ X es ts→PJ X (e :: es) (t :: ts)
theorem Jom {pins:List (Addr×Obj)} {σ:St} {Q:VK}:∀ {es:List Expr} {ts:List TE} {acc:Str} {s:Shared} {H:Hp},PJ X es ts→Jn X pins σ H s→JkL ts acc σ H Q →
  Joins (model X.prog X.w) X.A X.xe (es.map fun e=>eval e X.env) acc (fun out s₁=>out.length≤sizeLine∧EP X pins σ Q (.str out s₁.toks) { s₁ with toks:=s₁.toks + 1 }) s
 | _,_,acc,s,H,.nil,I,h=>⟨h.1,.str acc,H,I.tok _,⟨_,rfl⟩,h.2⟩
 | _,_,acc,s,H,.cons p r,I,h=>by
  refine J2 (p pins s σ H _ I h) fun v s1 ⟨x,H1,I1,r1,y,ey,hy,q⟩=>?_
  subst ey;obtain ⟨t,rfl⟩:=r1;exact ⟨y,t,rfl,hy,Jom r I1 q⟩
theorem JbS {ts:List TE} (h:PJ X (v1 :: v2 :: es) ts) (he:evalEach (v1 :: v2 :: es) X.env=(v1 :: v2 :: es).map fun e=>eval e X.env:=by rfl):PE X (.JoinedStr (v1 :: v2 :: es) pos) (JkL ts Str.empty):=by
 intro pins s σ H Q I hq;refine wpAny_JoinedStr ?_;rw [he];exact Jom h I hq
end
theorem Jlt:bootBuiltins "ValueError" = some (.type "ValueError"):=by decide +kernel
section
variable {X:Cx}
theorem Jmv:ZF X (compareOp .LtE) (fun x y H Q=>∃ i j,x=.str i∧y=.str j∧Q (.bl (!decide (j.cps.toList < i.cps.toList))) H):=by
 intro pins s σ H x y v u Q I rx ry h;obtain ⟨i,j,rfl,rfl,q⟩:=h;obtain ⟨t,rfl⟩:=rx;obtain ⟨t',rfl⟩:=ry;exact PySem.P.le_str ⟨.bl _,H,I,rfl,q⟩
theorem JlB:∀ {ys:List Str} {us:List Value},JF (ys.map V.str) us→StrsAre us ys
 | [],_,r=>by cases r; exact .nil
 | y :: ys,_,r=>by
  cases r with
  | cons r rr =>
   obtain ⟨t,rfl⟩:=r;exact .cons y t (JlB rr)
theorem JuF:MtR X "str.join" (fun x xs H Q=>∃ z l ys,x=.str z∧xs=[.ref l]∧Jz X.K H l (ys.map V.str)∧(ys.map (·.length)).sum + ys.length * z.length≤16777216∧Q (.str (Txt.join z ys)) H):=by
 intro pins s σ H x xs v us Q I rx rs h;obtain ⟨z,l,ys,rfl,rfl,hl,hz,q⟩:=h;obtain ⟨t,rfl⟩:=rx;obtain ⟨u,rfl,ru⟩:=JF.one rs;cases ru;obtain ⟨its,r,pl,_⟩:=I.list hl;exact PyProof.Rows.join_list pl.isList (by simpa using JlB r) hz fun t' k=>⟨.str (Txt.join z ys),H,I.tok _,⟨_,rfl⟩,q⟩
end
def Its (z:Str):It:=⟨fun i _=>i < z.length,fun i H x H'=>H'=H∧∃ c,z.cps[i]?=some c∧x=.str ⟨#[c]⟩,fun i _=>z.length≤i⟩
theorem Jnw {P:Program} {w:World} {K:PySem.W.Frag} {tg:Expr} (it:Addr) (z:Str) (t:Tok) (ty:String) (hty:ty = "str_ascii_iterator"∨ty = "str_iterator") (W:∀ A':Around,A'.handled=none→Walks P w A' it [it] [it] z.cps.size (SignAt z) (fun i h=>h.IsStrIter it ty z t i)) :
  Jmi P w K tg (Its z) [it] it (fun i h=>i≤z.cps.size∧h.IsStrIter it ty z t i) where
 mem:=by simp
 obj:=fun i h st b hb=>by
  have e:b=it:=by simpa using hb
  subst e;obtain ⟨_,o,e,c,d⟩:=st;exact ⟨o,e,fun v z=>by rw [d] at z; cases z⟩
 keep:=fun i h h' st k=>let ⟨hi,o,e,r⟩:=st; ⟨hi,o,k it (by simp) o e,r⟩
 item:=by
  intro X hP hw hK hc i pins s σ H E I hf st hg;subst hP hw hK;obtain ⟨f0,f1,f2,f3,f4,f5⟩:=hf it (by simp);have hi:i < z.cps.size:=hg;refine (W X.A (I.ok.hd hc)).item i s _ _ hi st.2 fun v h' tk hv st' kk=>?_
  obtain ⟨c,u,hc',rfl⟩:=hv;have I1:Jn X pins σ H { s with heap:=h',toks:=tk }:=I.turned (fun b o hb e=>kk b o (by simpa using hb) e) f0 f1 f3 f4 f5;obtain ⟨o,e,hcl,d⟩:=id st';exact ⟨_,rfl,Jnp (s:={ s with heap:=h',toks:=tk }) (n:=ty) e hcl d (by rcases hty with rfl | rfl <;> decide) ⟨.str ⟨#[c]⟩,H,I1,⟨u,rfl⟩,⟨rfl,c,hc',rfl⟩,⟨hi,st'⟩,fun b hb=>(hf b hb).1⟩⟩
 done:=by
  intro X hP hw hK hc i pins s σ H E I hf st hg;subst hP hw hK;obtain ⟨f0,f1,f2,f3,f4,f5⟩:=hf it (by simp);have hi:z.cps.size≤i:=hg;obtain rfl:i=z.cps.size:=Nat.le_antisymm st.1 hi;exact (W X.A (I.ok.hd hc)).done s _ _ st.2 fun h' tk kk=>⟨rfl,I.turned (fun b o hb e=>kk b o (by simpa using hb) e) f0 f1 f3 f4 f5⟩
 self:=fun A i s Q E st h=>by
  rcases hty with rfl | rfl
  ·exact wpAny_pyIter_striter_ascii st.2 h
  ·exact wpAny_pyIter_striter_wide st.2 h
section
variable {X:Cx} {tg:Expr}
def Jxc (tl:TE):TI:=fun σ H R=>tl σ H fun x H1=>∃ z,x=.str z∧R (Its z) H1
theorem JvC {l:Expr} {tl:TE} (hl:PE X l tl):PI X tg l (Jxc tl):=by
 intro pins s σ H R I h;refine J2 (hl pins s σ H _ I h) fun v s1 ⟨x,H1,I1,r1,z,ez,q⟩=>?_
 subst ez;obtain ⟨t,rfl⟩:=r1;have fp:∀ b∈[s1.heap.objs.size],JfI X pins H1 b:=fun b hb=>by
  have e:b=s1.heap.objs.size:=by simpa using hb
  subst e;exact I1.fpOk (Nat.le_refl _) (I1.hok.fresh (Nat.le_refl _))
 cases ha:z.cps.all (· < 128)
 ·refine wpAny_pyIter_wide ha ?_;exact ⟨s1.heap.objs.size,[s1.heap.objs.size],_,_,H1,rfl,I1.kept (t':=s1.toks) fun b o e=>Heap.get?_push_of_some _ e,Jnw _ z t "str_iterator" (.inr rfl) (fun A' hA=>Walks.strWide hA _ z t),⟨Nat.zero_le _,_,Heap.get?_push_size _ rfl,rfl,rfl⟩,fp,q⟩
 ·refine wpAny_pyIter_ascii ha ?_;exact ⟨s1.heap.objs.size,[s1.heap.objs.size],_,_,H1,rfl,I1.kept (t':=s1.toks) fun b o e=>Heap.get?_push_of_some _ e,Jnw _ z t "str_ascii_iterator" (.inl rfl) (fun A' hA=>Walks.strAscii hA _ z t),⟨Nat.zero_le _,_,Heap.get?_push_size _ rfl,rfl,rfl⟩,fp,q⟩
end
section
variable {X:Cx}
theorem Jua {bs:List Bool}:∀ {us:List Value},JF (bs.map V.bl) us→us=bs.map Value.bool:=by
 induction bs with
 | nil=>intro us r; cases r; rfl
 | cons b bs ih =>
  intro us r;cases r with
  | cons r rr =>
   cases (show _=Value.bool b from r);rw [ih rr]; rfl
theorem Jtz (hc:X.calm=true):Yn X (.builtin "all") (fun xs H Q=>∃ (l:Addr) (bs:List Bool),xs=[.ref l]∧Jz X.K H l (bs.map V.bl)∧Q (.bl (bs.all id)) H):=by
 intro pins s σ H xs us Q I r h;obtain ⟨l,bs,rfl,hl,q⟩:=h;obtain ⟨u,rfl,ru⟩:=JF.one r;cases ru;obtain ⟨its,rv,pl,hz⟩:=I.list hl;have e:=Jua rv;subst e;refine call_all_walk (wpAny_pyIter_list pl.isList ?_);have hlt:l < s.heap.objs.size:=by obtain ⟨o,n,e,_⟩:=pl; exact Heap.lt_size e
 refine ⟨_,_,_,_,_,_,fun i=>(bs[i]?).getD true,rfl,Walks.list (A:=X.A.in1) (I.ok.hd hc) s.heap.objs.size l (Nat.ne_of_lt hlt) (bs.map Value.bool).toArray,?_,?_,fun h' tk kk=>?_⟩
 ·exact ⟨⟨_,Heap.get?_push_size _ rfl,rfl,rfl⟩,(by obtain ⟨o,n,e,c,d1,d2⟩:=pl; exact ⟨o,Heap.get?_push_of_some _ e,c,n,d2⟩)⟩
 ·intro i v s' Q' E' hP hQ;have hP:(bs.map Value.bool).toArray[i]?=some v:=hP;rw [List.getElem?_toArray,List.getElem?_map] at hP;cases hb:bs[i]? with
  | none=>rw [hb] at hP; cases hP
  | some b =>
   rw [hb] at hP;cases hP;have hQ:Q' ((bs[i]?).getD true) s':=hQ;rw [hb] at hQ;exact wpAny_truthy_bool hQ
 ·have e:(List.range (bs.map Value.bool).toArray.size).all (fun i=>(bs[i]?).getD true)=bs.all id:=by
   rw [List.size_toArray,List.length_map,Bool.eq_iff_iff,List.all_eq_true,List.all_eq_true];constructor
   ·intro h b hb;obtain ⟨i,hi,rfl⟩:=List.mem_iff_getElem.mp hb;have z:=h i (List.mem_range.mpr hi);rw [List.getElem?_eq_getElem hi] at z;exact z
   ·intro h i hi;have hi':=List.mem_range.mp hi;rw [List.getElem?_eq_getElem hi'];exact h _ (List.getElem_mem hi')
  rw [e];exact ⟨.bl _,H,I.kept fun b o e=>kk b o (fun z=>absurd (Heap.lt_size e) (by rw [List.mem_singleton.mp z]; exact Nat.lt_irrefl _)) (Heap.get?_push_of_some _ e),rfl,q⟩
end
end L2
namespace L2
open PySem PySem.Spec PyProof.Rows
def tm (n:Nat) (z:Str):Prop:=z.length≤n∧∀ c∈z.cps.toList,c < 16 ^ 8
theorem tm.mono {n m:Nat} {z:Str} (h:tm n z) (l:n≤m):tm m z:=⟨Nat.le_trans h.1 l,h.2⟩
theorem Jv8 {n:Nat} {z:Str} (h:(decide (z.length≤n) && z.cps.toList.all fun c=>decide (c < 16 ^ 8))=true):tm n z:=by
 rw [Bool.and_eq_true] at h;exact ⟨of_decide_eq_true h.1,fun c hc=>of_decide_eq_true (List.all_eq_true.mp h.2 c hc)⟩
theorem JuZ {n m:Nat} {x y:Str} (h:tm n x) (h':tm m y):tm (n + m) (x ++ y):=by
 refine ⟨by rw [strLen_append]; exact Nat.add_le_add h.1 h'.1,fun c hc=>?_⟩;rcases mem_cps_append.mp hc with q | q
 ·exact h.2 c q
 ·exact h'.2 c q
theorem JuH {xs:List V} {lo hi:Option Int} {x:V} (h:x∈Jal xs lo hi):x∈xs:=List.mem_of_mem_drop (List.mem_of_mem_take h)
end L2
namespace L2
open PySem PySem.Spec PyProof.Rows
section
variable {te:TE} {σc:St} {D:Addr} {H1:Hp} {Q:Hp→Prop}
theorem Ji1 {J:It} {n:Nat} {X1:Nat→V→Prop} (F:Nat→V→Prop) (h00:σc[0]?=some none) (hgo:∀ i H,i < n→Ji H1 H→J.go i H∧∀ x H',J.yld i H x H'→H'=H∧X1 i x) (hstop:∀ H,Ji H1 H→J.stop n H)
  (hD:H1 D=none) (hlen:n≤sizeLine) (he:∀ i x H,i < n→X1 i x→Ji H1 H→∀ Q':VK,(∀ v,F i v→Q' v H)→te (σc.set 0 (some x)) H Q')
  (hd:∀ ys H,Ji H1 H→H D=some (.lst ys)→ys.length=n→(∀ i v,ys[i]?=some v→F i v)→Q H):Jey J (Jbc 0) JeH te σc D H1 Q:=by
 refine Jmf (n:=n) (X1:=X1) (fun i ys H=>Ji H1 H∧H D=some (.lst ys)∧ys.length=i∧∀ j v,ys[j]?=some v→F j v) h00 (fun i H hi ⟨ys,p⟩=>hgo i H hi p.1) (fun H ⟨ys,p⟩=>hstop H p.1)
  ⟨Ji.upd hD,Jg,rfl,fun j v e=>by simp at e⟩ (fun i ys H p=>p.2.1) (fun i x ys H hi hx p=>?_) (fun ys H p=>hd ys H p.1 p.2.1 p.2.2.1 p.2.2.2)
 obtain ⟨e,hy,hl,hf⟩:=p;simp only [JeH,if_true];refine he i x H hi hx e _ fun v hv=>⟨hy,by omega,fun b u q=>?_,Jg,by simp [hl],fun j u q=>?_⟩
 ·rw [Jt (Jw q hD)];exact e b u q
 ·by_cases hj:j < ys.length
  ·rw [List.getElem?_append_left hj] at q;exact hf j u q
  ·rw [List.getElem?_append_right (by omega)] at q;have hj2:j - ys.length < 1:=(List.getElem?_eq_some_iff.mp q).1;have e1:j=i:=by omega
   have e2:j - ys.length=0:=by omega
   rw [e2] at q;cases q;rw [e1];exact hv
theorem JmI {K:PySem.W.Frag} {a:Addr} {xs:List V} (F:Nat→V→Prop) (h00:σc[0]?=some none) (hS:Jz K H1 a xs) (hD:H1 D=none) (hlen:xs.length≤sizeLine)
  (he:∀ i x H,xs[i]?=some x→Ji H1 H→∀ Q':VK,(∀ v,F i v→Q' v H)→te (σc.set 0 (some x)) H Q')
  (hd:∀ ys H,Ji H1 H→H D=some (.lst ys)→ys.length=xs.length→(∀ i v,ys[i]?=some v→F i v)→Q H):Jey (Itl K a) (Jbc 0) JeH te σc D H1 Q :=
 Ji1 (n:=xs.length) (X1:=fun i x=>xs[i]?=some x) F h00 (fun i H hi e=>⟨⟨xs,xs[i],e.seq hS,by simp [hi]⟩,fun x H' y=>⟨y.1,y.2 xs (e.seq hS)⟩⟩) (fun H e=>⟨xs,e.seq hS,Nat.le_refl _⟩) hD hlen (fun i x H _ hx e=>he i x H hx e) hd
theorem Jnb {z:Str} (F:Nat→V→Prop) (h00:σc[0]?=some none) (hD:H1 D=none) (hlen:z.length≤sizeLine)
  (he:∀ i c H,z.cps[i]?=some c→Ji H1 H→∀ Q':VK,(∀ v,F i v→Q' v H)→te (σc.set 0 (some (.str ⟨#[c]⟩))) H Q')
  (hd:∀ ys H,Ji H1 H→H D=some (.lst ys)→ys.length=z.length→(∀ i v,ys[i]?=some v→F i v)→Q H):Jey (Its z) (Jbc 0) JeH te σc D H1 Q :=
 Ji1 (n:=z.length) (X1:=fun i x=>∃ c,z.cps[i]?=some c∧x=.str ⟨#[c]⟩) F h00 (fun i H hi _=>⟨hi,fun x H' y=>y⟩) (fun H _=>Nat.le_refl _) hD hlen (fun i x H hi hx e=>by obtain ⟨c,hc,rfl⟩:=hx; exact he i c H hc e) hd
end
end L2
namespace HS
open PySem PySem.SetTable
def adv (m:Nat) (p:Probe):Probe :=
 if p.more > 0 then ⟨p.j + 1,p.more - 1,p.i,p.perturb,p.dummy⟩
 else ⟨(leap m p.i p.perturb).1,runEnd m (leap m p.i p.perturb).1 - (leap m p.i p.perturb).1,(leap m p.i p.perturb).1,(leap m p.i p.perturb).2,p.dummy⟩
theorem Jlv (t:SetTable) (p:Probe):t.advance p=adv t.mask p:=by
 unfold SetTable.advance adv;split <;> rfl
def st (m i q:Nat):Probe:=⟨i,runEnd m i - i,i,q,none⟩
def YN (m:Nat) (h:Int):Probe:=st m (bits h % (m + 1)) (bits h)
def YB (m:Nat):Nat→Probe→Probe
 | 0,p=>p
 | k + 1,p=>YB m k (adv m p)
theorem JeF (m:Nat):∀ a b p,YB m (a + b) p=YB m b (YB m a p)
 | 0,b,p=>by rw [Nat.zero_add]; rfl
 | a + 1,b,p=>by
  have e:a + 1 + b=(a + b) + 1:=by omega
  rw [e];exact JeF m a b (adv m p)
theorem JiF (m:Nat):∀ k p,(YB m k p).dummy=p.dummy
 | 0,_=>rfl
 | k + 1,p=>by
  show (YB m k (adv m p)).dummy=p.dummy;rw [JiF m k];unfold adv;split <;> rfl
theorem JeE {m i q:Nat}:∀ {d:Nat},d≤runEnd m i - i→YB m d (st m i q)=⟨i + d,runEnd m i - i - d,i,q,none⟩
 | 0,_=>rfl
 | d + 1,h=>by
  rw [JeF m d 1,JeE (d:=d) (by omega)];show adv m _=_;unfold adv;rw [if_pos (by show runEnd m i - i - d > 0; omega)];show Probe.mk _ _ _ _ _=_;congr 1
theorem Jon {m i q:Nat}:YB m (runEnd m i - i + 1) (st m i q)=st m (leap m i q).1 (leap m i q).2:=by
 rw [JeF m _ 1,JeE (Nat.le_refl _)];show adv m _=_;unfold adv;rw [if_neg (by show ¬ runEnd m i - i - (runEnd m i - i) > 0; omega)];rfl
theorem Jps (m i:Nat):runEnd m i - i≤9:=by unfold runEnd; split <;> omega
theorem Jrc {m i:Nat} (h:i≤m):runEnd m i≤m:=by unfold runEnd; split <;> omega
theorem Jl0 (m i q:Nat):(leap m i q).1≤m:=Nat.le_of_lt_succ (Nat.mod_lt _ (Nat.succ_pos _))
def ZT (m:Nat):Nat→Nat×Nat→Nat×Nat
 | 0,x=>x
 | L + 1,x=>ZT m L (leap m x.1 x.2)
theorem JeY (m:Nat):∀ a b x,ZT m (a + b) x=ZT m b (ZT m a x)
 | 0,b,x=>by rw [Nat.zero_add]; rfl
 | a + 1,b,x=>by
  have e:a + 1 + b=(a + b) + 1:=by omega
  rw [e];exact JeY m a b _
theorem Jsf (m:Nat):∀ L i q,∃ k,k≤10 * L∧YB m k (st m i q)=st m (ZT m L (i,q)).1 (ZT m L (i,q)).2
 | 0,i,q=>⟨0,Nat.le_refl _,rfl⟩
 | L + 1,i,q=>by
  obtain ⟨k,hk,e⟩:=Jsf m L (leap m i q).1 (leap m i q).2;have r:=Jps m i;refine ⟨runEnd m i - i + 1 + k,by omega,?_⟩;rw [JeF,Jon,e];rfl
theorem JnT (m:Nat):∀ L i q,(ZT m L (i,q)).2=q / 32 ^ L
 | 0,i,q=>by simp [ZT]
 | L + 1,i,q=>by
  show (ZT m L ((leap m i q).1,(leap m i q).2)).2=_;rw [JnT m L];show q / 32 / 32 ^ L=_;rw [Nat.div_div_eq_div_mul,Nat.pow_succ,Nat.mul_comm]
theorem Jpr (m:Nat):∀ L i q,i≤m→(ZT m L (i,q)).1≤m
 | 0,i,q,h=>h
 | L + 1,i,q,h=>Jpr m L _ _ (Jl0 m i q)
def Jqd (m:Nat):Nat→Nat→List Nat
 | 0,i=>[i]
 | L + 1,i=>i :: Jqd m L ((i * 5 + 1) % (m + 1))
theorem Jij (m:Nat):∀ n i j,j∈Jqd m n i→∃ L,L≤n∧(ZT m L (i,0)).1=j
 | 0,i,j,h=>⟨0,Nat.le_refl _,(List.mem_singleton.mp h).symm⟩
 | n + 1,i,j,h=>by
  rcases List.mem_cons.mp h with rfl | h
  ·exact ⟨0,Nat.zero_le _,rfl⟩
  ·obtain ⟨L,hL,e⟩:=Jij m n _ j h;refine ⟨L + 1,by omega,?_⟩;show (ZT m L (leap m i 0)).1=j;have e2:leap m i 0=((i * 5 + 1) % (m + 1),0):=by unfold leap; simp
   rw [e2];exact e
def Msk (m:Nat):Prop:=m=7∨m=31∨m=127
def Jt5 (m:Nat):Bool:=((List.range (m + 1)).all fun j=>(Jqd m m 0).contains j) && decide (ZT m (m + 1) (0,0)=(0,0))
theorem JtC {m:Nat} (h:Msk m):Jt5 m=true:=by
 rcases h with rfl | rfl | rfl <;> decide +kernel
theorem Jvi (m:Nat) (L i:Nat):ZT m L (i,0)=((ZT m L (i,0)).1,0):=Prod.ext rfl (by rw [JnT]; exact Nat.zero_div _)
theorem Jrl {m i j:Nat} (h:Msk m) (hi:i≤m) (hj:j≤m):∃ L,L≤m∧(ZT m L (i,0)).1=j:=by
 have z:=JtC h;unfold Jt5 at z;rw [Bool.and_eq_true] at z;obtain ⟨z1,z2⟩:=z;have per:ZT m (m + 1) (0,0)=(0,0):=of_decide_eq_true z2;obtain ⟨a,ha,ea⟩:=Jij m m 0 i (List.contains_iff_mem.mp (List.all_eq_true.mp z1 i (List.mem_range.mpr (by omega))));obtain ⟨b,hb,eb⟩:=Jij m m 0 j (List.contains_iff_mem.mp (List.all_eq_true.mp z1 j (List.mem_range.mpr (by omega))));have ei:ZT m a (0,0)=(i,0):=by rw [Jvi,ea]
 by_cases hab:a≤b
 ·refine ⟨b - a,by omega,?_⟩;rw [← ei,← JeY,show a + (b - a)=b by omega];exact eb
 ·refine ⟨m + 1 - a + b,by omega,?_⟩;rw [← ei,← JeY,show a + (m + 1 - a + b)=(m + 1) + b by omega,JeY,per];exact eb
theorem Jr2 {m i q j:Nat} (h:Msk m) (hi:i≤m) (hq:q < 2 ^ 64) (hj:j≤m):∃ L,L≤13 + m∧(ZT m L (i,q)).1=j:=by
 have e:ZT m 13 (i,q)=((ZT m 13 (i,q)).1,0):=by
  refine Prod.ext rfl ?_;rw [JnT];exact Nat.div_eq_of_lt (Nat.lt_trans hq (by decide))
 obtain ⟨L,hL,e2⟩:=Jrl h (Jpr m 13 i q hi) hj;refine ⟨13 + L,by omega,?_⟩;rw [JeY,e];exact e2
theorem JpN (h:Int):bits h < 2 ^ 64:=by
 unfold bits;have h1:=Int.emod_lt_of_pos h (b:=(2 ^ 64:Int)) (by decide);have h0:=Int.emod_nonneg h (b:=(2 ^ 64:Int)) (by decide);omega
theorem Jjg (m:Nat) (h:Int):bits h % (m + 1)≤m:=Nat.le_of_lt_succ (Nat.mod_lt _ (Nat.succ_pos _))
theorem Jla {m:Nat}:∀ {k p},p.j + p.more≤m→(YB m k p).j + (YB m k p).more≤m
 | 0,p,h=>h
 | k + 1,p,h=>by
  refine Jla (k:=k) (p:=adv m p) ?_;unfold adv;split
  ·show p.j + 1 + (p.more - 1)≤m;omega
  ·show (leap m p.i p.perturb).1 + (runEnd m (leap m p.i p.perturb).1 - (leap m p.i p.perturb).1)≤m;have a:=Jl0 m p.i p.perturb;have b:=Jrc a;omega
theorem Jj6 (m:Nat) (h:Int):(YN m h).j + (YN m h).more≤m:=by
 have a:=Jjg m h;have b:=Jrc a;show bits h % (m + 1) + (runEnd m (bits h % (m + 1)) - bits h % (m + 1))≤m;omega
def Jcz (m:Nat) (occ:Nat→Bool) (p:Probe) (k:Nat):Prop:=occ (YB m k p).j=false∧∀ k',k' < k→occ (YB m k' p).j=true
theorem Jtq {m:Nat} {occ:Nat→Bool} {p:Probe}:∀ {k:Nat},occ (YB m k p).j=false→∃ k',k'≤k∧Jcz m occ p k':=by
 intro k
 induction k using Nat.strongRecOn with
 | _ k ih =>
  intro h;by_cases hx:∃ k',k' < k∧occ (YB m k' p).j=false
  ·obtain ⟨k',h1,h2⟩:=hx;obtain ⟨k2,h3,h4⟩:=ih k' h1 h2;exact ⟨k2,by omega,h4⟩
  ·refine ⟨k,Nat.le_refl _,h,fun k' hk=>?_⟩;cases hb:occ (YB m k' p).j with
   | true=>rfl
   | false=>exact absurd ⟨k',hk,hb⟩ hx
theorem Jtr {m:Nat} {occ:Nat→Bool} {h:Int} {j:Nat} (hm:Msk m) (hj:j≤m) (ho:occ j=false):∃ k,k < 10 * (m + 15)∧Jcz m occ (YN m h) k:=by
 obtain ⟨L,hL,e⟩:=Jr2 hm (Jjg m h) (JpN h) hj;obtain ⟨k,hk,e2⟩:=Jsf m L (bits h % (m + 1)) (bits h);have e3:(YB m k (YN m h)).j=j:=by
  show (YB m k (st m _ _)).j=j;rw [e2];exact e
 obtain ⟨k',h1,h2⟩:=Jtq (occ:=occ) (by rw [e3]; exact ho);exact ⟨k',by omega,h2⟩
theorem Jcz.step {m:Nat} {occ:Nat→Bool} {p:Probe} {k:Nat} (h:Jcz m occ p (k + 1)):occ p.j=true∧Jcz m occ (adv m p) k:=⟨h.2 0 (Nat.succ_pos _),h.1,fun k' hk=>h.2 (k' + 1) (by omega)⟩
theorem JpA {t:SetTable} {hashAt:Nat→Int} {h:Int} {occ:Nat→Bool} (ho:∀ j,occ j=true→∃ i,t.slot j=.live i) (hf:∀ j,occ j=false→t.slot j=.empty):∀ (k fuel:Nat) (p:Probe),k < fuel→Jcz t.mask occ p k→p.dummy=none →
  (∃ n i,n < k∧t.slot (YB t.mask n p).j=.live i∧hashAt i=h∧(∀ n' i',n' < n→t.slot (YB t.mask n' p).j=.live i'→hashAt i'≠h)∧probe.go t hashAt h fuel p=some (.candidate (YB t.mask n p).j i (YB t.mask (n + 1) p))) ∨
  ((∀ n i,n < k→t.slot (YB t.mask n p).j=.live i→hashAt i≠h)∧probe.go t hashAt h fuel p=some (.empty (YB t.mask k p).j none))
 | 0,fuel + 1,p,_,hF,hd=>by
  refine .inr ⟨fun n i hn=>absurd hn (Nat.not_lt_zero _),?_⟩;have hz:t.slot p.j=.empty:=hf _ hF.1;unfold probe.go;rw [hz,hd];rfl
 | k + 1,fuel + 1,p,hk,hF,hd=>by
  obtain ⟨h1,h2⟩:=hF.step;obtain ⟨i,hi⟩:=ho _ h1;by_cases hh:hashAt i=h
  ·refine .inl ⟨0,i,Nat.succ_pos _,hi,hh,fun n' i' hn=>absurd hn (Nat.not_lt_zero _),?_⟩;unfold probe.go;rw [hi];simp only [hh,beq_self_eq_true,if_true,Jlv];rfl
  ·have e:probe.go t hashAt h (fuel + 1) p=probe.go t hashAt h fuel (adv t.mask p):=by
    rw [probe.go];rw [hi];have hb:(hashAt i == h)=false:=by simpa using hh
    simp only [hb,Bool.false_eq_true,if_false,Jlv]
   have hd2:(adv t.mask p).dummy=none:=by
    have z:=JiF t.mask 1 p;exact z.trans hd
   rcases JpA ho hf k fuel (adv t.mask p) (by omega) h2 hd2 with ⟨n,i2,a1,a2,a3,a4,a5⟩ | ⟨a1,a2⟩
   ·refine .inl ⟨n + 1,i2,by omega,a2,a3,fun n' i' hn hs=>?_,by rw [e,a5]; rfl⟩;cases n' with
    | zero =>
     have z:t.slot p.j=.live i':=hs;rw [hi] at z;cases z;exact hh
    | succ n'=>exact a4 n' i' (by omega) hs
   ·refine .inr ⟨fun n i2 hn hs=>?_,by rw [e,a2]; rfl⟩;cases n with
    | zero =>
     have z:t.slot p.j=.live i2:=hs;rw [hi] at z;cases z;exact hh
    | succ n=>exact a1 n i2 (by omega) hs
def Ris (xs:Array Nat):Prop:=∀ a b,a < b→b < xs.size→xs.getD a 0 < xs.getD b 0
theorem JkB {xs:Array Nat} {j:Nat} (hr:Ris xs):∀ (fuel lo hi:Nat),hi - lo≤fuel→lo≤hi→hi≤xs.size→(∀ k,k < lo→xs.getD k 0 < j)→(∀ k,hi≤k→k < xs.size→j≤xs.getD k 0) →
  below.go xs j fuel lo hi≤xs.size∧(∀ k,k < below.go xs j fuel lo hi→xs.getD k 0 < j)∧(∀ k,below.go xs j fuel lo hi≤k→k < xs.size→j≤xs.getD k 0)
 | 0,lo,hi,hf,hl,hz,h1,h2=>by
  have e:lo=hi:=by omega
  subst e;unfold below.go;exact ⟨hz,h1,h2⟩
 | fuel + 1,lo,hi,hf,hl,hz,h1,h2=>by
  unfold below.go;by_cases hlt:lo < hi
  ·rw [if_pos hlt];have hm1:lo≤(lo + hi) / 2:=by omega
   have hm2:(lo + hi) / 2 < hi:=by omega
   have e:xs.getD ((lo + hi) / 2) j=xs.getD ((lo + hi) / 2) 0:=by
    have hlt2:(lo + hi) / 2 < xs.size:=by omega
    simp [Array.getD,hlt2]
   dsimp only;rw [e];by_cases hc:xs.getD ((lo + hi) / 2) 0 < j
   ·rw [if_pos hc];refine JkB hr fuel _ hi (by omega) (by omega) hz (fun k hk=>?_) h2;by_cases hk2:k=(lo + hi) / 2
    ·rw [hk2]; exact hc
    ·exact Nat.lt_trans (hr k _ (by omega) (by omega)) hc
   ·rw [if_neg hc];refine JkB hr fuel lo _ (by omega) hm1 (by omega) h1 (fun k hk hks=>?_);by_cases hk2:k=(lo + hi) / 2
    ·rw [hk2]; omega
    ·have:=hr _ k (show (lo + hi) / 2 < k by omega) hks;omega
  ·rw [if_neg hlt];have e:lo=hi:=by omega
   subst e;exact ⟨hz,h1,h2⟩
theorem Jlu {xs:Array Nat} (hr:Ris xs) (j:Nat):below xs j≤xs.size∧(∀ k,k < below xs j→xs.getD k 0 < j)∧(∀ k,below xs j≤k→k < xs.size→j≤xs.getD k 0) :=
 JkB hr xs.size 0 xs.size (by omega) (Nat.zero_le _) (Nat.le_refl _) (fun k hk=>absurd hk (Nat.not_lt_zero _)) fun k hk hks=>by omega
def Y5 (place:Array Nat) (j:Nat):Bool:=place.toList.contains j
theorem JgK {place:Array Nat} {j:Nat}:Y5 place j=true↔∃ a,a < place.size∧place.getD a 0=j:=by
 unfold Y5;rw [List.contains_iff_mem,List.mem_iff_getElem];constructor
 ·rintro ⟨a,ha,e⟩;have ha':a < place.size:=by simpa using ha
  exact ⟨a,ha',by simpa [Array.getD,ha'] using e⟩
 ·rintro ⟨a,ha,e⟩;exact ⟨a,by simpa using ha,by simpa [Array.getD,ha] using e⟩
theorem Jh4 {t:SetTable} (hr:Ris t.place) {a:Nat} (ha:a < t.place.size):t.slot (t.place.getD a 0)=.live a:=by
 obtain ⟨b1,b2,b3⟩:=Jlu hr (t.place.getD a 0);have e:below t.place (t.place.getD a 0)=a:=by
  rcases Nat.lt_trichotomy (below t.place (t.place.getD a 0)) a with h | h | h
  ·have:=b3 _ (Nat.le_refl _) (by omega);have:=hr _ a h ha;omega
  ·exact h
  ·have:=b2 a h;omega
 unfold SetTable.slot;dsimp only;rw [e];have e2:t.place[a]?=some (t.place.getD a 0):=by simp [Array.getD,ha]
 rw [e2];simp
theorem JkO {t:SetTable} (hr:Ris t.place) (hd:t.dummies=#[]) {j:Nat} (h:Y5 t.place j=false):t.slot j=.empty:=by
 unfold SetTable.slot;dsimp only;have hn:(t.place[below t.place j]? == some j)=false:=by
  cases hb:(t.place[below t.place j]? == some j) with
  | false=>rfl
  | true =>
   have z:t.place[below t.place j]?=some j:=by simpa using hb
   obtain ⟨hlt,e⟩:=Array.getElem?_eq_some_iff.mp z;have:Y5 t.place j=true:=JgK.mpr ⟨_,hlt,by simp [Array.getD,hlt,e]⟩;rw [h] at this; cases this
 rw [hn,hd];have hh:has #[] j=false:=by unfold has; simp
 rw [hh];rfl
theorem Js9 {t:SetTable} (hr:Ris t.place) {j:Nat} (h:Y5 t.place j=true):∃ i,t.slot j=.live i:=by
 obtain ⟨a,ha,rfl⟩:=JgK.mp h;exact ⟨a,Jh4 hr ha⟩
theorem JuJ {t:SetTable} (hr:Ris t.place) (hd:t.dummies=#[]) {j i:Nat} (h:t.slot j=.live i):i < t.place.size∧t.place.getD i 0=j:=by
 cases ho:Y5 t.place j with
 | false=>rw [JkO hr hd ho] at h; cases h
 | true =>
  obtain ⟨a,ha,rfl⟩:=JgK.mp ho;rw [Jh4 hr ha] at h;cases h;exact ⟨ha,rfl⟩
theorem Je3:∀ {l r:List Nat},l.Nodup→(∀ x∈l,x∈r)→l.length≤r.length
 | [],_,_,_=>Nat.zero_le _
 | x :: l,r,hn,hs=>by
  have hx:=hs x (List.mem_cons_self ..);have h1:=List.nodup_cons.mp hn;have z:=Je3 (l:=l) (r:=r.erase x) h1.2 fun y hy=>(List.mem_erase_of_ne (by rintro rfl; exact h1.1 hy)).mpr (hs y (List.mem_cons_of_mem _ hy))
  rw [List.length_erase_of_mem hx] at z;have:0 < r.length:=List.length_pos_of_mem hx;simp only [List.length_cons];omega
theorem JuO {place:Array Nat} {m:Nat} (h:place.size≤m):∃ j,j≤m∧Y5 place j=false:=by
 by_cases hx:∃ j,j≤m∧Y5 place j=false
 ·exact hx
 ·exfalso;have z:=Je3 (l:=List.range (m + 1)) (r:=place.toList) List.nodup_range fun x hx2=>by
   cases ho:Y5 place x with
   | false=>exact absurd ⟨x,by have:=List.mem_range.mp hx2; omega,ho⟩ hx
   | true=>exact List.contains_iff_mem.mp ho
  rw [List.length_range,Array.length_toList] at z;omega
end HS
namespace HS
open PySem PySem.SetTable
def Jlw (m:Nat) (occ:Nat→Bool) (h:Int) (j:Nat):Prop:=∃ k,(YB m k (YN m h)).j=j∧∀ k',k' < k→occ (YB m k' (YN m h)).j=true
theorem Jlw.mono {m:Nat} {occ occ':Nat→Bool} {h:Int} {j:Nat} (r:Jlw m occ h j) (ho:∀ j,occ j=true→occ' j=true):Jlw m occ' h j:=let ⟨k,e,a⟩:=r; ⟨k,e,fun k' hk=>ho _ (a k' hk)⟩
structure Tab (t:SetTable) (es:Array (Int×Value)):Prop where
 msk:Msk t.mask
 dum:t.dummies=#[]
 siz:t.place.size=es.size
 ris:Ris t.place
 ub:∀ j∈t.place.toList,j≤t.mask
 cap:es.size≤t.mask
 rch:∀ z∈t.place.toList.zip es.toList,Jlw t.mask (Y5 t.place) z.2.1 z.1
theorem Tab.fits {t:SetTable} {es:Array (Int×Value)} (T:Tab t es):t.fits es.size=true:=by
 unfold SetTable.fits SetTable.fill;rw [T.dum,T.siz];have:=T.cap;simp;exact this
theorem Tab.first {t:SetTable} {es:Array (Int×Value)} (T:Tab t es) (h:Int):∃ k,k < 10 * turns t.mask∧Jcz t.mask (Y5 t.place) (YN t.mask h) k:=by
 obtain ⟨j,hj,ho⟩:=JuO (place:=t.place) (m:=t.mask) (by rw [T.siz]; exact T.cap);exact Jtr T.msk hj ho
theorem Tab.met {t:SetTable} {es:Array (Int×Value)} (T:Tab t es) {h:Int} {k a:Nat} {e:Int×Value} (hF:Jcz t.mask (Y5 t.place) (YN t.mask h) k) (he:es.toList[a]?=some e) (hh:e.1=h) :
  ∃ n,n < k∧t.slot (YB t.mask n (YN t.mask h)).j=.live a:=by
 have ha:a < es.size:=by
  have:=(List.getElem?_eq_some_iff.mp he).1;simpa using this
 have ha':a < t.place.size:=by rw [T.siz]; exact ha
 have hz:(t.place.getD a 0,e)∈t.place.toList.zip es.toList:=by
  refine List.mem_of_getElem? (i:=a) ?_;rw [List.getElem?_zip_eq_some];refine ⟨?_,he⟩;simp [Array.getD,ha']
 obtain ⟨n,e1,e2⟩:=T.rch _ hz;have hh':(YN t.mask e.1)=YN t.mask h:=by rw [hh]
 dsimp only at e1 e2;rw [hh'] at e1;rw [hh'] at e2;have hocc:Y5 t.place (t.place.getD a 0)=true:=JgK.mpr ⟨a,ha',rfl⟩;refine ⟨n,?_,by rw [e1]; exact Jh4 T.ris ha'⟩;rcases Nat.lt_trichotomy n k with q | q | q
 ·exact q
 ·subst q;have:=hF.1;rw [e1,hocc] at this;cases this
 ·have:=e2 k q;rw [hF.1] at this;cases this
theorem JlP {xs:Array Nat}:Ris xs↔xs.toList.Pairwise (· < ·):=by
 rw [List.pairwise_iff_getElem];constructor
 ·intro h i j hi hj hij;have hi':i < xs.size:=by simpa using hi
  have hj':j < xs.size:=by simpa using hj
  have:=h i j hij hj';simpa [Array.getD,hi',hj'] using this
 ·intro h a b hab hb;have ha:a < xs.size:=by omega
  have:=h a b (by simpa using ha) (by simpa using hb) hab;simpa [Array.getD,ha,hb] using this
theorem Jes {α β:Type} {P:List α} {E:List β} {z:α×β}:z∈P.zip E↔∃ i:Nat,P[i]?=some z.1∧E[i]?=some z.2:=by
 rw [List.mem_iff_getElem?];constructor
 ·rintro ⟨i,e⟩;exact ⟨i,List.getElem?_zip_eq_some.mp e⟩
 ·rintro ⟨i,e⟩;exact ⟨i,List.getElem?_zip_eq_some.mpr e⟩
theorem JpQ {α β:Type} {P:List α} {E:List β} {p:Nat} {s:α} {e:β} (h:P.length=E.length) {z:α×β} (hz:z∈(P.take p ++ s :: P.drop p).zip (E.take p ++ e :: E.drop p)):z∈P.zip E∨z=(s,e):=by
 rw [List.zip_append (by rw [List.length_take,List.length_take,h]),List.zip_cons_cons] at hz;rcases List.mem_append.mp hz with q | q
 ·obtain ⟨i,e1,e2⟩:=Jes.mp q;rw [List.getElem?_take] at e1 e2;refine .inl (Jes.mpr ⟨i,?_,?_⟩)
  ·split at e1
   ·exact e1
   ·cases e1
  ·split at e2
   ·exact e2
   ·cases e2
 ·rcases List.mem_cons.mp q with q | q
  ·exact .inr q
  ·obtain ⟨i,e1,e2⟩:=Jes.mp q;rw [List.getElem?_drop] at e1 e2;exact .inl (Jes.mpr ⟨_,e1,e2⟩)
theorem JvA {t:SetTable} {es:Array (Int×Value)} (T:Tab t es) (j:Nat):t.put j=({ t with place:=insertAt t.place (below t.place j) j,dummies:=#[] },below t.place j):=by
 unfold SetTable.put;have hh:has #[] j=false:=by unfold has; simp
 simp only [T.dum,hh,Bool.false_eq_true,if_false]
theorem Jk0 {place:Array Nat} {p j j':Nat}:Y5 (insertAt place p j) j'=true↔j'=j∨Y5 place j'=true:=by
 unfold Y5;rw [List.contains_iff_mem,List.contains_iff_mem,SetTable.toList_insertAt,List.mem_append,List.mem_cons];constructor
 ·rintro (h | h | h)
  ·exact .inr (List.mem_of_mem_take h)
  ·exact .inl h
  ·exact .inr (List.mem_of_mem_drop h)
 ·rintro (h | h)
  ·exact .inr (.inl h)
  ·rw [← List.take_append_drop p place.toList] at h;rcases List.mem_append.mp h with h | h
   ·exact .inl h
   ·exact .inr (.inr h)
theorem Tab.put {t:SetTable} {es:Array (Int×Value)} (T:Tab t es) {h:Int} {x:Value} {k:Nat} (b:Bool) (hF:Jcz t.mask (Y5 t.place) (YN t.mask h) k) (hc:es.size + 1≤t.mask) :
  Tab { mask:=t.mask,place:=insertAt t.place (below t.place (YB t.mask k (YN t.mask h)).j) (YB t.mask k (YN t.mask h)).j,dummies:=#[],finger:=t.finger,led:=t.led,moves:=t.moves,plain:=b }
   (insertAt es (below t.place (YB t.mask k (YN t.mask h)).j) (h,x)):=by
 generalize hj:(YB t.mask k (YN t.mask h)).j=j;have ho:Y5 t.place j=false:=by rw [← hj]; exact hF.1
 have hle:j≤t.mask:=by
  have:=Jla (m:=t.mask) (k:=k) (Jj6 t.mask h);omega
 obtain ⟨b1,b2,b3⟩:=Jlu T.ris j;have mono:∀ j',Y5 t.place j'=true→Y5 (insertAt t.place (below t.place j) j) j'=true:=fun j' q=>Jk0.mpr (.inr q)
 refine ⟨T.msk,rfl,?_,?_,?_,?_,?_⟩
 ·have e1:(insertAt t.place (below t.place j) j).size=t.place.size + 1:=by
   rw [← Array.length_toList,(SetTable.insertAt_perm t.place _ j).length_eq,Array.length_toList,Array.size_push]
  have e2:(insertAt es (below t.place j) (h,x)).size=es.size + 1:=by
   rw [← Array.length_toList,(SetTable.insertAt_perm es _ (h,x)).length_eq,Array.length_toList,Array.size_push]
  show (insertAt t.place (below t.place j) j).size=_;rw [e1,e2,T.siz]
 ·rw [JlP];show (insertAt t.place (below t.place j) j).toList.Pairwise _;rw [SetTable.toList_insertAt];have hp:=JlP.mp T.ris;rw [List.pairwise_append,List.pairwise_cons];refine ⟨hp.sublist (List.take_sublist _ _),⟨fun a ha=>?_,hp.sublist (List.drop_sublist _ _)⟩,fun a ha c hc=>?_⟩
  ·obtain ⟨i,hi,e⟩:=List.mem_iff_getElem.mp ha;rw [List.getElem_drop] at e;have hi2:below t.place j + i < t.place.size:=by
    rw [List.length_drop,Array.length_toList] at hi;omega
   have e2:t.place.getD (below t.place j + i) 0=a:=by rw [← e]; simp [Array.getD,hi2]
   have h1:=b3 _ (Nat.le_add_right _ i) hi2;have h2:a≠j:=fun q=>by
    have:=JgK.mpr ⟨_,hi2,e2.trans q⟩;rw [ho] at this; cases this
   omega
  ·have hlt:∀ a∈t.place.toList.take (below t.place j),a < j:=fun a ha=>by
    obtain ⟨i,hi,e⟩:=List.mem_iff_getElem.mp ha;rw [List.getElem_take] at e;rw [List.length_take,Array.length_toList] at hi;have hi2:i < t.place.size:=by omega
    have e2:t.place.getD i 0=a:=by rw [← e]; simp [Array.getD,hi2]
    have:=b2 i (by omega);omega
   rcases List.mem_cons.mp hc with q | q
   ·rw [q]; exact hlt a ha
   ·have hp2:=hp;rw [← List.take_append_drop (below t.place j) t.place.toList,List.pairwise_append] at hp2;exact hp2.2.2 a ha c q
 ·intro a ha;have:Y5 (insertAt t.place (below t.place j) j) a=true:=List.contains_iff_mem.mpr ha;rcases Jk0.mp this with q | q
  ·rw [q]; exact hle
  ·exact T.ub a (List.contains_iff_mem.mp q)
 ·rw [← Array.length_toList,(SetTable.insertAt_perm es _ (h,x)).length_eq,Array.length_toList,Array.size_push];exact hc
 ·intro z hz;have hz':z∈(insertAt t.place (below t.place j) j).toList.zip (insertAt es (below t.place j) (h,x)).toList:=hz;rw [SetTable.toList_insertAt,SetTable.toList_insertAt] at hz';rcases JpQ (by rw [Array.length_toList,Array.length_toList,T.siz]) hz' with q | q
  ·exact (T.rch z q).mono mono
  ·rw [q];exact ⟨k,hj,fun k' hk=>mono _ (hF.2 k' hk)⟩
def ZP (owner:Array (Option Nat)) (j:Nat):Bool:=(owner.getD j (some 0)).isSome
theorem JmD {m:Nat} {owner:Array (Option Nat)}:∀ (fuel i q:Nat),i≤m→(∃ L,L < fuel∧ZP owner (ZT m L (i,q)).1=false) →
  ∃ k,layClean.free m owner fuel i q=some (YB m k (st m i q)).j∧Jcz m (ZP owner) (st m i q) k
 | 0,i,q,hi,⟨L,hL,_⟩=>absurd hL (Nat.not_lt_zero _)
 | fuel + 1,i,q,hi,⟨L,hL,hf⟩=>by
  have hr:=Jps m i;have hge:i≤runEnd m i:=by unfold runEnd; split <;> omega
  unfold layClean.free;cases hx:(List.range (runEnd m i + 1 - i)).find? fun k=>(owner.getD (i + k) (some 0)).isNone with
  | some k =>
   obtain ⟨h1,h2,h3⟩:=List.find?_range_eq_some.mp hx;have hk:k≤runEnd m i - i:=by have:=List.mem_range.mp h2; omega
   refine ⟨k,?_,?_,fun k' hk'=>?_⟩
   ·rw [JeE hk]
   ·rw [JeE hk];show (owner.getD (i + k) (some 0)).isSome=false;cases ho:owner.getD (i + k) (some 0) with
    | none=>rfl
    | some a=>rw [ho] at h1; cases h1
   ·rw [JeE (by omega)];have z:=h3 k' hk';show (owner.getD (i + k') (some 0)).isSome=true;cases ho:owner.getD (i + k') (some 0) with
    | none=>rw [ho] at z; simp at z
    | some a=>rfl
  | none =>
   have hn:=List.find?_eq_none.mp hx;have occd:∀ d,d≤runEnd m i - i→ZP owner (i + d)=true:=fun d hd=>by
    have z:=hn d (List.mem_range.mpr (by omega));show (owner.getD (i + d) (some 0)).isSome=true;cases ho:owner.getD (i + d) (some 0) with
    | none=>rw [ho] at z; simp at z
    | some a=>rfl
   cases L with
   | zero =>
    have z:=occd 0 (Nat.zero_le _);rw [Nat.add_zero] at z;have hf':ZP owner i=false:=hf;rw [z] at hf'; cases hf'
   | succ L =>
    obtain ⟨k,e,hF⟩:=JmD fuel (leap m i q).1 (leap m i q).2 (Jl0 m i q) ⟨L,by omega,hf⟩;have eI:∀ n,YB m (runEnd m i - i + 1 + n) (st m i q)=YB m n (st m (leap m i q).1 (leap m i q).2):=fun n=>by rw [JeF,Jon]
    refine ⟨runEnd m i - i + 1 + k,?_,?_,fun k' hk'=>?_⟩
    ·rw [eI]; exact e
    ·rw [eI]; exact hF.1
    ·by_cases hs:k'≤runEnd m i - i
     ·rw [JeE hs]; exact occd k' hs
     ·obtain ⟨n,rfl⟩:∃ n,k'=runEnd m i - i + 1 + n:=⟨k' - (runEnd m i - i + 1),by omega⟩
      rw [eI];exact hF.2 n (by omega)
structure Own (m:Nat) (owner:Array (Option Nat)) (done:List Int):Prop where
 siz:owner.size=m + 1
 all:∀ a,a < done.length→∃ j,j≤m∧owner.getD j none=some a
 has:∀ j a,owner.getD j none=some a→∃ h,done[a]?=some h∧Jlw m (ZP owner) h j
 inj:∀ j j' a,owner.getD j none=some a→owner.getD j' none=some a→j=j'
theorem Own.lt {m:Nat} {owner:Array (Option Nat)} {done:List Int} (O:Own m owner done) {j a:Nat} (h:owner.getD j none=some a):j≤m∧a < done.length:=by
 obtain ⟨hh,e,_⟩:=O.has j a h;refine ⟨?_,(List.getElem?_eq_some_iff.mp e).1⟩;by_cases hj:j < owner.size
 ·have:=O.siz; omega
 ·rw [show owner.getD j none=none by simp [Array.getD,hj]] at h; cases h
theorem Jii {owner:Array (Option Nat)} {j:Nat} (hj:j < owner.size):owner.getD j (some 0)=owner.getD j none:=by simp [Array.getD,hj]
theorem Own.free {m:Nat} {owner:Array (Option Nat)} {done:List Int} (O:Own m owner done) (h:done.length≤m):∃ j,j≤m∧ZP owner j=false:=by
 by_cases hx:∃ j,j≤m∧ZP owner j=false
 ·exact hx
 ·exfalso;have hall:∀ j,j≤m→∃ a,owner.getD j none=some a:=fun j hj=>by
   cases ho:ZP owner j with
   | false=>exact absurd ⟨j,hj,ho⟩ hx
   | true =>
    unfold ZP at ho;rw [Jii (by rw [O.siz]; omega)] at ho;exact Option.isSome_iff_exists.mp ho
  have hnd:((List.range (m + 1)).map fun j=>(owner.getD j none).getD 0).Nodup:=by
   rw [List.Nodup,List.pairwise_map];refine List.Pairwise.imp_of_mem ?_ (List.pairwise_lt_range (n:=m + 1));intro a b ha hb hlt e;obtain ⟨x,ex⟩:=hall a (by have:=List.mem_range.mp ha; omega);obtain ⟨y,ey⟩:=hall b (by have:=List.mem_range.mp hb; omega);rw [ex,ey] at e;have e':x=y:=e;subst e';have:=O.inj a b x ex ey;omega
  have z:=Je3 (r:=List.range done.length) hnd fun x hx2=>by
   obtain ⟨j,hj,e⟩:=List.mem_map.mp hx2;obtain ⟨y,ey⟩:=hall j (by have:=List.mem_range.mp hj; omega);rw [ey] at e;have e':y=x:=e;subst e';exact List.mem_range.mpr (O.lt ey).2
  rw [List.length_map,List.length_range,List.length_range] at z;omega
theorem Own.step {m:Nat} {owner:Array (Option Nat)} {done:List Int} (hm:Msk m) (O:Own m owner done) (h:done.length≤m) (x:Int) :
  ∃ j,layClean.free m owner (turns m) (bits x % (m + 1)) (bits x)=some j∧Own m (owner.setIfInBounds j (some done.length)) (done ++ [x]):=by
 obtain ⟨f,hf,ho⟩:=O.free h;obtain ⟨L,hL,eL⟩:=Jr2 hm (Jjg m x) (JpN x) hf;obtain ⟨k,e,hF⟩:=JmD (owner:=owner) (turns m) (bits x % (m + 1)) (bits x) (Jjg m x) ⟨L,by unfold turns; omega,by rw [eL]; exact ho⟩;generalize hj:(YB m k (st m (bits x % (m + 1)) (bits x))).j=j at e;have hjm:j≤m:=by
  have:=Jla (m:=m) (k:=k) (Jj6 m x);have e2:(YB m k (YN m x)).j=j:=hj;omega
 have hjs:j < owner.size:=by rw [O.siz]; omega
 have hj0:owner.getD j none=none:=by
  have z:=hF.1;rw [hj] at z;unfold ZP at z;rw [Jii hjs] at z;cases q:owner.getD j none with
  | none=>rfl
  | some a=>rw [q] at z; cases z
 have get:∀ i,(owner.setIfInBounds j (some done.length)).getD i none=if i=j then some done.length else owner.getD i none:=fun i=>by
  rw [Array.getD_eq_getD_getElem?,Array.getElem?_setIfInBounds];by_cases q:i=j
  ·subst q; simp [hjs]
  ·have q':¬ j=i:=fun w=>q w.symm
   rw [if_neg q',if_neg q,Array.getD_eq_getD_getElem?]
 have mono:∀ i,ZP owner i=true→ZP (owner.setIfInBounds j (some done.length)) i=true:=fun i q=>by
  unfold ZP at q ⊢;by_cases hi:i < owner.size
  ·rw [Jii (by simpa using hi),get];rw [Jii hi] at q;by_cases w:i=j
   ·rw [if_pos w]; rfl
   ·rw [if_neg w]; exact q
  ·simp [Array.getD,hi]
 refine ⟨j,e,by simpa using O.siz,fun a ha=>?_,fun i a hi=>?_,fun i i' a hi hi'=>?_⟩
 ·by_cases hlt:a < done.length
  ·obtain ⟨i,hi,ei⟩:=O.all a hlt;refine ⟨i,hi,?_⟩;rw [get,if_neg (fun q=>by rw [q,hj0] at ei; cases ei)];exact ei
  ·rw [List.length_append,List.length_singleton] at ha;have:a=done.length:=by omega
   subst this;exact ⟨j,hjm,by rw [get,if_pos rfl]⟩
 ·rw [get] at hi;split at hi
  ·rename_i q;cases hi;refine ⟨x,by simp,?_⟩;rw [q];exact ⟨k,hj,fun k' hk=>mono _ (hF.2 k' hk)⟩
  ·obtain ⟨hh,e1,r⟩:=O.has i a hi;exact ⟨hh,by rw [List.getElem?_append_left (List.getElem?_eq_some_iff.mp e1).1]; exact e1,r.mono mono⟩
 ·rw [get] at hi hi';split at hi <;> split at hi'
  ·rename_i q q'; rw [q,q']
  ·cases hi;have:=(O.lt hi').2;omega
  ·cases hi';have:=(O.lt hi).2;omega
  ·exact O.inj i i' a hi hi'
def Joj (m:Nat) (acc:Option (Array (Option Nat)×Nat)) (h:Int):Option (Array (Option Nat)×Nat):=do
 let (owner,k) ← acc;let j ← layClean.free m owner (turns m) (bits h % (m + 1)) (bits h)
 pure (owner.setIfInBounds j (some k),k + 1)
theorem Joi {m:Nat} (hm:Msk m):∀ (todo done:List Int) (owner:Array (Option Nat)),Own m owner done→done.length + todo.length≤m→∃ owner',todo.foldl (Joj m) (some (owner,done.length))=some (owner',done.length + todo.length)∧Own m owner' (done ++ todo)
 | [],done,owner,O,_=>⟨owner,by simp,by simpa using O⟩
 | x :: todo,done,owner,O,h=>by
  simp only [List.length_cons] at h;obtain ⟨j,e,O2⟩:=O.step hm (by omega) x;obtain ⟨o3,e3,O3⟩:=Joi hm todo (done ++ [x]) _ O2 (by rw [List.length_append,List.length_singleton]; omega);refine ⟨o3,?_,by simpa using O3⟩;rw [List.foldl_cons];have e4:Joj m (some (owner,done.length)) x=some (owner.setIfInBounds j (some done.length),done.length + 1):=by
   unfold Joj;simp [e]
  rw [e4];rw [List.length_append,List.length_singleton] at e3;rw [e3];simp only [List.length_cons];congr 2;omega
theorem JrD {m:Nat} (hm:Msk m) (hashes:Array Int) (h:hashes.size≤m):∃ owner,layClean m hashes=some owner∧Own m owner hashes.toList:=by
 have O0:Own m (Array.replicate (m + 1) none) []:=by
  have g:∀ j,(Array.replicate (m + 1) (none:Option Nat)).getD j none=none:=fun j=>by
   rw [Array.getD_eq_getD_getElem?,Array.getElem?_replicate];split <;> rfl
  refine ⟨by simp,fun a ha=>absurd ha (Nat.not_lt_zero _),fun j a e=>?_,fun j j' a e=>?_⟩
  ·rw [g] at e; cases e
  ·rw [g] at e; cases e
 obtain ⟨owner,e,O⟩:=Joi hm hashes.toList [] _ O0 (by simpa using h);refine ⟨owner,?_,by simpa using O⟩;unfold layClean;have e2:(hashes.foldl (init:=some (Array.replicate (m + 1) none,0)) fun acc h=>do
  let (owner,k) ← acc;let j ← layClean.free m owner (turns m) (bits h % (m + 1)) (bits h)
  pure (owner.setIfInBounds j (some k),k + 1))=hashes.toList.foldl (Joj m) (some (Array.replicate (m + 1) none,0)):=by
  rw [← Array.foldl_toList];rfl
 rw [e2];have e3:hashes.toList.foldl (Joj m) (some (Array.replicate (m + 1) none,0))=some (owner,0 + hashes.toList.length):=e;rw [e3];rfl
theorem Jnt {es:Array (Int×Value)}:∀ {live:List (Nat×Nat)},(∀ x∈live,x.2 < es.size)→((live.map (·.2)).filterMap (es[·]?)).length=live.length ∧
  ∀ z∈(live.map (·.1)).zip ((live.map (·.2)).filterMap (es[·]?)),∃ x∈live,z.1=x.1∧es[x.2]?=some z.2
 | [],_=>⟨rfl,fun z hz=>nomatch hz⟩
 | x :: r,h=>by
  obtain ⟨a,b⟩:=Jnt (live:=r) fun y hy=>h y (List.mem_cons_of_mem _ hy)
  have hx:=h x (List.mem_cons_self ..);have e:es[x.2]?=some es[x.2]:=Array.getElem?_eq_getElem hx;rw [List.map_cons,List.filterMap_cons_some e,List.map_cons,List.zip_cons_cons];refine ⟨by rw [List.length_cons,List.length_cons,a],fun z hz=>?_⟩;rcases List.mem_cons.mp hz with q | q
  ·exact ⟨x,List.mem_cons_self ..,by rw [q],by rw [q]; exact e⟩
  ·obtain ⟨y,hy,e1,e2⟩:=b z q;exact ⟨y,List.mem_cons_of_mem _ hy,e1,e2⟩
theorem Jwl {m:Nat} (hm:Msk m) (finger moves:Nat) (led plain:Bool) (es:Array (Int×Value)) (h:es.size≤m) :
  ∃ t order,laid m finger moves led plain (es.map (·.1))=some (t,order)∧Tab t (order.filterMap (es[·]?))∧(order.filterMap (es[·]?)).size=es.size∧(∀ e,e∈(order.filterMap (es[·]?)).toList↔e∈es.toList)∧t.mask=m:=by
 obtain ⟨owner,eo,O⟩:=JrD hm (es.map (·.1)) (by simpa using h);have hlen:(es.map (·.1)).toList.length=es.size:=by simp
 let live:=(List.range (m + 1)).filterMap fun j=>(owner.getD j none).map (j,·)
 have hlive:∀ x,x∈live↔owner.getD x.1 none=some x.2:=fun x=>by
  rw [List.mem_filterMap];constructor
  ·rintro ⟨j,hj,e⟩;obtain ⟨a,ea,e2⟩:=Option.map_eq_some_iff.mp e;rw [← e2];exact ea
  ·intro e;exact ⟨x.1,List.mem_range.mpr (by have:=(O.lt e).1; omega),by rw [e]; rfl⟩
 have hlt:∀ x∈live,x.2 < es.size:=fun x hx=>by rw [← hlen]; exact (O.lt ((hlive x).mp hx)).2
 obtain ⟨zl,zm⟩:=Jnt hlt;have efst:live.map (·.1)=(List.range (m + 1)).filter fun j=>(owner.getD j none).isSome:=by
  show ((List.range (m + 1)).filterMap fun j=>(owner.getD j none).map (j,·)).map (·.1)=_;rw [List.map_filterMap]
  induction List.range (m + 1) with
  | nil=>rfl
  | cons a r ih =>
   cases ho:owner.getD a none with
   | none=>simp only [List.filterMap_cons,List.filter_cons,ho,Option.map_none,Option.isSome_none,Bool.false_eq_true,if_false]; exact ih
   | some b=>simp only [List.filterMap_cons,List.filter_cons,ho,Option.map_some,Option.isSome_some,if_true]; rw [ih]
 have hocc:∀ j,ZP owner j=true→j≤m→Y5 (live.map (·.1)).toArray j=true:=fun j q hj=>by
  unfold Y5;rw [List.contains_iff_mem,List.toList_toArray,efst,List.mem_filter];refine ⟨List.mem_range.mpr (by omega),?_⟩;unfold ZP at q;rw [Jii (by rw [O.siz]; omega)] at q;exact q
 have hcount:live.length=es.size:=by
  have n1:(live.map (·.2)).Nodup:=by
   rw [List.Nodup,List.pairwise_map];refine List.Pairwise.imp_of_mem (R:=fun x y=>x.1 < y.1) ?_ ?_
   ·intro x y hx hy hxy e;have e1:=(hlive x).mp hx;have e2:=(hlive y).mp hy;rw [← e] at e2;have:=O.inj _ _ _ e1 e2;omega
   ·have z:(live.map (·.1)).Pairwise (· < ·):=by rw [efst]; exact List.pairwise_lt_range.sublist List.filter_sublist
    exact List.pairwise_map.mp z
  have a1:=Je3 n1 (r:=List.range es.size) fun x hx=>by
   obtain ⟨y,hy,e⟩:=List.mem_map.mp hx;rw [← e];exact List.mem_range.mpr (hlt y hy)
  have a2:=Je3 (l:=List.range es.size) (r:=live.map (·.2)) List.nodup_range fun x hx=>by
   obtain ⟨j,hj,e⟩:=O.all x (by rw [hlen]; exact List.mem_range.mp hx);exact List.mem_map.mpr ⟨(j,x),(hlive _).mpr e,rfl⟩
  rw [List.length_map,List.length_range] at a1 a2;omega
 have efm:((live.map (·.2)).toArray.filterMap (es[·]?)).toList=(live.map (·.2)).filterMap (es[·]?):=by rw [Array.toList_filterMap]
 have esz:((live.map (·.2)).toArray.filterMap (es[·]?)).size=es.size:=by rw [← Array.length_toList,efm,zl,hcount]
 refine ⟨{ mask:=m,place:=(live.map (·.1)).toArray,dummies:=#[],finger,led,moves,plain },(live.map (·.2)).toArray,?_,⟨hm,rfl,?_,?_,?_,?_,?_⟩,esz,fun e=>?_,rfl⟩
 ·unfold laid;rw [eo];rfl
 ·rw [esz];show (live.map (·.1)).toArray.size=es.size;rw [List.size_toArray,List.length_map,hcount]
 ·rw [JlP];show (live.map (·.1)).toArray.toList.Pairwise _;rw [List.toList_toArray,efst];exact List.pairwise_lt_range.sublist List.filter_sublist
 ·intro j hj;have hj':j∈(live.map (·.1)).toArray.toList:=hj;rw [List.toList_toArray] at hj';obtain ⟨x,hx,e⟩:=List.mem_map.mp hj';rw [← e];exact (O.lt ((hlive x).mp hx)).1
 ·rw [esz]; exact h
 ·intro z hz;rw [efm] at hz;have hz':z∈(live.map (·.1)).zip ((live.map (·.2)).filterMap (es[·]?)):=by simpa using hz
  obtain ⟨x,hx,e1,e2⟩:=zm z hz';obtain ⟨hh,e3,r⟩:=O.has _ _ ((hlive x).mp hx);have e4:hh=z.2.1:=by
   rw [Array.getElem?_toList,Array.getElem?_map,e2] at e3;exact (Option.some.inj e3).symm
  rw [e1,← e4];obtain ⟨k,ek,ak⟩:=r;refine ⟨k,ek,fun k' hk=>hocc _ (ak k' hk) ?_⟩;have:=Jla (m:=m) (k:=k') (Jj6 m hh);show (YB m k' (YN m hh)).j≤m;omega
 ·rw [efm,List.mem_filterMap];constructor
  ·rintro ⟨a,_,q⟩;exact List.mem_of_getElem? (by rw [Array.getElem?_toList]; exact q)
  ·intro he;obtain ⟨a,ha,q⟩:=List.mem_iff_getElem.mp he;have ha':a < es.size:=by simpa using ha
   obtain ⟨j,hj,e⟩:=O.all a (by rw [hlen]; exact ha');refine ⟨a,List.mem_map.mpr ⟨(j,a),(hlive _).mpr e,rfl⟩,?_⟩;rw [Array.getElem?_eq_getElem ha'];simpa using q
end HS
namespace HS
open PySem PySem.SetTable L2
section
variable {prog:Program} {w:World} {A:Around} {E:Value→Shared→Prop} {s:Shared}
abbrev TK (prog:Program) (w:World):=IsTupleKey (Yy prog w)
abbrev hsh (prog:Program) (w:World) (ks:List JK):Int:=tupleKeyHash (Yy prog w) ks
theorem Jo5 (n:Nat) {v:Value} (h:carriedByValue v=true):ofAClassStatement n v=pure false:=by
 cases v with
 | ref a=>simp [carriedByValue] at h
 | _=>first | rfl | simp [ofAClassStatement] | (unfold ofAClassStatement; rfl)
theorem JjI {ks:List JK} {a:Addr} {Q:Bool→Shared→Prop} (hk:TK prog w s.heap ks a) (h:Q false s):wpAny (model prog w) A (ofAClassStatement 8 (.ref a)) Q E s:=by
 obtain ⟨o,items,n,ho,hc,hd,hi⟩:=hk;unfold ofAClassStatement;refine wpAny_bind (PySem.W.Looks.here (show PySem.W.Looks _ s.heap (typeOf (.ref a)) (.type "tuple") from hc ▸ (PySem.W.Looks.ld ho).andThen .now) ?_);dsimp only;rw [if_pos (by decide)];refine wpAny_bind (wpAny_pure ?_);rw [if_neg (by decide)];refine wpAny_bind (wpAny_seqItems ho hd ?_);dsimp only;refine wpAny_bind ?_;rw [← Array.forIn_toList];refine wpAny_forIn_list _ (fun rest r s'=>r=(none,())∧s'=s∧∀ v∈rest,carriedByValue v=true) _ ?_ ?_ _ _ ⟨rfl,rfl,hi.byValue⟩
 ·rintro v rest r s' ⟨hr,rfl,hall⟩;rw [Jo5 _ (hall v List.mem_cons_self)];refine wpAny_bind (wpAny_pure ?_);rw [if_neg (by decide)];exact wpAny_pure ⟨rfl,rfl,fun u hu'=>hall u (List.mem_cons_of_mem _ hu')⟩
 ·rintro r s' ⟨hr,rfl,_⟩;subst hr;exact wpAny_pure h
theorem Jus {ks:List JK} {x:Addr} {stored:List Value} {Q:Bool→Shared→Prop} (hk:TK prog w s.heap ks x) (hall:∀ v∈stored,∃ a k',v=.ref a∧TK prog w s.heap k' a) (h:Q false s) :
  wpAny (model prog w) A (searchCouldBeSeen (.ref x) stored) Q E s:=by
 unfold searchCouldBeSeen;refine wpAny_bind ?_;refine wpAny_forIn_list _ (fun rest r s'=>r=(none,())∧s'=s∧∀ v∈rest,∃ a k',v=.ref a∧TK prog w s.heap k' a) _ ?_ ?_ _ _ ⟨rfl,rfl,hall⟩
 ·rintro v rest r s' ⟨hr,rfl,hall⟩;obtain ⟨a,k',rfl,hk'⟩:=hall v List.mem_cons_self;have rest_ok:∀ v∈rest,∃ a k',v=Value.ref a∧TK prog w s'.heap k' a:=fun u hu'=>hall u (List.mem_cons_of_mem _ hu')
  dsimp only;split
  ·exact wpAny_pure ⟨rfl,rfl,rest_ok⟩
  ·refine wpAny_bind (wpAny_eqIsQuiet_tuple hk ?_);rw [if_neg (by decide)];refine wpAny_bind (wpAny_eqIsQuiet_tuple hk' ?_);rw [if_neg (by decide)];refine wpAny_bind (JjI hk ?_);rw [if_neg (by decide)];refine wpAny_bind (JjI hk' ?_);rw [if_neg (by decide)];exact wpAny_pure ⟨rfl,rfl,rest_ok⟩
 ·rintro r s' ⟨hr,rfl,_⟩;subst hr;exact wpAny_pure h
structure Jga (prog:Program) (w:World) (h:Heap) (S:Addr) (es:Array (Int×Value)) (t:SetTable) (D:List (List JK)):Prop where
 tab:Tab t es
 full:es.size * 5 < t.mask * 3
 els:∀ e∈es.toList,∃ ks∈D,∃ a,e=(hsh prog w ks,.ref a)∧TK prog w h ks a
 all:∀ ks∈D,∃ a,(hsh prog w ks,.ref a)∈es.toList∧TK prog w h ks a
 siz:es.size=D.length
theorem Jp4 {S x:Addr} {ks:List JK} {o:Obj} {es:Array (Int×Value)} {ep:Nat} {t:SetTable} {D:List (List JK)} {Q:SetFound→Shared→Prop} (hu:A.units < cLine) (ho:s.heap.get? S=some o) (hd:o.data=.set es ep t)
  (SA:Jga prog w s.heap S es t D) (hk:TK prog w s.heap ks x) :
  ∀ (k fuel:Nat) (sd:Option Probe),k < fuel→k < 10 * turns t.mask→Jcz t.mask (Y5 t.place) (sd.getD (t.probeStart (hsh prog w ks))) k→(sd.getD (t.probeStart (hsh prog w ks))).dummy=none →
   ((∃ n i a,n < k∧t.slot (YB t.mask n (sd.getD (t.probeStart (hsh prog w ks)))).j=.live i∧es.toList[i]?=some (hsh prog w ks,.ref a)∧TK prog w s.heap ks a)→Q (.there none) s) →
   ((∀ n i a,n < k→t.slot (YB t.mask n (sd.getD (t.probeStart (hsh prog w ks)))).j=.live i→es.toList[i]?=some (hsh prog w ks,.ref a)→TK prog w s.heap ks a→False)→Q (.free (YB t.mask k (sd.getD (t.probeStart (hsh prog w ks)))).j false) s) →
   wpAny (model prog w) A (setSearchFrom S (.ref x) (hsh prog w ks) true fuel sd) Q E s:=by
 intro k
 induction k using Nat.strongRecOn with
 | _ k ih =>
  intro fuel sd hf hb hF hdm h1 h2;obtain ⟨fuel,rfl⟩:∃ f,fuel=f + 1:=⟨fuel - 1,by omega⟩
  unfold setSearchFrom;refine wpAny_bind (wpAny_setState_of ho hd SA.tab.fits ?_);dsimp only;have hg:¬ t.gaveWay=true:=by
   unfold SetTable.gaveWay;rcases SA.tab.msk with e | e | e <;> rw [e] <;> decide
  rw [if_neg hg];have spec:=JpA (t:=t) (hashAt:=fun i=>(es[i]?.map (·.1)).getD 0) (h:=hsh prog w ks) (fun j=>Js9 SA.tab.ris) (fun j=>JkO SA.tab.ris SA.tab.dum) k (10 * turns t.mask) (sd.getD (t.probeStart (hsh prog w ks))) hb hF hdm;split
  ·rename_i met hmet;rcases spec with ⟨n,i,a1,a2,a3,a4,a5⟩ | ⟨a1,a2⟩
   ·have e:=Option.some.inj (hmet.symm.trans a5);subst e;dsimp only;obtain ⟨hi,hpl⟩:=JuJ SA.tab.ris SA.tab.dum a2;have hie:i < es.size:=by rw [← SA.tab.siz]; exact hi
    obtain ⟨k',hk'D,b,eb,hkb⟩:=SA.els es[i] (by simp);have hei:es[i]?=some (hsh prog w k',.ref b):=by rw [Array.getElem?_eq_getElem hie,eb]
    have heL:es.toList[i]?=some (hsh prog w k',.ref b):=by rw [Array.getElem?_toList]; exact hei
    have hhash:hsh prog w k'=hsh prog w ks:=by
     rw [hei] at a3;exact a3
    have eI:∀ j,YB t.mask j (YB t.mask (n + 1) (sd.getD (t.probeStart (hsh prog w ks))))=YB t.mask (n + 1 + j) (sd.getD (t.probeStart (hsh prog w ks))):=fun j=>(JeF t.mask (n + 1) j _).symm
    have again:k'≠ks→wpAny (model prog w) A (setSearchFrom S (.ref x) (hsh prog w ks) true fuel (some (YB t.mask (n + 1) (sd.getD (t.probeStart (hsh prog w ks)))))) Q E s:=fun he=>by
     have ek:n + 1 + (k - (n + 1))=k:=by omega
     refine ih (k - (n + 1)) (by omega) fuel (some (YB t.mask (n + 1) (sd.getD (t.probeStart (hsh prog w ks))))) (by omega) (by omega) ⟨?_,fun j hj=>?_⟩ ?_ (fun q=>?_) (fun q=>?_)
     ·show Y5 t.place (YB t.mask _ (YB t.mask (n + 1) _)).j=false;rw [eI,ek]; exact hF.1
     ·show Y5 t.place (YB t.mask _ (YB t.mask (n + 1) _)).j=true;rw [eI]; exact hF.2 _ (by omega)
     ·show (YB t.mask (n + 1) _).dummy=none;rw [JiF]; exact hdm
     ·obtain ⟨n2,i2,c,c1,c2,c3,c4⟩:=q;have c2':t.slot (YB t.mask n2 (YB t.mask (n + 1) (sd.getD (t.probeStart (hsh prog w ks))))).j=.live i2:=c2;rw [eI] at c2';exact h1 ⟨_,i2,c,by omega,c2',c3,c4⟩
     ·show Q (.free (YB t.mask _ (YB t.mask (n + 1) (sd.getD (t.probeStart (hsh prog w ks))))).j false) s;rw [eI,ek];refine h2 fun n2 i2 c c1 c2 c3 c4=>?_
      rcases Nat.lt_trichotomy n2 n with g | g | g
      ·exact a4 n2 i2 g c2 (by rw [← Array.getElem?_toList,c3]; rfl)
      ·subst g;rw [a2] at c2;cases c2;rw [heL] at c3;have e5:=congrArg (fun z=>z.2) (Option.some.inj c3);have e6:b=c:=Value.ref.inj e5;subst e6;exact he (hkb.inj c4)
      ·refine q (n2 - (n + 1)) i2 c (by omega) ?_ c3 c4;show t.slot (YB t.mask _ (YB t.mask (n + 1) _)).j=_;rw [eI,show n + 1 + (n2 - (n + 1))=n2 by omega];exact c2
    cases hl:t.led
    ·rw [if_pos (by rfl)];refine wpAny_bind (Jus hk (fun v hv=>?_) ?_)
     ·obtain ⟨e,he,rfl⟩:=List.mem_map.mp hv;have he2:e∈es.toList:=by
       have:=Array.mem_toList_iff.mp he;exact Array.mem_toList_iff.mpr (Array.mem_filter.mp this).1
      obtain ⟨k2,_,b2,rfl,hb2⟩:=SA.els e he2;exact ⟨b2,k2,rfl,hb2⟩
     ·rw [if_neg (by decide)];rw [hei];dsimp only;refine wpAny_bind (wpAny_holding (wpAny_eqBool_tuple hu hkb hk ?_));refine wpAny_bind (wpAny_setState_of ho hd SA.tab.fits ?_);dsimp only;by_cases he:k'=ks
      ·subst he;rw [decide_eq_true rfl,if_pos (by decide)];exact wpAny_pure (h1 ⟨n,i,b,a1,a2,heL,hkb⟩)
      ·rw [decide_eq_false he,if_neg (by decide)];have hsm:t.sameMemory t.moves t.mask=some true:=by unfold SetTable.sameMemory; rw [if_pos (by simp)]
       rw [hsm];dsimp only;rw [if_pos rfl,a2];dsimp only;rw [hei];dsimp only;refine wpAny_bind (wpAny_isSame_ref_self ?_);rw [if_pos rfl];refine wpAny_bind (wpAny_pure ?_);dsimp only;rw [if_neg (by decide)];exact again he
    ·rw [if_neg (by decide)];rw [hei];dsimp only;refine wpAny_bind (wpAny_holding (wpAny_eqBool_tuple hu hkb hk ?_));refine wpAny_bind (wpAny_setState_of ho hd SA.tab.fits ?_);dsimp only;by_cases he:k'=ks
     ·subst he;rw [decide_eq_true rfl,if_pos (by decide)];exact wpAny_pure (h1 ⟨n,i,b,a1,a2,heL,hkb⟩)
     ·rw [decide_eq_false he,if_neg (by decide)];have hsm:t.sameMemory t.moves t.mask=some true:=by unfold SetTable.sameMemory; rw [if_pos (by simp)]
      rw [hsm];dsimp only;rw [if_pos rfl,a2];dsimp only;rw [hei];dsimp only;refine wpAny_bind (wpAny_isSame_ref_self ?_);rw [if_pos rfl];refine wpAny_bind (wpAny_pure ?_);dsimp only;rw [if_neg (by decide)];exact again he
   ·have e:=Option.some.inj (hmet.symm.trans a2);subst e;exact wpAny_pure (h2 fun n i a hn hs he hka=>a1 n i hn hs (by
     show (es[i]?.map (·.1)).getD 0=_;rw [← Array.getElem?_toList,he]; rfl))
  ·rename_i hmet;exfalso;rcases spec with ⟨n,i,a1,a2,a3,a4,a5⟩ | ⟨a1,a2⟩
   ·exact hmet _ a5
   ·exact hmet _ a2
open Classical in
noncomputable def dd (D:List (List JK)) (ks:List JK):List (List JK):=if ks∈D then D else D ++ [ks]
theorem TK.stay {h h':Heap} {S a:Addr} {o:Obj} {ks:List JK} {es:Array (Int×Value)} {ep:Nat} {t:SetTable} (hk:TK prog w h ks a) (ho:h.get? S=some o) (hd:o.data=.set es ep t) (hs:Heap.SameBut S h h'):TK prog w h' ks a:=by
 obtain ⟨o',items,n,ho',hc,hd',hi⟩:=hk;have hne:a≠S:=by
  rintro rfl;obtain rfl:o'=o:=Option.some.inj (ho'.symm.trans ho);rw [hd] at hd';exact nomatch hd'
 exact ⟨o',items,n,(hs.2 a hne).trans ho',hc,hd',hi⟩
theorem JuM {M:Model} {ks:List JK} {a:Addr} {Q:Bool→Shared→Prop} (hk:TK prog w s.heap ks a) (h:∀ b,Q b s):wpAny (model prog w) A (hashByValue 8 (.ref a)) Q E s:=by
 have hT:=hk.typeIs;obtain ⟨o,items,n,ho,hc,hd,hi⟩:=hk;unfold hashByValue;refine wpAny_bind (wpAny_specialOf hT F.slot_tuple_hash.lookup ?_);dsimp only;refine wpAny_bind (wpAny_seqItems ho hd ?_);refine wpAny_bind ?_;show wpAny _ _ (forIn items _ _) _ _ s;rw [← Array.forIn_toList];refine wpAny_forIn_list _ (fun rest r s'=>r=(none,())∧s'=s∧∀ v∈rest,carriedByValue v=true) _ ?_ ?_ _ _ ⟨rfl,rfl,hi.byValue⟩
 ·rintro v rest r s' ⟨hr,rfl,hall⟩;have hb:∃ b,hashByValue 7 v=pure b:=by
   have hv:=hall v List.mem_cons_self;cases v <;> first | exact ⟨_,rfl⟩ | (simp [carriedByValue] at hv; done)
  obtain ⟨b,eb⟩:=hb;rw [eb];refine wpAny_bind (wpAny_pure ?_);cases b with
  | true =>
   rw [if_neg (by decide)];exact wpAny_pure ⟨rfl,rfl,fun u hu'=>hall u (List.mem_cons_of_mem _ hu')⟩
  | false =>
   rw [if_pos (by decide)];exact wpAny_pure (wpAny_pure (h _))
 ·rintro r s' ⟨hr,rfl,_⟩;subst hr;exact wpAny_pure (h _)
theorem Jsp {S x:Addr} {ks:List JK} {o:Obj} {es es1:Array (Int×Value)} {ep:Nat} {t t1:SetTable} {D:List (List JK)} {Q:Bool→Shared→Prop} (ho:s.heap.get? S=some o) (hex:o.ExactSet) (hd:o.data=.set es ep t)
  (SA:Jga prog w s.heap S es t D) (hk:TK prog w s.heap ks x) (hn:D.length < 64) (T1:Tab t1 es1) (hsz:es1.size=es.size + 1) (hmk:t1.mask=t.mask) (hmem:∀ e,e∈es1.toList↔e∈es.toList∨e=(hsh prog w ks,.ref x))
  (h:∀ b h' es' ep' t' o',Heap.SameBut S s.heap h'→h'.get? S=some o'→o'.ExactSet→o'.data=.set es' ep' t'→Jga prog w h' S es' t' (D ++ [ks])→Q b { s with heap:=h' }) :
  wpAny (model prog w) A (do
   storeSet S es1 t1
   if (!false && t1.tooFull)=true then do
    setRelay S (grown (es.size + 1))
    pure true
   else pure true) Q E s:=by
 have hes:=SA.siz;have bound:∀ n,n≤1000→n≤sizeLine:=fun n hn=>by rw [sizeLine_eq]; omega
 have mk:∀ {h':Heap} {es':Array (Int×Value)} {t':SetTable},Heap.SameBut S s.heap h'→Tab t' es'→es'.size * 5 < t'.mask * 3→es'.size=es1.size→(∀ e,e∈es'.toList↔e∈es1.toList)→Jga prog w h' S es' t' (D ++ [ks]):=fun {h' es' t'} hs T f z m=>by
  refine ⟨T,f,fun e he=>?_,fun k2 hk2=>?_,by rw [z,hsz,hes,List.length_append]; rfl⟩
  ·rcases (hmem e).mp ((m e).mp he) with q | q
   ·obtain ⟨k2,a1,a,a2,a3⟩:=SA.els e q;exact ⟨k2,List.mem_append_left _ a1,a,a2,a3.stay ho hd hs⟩
   ·exact ⟨ks,List.mem_append_right _ (List.mem_singleton.mpr rfl),x,q,hk.stay ho hd hs⟩
  ·rcases List.mem_append.mp hk2 with q | q
   ·obtain ⟨a,a1,a2⟩:=SA.all k2 q;exact ⟨a,(m _).mpr ((hmem _).mpr (.inl a1)),a2.stay ho hd hs⟩
   ·rw [List.mem_singleton.mp q];exact ⟨x,(m _).mpr ((hmem _).mpr (.inr rfl)),hk.stay ho hd hs⟩
 refine wpAny_bind (wpAny_storeSet_of ho hd ?_ (bound _ (by omega)));have hg:∀ {hh:Heap} {o:Obj} {es es':Array (Int×Value)} {ep:Nat} {t t':SetTable},hh.get? S=some o→o.data=.set es ep t→(hh.update S (Obj.putSet es' t')).get? S=some { o with data:=.set es' (ep + 1) t' }:=fun {hh o es es' ep t t'} ho hd=>by
  have z:=Heap.get?_update_self (Obj.putSet es' t') ho (by rw [putSet_of es' t' hd]; rfl);rw [putSet_of es' t' hd] at z;exact z
 have ho1:=hg (es':=es1) (t':=t1) ho hd;have hs1:=Heap.SameBut.update s.heap S (Obj.putSet es1 t1);have hfill:t1.fill=es1.size:=by unfold SetTable.fill; rw [T1.dum,T1.siz]; rfl
 by_cases hf:t1.tooFull=true
 ·rw [if_pos (by rw [hf]; rfl)];have hfull:=SA.full;unfold SetTable.tooFull at hf;rw [hfill,decide_eq_true_eq,hmk] at hf;obtain ⟨m',hm',hw,hcap⟩:∃ m',Msk m'∧sizeAbove (grown (es.size + 1))=m' + 1∧es1.size * 5 < m' * 3:=by
   rcases SA.tab.msk with e | e | e
   ·refine ⟨31,.inr (.inl rfl),?_,by omega⟩;have e4:es.size=4:=by omega
    rw [e4]; decide
   ·refine ⟨127,.inr (.inr rfl),?_,by omega⟩;have e4:es.size=18:=by omega
    rw [e4]; decide
   ·omega
  have hm127:m'≤127:=by rcases hm' with e | e | e <;> omega
  obtain ⟨t2,order,e2,T2,z2,m2,_⟩:=Jwl hm' t1.finger (t1.movedTo m') t1.led t1.plain es1 (by omega);have erel:t1.relaid (es1.map (·.1)) (grown (es.size + 1))=some (t2,order):=by
   unfold SetTable.relaid;rw [hw];exact e2
  unfold setRelay;refine wpAny_bind (wpAny_bind (wpAny_setState_of (s:={ s with heap:=s.heap.update S (Obj.putSet es1 t1) }) ho1 rfl T1.fits ?_));dsimp only;rw [if_neg (by rw [hw]; exact Nat.not_lt.mpr (bound _ (by omega)))];refine wpAny_bind ?_;rw [erel];show wpAny _ _ (if ((order.filterMap (es1[·]?)).size != es1.size)=true then _ else _) _ _ _;rw [if_neg (by rw [z2]; simp)];refine wpAny_pure ?_;dsimp only;refine wpAny_storeSet_of (s:={ s with heap:=s.heap.update S (Obj.putSet es1 t1) }) ho1 rfl ?_ (bound _ (by omega));have hs2:=hs1.trans (Heap.SameBut.update (s.heap.update S (Obj.putSet es1 t1)) S (Obj.putSet (order.filterMap (es1[·]?)) t2));exact wpAny_pure (h _ _ _ _ _ _ hs2 (hg ho1 rfl) hex rfl (mk hs2 T2 (by rw [z2]; have:=T2.cap; omega) z2 m2))
 ·rw [if_neg (by simpa using hf)];refine wpAny_pure (h _ _ es1 _ t1 _ hs1 ho1 hex rfl (mk hs1 T1 ?_ rfl fun _=>Iff.rfl));unfold SetTable.tooFull at hf;rw [hfill,decide_eq_true_eq] at hf;omega
theorem JuV {S x:Addr} {ks:List JK} {o:Obj} {es:Array (Int×Value)} {ep:Nat} {t:SetTable} {D:List (List JK)} {Q:Bool→Shared→Prop} (hu:A.units < cLine) (ho:s.heap.get? S=some o) (hex:o.ExactSet) (hd:o.data=.set es ep t)
  (SA:Jga prog w s.heap S es t D) (hk:TK prog w s.heap ks x) (hn:D.length < 64)
  (h:∀ b h' tk es' ep' t' o',Heap.SameBut S s.heap h'→h'.get? S=some o'→o'.ExactSet→o'.data=.set es' ep' t'→Jga prog w h' S es' t' (dd D ks)→Q b { s with heap:=h',toks:=tk }) :
  wpAny (model prog w) A (setAdd S (.ref x)) Q E s:=by
 unfold setAdd;refine wpAny_holding (wpAny_bind (wpAny_pyHash_tuple hu hk ?_));unfold setAddHashed setAddHashedIn;refine wpAny_holding (wpAny_bind (wpAny_setState_of ho hd SA.tab.fits ?_));dsimp only;have hbs:byScan (.ref x) es=false:=rfl;rw [hbs,if_neg (by decide)];obtain ⟨k,hk1,hF⟩:=SA.tab.first (hsh prog w ks);have hm:t.mask≤127:=by rcases SA.tab.msk with e | e | e <;> omega
 have SA2:Jga prog w ({ s with toks:=s.toks + (ks.length + 1) }:Shared).heap S es t D:=SA;refine wpAny_bind (Jp4 (s:={ s with toks:=s.toks + (ks.length + 1) }) hu ho hd SA2 hk k 100000 none (by unfold turns at hk1; omega) hk1 hF rfl ?_ ?_)
 ·rintro ⟨n,i,a,g1,g2,g3,g4⟩;dsimp only;have hin:ks∈D:=by
   obtain ⟨k2,hk2,b,e,hb⟩:=SA.els _ (List.mem_of_getElem? g3);have e6:a=b:=Value.ref.inj (congrArg (fun z=>z.2) e);subst e6;rw [IsTupleKey.inj g4 hb];exact hk2
  have e:dd D ks=D:=by unfold dd; exact if_pos hin
  exact wpAny_pure (h _ s.heap _ es ep t o (Heap.SameBut.refl S s.heap) ho hex hd (by rw [e]; exact SA))
 ·intro hno;dsimp only;have hnin:ks∉D:=fun hin=>by
   obtain ⟨a,ha,hka⟩:=SA.all ks hin;obtain ⟨i,hi⟩:=List.mem_iff_getElem?.mp ha;obtain ⟨n,hn1,hn2⟩:=SA.tab.met hF hi rfl;exact hno n i a hn1 hn2 hi hka
  have edd:dd D ks=D ++ [ks]:=by unfold dd; exact if_neg hnin
  refine wpAny_bind (wpAny_setState_of ho hd SA.tab.fits ?_);dsimp only;have hc:es.size + 1≤t.mask:=by
   have:=SA.full;rcases SA.tab.msk with e | e | e <;> omega
  have hmem:∀ (p:Nat) e,e∈(insertAt es p (hsh prog w ks,Value.ref x)).toList↔e∈es.toList∨e=(hsh prog w ks,.ref x):=fun p e=>by
   rw [(SetTable.insertAt_perm es p _).mem_iff,Array.toList_push,List.mem_append,List.mem_singleton]
  have hsz:∀ p:Nat,(insertAt es p (hsh prog w ks,Value.ref x)).size=es.size + 1:=fun p=>by
   rw [← Array.length_toList,(SetTable.insertAt_perm es p _).length_eq,Array.length_toList,Array.size_push]
  have fin:=fun (b:Bool)=>Jsp (prog:=prog) (w:=w) (A:=A) (E:=E) (s:={ s with toks:=s.toks + (ks.length + 1) }) (Q:=Q) ho hex hd SA2 hk hn (SA.tab.put (x:=.ref x) b hF hc) (hsz _) rfl (hmem _) fun b h' es' ep' t' o' a1 a2 a3 a4 a5=>h b h' _ es' ep' t' o' a1 a2 a3 a4 (by rw [edd]; exact a5)
  have ep2:=JvA SA.tab (YB t.mask k (YN t.mask (hsh prog w ks))).j;have ep3:t.put (YB t.mask k ((none:Option Probe).getD (t.probeStart (hsh prog w ks)))).j=_:=ep2;rw [ep3];dsimp only;by_cases hp:t.plain=true
  ·rw [if_pos hp];refine wpAny_bind (JuM (M:=model prog w) hk fun b=>?_);cases b with
   | true=>exact fin t.plain
   | false=>exact fin false
  ·rw [if_neg hp];refine wpAny_bind (wpAny_pure ?_);exact fin t.plain
end
end HS
set_option maxHeartbeats 3200000
namespace HS
open PySem PySem.SetTable L2
section
variable {prog:Program} {w:World} {A:Around} {E:Value→Shared→Prop} {s:Shared} {R:Result→Shared→Prop}
theorem JsG {S I l:Addr} {items:Array Value} (hh:A.in1.handled=none) (hlI:l≠I) (hSI:S≠I) (hSl:S≠l) (J:Nat→Heap→Prop)
  (hJ:∀ i j h h',J i h→h.IsListIter I l j→(∀ b o,b≠I→h.get? b=some o→h'.get? b=some o)→J i h')
  (hadd:∀ i v (s':Shared) (E':Value→Shared→Prop) (Q:Bool→Shared→Prop),items[i]?=some v→J i s'.heap→(∀ b h' tk,Heap.SameBut S s'.heap h'→J (i + 1) h'→Q b { s' with heap:=h',toks:=tk })→wpAny (model prog w) A.in1 (setAdd S v) Q E' s') :
  ∀ (k i:Nat) (h:Heap) (tk:Nat),items.size - i=k→i≤items.size→h.IsListIter I l i→h.IsList l items→J i h →
   (∀ h' tk',(∀ b o,b≠S→b≠I→h.get? b=some o→h'.get? b=some o)→J items.size h'→R (.ok (.ret .none)) { s with heap:=h',toks:=tk' }) →
   codeAny (model prog w) A (.builtin "set.update.loop" ⟨[.ref S,.ref I],[]⟩) R { s with heap:=h,toks:=tk }:=by
 have W:=Walks.list (prog:=prog) (w:=w) hh I l hlI items;intro k
 induction k with
 | zero =>
  intro i h tk e0 e1 it li j hR;obtain rfl:i=items.size:=by omega
  refine codeAny_builtin PyProof.Rows.F.entry_set_update_loop (by
   rw [Around.under_plainId PyProof.Rows.F.plain_set_update_loop _];show wpAny _ A.in1 (pyNext (.ref I) >>= _) _ _ _;refine wpAny_bind (W.done _ _ _ ⟨it,li⟩ fun h' tk' kk=>?_);exact wpAny_pure (hR h' tk' (fun b o _ hb e=>kk b o (by simpa using hb) e) (hJ _ _ _ _ j it fun b o hb e=>kk b o (by simpa using hb) e)))
 | succ k ih =>
  intro i h tk e0 e1 it li j hR;have hlt:i < items.size:=by omega
  refine codeAny_builtin PyProof.Rows.F.entry_set_update_loop (by
   rw [Around.under_plainId PyProof.Rows.F.plain_set_update_loop _];show wpAny _ A.in1 (pyNext (.ref I) >>= _) _ _ _;refine wpAny_bind (W.item i _ _ _ hlt ⟨it,li⟩ fun v h1 tk1 hv st1 kk=>?_);have j1:J i h1:=hJ _ _ _ _ j it fun b o hb e=>kk b o (by simpa using hb) e
   show wpAny _ A.in1 (holding [v] (setAdd S v) >>= _) _ _ _;refine wpAny_bind (wpAny_holding (hadd i v { s with heap:=h1,toks:=tk1 } _ _ hv j1 fun b h2 tk2 sb j2=>?_));have it2:h2.IsListIter I l (i + 1):=st1.1.at fun o e=>(sb.2 I (Ne.symm hSI)).trans e
   have li2:h2.IsList l items:=st1.2.at fun o e=>(sb.2 l (Ne.symm hSl)).trans e
   refine wpAny_pure ⟨plainId_quiet PyProof.Rows.F.plain_set_update_loop _,ih (i + 1) h2 tk2 (by omega) hlt it2 li2 j2 fun h3 tk3 keep j3=>hR h3 tk3 (fun b o hb hbI e=>keep b o hb hbI ((sb.2 b hb).trans (kk b o (by simpa using hbI) e))) j3⟩)
theorem Jj2 {l:Addr} {items:Array Value} {Q:Value→Shared→Prop} (hh:A.handled=none) (hl:s.heap.IsList l items) (J:Addr→Nat→Heap→Prop)
  (h0:∀ (led:Bool) (h':Heap),h'.get? s.heap.objs.size=some { cls:=.type "set",dict:=none,data:=.set #[] 0 (.fresh 0 0 led) }→(∀ b o,s.heap.get? b=some o→h'.get? b=some o)→J s.heap.objs.size 0 h')
  (hJ:∀ S I i j h h',J S i h→h.IsListIter I l j→(∀ b o,b≠I→h.get? b=some o→h'.get? b=some o)→J S i h')
  (hadd:∀ S i v (A':Around) (s':Shared) (E':Value→Shared→Prop) (Q':Bool→Shared→Prop),A'.units≤A.units + 4→items[i]?=some v→J S i s'.heap→(∀ b h' tk,Heap.SameBut S s'.heap h'→J S (i + 1) h'→Q' b { s' with heap:=h',toks:=tk })→wpAny (model prog w) A' (setAdd S v) Q' E' s')
  (h:∀ (h':Heap) (tk:Nat),J s.heap.objs.size items.size h'→(∀ b o,b < s.heap.objs.size→s.heap.get? b=some o→h'.get? b=some o)→Q (.ref s.heap.objs.size) { s with heap:=h',toks:=tk }) :
  wpAny (model prog w) A (call (.type "set") [.ref l]) Q E s:=by
 obtain ⟨c,tl,hmro⟩:=F.called_set.mro;have made:=F.called_set.made;have sub:=F.called_set.sub;refine wpAny_call (codeAny_of_tree (wpAny_pure ⟨Code.quiet_builtin _ (by decide +kernel),codeAny_builtin F.entry_type_call ?_⟩));rw [Around.under_plain (weight_type_call_type "set" [.ref l] []) rfl];have n1:=F.called_set.notType;have n2:=F.called_set.canCreate;have n3:=F.typeCall_set_1 (.ref l)
 repeat (any_goals (first | assumption | wp_step))
 let fresh (led:Bool):Obj:={ cls:=.type "set",dict:=none,data:=.set #[] 0 (.fresh 0 0 led) }
 refine codeAny_mono (code_set_new_1 (.ref l) (E:=E) (Q₁:=fun obj s1=>∃ led,obj=.ref s.heap.objs.size∧s1={ s with heap:=s.heap.push (fresh led) }) fun led=>⟨led,rfl,rfl⟩) fun r s1 hr=>?_
 rcases r with e | f
 ·exact hr
 cases f with
 | ret obj =>
  obtain ⟨led,rfl,rfl⟩:=hr;have gS:(s.heap.push (fresh led)).get? s.heap.objs.size=some (fresh led):=Heap.get?_push_size _ rfl;have tS:Shared.TypeIs { s with heap:=s.heap.push (fresh led) } (.ref s.heap.objs.size) "set":=⟨_,gS,rfl⟩
  have i1:=F.called_set.init.lookup;have i2:=F.called_set.init.bind (.ref s.heap.objs.size)
  repeat (any_goals (first | assumption | wp_step))
  refine codeAny_mono (codeAny_call_builtin (R:=wants (fun r s2=>r=.none∧∃ h' tk,s2={ s with heap:=h',toks:=tk }∧J s.heap.objs.size items.size h'∧∀ b o,b < s.heap.objs.size→s.heap.get? b=some o→h'.get? b=some o) E)
   F.called_set.init.plain F.entry_set_init (check_set_init_1 tS ?_)) fun r2 s2 hr2=>?_
  ·obtain ⟨ol,gl,cl,nl,dl⟩:=hl;obtain ⟨k1,k2,k3,k4⟩:=ol;simp only at cl dl;subst cl dl;have gl1:(s.heap.push (fresh led)).get? l=some { cls:=.type "list",dict:=k2,data:=.seq items nl,slots:=k4 }:=Heap.get?_push_of_some _ gl;have z1:=F.sub_list_set;have z2:=F.sub_list_frozenset;have z3:(Value.type "list" == Value.type "dict")=false:=by decide
   have ll:(s.heap.push (fresh led)).IsList l items:=⟨_,gl1,rfl,nl,rfl⟩
   have lS:l < s.heap.objs.size:=Heap.lt_size gl;unfold Builtin.«set.__init__» noKeywords Builtin.Frozenset.updateFrom;generalize pe:pyIter=PI
   wp_walk
   subst pe;refine wpAny_pyIter_list ll (wpAny_bind (wpAny_runValue ?_));have szp:(s.heap.push (fresh led)).objs.size=s.heap.objs.size + 1:=Heap.size_push ..;refine JsG (s:={ s with heap:=s.heap.push (fresh led) }) (I:=(s.heap.push (fresh led)).objs.size) (l:=l) (items:=items) (by simp [hh]) (Nat.ne_of_lt (by rw [szp]; exact Nat.lt_succ_of_lt lS)) (Nat.ne_of_lt (by rw [szp]; exact Nat.lt_succ_self _)) (Nat.ne_of_gt lS) (J s.heap.objs.size) (fun i j h h'=>hJ _ _ i j h h')
    (fun i v s' E' Q' hv j q=>hadd _ i v _ s' E' Q' (by show A.units + 1 + 1 + 1≤A.units + 4; omega) hv j q) (items.size - 0) 0 _ _ rfl (Nat.zero_le _) ⟨_,Heap.get?_push_size _ rfl,rfl,rfl⟩ (ll.push _) ?_ ?_
   ·exact h0 led _ (Heap.get?_push_of_some _ gS) fun b o e=>Heap.get?_push_of_some _ (Heap.get?_push_of_some _ e)
   ·intro h' tk' keep j;refine wpAny_pure (wpAny_pure ⟨rfl,h',tk',rfl,j,fun b o hb e=>keep b o (Nat.ne_of_lt hb) (Nat.ne_of_lt (by rw [szp]; exact Nat.lt_succ_of_lt hb)) (Heap.get?_push_of_some _ (Heap.get?_push_of_some _ e))⟩)
  ·rcases r2 with e | f2
   ·exact hr2
   cases f2 with
   | ret r =>
    obtain ⟨rfl,h',tk,rfl,j,keep⟩:=hr2
    repeat (any_goals (first | assumption | wp_step))
    exact h _ _ j keep
   | _=>exact hr2.elim
 | _=>exact hr.elim
end
end HS
namespace L2
open PySem PySem.Spec PyProof.Rows HS
open Classical in
noncomputable def dg {α:Type} (D:List α) (x:α):List α:=if x∈D then D else D ++ [x]
theorem Jqx {α:Type} {D:List α} {x:α} (h:x∈D):dg D x=D:=by unfold dg; exact if_pos h
theorem Jlp {α:Type} {D:List α} {x:α} (h:¬ x∈D):dg D x=D ++ [x]:=by unfold dg; exact if_neg h
noncomputable def JiZ {α:Type} (l:List α):List α:=l.foldl dg []
theorem Jjp {α:Type}:∀ (l D:List α),(l.foldl dg D).length≤D.length + l.length
 | [],D=>Nat.le_refl _
 | x :: l,D=>by
  rw [List.foldl_cons];have z:=Jjp l (dg D x);by_cases h:x∈D
  ·rw [Jqx h] at z ⊢; simp only [List.length_cons]; omega
  ·rw [Jlp h] at z ⊢; rw [List.length_append] at z; simp only [List.length_cons,List.length_nil] at z ⊢; omega
theorem JpF {α:Type} (l:List α):(JiZ l).length≤l.length:=by have:=Jjp l []; simpa [JiZ] using this
theorem Jld {α:Type}:∀ (l D:List α),(D ++ l).Nodup→l.foldl dg D=D ++ l
 | [],D,_=>by simp
 | x :: l,D,h=>by
  have hx:¬ x∈D:=fun q=>by
   rw [List.nodup_append] at h;exact h.2.2 x q x (List.mem_cons_self ..) rfl
  rw [List.foldl_cons,Jlp hx,Jld l (D ++ [x]) (by simpa using h)];simp
theorem Jlo {α:Type} {l:List α} (h:l.Nodup):(JiZ l).length=l.length:=by unfold JiZ; rw [Jld l [] (by simpa using h)]; simp
theorem JiJ {α:Type} {l:List α} {i:Nat} {x:α} (h:l[i]?=some x):(l.take (i + 1)).foldl dg []=dg ((l.take i).foldl dg []) x:=by
 rw [List.take_succ,h];simp
def szO (a:Addr) (n:Nat):HO:=.ext fun h=>∃ o es ep t,h.get? a=some o∧o.ExactSet∧o.data=.set es ep t∧t.fits es.size=true∧es.size=n∧n≤1000
theorem JqR {P:Program} {w:World} {H:Hp} {h:Heap} {a:Addr} {n:Nat} {o:Obj} {es:Array (Int×Value)} {ep:Nat} {t:SetTable} (h1:h.get? a=some o) (h2:o.ExactSet) (h3:o.data=.set es ep t) (h4:t.fits es.size=true) (h5:es.size=n) (h6:n≤1000) :
  YF P w H h a (szO a n):=⟨⟨o,es,ep,t,h1,h2,h3,h4,h5,h6⟩,⟨o,h1⟩,fun g1 g2 ⟨o,es,ep,t,e1,r⟩ k=>⟨o,es,ep,t,k o e1,r⟩⟩
section
variable {X:Cx}
theorem Jpa:Yn X (.builtin "len") (fun xs H Q=>∃ a n,xs=[.ref a]∧H a=some (szO a n)∧Q (.int n) H):=by
 intro pins s σ H xs us Q I r h;obtain ⟨a,n,rfl,hn,q⟩:=h;obtain ⟨u,rfl,ru⟩:=JF.one r;cases ru;obtain ⟨⟨o,es,ep,t,e1,e2,e3,e4,rfl,e6⟩,_⟩:=(show YF X.prog X.w H s.heap a (szO a n) from I.hok a _ hn)
 exact call_len_set e1 e2 e3 e4 (by omega) ⟨.int es.size,H,(I.tok _).tok _,⟨_,rfl⟩,q⟩
theorem Jez:∀ {vs:List V} {us:List Value} {i:Nat} {x:V},JF vs us→vs[i]?=some x→∃ u,us[i]?=some u∧JR x u
 | _,_,i,x,.nil,h=>by simp at h
 | _,_,0,x,.cons r t,h=>by
  cases h;exact ⟨_,rfl,r⟩
 | _,_,i + 1,x,.cons r t,h=>Jez (i:=i) t (by simpa using h)
def Jg4 (K:PySem.W.Frag) (H:Hp) (vs:List V) (kss:List (List JK)):Prop:=vs.length=kss.length∧∀ (i:Nat) v ks,vs[i]?=some v→kss[i]?=some ks→∃ a,v=.ref a∧JQ K H a (ks.map kV)
theorem Joo {P:Program} {w:World}:∀ {ks:List JK} {us:List Value},JF (ks.map kV) us→ItemsAre (Yy P w) ks us
 | [],_,r=>by cases r; exact .nil
 | k :: ks,_,r=>by
  cases r with
  | cons r rr=>exact .cons (Jjn r) (Joo rr)
theorem JpV {pins:List (Addr×Obj)} {σ:St} {H:Hp} {s:Shared} {a:Addr} {ks:List JK} (I:Jn X pins σ H s) (h:JQ X.K H a (ks.map kV)):TK X.prog X.w s.heap ks a:=by
 obtain ⟨its,r,⟨o,e,c,n,d⟩,_⟩:=I.tuple h;exact ⟨o,its.toArray,n,e,c,d,by simpa using Joo r⟩
theorem JlA {prog:Program} {w:World} {h h':Heap} {ks:List JK} {a:Addr} (hk:TK prog w h ks a) (k:∀ o,h.get? a=some o→(∃ its n,o.data=.seq its n)→h'.get? a=some o):TK prog w h' ks a:=by
 obtain ⟨o,its,n,e,c,d,i⟩:=hk;exact ⟨o,its,n,k o e ⟨its,n,d⟩,c,d,i⟩
def JtQ (K:PySem.W.Frag):List V→Hp→VK→Prop:=fun xs H Q=>∃ l vs kss,xs=[.ref l]∧Jz K H l vs∧Jg4 K H vs kss∧kss.length≤64∧∀ p,H p=none→Q (.ref p) (upd H p (szO p (JiZ kss).length))
theorem Jr3 (hc:X.calm=true) (hu:X.A.units + 64 < cLine):Yn X (.type "set") (JtQ X.K):=by
 intro pins s σ H xs us Q I r h;obtain ⟨l,vs,kss,rfl,hl,⟨tl,tt⟩,hz,q⟩:=h;obtain ⟨u,rfl,ru⟩:=JF.one r;cases ru;obtain ⟨its,rv,pl,_⟩:=I.list hl;have rlen:=rv.length;have at_:∀ (i:Nat) v,its.toArray[i]?=some v→∃ ks a,kss[i]?=some ks∧v=.ref a∧TK X.prog X.w s.heap ks a:=fun i v hv=>by
  have hi:i < its.length:=by
   have:=(Array.getElem?_eq_some_iff.mp hv).1;simpa using this
  obtain ⟨x,hx⟩:∃ x,vs[i]?=some x:=⟨vs[i],List.getElem?_eq_getElem (by omega)⟩
  obtain ⟨ks,hks⟩:∃ ks,kss[i]?=some ks:=⟨kss[i],List.getElem?_eq_getElem (by omega)⟩
  obtain ⟨a,rfl,ha⟩:=tt i x ks hx hks;obtain ⟨u,hu1,hu2⟩:=Jez rv hx;have e:v=u:=by
   rw [List.getElem?_toArray] at hv;exact Option.some.inj (hv.symm.trans hu1)
  subst e;cases (show v=.ref a from hu2);exact ⟨ks,a,hks,rfl,JpV I ha⟩
 have hsz:its.toArray.size=kss.length:=by rw [List.size_toArray]; omega
 refine Jj2 (J:=fun S i h'=>(∀ b o,b < s.heap.objs.size→s.heap.get? b=some o→(∃ its n,o.data=.seq its n)→h'.get? b=some o)∧∃ o es ep t,h'.get? S=some o∧o.ExactSet∧o.data=.set es ep t∧Jga X.prog X.w h' S es t ((kss.take i).foldl dg []))
  (I.ok.hd hc) pl.isList ?_ ?_ ?_ ?_
 ·intro led h' g keep;refine ⟨fun b o _ e _=>keep b o e,_,#[],0,_,g,⟨rfl,rfl,rfl⟩,rfl,⟨.inl rfl,rfl,rfl,fun a b _ hb=>absurd hb (Nat.not_lt_zero _),fun j hj=>by simp [SetTable.fresh] at hj,Nat.zero_le _,fun z hz=>by simp [SetTable.fresh] at hz⟩,?_,fun e he=>by simp at he,fun ks hks=>?_,rfl⟩
  ·show 0 * 5 < 7 * 3
   decide
  ·rw [List.take_zero] at hks; exact nomatch hks
 ·rintro S Ia i j h1 h2 ⟨k1,o,es,ep,t,e1,e2,e3,SA⟩ ⟨oi,i1,i2,i3⟩ keep;have seq:∀ b o',h1.get? b=some o'→(∃ its n,o'.data=.seq its n)→h2.get? b=some o':=fun b o' e ⟨its,n,d⟩=>keep b o' (by
   rintro rfl;rw [i1] at e; cases e;rw [i3] at d; cases d) e
  refine ⟨fun b o' hb e d=>seq b o' (k1 b o' hb e d) d,o,es,ep,t,keep S o (by
   rintro rfl;rw [i1] at e1; cases e1;rw [i3] at e3; cases e3) e1,e2,e3,SA.tab,SA.full,fun e he=>?_,fun ks hks=>?_,SA.siz⟩
  ·obtain ⟨ks,a1,a,a2,a3⟩:=SA.els e he;exact ⟨ks,a1,a,a2,JlA a3 fun o' e' d=>seq _ _ e' d⟩
  ·obtain ⟨a,a1,a2⟩:=SA.all ks hks;exact ⟨a,a1,JlA a2 fun o' e' d=>seq _ _ e' d⟩
 ·rintro S i v A' s' E' Q' hA hv ⟨k1,o,es,ep,t,e1,e2,e3,SA⟩ hQ;obtain ⟨ks,a,hks,rfl,hk⟩:=at_ i v hv;have hk':TK X.prog X.w s'.heap ks a:=JlA hk fun o' e' d=>k1 a o' (Heap.lt_size e') e' d
  have hlt:((kss.take i).foldl dg []).length < 64:=by
   have z:=Jjp (kss.take i) [];have z2:=(List.getElem?_eq_some_iff.mp hks).1;rw [List.length_take] at z;simp only [List.length_nil] at z;omega
  refine JuV (by omega) e1 e2 e3 SA hk' hlt fun b h' tk es' ep' t' o' sb g1 g2 g3 g4=>hQ b h' tk sb ⟨fun b' o2 hb e d=>?_,o',es',ep',t',g1,g2,g3,?_⟩
  ·have z:=k1 b' o2 hb e d;have hne:b'≠S:=by
    rintro rfl;rw [e1] at z; cases z;obtain ⟨its,n,d⟩:=d;rw [e3] at d; cases d
   exact (sb.2 b' hne).trans z
  ·rw [JiJ hks];have e:dg ((kss.take i).foldl dg []) ks=dd ((kss.take i).foldl dg []) ks:=by unfold dg dd; split <;> rfl
   rw [e];exact g4
 ·rintro h' tk ⟨_,o,es,ep,t,e1,e2,e3,SA⟩ keep;rw [hsz,List.take_length] at SA;have hf:H s.heap.objs.size=none:=I.hok.fresh (Nat.le_refl _);refine ⟨.ref s.heap.objs.size,_,I.laid (fun b u e=>keep b u (Heap.lt_size e) e) (Nat.le_refl _) (JqR e1 e2 e3 SA.tab.fits SA.siz ?_),rfl,q _ hf⟩;have:=JpF kss;show (JiZ kss).length≤1000;omega
def JtR (K:PySem.W.Frag):List V→Hp→VK→Prop:=fun xs H Q=>∃ l ss,xs=[.ref l]∧Jz K H l (ss.map V.str)∧ss.length≤64∧∀ p,H p=none→Q (.ref p) (upd H p (szO p (JiZ ss).length))
theorem Jr4 (hc:X.calm=true):Yn X (.type "set") (JtR X.K):=by
 intro pins s σ H xs us Q I r h;obtain ⟨l,ss,rfl,hl,hz,q⟩:=h;obtain ⟨u,rfl,ru⟩:=JF.one r;cases ru;obtain ⟨its,rv,pl,_⟩:=I.list hl;have rlen:=rv.length;rw [List.length_map] at rlen;have at_:∀ (i:Nat) v,its.toArray[i]?=some v→∃ x t,ss[i]?=some x∧v=.str x t:=fun i v hv=>by
  have hi:i < its.length:=by
   have:=(Array.getElem?_eq_some_iff.mp hv).1;simpa using this
  obtain ⟨x,hx⟩:∃ x,ss[i]?=some x:=⟨ss[i],List.getElem?_eq_getElem (by omega)⟩
  obtain ⟨u,hu1,hu2⟩:=Jez (i:=i) (x:=.str x) rv (by rw [List.getElem?_map,hx]; rfl);have e:v=u:=by
   rw [List.getElem?_toArray] at hv;exact Option.some.inj (hv.symm.trans hu1)
  subst e;obtain ⟨t,e⟩:=hu2;exact ⟨x,t,hx,e⟩
 have hsz:its.toArray.size=ss.length:=by rw [List.size_toArray]; omega
 refine Jj2 (J:=fun S i h'=>∃ f,h'.SetOf (Yy X.prog X.w) S f ((ss.take i).foldl dg []).length∧∀ x:Str,f (.inr x)=true↔x∈(ss.take i).foldl dg []) (I.ok.hd hc) pl.isList ?_ ?_ ?_ ?_
 ·intro led h' g keep;refine ⟨fun _=>false,⟨_,#[],0,_,g,⟨rfl,rfl,rfl⟩,rfl,fun e he=>by simp at he,fun k=>by simp,by decide,rfl,rfl⟩,fun x=>?_⟩;rw [List.take_zero];simp
 ·rintro S Ia i j h1 h2 ⟨f,⟨o,es,ep,t,e1,e2,e3,r⟩,hf⟩ ⟨oi,i1,i2,i3⟩ keep;refine ⟨f,⟨o,es,ep,t,keep S o ?_ e1,e2,e3,r⟩,hf⟩;rintro rfl;rw [i1] at e1; cases e1;rw [i3] at e3; cases e3
 ·rintro S i v A' s' E' Q' hA hv ⟨f,hS,hf⟩ hQ;obtain ⟨x,t,hx,rfl⟩:=at_ i v hv;have hlt:((ss.take i).foldl dg []).length + 1 < scanBound:=by
   have z:=Jjp (ss.take i) [];have z2:=(List.getElem?_eq_some_iff.mp hx).1;rw [List.length_take] at z;simp only [List.length_nil] at z;show _ + 1 < 4096;omega
  unfold setAdd;refine wpAny_holding (wpAny_bind ((Yy X.prog X.w).pyHash (Jbq X.prog X.w x t) ?_));refine wpAny_setAddHashed_of (knd:=Yy X.prog X.w) (s:={ s' with toks:=s'.toks + 1 }) (Jbq X.prog X.w x t) rfl hS hlt fun h' sb hS2=>?_
  refine hQ _ h' _ sb ⟨fun k'=>f k' || decide (k'=.inr x),?_,?_⟩
  ·rw [JiJ hx];by_cases hin:x∈(ss.take i).foldl dg []
   ·rw [Jqx hin];have e:=(hf x).mpr hin;rw [if_pos e] at hS2;exact hS2
   ·rw [Jlp hin];have e:¬ f (.inr x)=true:=fun w=>hin ((hf x).mp w)
    rw [if_neg e] at hS2;rw [List.length_append];exact hS2
  ·intro y;rw [JiJ hx,Bool.or_eq_true,hf y,decide_eq_true_eq];by_cases hin:x∈(ss.take i).foldl dg []
   ·rw [Jqx hin];exact ⟨fun z=>z.elim id fun e=>(Sum.inr.inj e) ▸ hin,.inl⟩
   ·rw [Jlp hin,List.mem_append,List.mem_singleton];exact ⟨fun z=>z.imp id fun e=>Sum.inr.inj e,fun z=>z.imp id fun e=>by rw [e]⟩
 ·rintro h' tk ⟨f,⟨o,es,ep,t,e1,e2,e3,_,_,_,e7,e8⟩,hf⟩ keep;rw [hsz,List.take_length] at e8;have hfr:H s.heap.objs.size=none:=I.hok.fresh (Nat.le_refl _);refine ⟨.ref s.heap.objs.size,_,I.laid (fun b u e=>keep b u (Heap.lt_size e) e) (Nat.le_refl _) (JqR e1 e2 e3 e7 e8 ?_),rfl,q _ hfr⟩;have:=JpF ss;show (JiZ ss).length≤1000;omega
def Jwn (K:PySem.W.Frag):List V→Hp→VK→Prop:=fun xs H Q=>JtR K xs H Q∨JtQ K xs H Q
theorem Jr5 (hc:X.calm=true) (hu:X.A.units + 64 < cLine):Yn X (.type "set") (Jwn X.K):=by
 intro pins s σ H xs us Q I r h;rcases h with h | h
 ·exact Jr4 hc pins s σ H xs us Q I r h
 ·exact Jr3 hc hu pins s σ H xs us Q I r h
end
end L2
namespace KS
open PySem PySem.W PyProof.Rows
section
variable {O:KeyOrd} {key:Nat→O.α} {n:Nat}
def Ok (O:KeyOrd) (key:Nat→O.α) (n:Nat) {α:Type} (Post:α→Prop):KasT α→Prop
 | .ret a=>Post a
 | .ask i j k=>i < n∧j < n∧Ok O key n Post (k (O.blt (key i) (key j)))
theorem Ok.bind {α β:Type} {Post:β→Prop} {f:α→KasT β}:∀ {t:KasT α},Ok O key n (fun a=>Ok O key n Post (f a)) t→Ok O key n Post (t.bind f)
 | .ret _,h=>h
 | .ask _ _ _,h=>⟨h.1,h.2.1,Ok.bind h.2.2⟩
theorem Ok.wp {α:Type} {Post:α→Prop} {cmp:Nat→Nat→(Bool→Shared→Prop)→Shared→Prop} {Q:α→Shared→Prop} {s:Shared} (hc:∀ i j C,i < n→j < n→C (O.blt (key i) (key j)) s→cmp i j C s) (hq:∀ a,Post a→Q a s):∀ {t:KasT α},Ok O key n Post t→t.kasWp cmp Q s
 | .ret _,h=>hq _ h
 | .ask i j k,h=>hc i j _ h.1 h.2.1 (Ok.wp hc hq h.2.2)
def Pm (n:Nat) (p:Array Nat):Prop:=p.Perm (List.toArray (List.range n))
theorem Pm.size {p:Array Nat} (h:Pm n p):p.size=n:=by rw [Array.Perm.size_eq h]; simp
theorem Pm.lt {p:Array Nat} (h:Pm n p) (h0:0 < n) (i:Nat):p.getD i 0 < n:=by
 by_cases hi:i < p.size
 ·have hm:p[i]∈p:=Array.getElem_mem hi;have hm2:p[i]∈List.toArray (List.range n):=h.mem_iff.mp hm;rw [List.mem_toArray,List.mem_range] at hm2;simpa [Array.getD,hi] using hm2
 ·simpa [Array.getD,hi] using h0
def Kp (key:Nat→O.α) (p:Array Nat) (i:Nat):O.α:=key (p.getD i 0)
def Srt (O:KeyOrd) (key:Nat→O.α) (p:Array Nat) (m:Nat):Prop:=∀ i j,i≤j→j < m→O.kle (Kp key p i) (Kp key p j)
def Fal (O:KeyOrd) (key:Nat→O.α) (p:Array Nat) (m:Nat):Prop:=∀ i j,i≤j→j < m→O.kle (Kp key p j) (Kp key p i)
theorem JgS {p q:Array Nat} {i j:Nat} (h:p[i]?=q[j]?):p.getD i 0=q.getD j 0:=by rw [Array.getD_eq_getD_getElem?,Array.getD_eq_getD_getElem?,h]
theorem JkX {p:Array Nat} {i j:Nat} (hj:j≤p.size) (k:Nat):Kp key (kas_rev p i j) k=if i≤k∧k < j then Kp key p (i + j - 1 - k) else Kp key p k:=by
 have e:=getElem?_mirror_all (i:=i) hj k;unfold Kp kas_rev;split
 ·rename_i h;rw [if_pos h] at e;rw [JgS e]
 ·rename_i h;rw [if_neg h] at e;rw [JgS e]
theorem Jid {p:Array Nat} (i j:Nat) (h:Pm n p):Pm n (kas_rev p i j):=(mirror_perm p i j _).trans h
theorem JvZ {p:Array Nat} {s d:Nat} (hs:s < p.size) (hd:d≤s) (k:Nat):Kp key (bubble p s d) k=if k=s - d then Kp key p s else if s - d < k∧k≤s then Kp key p (k - 1) else Kp key p k:=by
 have e:=getElem?_bubble hs d hd k;unfold Kp;by_cases h1:k=s - d
 ·rw [if_pos h1] at e ⊢; rw [JgS e]
 ·rw [if_neg h1] at e ⊢;by_cases h2:s - d < k∧k≤s
  ·rw [if_pos h2] at e ⊢; rw [JgS e]
  ·rw [if_neg h2] at e ⊢; rw [JgS e]
theorem nlt {a b:O.α} (h:¬ O.blt a b=true):O.kle b a:=by
 show O.blt a b=false;simpa using h
theorem JoJ {Post:Nat→Prop} {p:Array Nat} (hp:Pm n p) (h0:0 < n):∀ (f a:Nat),1≤a→Srt O key p a→(∀ m,a≤m→m≤a + f→Srt O key p m→(m < a + f→O.klt (Kp key p m) (Kp key p (m - 1)))→Post m)→Ok O key n Post (kas_asc p f a)
 | 0,a,h1,hs,hq=>hq a (Nat.le_refl _) (Nat.le_refl _) hs fun h=>absurd h (Nat.lt_irrefl _)
 | f + 1,a,h1,hs,hq=>by
  refine ⟨hp.lt h0 _,hp.lt h0 _,?_⟩;dsimp only;by_cases hc:O.blt (key (p.getD a 0)) (key (p.getD (a - 1) 0))=true
  ·rw [if_pos hc];exact hq a (Nat.le_refl _) (by omega) hs fun _=>hc
  ·rw [if_neg hc];have hle:O.kle (Kp key p (a - 1)) (Kp key p a):=nlt hc;refine JoJ hp h0 f (a + 1) (by omega) (fun i j hij hj=>?_) fun m g1 g2 g3 g4=>hq m (by omega) (by omega) g3 fun h=>g4 (by omega)
   by_cases hja:j < a
   ·exact hs i j hij hja
   ·obtain rfl:j=a:=by omega
    by_cases hia:i=j
    ·subst hia; exact O.kle_refl _
    ·exact O.kle_trans (hs i (j - 1) (by omega) (by omega)) hle
def Dsc (O:KeyOrd) (key:Nat→O.α) (p:Array Nat) (a q:Nat):Prop:=q + 1≤a∧Fal O key p a∧∀ i,a - (q + 1)≤i→i < a→O.kle (Kp key p i) (Kp key p (a - 1))
theorem Dsc.rev {p:Array Nat} {a q:Nat} (ha:a≤p.size) (h:Dsc O key p a q):(∀ k,Kp key (kas_rev p (a - (q + 1)) a) k=Kp key p k):=by
 obtain ⟨h1,h2,h3⟩:=h;have same:∀ i,a - (q + 1)≤i→i < a→Kp key p i=Kp key p (a - 1):=fun i g1 g2=>O.kle_antisymm (h3 i g1 g2) (h2 i (a - 1) (by omega) (by omega))
 intro k;rw [JkX ha];split
 ·rename_i h;rw [same _ (by omega) (by omega),same k h.1 h.2]
 ·rfl
theorem Dsc.congr {p p':Array Nat} {a q:Nat} (h:Dsc O key p a q) (e:∀ k,Kp key p' k=Kp key p k):Dsc O key p' a q :=
 ⟨h.1,fun i j hij hj=>by rw [e,e]; exact h.2.1 i j hij hj,fun i g1 g2=>by rw [e,e]; exact h.2.2 i g1 g2⟩
theorem Dsc.next {p:Array Nat} {a q:Nat} (h:Dsc O key p a q) (hlt:O.klt (Kp key p a) (Kp key p (a - 1))):Dsc O key p (a + 1) 0:=by
 refine ⟨by omega,fun i j hij hj=>?_,fun i g1 g2=>?_⟩
 ·by_cases hja:j < a
  ·exact h.2.1 i j hij hja
  ·obtain rfl:j=a:=by omega
   by_cases hia:i=j
   ·subst hia; exact O.kle_refl _
   ·have:=h.1;exact O.kle_trans (O.kle_of_klt hlt) (h.2.1 i (j - 1) (by omega) (by omega))
 ·obtain rfl:i=a:=by omega
  exact O.kle_refl _
theorem Dsc.same {p:Array Nat} {a q:Nat} (h:Dsc O key p a q) (e:Kp key p a=Kp key p (a - 1)):Dsc O key p (a + 1) (q + 1):=by
 have h1:=h.1;refine ⟨by omega,fun i j hij hj=>?_,fun i g1 g2=>?_⟩
 ·by_cases hja:j < a
  ·exact h.2.1 i j hij hja
  ·obtain rfl:j=a:=by omega
   by_cases hia:i=j
   ·subst hia; exact O.kle_refl _
   ·rw [e];exact h.2.1 i (j - 1) (by omega) (by omega)
 ·show O.kle (Kp key p i) (Kp key p (a + 1 - 1));rw [Nat.add_sub_cancel,e];by_cases hia:i=a
  ·subst hia; rw [e]; exact O.kle_refl _
  ·exact h.2.2 i (by omega) (by omega)
theorem Jjr {Post:Array Nat×Nat×Nat→Prop} (h0:0 < n):∀ (f:Nat) (p:Array Nat) (a q:Nat),Pm n p→a + f≤n→Dsc O key p a q→(∀ p' a' q',Pm n p'→a≤a'→a'≤a + f→Dsc O key p' a' q'→Post (p',a',q'))→Ok O key n Post (kas_desc f p a q)
 | 0,p,a,q,hp,hn,hd,hq=>hq p a q hp (Nat.le_refl _) (Nat.le_refl _) hd
 | f + 1,p,a,q,hp,hn,hd,hq=>by
  have hz:=hp.size;refine ⟨hp.lt h0 _,hp.lt h0 _,?_⟩;dsimp only;by_cases hc:O.blt (key (p.getD a 0)) (key (p.getD (a - 1) 0))=true
  ·rw [if_pos hc];have hd2:=hd.next hc;by_cases hq0:q > 0
   ·rw [if_pos hq0];have e:=hd.rev (by omega);exact Jjr h0 f _ (a + 1) 0 (Jid _ _ hp) (by omega) (hd2.congr e) fun p' a' q' g1 g2 g3 g4=>hq p' a' q' g1 (by omega) (by omega) g4
   ·rw [if_neg hq0];exact Jjr h0 f p (a + 1) 0 hp (by omega) hd2 fun p' a' q' g1 g2 g3 g4=>hq p' a' q' g1 (by omega) (by omega) g4
  ·rw [if_neg hc];refine ⟨hp.lt h0 _,hp.lt h0 _,?_⟩;dsimp only;by_cases hc2:O.blt (key (p.getD (a - 1) 0)) (key (p.getD a 0))=true
   ·rw [if_pos hc2];exact hq p a q hp (Nat.le_refl _) (by omega) hd
   ·rw [if_neg hc2];have e:Kp key p a=Kp key p (a - 1):=O.kle_antisymm (nlt hc2) (nlt hc);exact Jjr h0 f p (a + 1) (q + 1) hp (by omega) (hd.same e) fun p' a' q' g1 g2 g3 g4=>hq p' a' q' g1 (by omega) (by omega) g4
theorem Jnx {Post:Nat×Array Nat→Prop} (h0:0 < n) {a nrem:Nat} {p:Array Nat} (hp:Pm n p) (h1:1≤a) (ha:a≤nrem) (hn:nrem≤n) (hf:Fal O key p a) (hq:∀ m p',Pm n p'→1≤m→m≤nrem→Srt O key p' m→Post (m,p')):Ok O key n Post (kas_tail3 a nrem p):=by
 have hz:=hp.size;unfold kas_tail3;refine Ok.bind (JoJ (Jid 0 a hp) h0 (nrem - a) a h1 (fun i j hij hj=>?_) fun m g1 g2 g3 _=>hq m _ (Jid 0 a hp) (by omega) (by omega) g3);rw [JkX (by omega),JkX (by omega),if_pos ⟨Nat.zero_le _,by omega⟩,if_pos ⟨Nat.zero_le _,hj⟩];exact hf _ _ (by omega) (by omega)
theorem Jj0 {Post:Nat×Array Nat→Prop} (h0:0 < n) {a nrem:Nat} {p:Array Nat} (hp:Pm n p) (h1:1≤a) (ha:a + 1≤nrem) (hn:nrem≤n) (hf:Fal O key p a) (hlt:O.klt (Kp key p a) (Kp key p (a - 1))) (hq:∀ m p',Pm n p'→1≤m→m≤nrem→Srt O key p' m→Post (m,p')) :
  Ok O key n Post (kas_descPart a nrem p):=by
 have hd:Dsc O key p a 0:=⟨h1,hf,fun i g1 g2=>by
  obtain rfl:i=a - 1:=by omega
  exact O.kle_refl _⟩
 unfold kas_descPart;refine Ok.bind (Jjr h0 _ p (a + 1) 0 hp (by omega) (hd.next hlt) fun p' a' q' g1 g2 g3 g4=>?_);have hz:=g1.size;dsimp only;split
 ·refine Jnx h0 (Jid _ _ g1) (by omega) (by omega) hn (fun i j hij hj=>?_) hq;rw [g4.rev (by omega),g4.rev (by omega)];exact g4.2.1 i j hij hj
 ·exact Jnx h0 g1 (by omega) (by omega) hn g4.2.1 hq
theorem Jtx {Post:Nat×Array Nat→Prop} (h0:0 < n) {p:Array Nat} (hp:Pm n p) (hq:∀ m p',Pm n p'→1≤m→m≤n→Srt O key p' m→Post (m,p')):Ok O key n Post (kas_count n p):=by
 have hz:=hp.size;unfold kas_count;refine Ok.bind (JoJ hp h0 (n - 1) 1 (Nat.le_refl _) (fun i j hij hj=>?_) fun m g1 g2 g3 g4=>?_)
 ·obtain rfl:i=j:=by omega
  exact O.kle_refl _
 ·by_cases hm:(m == n)=true
  ·rw [if_pos hm];exact hq m p hp g1 (by omega) g3
  ·rw [if_neg hm];have hmn:m≠n:=fun e=>hm (by simp [e])
   have hlt:=g4 (by omega);by_cases hm1:m > 1
   ·rw [if_pos hm1];refine ⟨hp.lt h0 _,hp.lt h0 _,?_⟩;dsimp only;by_cases hc:O.blt (key (p.getD 0 0)) (key (p.getD (m - 1) 0))=true
    ·rw [if_pos hc];exact hq m p hp g1 (by omega) g3
    ·rw [if_neg hc];have all:∀ i,i < m→Kp key p i=Kp key p (m - 1):=fun i hi=>by
      refine O.kle_antisymm (g3 i (m - 1) (by omega) (by omega)) ?_;exact O.kle_trans (nlt hc) (g3 0 i (Nat.zero_le _) hi)
     have e:∀ k,Kp key (kas_rev p 0 m) k=Kp key p k:=fun k=>by
      rw [JkX (by omega)];split
      ·rename_i h;rw [all _ (by omega),all k h.2]
      ·rfl
     refine Jj0 h0 (Jid 0 m hp) g1 (by omega) (Nat.le_refl _) (fun i j hij hj=>?_) (by rw [e,e]; exact hlt) hq;rw [e,e,all i (by omega),all j hj];exact O.kle_refl _
   ·rw [if_neg hm1];refine Jj0 h0 hp g1 (by omega) (Nat.le_refl _) (fun i j hij hj=>?_) hlt hq;obtain rfl:i=j:=by omega
    exact O.kle_refl _
theorem Jkd {Post:Nat→Prop} (h0:0 < n) {p:Array Nat} (hp:Pm n p) {k:Nat} (hs:Srt O key p k):∀ (f l r:Nat),l≤r→r≤k→r - l≤f→(∀ i,i < l→O.kle (Kp key p i) (Kp key p k))→(∀ i,r≤i→i < k→O.klt (Kp key p k) (Kp key p i)) →
  (∀ m,m≤k→(∀ i,i < m→O.kle (Kp key p i) (Kp key p k))→(∀ i,m≤i→i < k→O.klt (Kp key p k) (Kp key p i))→Post m)→Ok O key n Post (kas_place p k f l r)
 | 0,l,r,h1,h2,h3,h4,h5,hq=>by
  obtain rfl:l=r:=by omega
  exact hq l h2 h4 h5
 | f + 1,l,r,h1,h2,h3,h4,h5,hq=>by
  unfold kas_place;by_cases hlr:l≥r
  ·rw [if_pos hlr];obtain rfl:l=r:=by omega
   exact hq l h2 h4 h5
  ·rw [if_neg hlr];refine ⟨hp.lt h0 _,hp.lt h0 _,?_⟩;dsimp only;by_cases hc:O.blt (key (p.getD k 0)) (key (p.getD ((l + r) / 2) 0))=true
   ·rw [if_pos hc];refine Jkd h0 hp hs f l _ (by omega) (by omega) (by omega) h4 (fun i g1 g2=>?_) hq;exact O.klt_of_klt_of_kle hc (hs ((l + r) / 2) i g1 g2)
   ·rw [if_neg hc];refine Jkd h0 hp hs f _ r (by omega) h2 (by omega) (fun i g=>?_) h5 hq;exact O.kle_trans (hs i ((l + r) / 2) (by omega) (by omega)) (nlt hc)
theorem Jsd {Post:Array Nat→Prop} (h0:0 < n):∀ (f:Nat) (p:Array Nat) (k:Nat),Pm n p→k + f=n→Srt O key p k→(∀ p',Pm n p'→Srt O key p' n→Post p')→Ok O key n Post (kas_bin f p k)
 | 0,p,k,hp,hk,hs,hq=>hq p hp (by rw [← hk]; exact hs)
 | f + 1,p,k,hp,hk,hs,hq=>by
  have hz:=hp.size;unfold kas_bin;refine Ok.bind (Jkd h0 hp hs k 0 k (Nat.zero_le _) (Nat.le_refl _) (by omega) (fun i g=>absurd g (Nat.not_lt_zero _)) (fun i g1 g2=>by omega) fun m g1 g2 g3=>?_);have e:∀ i,Kp key (bubble p k (k - m)) i=if i=m then Kp key p k else if m < i∧i≤k then Kp key p (i - 1) else Kp key p i:=fun i=>by
   have z:=JvZ (key:=key) (p:=p) (s:=k) (d:=k - m) (by omega) (by omega) i;rw [show k - (k - m)=m by omega] at z;exact z
  refine Jsd h0 f _ (k + 1) ((bubble_perm p k (k - m)).trans hp) (by omega) (fun i j hij hj=>?_) hq;rw [e,e];rcases Nat.lt_trichotomy i m with a | a | a
  ·rw [if_neg (by omega),if_neg (by omega)];rcases Nat.lt_trichotomy j m with b | b | b
   ·rw [if_neg (by omega),if_neg (by omega)];exact hs i j hij (by omega)
   ·rw [if_pos b];exact g2 i a
   ·rw [if_neg (by omega),if_pos ⟨b,by omega⟩];exact hs i (j - 1) (by omega) (by omega)
  ·rw [if_pos a];by_cases b:j=m
   ·rw [if_pos b]; exact O.kle_refl _
   ·rw [if_neg b,if_pos ⟨by omega,by omega⟩];exact O.kle_of_klt (g3 (j - 1) (by omega) (by omega))
  ·rw [if_neg (by omega),if_pos ⟨a,by omega⟩,if_neg (by omega),if_pos ⟨by omega,by omega⟩];exact hs (i - 1) (j - 1) (by omega) (by omega)
theorem Juq {Post:Array Nat→Prop} (h0:0 < n) (hq:∀ p,Pm n p→Srt O key p n→Post p):Ok O key n Post (kas_sort n):=by
 unfold kas_sort;refine Ok.bind (Jtx h0 (Array.Perm.refl _) fun m p g1 g2 g3 g4=>?_);dsimp only;split
 ·rename_i h;have e:max m 1=m:=by omega
  rw [e];exact Jsd h0 (n - m) p m g1 (by omega) g4 hq
 ·obtain rfl:m=n:=by omega
  exact hq p g1 g4
end
end KS
namespace KS
open PySem PySem.W PyProof.Rows
def Zs:KeyOrd where
 α:=List Nat×List Nat
 blt a b:=if a.1=b.1 then decide (a.2 < b.2) else decide (a.1 < b.1)
 irrefl a:=by rw [if_pos rfl]; exact strKind.irrefl a.2
 trans a b c h1 h2:=by
  by_cases e1:a.1=b.1
  ·rw [if_pos e1] at h1;by_cases e2:b.1=c.1
   ·rw [if_pos e2] at h2;rw [if_pos (e1.trans e2)];exact strKind.trans _ _ _ h1 h2
   ·rw [if_neg e2] at h2;rw [if_neg (fun e=>e2 (e1.symm.trans e)),e1];exact h2
  ·rw [if_neg e1] at h1;by_cases e2:b.1=c.1
   ·rw [if_pos e2] at h2;rw [if_neg (fun e=>e1 (e.trans e2.symm)),← e2];exact h1
   ·rw [if_neg e2] at h2;have h3:=strKind.trans _ _ _ h1 h2;have hne:¬ a.1=c.1:=fun e=>by
     rw [e] at h3;have:=strKind.irrefl c.1;rw [this] at h3;cases h3
    rw [if_neg hne];exact h3
 negTrans a b c h:=by
  by_cases e1:a.1=b.1
  ·by_cases e2:b.1=c.1
   ·rw [if_pos (e1.trans e2)] at h;rw [if_pos e1,if_pos e2];exact strKind.negTrans _ _ _ h
   ·rw [if_neg (fun e=>e2 (e1.symm.trans e))] at h;rw [if_neg e2,← e1];exact .inr h
  ·by_cases e2:b.1=c.1
   ·rw [if_neg (fun e=>e1 (e.trans e2.symm))] at h;rw [if_neg e1,e2];exact .inl h
   ·rw [if_neg e1,if_neg e2];by_cases e3:a.1=c.1
    ·rw [if_pos e3] at h;cases h4:decide (a.1 < b.1) with
     | true=>exact .inl rfl
     | false =>
      refine .inr ?_;cases h5:decide (b.1 < c.1) with
      | true=>rfl
      | false =>
       rw [← e3] at h5;exact absurd (strKind.total _ _ h4 h5) e1
    ·rw [if_neg e3] at h;exact strKind.negTrans _ _ _ h
 total a b h1 h2:=by
  by_cases e:a.1=b.1
  ·rw [if_pos e] at h1;rw [if_pos e.symm] at h2;exact Prod.ext e (strKind.total _ _ h1 h2)
  ·rw [if_neg e] at h1;rw [if_neg (fun q=>e q.symm)] at h2;exact absurd (strKind.total _ _ h1 h2) e
section
variable {prog:Program} {w:World} {A:Around} {E:Value→Shared→Prop} {s:Shared}
def JfG (h:Heap) (a:Addr) (x y:Str):Prop:=∃ o n t u,h.get? a=some o∧o.cls=.type "tuple"∧o.data=.seq #[.str x t,.str y u] n
def pk (x:Str×Str):Zs.α:=(x.1.cps.toList,x.2.cps.toList)
theorem JpJ {x y:Str} (h:x.cps.toList=y.cps.toList):x=y:=by
 cases x; cases y;congr 1;exact Array.toList_inj.mp h
theorem JpD {x y:Str} {t u:Tok} {Q:Bool→Shared→Prop} (h:Q (decide (x=y)) s):wpAny (model prog w) A (eqBool (.str x t) (.str y u)) Q E s:=by
 refine (L2.Yy prog w).eqBool (L2.Jbq prog w x t) (L2.Jbq prog w y u) ?_;rw [L2.JrG];exact h
theorem JtB {a b:Addr} {p q:Str×Str} {Q:Bool→Shared→Prop} (ha:JfG s.heap a p.1 p.2) (hb:JfG s.heap b q.1 q.2) (h:Q (Zs.blt (pk p) (pk q)) s):wpAny (model prog w) A (keyLt' (tuples' true) (.ref a) (.ref b)) Q E s:=by
 obtain ⟨o,n,t,u,h1,_,h3⟩:=ha;obtain ⟨o',n',t',u',g1,_,g3⟩:=hb;refine kat_lt h1 h3 g1 g3 (kat_cons (JpD (kat_go (fun e=>?_) (fun e=>?_))))
 ·have e1:p.1=q.1:=of_decide_eq_true e;refine kat_yes (kat_cons (JpD (kat_go (fun e=>?_) (fun e=>?_))))
  ·have e2:p.2=q.2:=of_decide_eq_true e;refine kat_yes (kat_nil ?_);have hf:Zs.blt (pk p) (pk q)=false:=by
    have:pk p=pk q:=by unfold pk; rw [e1,e2]
    rw [this];exact Zs.irrefl _
   rw [hf] at h;exact h
  ·refine kat_no (kat_one _ _ ?_);have hf:Zs.blt (pk p) (pk q)=decide (p.2.cps.toList < q.2.cps.toList):=by
    show (if p.1.cps.toList=q.1.cps.toList then _ else _)=_;rw [if_pos (by rw [e1])];rfl
   rw [hf] at h;exact PySem.P.lt_str h
 ·have e1:¬ p.1=q.1:=of_decide_eq_false e;refine kat_no ?_;have hf:Zs.blt (pk p) (pk q)=decide (p.1.cps.toList < q.1.cps.toList):=by
   show (if p.1.cps.toList=q.1.cps.toList then _ else _)=_;rw [if_neg (fun z=>e1 (JpJ z))];rfl
  rw [hf] at h;exact oneLt_str h
def dfl:Str×Str:=(Str.empty,Str.empty)
def ky (ps:List (Str×Str)) (i:Nat):Zs.α:=pk (ps.getD i dfl)
def JaG (vs:List Value) (p:Array Nat):Array Value:=List.toArray (p.toList.map fun i=>vs.getD i Value.none)
theorem JnW (n:Nat):Pm n (List.toArray (List.range n)):=Array.Perm.refl _
theorem Jrk (vs:List Value):JaG vs (List.toArray (List.range vs.length))=vs.toArray:=by
 unfold JaG;congr 1;apply List.ext_getElem?;intro i;rw [List.getElem?_map];by_cases hi:i < vs.length
 ·simp [hi]
 ·simp [hi]
theorem Jq9 {a:Addr} {vs:List Value} {ps:List (Str×Str)} {n:Nat} {P:PySem.Fin→Shared→Prop} (ho:s.heap.get? a=some (seqObj "list" vs.toArray n)) (hlen:vs.length=ps.length) (h64:vs.length < 64)
  (hp:∀ (i:Nat) v p,vs[i]?=some v→ps[i]?=some p→∃ b,b≠a∧v=.ref b∧JfG s.heap b p.1 p.2)
  (h:∀ p:Array Nat,Pm vs.length p→Srt Zs (ky ps) p vs.length→P (.done (.ret .none)) { s with heap:=sortedHeap s.heap a vs (JaG vs p) }) :
  wpAny (model prog w) A (Builtin.«list.sort» ⟨[.ref a],[]⟩) P E s:=by
 have hlt:a < s.heap.objs.size:=Heap.lt_size ho;obtain ⟨e1,g1⟩:∃ e1,(s.heap.update a (Obj.mapSeq fun _=>#[])).get? a=some (seqObj "list" #[] e1):=⟨_,get?_update_seq ho fun _=>#[]⟩
 have big:vs.length≤sizeLine:=by rw [sizeLine_eq]; omega
 rw [list_sort_plain];refine wpAny_bind (listItems_at ho rfl (wpAny_bind (listUpdate_at ho rfl (wpAny_bind (seqEpoch_at g1 rfl (wpAny_bind (wpAny_newTuple (wpAny_bind (wpAny_newList (wpAny_holding ?_))) (by simpa using big))))) (by simpa using big))));generalize hh6:(((s.heap.update a (Obj.mapSeq fun _=>#[])).push (seqObj "tuple" vs.toArray 0)).push (seqObj "list" #[] 0))=h6;have g6:h6.get? a=some (seqObj "list" #[] e1):=by
  rw [← hh6];exact Heap.get?_push_of_some _ (Heap.get?_push_of_some _ g1)
 have keep:∀ b o,b≠a→s.heap.get? b=some o→h6.get? b=some o:=fun b o hb e=>by
  rw [← hh6];refine Heap.get?_push_of_some _ (Heap.get?_push_of_some _ ?_);rw [Heap.get?_update_ne _ _ _ _ hb];exact e
 have hp6:∀ (i:Nat) v p,vs[i]?=some v→ps[i]?=some p→∃ b,v=.ref b∧JfG h6 b p.1 p.2:=fun i v p hv hq=>by
  obtain ⟨b,hb,e,o,n,t,u,z1,z2⟩:=hp i v p hv hq;exact ⟨b,e,o,n,t,u,keep b o hb z1,z2⟩
 have hfin:∀ p:Array Nat,Pm vs.length p→(JaG vs p).size≤sizeLine + 1:=fun p hpm=>by
  unfold JaG;rw [List.size_toArray,List.length_map,Array.length_toList,hpm.size];exact Nat.le_succ_of_le big
 have eH:∀ out,h6.update a (Obj.mapSeq fun _=>out)=sortedHeap s.heap a vs out:=fun out=>by rw [← hh6]; rfl
 have sz:vs.toArray.size=vs.length:=List.size_toArray;show wpAny (model prog w) A _ P E { s with heap:=h6 };dsimp only;rw [sz];by_cases h2:vs.length < 2
 ·rw [if_pos h2,if_pos h2];refine wpAny_bind (wpAny_pure ?_);rw [StateT.run_pure];refine wpAny_bind (wpAny_pure ?_);dsimp only;have eo:(arrOf (SortSt.mk' general' (vs.toArray.zip vs.toArray) #[] 7 none)).map (·.2)=JaG vs (List.toArray (List.range vs.length)):=by
   rw [Jrk];show (vs.toArray.zip vs.toArray).map (·.2)=_;simp [List.map_snd_zip]
  rw [eo];refine wpAny_bind (seqEpoch_at g6 rfl (wpAny_bind (listUpdate_at g6 rfl ?_ (hsz2:=hfin _ (JnW _)))));rw [if_neg (by simp)];show wpAny _ _ _ _ _ { s with heap:=h6.update a (Obj.mapSeq fun _=>JaG vs (List.toArray (List.range vs.length))) };rw [eH];refine wpAny_pure (h _ (JnW _) fun i j hij hj=>?_);obtain rfl:i=j:=by omega
  exact Zs.kle_refl _
 ·rw [if_neg h2,if_neg h2];have tups:∀ (vs:List Value) (ps:List (Str×Str)),vs.length=ps.length→(∀ (i:Nat) v p,vs[i]?=some v→ps[i]?=some p→∃ b,v=.ref b∧JfG h6 b p.1 p.2)→∃ fs:List Value,KatTups h6 vs fs∧fs.length=vs.length∧∀ v∈fs,∃ x t,v=.str x t:=by
   intro vs
   induction vs with
   | nil=>exact fun ps _ _=>⟨[],.nil,rfl,fun v hv=>nomatch hv⟩
   | cons v r ih =>
    intro ps hl hq;cases ps with
    | nil=>cases hl
    | cons p ps =>
     obtain ⟨b,rfl,o,n,t,u,z1,z2,z3⟩:=hq 0 v p rfl rfl;obtain ⟨fs,y1,y2,y3⟩:=ih ps (by simpa using hl) fun i v' p' a1 a2=>hq (i + 1) v' p' (by simpa using a1) (by simpa using a2)
     refine ⟨.str p.1 t :: fs,.cons z1 z2 z3 rfl y1,by simp [y2],fun v' hv'=>?_⟩;rcases List.mem_cons.mp hv' with rfl | q
     ·exact ⟨_,_,rfl⟩
     ·exact y3 v' q
  obtain ⟨fs,f1,f2,f3⟩:=tups vs ps hlen hp6;refine wpAny_bind (kat_kind (s:={ s with heap:=h6 }) f1 (by omega) (T:=.type "str") (fun v hv=>?_) (by decide) ?_)
  ·obtain ⟨x,t,rfl⟩:=f3 v hv;exact .now
  have ek:(Value.type "str" != Value.type "tuple")=true:=by decide
  rw [ek];refine wpAny_bind (wpAny_mono (kat_run (E:=E) (ks:=vs) (vs:=vs) (G:=fun p s'=>s'={ s with heap:=h6 }∧Pm vs.length p∧Srt Zs (ky ps) p vs.length)
   (Q:=fun st' s'=>∃ p:Array Nat,s'={ s with heap:=h6 }∧Pm vs.length p∧Srt Zs (ky ps) p vs.length∧arrOf st'=p.map (kas_item (vs.toArray.zip vs.toArray))∧failedOf st'=none) rfl (by omega) h64
   (fun p st' s' b1 b2 b3 b4=>⟨p,b4.1,b4.2.1,b4.2.2,b2,b3⟩) ?_) ?_ fun _ _ e=>e)
  ·refine Ok.wp (O:=Zs) (key:=ky ps) (n:=vs.length) (Post:=fun p=>Pm vs.length p∧Srt Zs (ky ps) p vs.length) (fun i j C hi hj hC=>?_) (fun p q=>⟨rfl,q.1,q.2⟩) (Juq (by omega) fun p q1 q2=>⟨q1,q2⟩);have at_:∀ i,i < vs.length→∃ b,vs.getD i Value.none=.ref b∧JfG h6 b (ps.getD i dfl).1 (ps.getD i dfl).2:=fun i hi=>by
    have hi':i < ps.length:=by omega
    obtain ⟨b,e,pb⟩:=hp6 i vs[i] ps[i] (List.getElem?_eq_getElem hi) (List.getElem?_eq_getElem hi');refine ⟨b,?_,?_⟩
    ·rw [List.getD_eq_getElem?_getD,List.getElem?_eq_getElem hi]; exact e
    ·rw [List.getD_eq_getElem?_getD,List.getElem?_eq_getElem hi']; exact pb
   obtain ⟨b,eb,pb⟩:=at_ i hi;obtain ⟨c,ec,pc⟩:=at_ j hj;show wpAny (model prog w) A (keyLt' (tuples' true) (vs.getD i Value.none) (vs.getD j Value.none)) C (fun _ _=>False) { s with heap:=h6 };rw [eb,ec];exact JtB (s:={ s with heap:=h6 }) pb pc hC
  ·rintro ⟨⟨⟩,st'⟩ s' ⟨p,rfl,q1,q2,q3,q4⟩;dsimp only;have eo:(arrOf st').map (·.2)=JaG vs p:=kat_snds rfl q3;rw [eo,q4];refine wpAny_bind (seqEpoch_at g6 rfl (wpAny_bind (listUpdate_at g6 rfl ?_ (hsz2:=hfin p q1))));dsimp only;rw [if_neg (by simp)];show wpAny _ _ _ _ _ { s with heap:=h6.update a (Obj.mapSeq fun _=>JaG vs p) };rw [eH];exact wpAny_pure (h p q1 q2)
theorem JnE {l:Addr} {vs:List Value} {ps:List (Str×Str)} {Q:Value→Shared→Prop} (hl:s.heap.IsList l vs.toArray) (hlen:vs.length=ps.length) (h64:vs.length < 64)
  (hp:∀ (i:Nat) v p,vs[i]?=some v→ps[i]?=some p→∃ b,v=.ref b∧JfG s.heap b p.1 p.2)
  (h:∀ p:Array Nat,Pm vs.length p→Srt Zs (ky ps) p vs.length→Q (.ref (s.heap.objs.size + 1)) { s with heap:=sortedAll s.heap vs (JaG vs p) }) :
  wpAny (model prog w) A (call (.builtin "sorted") [.ref l]) Q E s:=by
 have big:vs.length≤sizeLine:=by rw [sizeLine_eq]; omega
 refine Calls.call_function_entry kind_sorted plain_sorted entry_sorted (args_sorted1 _) ?_;unfold Builtin.«sorted»;refine wpAny_bind (m:=checkCount "sorted" 1 1 _) (wpAny_pure (wpAny_bind (collect_list hl (wpAny_bind (wpAny_newList ?_ (by simpa using big))) (by simpa using big))));generalize hh1:((s.heap.push (seqObj "list" #[] 0)).update s.heap.objs.size (Obj.mapSeq (· ++ vs.toArray)))=h1;have z1:h1.objs.size=s.heap.objs.size + 1:=by rw [← hh1,Heap.size_update,size_push']
 have g1:(h1.push (seqObj "list" vs.toArray 0)).get? (s.heap.objs.size + 1)=some (seqObj "list" vs.toArray 0):=by rw [← z1]; exact Heap.get?_push_size _ rfl
 have keep:∀ b o,s.heap.get? b=some o→(h1.push (seqObj "list" vs.toArray 0)).get? b=some o:=fun b o q=>by
  have hb:b < s.heap.objs.size:=Heap.lt_size q;refine Heap.get?_push_of_some _ ?_;rw [← hh1,Heap.get?_update_ne _ _ _ _ (Nat.ne_of_lt hb)];exact Heap.get?_push_of_some _ q
 show wpAny _ _ _ _ _ { s with heap:=h1.push (seqObj "list" vs.toArray 0) };rw [z1];refine wpAny_bind (wpAny_holding (wpAny_call_entry slot_list_sort ⟨_,g1,rfl⟩ entry_list_sort (Jq9 (s:={ s with heap:=h1.push (seqObj "list" vs.toArray 0) }) g1 hlen h64 (fun i v p hv hq=>?_) fun p q1 q2=>⟨_,rfl,?_⟩) (args_list_sort _)))
 ·obtain ⟨b,e,o,n,t,u,y1,y2⟩:=hp i v p hv hq;exact ⟨b,Nat.ne_of_lt (Nat.lt_succ_of_lt (Heap.lt_size y1)),e,o,n,t,u,keep b o y1,y2⟩
 ·refine wpAny_pure ⟨_,rfl,?_⟩;have z:=h p q1 q2;unfold sortedAll at z;rw [hh1] at z;exact z
end
end KS
namespace L2
open PySem PySem.Spec PyProof.Rows KS
def sle (a b:Str):Prop:=strKind.kle a.cps.toList b.cps.toList
def ple (p q:Str×Str):Prop:=Zs.kle (pk p) (pk q)
theorem Jra {a b c:Str} (h1:sle a b) (h2:sle b c):sle a c:=KeyOrd.kle_trans h1 h2
theorem JnH {a b:Str} (h1:sle a b) (h2:sle b a):a=b:=JpJ (KeyOrd.kle_antisymm h1 h2)
theorem JkW:∀ {p:Str} {l:List Str},risingS p l=true→(∀ x∈l,sle p x)∧l.Pairwise sle
 | p,[],_=>⟨(fun x hx=>nomatch hx),.nil⟩
 | p,x :: r,h=>by
  have h':(!ltCps x.cps.toList p.cps.toList && risingS x r)=true:=h;rw [Bool.and_eq_true] at h';obtain ⟨a,b⟩:=JkW h'.2;have hx:sle p x:=by
   have z:=h'.1;rw [ltCps_eq] at z;show decide (x.cps.toList < p.cps.toList)=false;simpa using z
  refine ⟨fun y hy=>?_,List.pairwise_cons.mpr ⟨a,b⟩⟩;rcases List.mem_cons.mp hy with rfl | hy
  ·exact hx
  ·exact Jra hx (a y hy)
theorem JkN {l:List Str} (h:sortedS l=true):l.Pairwise sle:=by
 cases l with
 | nil=>exact .nil
 | cons x r =>
  obtain ⟨a,b⟩:=JkW (p:=x) (l:=r) h;exact List.pairwise_cons.mpr ⟨a,b⟩
theorem Jh1:∀ {us:List Value} {ss:List Str},StrsAre us ss→JF (ss.map V.str) us
 | _,_,.nil=>.nil
 | _,_,.cons x t h=>.cons ⟨t,rfl⟩ (Jh1 h)
section
variable {X:Cx}
def Jvt (K:PySem.W.Frag):List V→Hp→VK→Prop:=fun xs H Q=>∃ (l:Addr) (ss:List Str),xs=[.ref l]∧Jz K H l (ss.map V.str)∧ss.length < 64∧∀ (p:Addr) (ss':List Str),H p=none→ss'.Perm ss→ss'.Pairwise sle→Q (.ref p) (upd H p (.lst (ss'.map V.str)))
theorem Jcx:Yn X (.builtin "sorted") (Jvt X.K):=by
 intro pins s σ H xs us Q I r h;obtain ⟨l,ss,rfl,hl,hz,q⟩:=h;obtain ⟨u,rfl,ru⟩:=JF.one r;cases ru;obtain ⟨its,rv,pl,_⟩:=I.list hl;have rlen:=rv.length;rw [List.length_map] at rlen;refine sorted_strs pl.isList (JlB rv) (by omega) fun out ss' a1 a2 a3=>?_
 obtain ⟨e,he⟩:=sortedAll_at s.heap its out;have hf:H (s.heap.objs.size + 1)=none:=I.hok.fresh (Nat.le_succ _);have hv:=Jh1 a1;refine ⟨.ref (s.heap.objs.size + 1),_,I.laid (t':=s.toks) (o:=.lst (ss'.map V.str)) (fun b u=>sortedAll_old) (Nat.le_succ _) ⟨?_,out.toList,e,hv,he⟩,rfl,q _ ss' hf a2 (JkN a3)⟩;rw [List.length_map,a2.length_eq];exact Nat.le_trans (Nat.le_of_lt hz) (by decide)
def Zu (K:PySem.W.Frag) (H:Hp) (zs:List (V×(Str×Str))):Prop:=∀ z∈zs,∃ a,z.1=.ref a∧JQ K H a [.str z.2.1,.str z.2.2]
def Jvs (K:PySem.W.Frag):List V→Hp→VK→Prop:=fun xs H Q=>∃ (l:Addr) (zs:List (V×(Str×Str))),xs=[.ref l]∧Jz K H l (zs.map (·.1))∧Zu K H zs∧zs.length < 64∧∀ (p:Addr) (zs':List (V×(Str×Str))),H p=none→zs'.Perm zs→(zs'.map (·.2)).Pairwise ple→Q (.ref p) (upd H p (.lst (zs'.map (·.1))))
theorem JqN:∀ {vs:List V} {us:List Value},JF vs us→∀ (p:List Nat),(∀ i∈p,i < vs.length)→JF (p.map fun i=>vs.getD i .non) (p.map fun i=>us.getD i Value.none):=by
 intro vs us r p
 induction p with
 | nil=>exact fun _=>.nil
 | cons i p ih =>
  intro h;have hi:=h i (List.mem_cons_self ..);obtain ⟨u,hu,ru⟩:=Jez (i:=i) r (List.getElem?_eq_getElem hi);refine .cons ?_ (ih fun j hj=>h j (List.mem_cons_of_mem _ hj));show JR (vs.getD i .non) (us.getD i Value.none);rw [List.getD_eq_getElem?_getD,List.getD_eq_getElem?_getD,hu,List.getElem?_eq_getElem hi];exact ru
theorem Jrg {α:Type} {l:List α} {d:α} {p:Array Nat} (h:Pm l.length p):(p.toList.map fun i=>l.getD i d).Perm l:=by
 have h1:p.toList.Perm (List.range l.length):=by
  have:=Array.perm_iff_toList_perm.mp h;simpa using this
 have h2:=h1.map fun i=>l.getD i d
 refine h2.trans (List.Perm.of_eq ?_);apply List.ext_getElem?;intro i;rw [List.getElem?_map];by_cases hi:i < l.length
 ·simp [hi]
 ·simp [hi]
theorem JqA:Yn X (.builtin "sorted") (Jvs X.K):=by
 intro pins s σ H xs us Q I r h;obtain ⟨l,zs,rfl,hl,hp,hz,q⟩:=h;obtain ⟨u,rfl,ru⟩:=JF.one r;cases ru;obtain ⟨its,rv,pl,_⟩:=I.list hl;have rlen:=rv.length;rw [List.length_map] at rlen;refine JnE (ps:=zs.map (·.2)) pl.isList (by rw [List.length_map]; omega) (by omega) (fun i v p hv hq=>?_) fun p pm so=>?_
 ·rw [List.getElem?_map] at hq;obtain ⟨z,hz1,hz2⟩:=Option.map_eq_some_iff.mp hq;obtain ⟨a,ea,ha⟩:=hp z (List.mem_of_getElem? hz1);obtain ⟨u,hu,ru⟩:=Jez (i:=i) (x:=z.1) rv (by rw [List.getElem?_map,hz1]; rfl);rw [hv] at hu;cases hu;rw [ea] at ru;cases (show v=.ref a from ru);obtain ⟨its',r',⟨o,e,c,n,d⟩,_⟩:=I.tuple ha;cases r' with
  | cons r1 rr =>
   cases rr with
   | cons r2 rr =>
    cases rr;obtain ⟨t,e1⟩:=r1;obtain ⟨t',e2⟩:=r2;subst e1 e2;rw [← hz2];exact ⟨a,rfl,o,n,t,t',e,c,d⟩
 ·obtain ⟨e,he⟩:=sortedAll_at s.heap its (JaG its p);have hf:H (s.heap.objs.size + 1)=none:=I.hok.fresh (Nat.le_succ _);have pmz:Pm zs.length p:=by rw [rlen]; exact pm
  have hlt:∀ i∈p.toList,i < zs.length:=fun i hi=>by
   have:=(Array.perm_iff_toList_perm.mp pmz).mem_iff.mp hi;simpa using this
  let d:V×(Str×Str):=(.non,dfl)
  have e1:(p.toList.map fun i=>zs.getD i d).map (·.1)=p.toList.map fun i=>(zs.map (·.1)).getD i .non:=by
   rw [List.map_map];refine List.map_congr_left fun i hi=>?_
   have:=hlt i hi;simp [List.getD_eq_getElem?_getD,List.getElem?_eq_getElem this]
  have e2:(p.toList.map fun i=>zs.getD i d).map (·.2)=p.toList.map fun i=>(zs.map (·.2)).getD i dfl:=by
   rw [List.map_map];refine List.map_congr_left fun i hi=>?_
   have:=hlt i hi;simp [List.getD_eq_getElem?_getD,List.getElem?_eq_getElem this]
  have hv:JF ((p.toList.map fun i=>zs.getD i d).map (·.1)) (JaG its p).toList:=by
   rw [e1];have z:=JqN rv p.toList (fun i hi=>by rw [List.length_map]; exact hlt i hi);unfold JaG;rw [List.toList_toArray];exact z
  refine ⟨.ref (s.heap.objs.size + 1),_,I.laid (t':=s.toks) (o:=.lst ((p.toList.map fun i=>zs.getD i d).map (·.1))) (fun b u=>sortedAll_old) (Nat.le_succ _) ⟨?_,(JaG its p).toList,e,hv,he⟩,rfl,q _ (p.toList.map fun i=>zs.getD i d) hf (Jrg pmz) ?_⟩
  ·rw [List.length_map,List.length_map,Array.length_toList,pmz.size];exact Nat.le_trans (Nat.le_of_lt hz) (by decide)
  ·rw [e2,List.pairwise_map,List.pairwise_iff_getElem];intro i j hi hj hij;rw [Array.length_toList] at hi hj;have z:=so i j (Nat.le_of_lt hij) (by rw [← rlen,← pmz.size]; exact hj);unfold Kp ky at z;rw [Array.getD_eq_getD_getElem?,Array.getD_eq_getD_getElem?,Array.getElem?_eq_getElem hi,Array.getElem?_eq_getElem hj] at z;exact z
theorem JmB {P P':Program} {w w':World}:∀ {ks:List JK} {us:List Value},ItemsAre (Yy P w) ks us→ItemsAre (Yy P' w') ks us
 | _,_,.nil=>.nil
 | _,_,.cons h t=>.cons h (JmB t)
theorem JqP {P P':Program} {w w':World} {h:Heap} {ks:List JK} {a:Addr} (hk:HS.TK P w h ks a):HS.TK P' w' h ks a:=let ⟨o,its,n,e,c,d,i⟩:=hk; ⟨o,its,n,e,c,d,JmB i⟩
theorem Jww {A:Around} {s:Shared} {P:Program} {w:World} {x y:List JK} {a b:Addr} (hu:A.units < cLine) (hx:HS.TK P w s.heap x a) (hy:HS.TK P w s.heap y b):SeqAt.EqAt A s (.ref a) (.ref b) (decide (x=y)) :=
 fun prog w E Q hq=>wpAny_eqBool_tuple hu (JqP hx) (JqP hy) hq
open Classical in
def Jw7 (K:PySem.W.Frag) (neg:Bool):R2:=fun x y H Q=>∃ a l vs ks kss,x=.ref a∧y=.ref l∧JQ K H a (ks.map kV)∧Jz K H l vs∧Jg4 K H vs kss∧Q (.bl (if neg then !decide (ks∈kss) else decide (ks∈kss))) H
open Classical in
theorem Jm3 (hu:X.A.units + 1 < cLine):ZF X (compareOp .NotIn) (Jw7 X.K true):=by
 intro pins s σ H x y v u Q I rx ry h;obtain ⟨a,l,vs,ks,kss,rfl,rfl,ha,hl,⟨tl,tt⟩,q⟩:=h;cases rx;cases ry;obtain ⟨its,rv,pl,_⟩:=I.list hl;have rlen:=rv.length;have hk:=JpV I ha;let e:Value→Bool:=fun u=>match u with
  | .ref b=>decide (HS.TK X.prog X.w s.heap ks b)
  | _=>false
 have at_:∀ (i:Nat) v,its[i]?=some v→∃ k2 b,kss[i]?=some k2∧v=.ref b∧HS.TK X.prog X.w s.heap k2 b:=fun i v hv=>by
  have hi:=(List.getElem?_eq_some_iff.mp hv).1;obtain ⟨x,hx⟩:∃ x,vs[i]?=some x:=⟨vs[i],List.getElem?_eq_getElem (by omega)⟩
  obtain ⟨k2,hk2⟩:∃ k2,kss[i]?=some k2:=⟨kss[i],List.getElem?_eq_getElem (by omega)⟩
  obtain ⟨b,rfl,hb⟩:=tt i x k2 hx hk2;obtain ⟨u,hu1,hu2⟩:=Jez rv hx;rw [hv] at hu1;cases hu1;cases (show v=.ref b from hu2);exact ⟨k2,b,hk2,rfl,JpV I hb⟩
 have same:∀ {k2:List JK} {b:Addr},HS.TK X.prog X.w s.heap k2 b→decide (k2=ks)=decide (HS.TK X.prog X.w s.heap ks b):=fun {k2 b} hb=>by
  refine decide_eq_decide.mpr ⟨fun e=>e ▸ hb,fun h=>IsTupleKey.inj hb h⟩
 refine SeqAt.notIn_listAt e pl.isList (fun w hw=>?_) ⟨.bl _,H,I,rfl,?_⟩
 ·obtain ⟨i,hi⟩:=List.mem_iff_getElem?.mp (show w∈its by simpa using hw);obtain ⟨k2,b,_,rfl,hb⟩:=at_ i w hi;have z:=Jww (A:=X.A.in1) hu hb hk;rw [same hb] at z;exact z
 ·have e2:its.toArray.any e=decide (ks∈kss):=by
   rw [show its.toArray.any e=its.any e by simp,Bool.eq_iff_iff,List.any_eq_true,decide_eq_true_eq];constructor
   ·rintro ⟨w,hw,he⟩;obtain ⟨i,hi⟩:=List.mem_iff_getElem?.mp hw;obtain ⟨k2,b,h2,rfl,hb⟩:=at_ i w hi;have he':decide (HS.TK X.prog X.w s.heap ks b)=true:=he;rw [← same hb] at he';rw [← of_decide_eq_true he'];exact List.mem_of_getElem? h2
   ·intro hin;obtain ⟨i,hi⟩:=List.mem_iff_getElem?.mp hin;have hlt:=(List.getElem?_eq_some_iff.mp hi).1;obtain ⟨k2,b,h2,h3,hb⟩:=at_ i its[i] (List.getElem?_eq_getElem (by omega));rw [hi] at h2;cases h2;refine ⟨its[i],List.getElem_mem _,?_⟩;rw [h3];exact decide_eq_true hb
  rw [e2];exact q
def Jvy (K:PySem.W.Frag):R2:=fun x y H Q=>∃ a l vs,x=.ref a∧y=.ref l∧Jz K H a vs∧Jz K H l []∧Q (.bl vs.isEmpty) H
theorem Jn6 (hu:X.A.units < cLine):ZF X (compareOp .Eq) (Jvy X.K):=by
 intro pins s σ H x y v u Q I rx ry h;obtain ⟨a,l,vs,rfl,rfl,ha,hl,q⟩:=h;cases rx;cases ry;obtain ⟨its,rv,pl,_⟩:=I.list ha;obtain ⟨its2,rv2,pl2,_⟩:=I.list hl;cases rv2;have rlen:=rv.length;cases vs with
 | nil =>
  cases rv;refine SeqAt.eq_listAt (e:=fun _=>true) pl.isList pl2.isList rfl hu (fun j h1 h2=>absurd h1 (Nat.not_lt_zero _)) ⟨.bl _,H,I,rfl,q⟩
 | cons v r=>exact SeqAt.eq_list_lengthsAt pl.isList pl2.isList (by rw [List.size_toArray,← rlen]; rfl) hu ⟨.bl _,H,I,rfl,q⟩
end
section
variable {tc:TT} {te:TE} {σc:St} {D:Addr} {H1:Hp} {Q:Hp→Prop} {K:PySem.W.Frag}
theorem Jlq {a:Addr} {xs:List V} (Pv:Nat→List V→Hp→Prop) (h00:σc[0]?=some none) (h01:σc[1]?=some none) (hq:∀ i ys H,Pv i ys H→Jz K H a xs) (h0:Pv 0 [] (upd H1 D (.lst []))) (hl:∀ i ys H,Pv i ys H→H D=some (.lst ys))
  (hs:∀ i x ys H,xs[i]?=some x→Pv i ys H→∃ b u v,x=.ref b∧JQ K H b [u,v]∧tc ((σc.set 0 (some u)).set 1 (some v)) H fun c H3=>if c=true then te ((σc.set 0 (some u)).set 1 (some v)) H3 fun v' H4=>H4 D=some (.lst ys)∧ys.length < sizeLine∧Pv (i + 1) (ys ++ [v']) (upd H4 D (.lst (ys ++ [v']))) else Pv (i + 1) ys H3)
  (hd:∀ ys H,Pv xs.length ys H→Q H):Jey (Itl K a) (Jqo K 2 (Jqp (Jbc 0) (Jqp (Jbc 1) JvU))) tc te σc D H1 Q:=by
 refine ⟨fun i m ys H=>m=xs.length - i∧i≤xs.length∧Pv i ys H,⟨xs.length,by simp,Nat.zero_le _,h0⟩,?_⟩;rintro i m ys H ⟨rfl,hi,p⟩;refine ⟨hl _ _ _ p,?_⟩;by_cases hlt:i < xs.length
 ·refine .inr ⟨⟨xs,xs[i],hq _ _ _ p,by simp [hlt]⟩,Pv (i + 1),fun zs H' p'=>⟨xs.length - (i + 1),by omega,rfl,hlt,p'⟩,fun x H' y=>?_⟩;obtain ⟨e,y⟩:=y;subst e;have hx:=y xs (hq _ _ _ p);obtain ⟨b,u,v,rfl,hb,z⟩:=hs i x ys _ hx p;exact ⟨b,[u,v],rfl,hb,rfl,u,[v],rfl,v,[],rfl,rfl,((Jgd.refl σc).set h00).set h01,z⟩
 ·have e:i=xs.length:=by omega
  subst e;exact .inl ⟨⟨xs,hq _ _ _ p,Nat.le_refl _⟩,hd _ _ p⟩
end
end L2
namespace L2
open PySem PySem.Spec PyProof.Rows
structure Md (K:PySem.W.Frag) (C:Addr) (x qual:Str) (st:Stmt) (ps:List Str) (f:Addr) (fd:FuncData):Prop where
 F:Fun K x qual st f fd
 b:JbC K fd ps []
 m:JqG K C x f
theorem Z5 {X:Cx}:Jan (Y8 X.prog X.w) X E0:=fun pins σ H s e s' I h=>by
 obtain ⟨ea,C,B,H2,_,_,_,_,q⟩:=h;exact q.elim
section
variable {tc:TT} {te:TE} {σc:St} {D:Addr} {H1:Hp} {Q:Hp→Prop} {K:PySem.W.Frag}
theorem Jky {a:Addr} {xs:List V} (Pv:Nat→List V→Hp→Prop) (h00:σc[0]?=some none) (hq:∀ i ys H,Pv i ys H→JQ K H a xs) (h0:Pv 0 [] (upd H1 D (.lst []))) (hl:∀ i ys H,Pv i ys H→H D=some (.lst ys))
  (hs:∀ i x ys H,xs[i]?=some x→Pv i ys H→tc (σc.set 0 (some x)) H fun b H3=>if b=true then te (σc.set 0 (some x)) H3 fun v H4=>H4 D=some (.lst ys)∧ys.length < sizeLine∧Pv (i + 1) (ys ++ [v]) (upd H4 D (.lst (ys ++ [v]))) else Pv (i + 1) ys H3)
  (hd:∀ ys H,Pv xs.length ys H→Q H):Jey (Itt K a) (Jbc 0) tc te σc D H1 Q :=
 Jmf (n:=xs.length) (X1:=fun i x=>xs[i]?=some x) Pv h00 (fun i H hi ⟨ys,p⟩=>⟨⟨xs,xs[i],hq _ _ _ p,by simp [hi]⟩,fun x H' y=>⟨y.1,y.2 xs (hq _ _ _ p)⟩⟩) (fun H ⟨ys,p⟩=>⟨xs,hq _ _ _ p,Nat.le_refl _⟩) h0 hl (fun i x ys H _ hx p=>hs i x ys H hx p) hd
end
theorem Jg7 {α:Type} {R:α→α→Prop} (anti:∀ a b,R a b→R b a→a=b):∀ {l r:List α},l.Perm r→l.Pairwise R→r.Pairwise R→l=r
 | [],r,p,_,_=>(p.symm.eq_nil).symm
 | x :: l,[],p,_,_=>absurd p.eq_nil (by simp)
 | x :: l,y :: r,p,h1,h2=>by
  have hx:=List.pairwise_cons.mp h1;have hy:=List.pairwise_cons.mp h2;have e:x=y:=by
   have m1:x∈y :: r:=p.mem_iff.mp (List.mem_cons_self ..);have m2:y∈x :: l:=p.mem_iff.mpr (List.mem_cons_self ..);rcases List.mem_cons.mp m1 with q | q
   ·exact q
   ·rcases List.mem_cons.mp m2 with q' | q'
    ·exact q'.symm
    ·exact anti _ _ (hx.1 _ q') (hy.1 _ q)
  subst e;rw [Jg7 anti (List.perm_cons _ |>.mp p) hx.2 hy.2]
end L2
namespace L2
open PySem PySem.Spec PyProof.Rows
section
variable {X:Cx}
theorem Jpy {ns:List Int} {us:List Value} (r:JF (ns.map V.int) us):∃ xs:Array (Int×Tok),us.toArray=intItems xs∧ns=xs.toList.map (·.1):=by
 induction ns generalizing us with
 | nil=>cases r; exact ⟨#[],by simp [intItems],rfl⟩
 | cons n ns ih =>
  cases r with
  | cons r1 r2 =>
   obtain ⟨t,rfl⟩:=r1;obtain ⟨xs,h1,h2⟩:=ih r2;refine ⟨((n,t) :: xs.toList).toArray,?_,by rw [h2]; rfl⟩;have e:∀ {a b:List Value},a.toArray=b.toArray→a=b:=fun h=>by simpa using h
   unfold intItems at h1 ⊢;rw [List.map_toArray];have h3:=congrArg Array.toList h1;rw [Array.toList_map] at h3;simp only [List.map_cons];rw [← h3]
def Jwq (K:PySem.W.Frag):List V→Hp→VK→Prop:=fun xs H Q=>∃ (l:Addr) (ns:List Int),xs=[.ref l]∧Jz K H l (ns.map V.int)∧0 < ns.length∧∀ M,M∈ns→(∀ a∈ns,a≤M)→Q (.int M) H
def Jwp (K:PySem.W.Frag):List V→Hp→VK→Prop:=fun xs H Q=>∃ (l:Addr) (ns:List Int),xs=[.ref l]∧Jz K H l (ns.map V.int)∧0 < ns.length∧∀ M,M∈ns→(∀ a∈ns,M≤a)→Q (.int M) H
theorem Jr7 (hc:X.calm=true):Yn X (.builtin "max") (Jwq X.K):=by
 intro pins s σ H xs us Q I r h;obtain ⟨l,ns,rfl,hl,hne,q⟩:=h;obtain ⟨u,rfl,ru⟩:=JF.one r;cases ru;obtain ⟨its,rv,pl,_⟩:=I.list hl;obtain ⟨zs,e,rfl⟩:=Jpy rv;have hsz:0 < zs.size:=by rw [List.length_map,Array.length_toList] at hne; exact hne
 have hl':=pl.isList;rw [e] at hl';refine max_intList (I.ok.hd hc) hl' hsz fun v h' tk hv hk=>?_
 obtain ⟨t,rfl⟩:=intItems_at hv;obtain ⟨h1,h2⟩:=argBest_gt (numAt zs) (zs.size - 1);refine ⟨.int (numAt zs _),H,I.kept hk,⟨_,rfl⟩,q _ ?_ fun a ha=>?_⟩
 ·rw [numAt_eq]; exact getD_mem (by rw [List.length_map,Array.length_toList]; omega)
 ·obtain ⟨j,hj,rfl⟩:=mem_getD ha;rw [List.length_map,Array.length_toList] at hj;rw [← numAt_eq]; exact h2 j (by omega)
theorem Jr6 (hc:X.calm=true):Yn X (.builtin "min") (Jwp X.K):=by
 intro pins s σ H xs us Q I r h;obtain ⟨l,ns,rfl,hl,hne,q⟩:=h;obtain ⟨u,rfl,ru⟩:=JF.one r;cases ru;obtain ⟨its,rv,pl,_⟩:=I.list hl;obtain ⟨zs,e,rfl⟩:=Jpy rv;have hsz:0 < zs.size:=by rw [List.length_map,Array.length_toList] at hne; exact hne
 have hl':=pl.isList;rw [e] at hl';refine min_intList (I.ok.hd hc) hl' hsz fun v h' tk hv hk=>?_
 obtain ⟨t,rfl⟩:=intItems_at hv;obtain ⟨h1,h2⟩:=argBest_lt (numAt zs) (zs.size - 1);refine ⟨.int (numAt zs _),H,I.kept hk,⟨_,rfl⟩,q _ ?_ fun a ha=>?_⟩
 ·rw [numAt_eq]; exact getD_mem (by rw [List.length_map,Array.length_toList]; omega)
 ·obtain ⟨j,hj,rfl⟩:=mem_getD ha;rw [List.length_map,Array.length_toList] at hj;rw [← numAt_eq]; exact h2 j (by omega)
end
end L2
namespace L2
def Ja0:List Int→Int
 | []=>0
 | [a]=>a
 | a :: b :: l=>if a≤Ja0 (b :: l) then Ja0 (b :: l) else a
def JaZ:List Int→Int
 | []=>0
 | [a]=>a
 | a :: b :: l=>if JaZ (b :: l)≤a then JaZ (b :: l) else a
theorem Jix:∀ {l:List Int},l≠[]→Ja0 l∈l∧∀ x∈l,x≤Ja0 l
 | [],h=>absurd rfl h
 | [a],_=>⟨List.mem_singleton.mpr rfl,fun x hx=>by rw [List.mem_singleton.mp hx]; exact Int.le_refl _⟩
 | a :: b :: l,_=>by
  obtain ⟨h1,h2⟩:=Jix (l:=b :: l) (by simp);show (if a≤Ja0 (b :: l) then Ja0 (b :: l) else a)∈_∧∀ x∈_,x≤(if a≤Ja0 (b :: l) then Ja0 (b :: l) else a);by_cases h:a≤Ja0 (b :: l)
  ·rw [if_pos h];refine ⟨List.mem_cons_of_mem _ h1,fun x hx=>?_⟩;rcases List.mem_cons.mp hx with q | q
   ·rw [q]; exact h
   ·exact h2 x q
  ·rw [if_neg h];refine ⟨List.mem_cons_self ..,fun x hx=>?_⟩;rcases List.mem_cons.mp hx with q | q
   ·rw [q]; exact Int.le_refl _
   ·have:=h2 x q; omega
theorem Jiw:∀ {l:List Int},l≠[]→JaZ l∈l∧∀ x∈l,JaZ l≤x
 | [],h=>absurd rfl h
 | [a],_=>⟨List.mem_singleton.mpr rfl,fun x hx=>by rw [List.mem_singleton.mp hx]; exact Int.le_refl _⟩
 | a :: b :: l,_=>by
  obtain ⟨h1,h2⟩:=Jiw (l:=b :: l) (by simp);show (if JaZ (b :: l)≤a then JaZ (b :: l) else a)∈_∧∀ x∈_,(if JaZ (b :: l)≤a then JaZ (b :: l) else a)≤x;by_cases h:JaZ (b :: l)≤a
  ·rw [if_pos h];refine ⟨List.mem_cons_of_mem _ h1,fun x hx=>?_⟩;rcases List.mem_cons.mp hx with q | q
   ·rw [q]; exact h
   ·exact h2 x q
  ·rw [if_neg h];refine ⟨List.mem_cons_self ..,fun x hx=>?_⟩;rcases List.mem_cons.mp hx with q | q
   ·rw [q]; exact Int.le_refl _
   ·have:=h2 x q; omega
theorem JuI {l:List Int} {m:Int} (h1:m∈l) (h2:∀ x∈l,x≤m):m=Ja0 l:=by
 have hne:l≠[]:=fun e=>by rw [e] at h1; cases h1
 obtain ⟨h3,h4⟩:=Jix hne;have:=h2 _ h3;have:=h4 _ h1;omega
theorem JuG {l:List Int} {m:Int} (h1:m∈l) (h2:∀ x∈l,m≤x):m=JaZ l:=by
 have hne:l≠[]:=fun e=>by rw [e] at h1; cases h1
 obtain ⟨h3,h4⟩:=Jiw hne;have:=h2 _ h3;have:=h4 _ h1;omega
section
variable {α:Type}
def YY (W:α→List α) (g:α→Bool) (c:Int):Nat→α→Bool→Int
 | 0,p,_=>if g p=true then 0 else c + 1
 | t + 1,p,r=>if g p=true then 0 else if (W p).isEmpty=true then c + 1 else
   if r=true then (if (JaZ ((W p).map fun w=>YY W g c t w false) + Ja0 ((W p).map fun w=>YY W g c t w true)) / 2 > JaZ ((W p).map fun w=>YY W g c t w false) then (JaZ ((W p).map fun w=>YY W g c t w false) + Ja0 ((W p).map fun w=>YY W g c t w true)) / 2 else JaZ ((W p).map fun w=>YY W g c t w false))
   else (if (JaZ ((W p).map fun w=>YY W g c t w false) + Ja0 ((W p).map fun w=>YY W g c t w true) + 1) / 2 < Ja0 ((W p).map fun w=>YY W g c t w true) then (JaZ ((W p).map fun w=>YY W g c t w false) + Ja0 ((W p).map fun w=>YY W g c t w true) + 1) / 2 else Ja0 ((W p).map fun w=>YY W g c t w true))
def loA (W:α→List α) (g:α→Bool) (c:Int) (t:Nat) (p:α) (r:Bool):Int:=JaZ ((W p).map fun w=>YY W g c t w r)
def hiB (W:α→List α) (g:α→Bool) (c:Int) (t:Nat) (p:α) (r:Bool):Int:=Ja0 ((W p).map fun w=>YY W g c t w r)
variable {W:α→List α} {g:α→Bool} {c:Int} {t:Nat} {p:α} {r:Bool}
theorem Jir (h:g p=true):YY W g c t p r=0:=by
 cases t with
 | zero=>show (if g p=true then 0 else c + 1)=0; rw [if_pos h]
 | succ t=>unfold YY; rw [if_pos h]
theorem Jiq (h:g p=false) (hw:W p=[]):YY W g c t p r=c + 1:=by
 cases t with
 | zero=>show (if g p=true then 0 else c + 1)=_; rw [if_neg (by rw [h]; exact Bool.false_ne_true)]
 | succ t=>unfold YY; rw [if_neg (by rw [h]; exact Bool.false_ne_true),if_pos (by rw [hw]; rfl)]
theorem Jru (h:g p=false):YY W g c 0 p r=c + 1:=by
 show (if g p=true then 0 else c + 1)=_; rw [if_neg (by rw [h]; exact Bool.false_ne_true)]
theorem JmC {l:List α} (h:l≠[]):¬ (l.isEmpty=true):=fun e=>h (List.isEmpty_iff.mp e)
theorem Jrw (h:g p=false) (hw:W p≠[]):YY W g c (t + 1) p true=if (loA W g c t p false + hiB W g c t p true) / 2 > loA W g c t p false then (loA W g c t p false + hiB W g c t p true) / 2 else loA W g c t p false:=by
 unfold YY loA hiB; rw [if_neg (by rw [h]; exact Bool.false_ne_true),if_neg (JmC hw),if_pos rfl]
theorem Jrv (h:g p=false) (hw:W p≠[]):YY W g c (t + 1) p false=if (loA W g c t p false + hiB W g c t p true + 1) / 2 < hiB W g c t p true then (loA W g c t p false + hiB W g c t p true + 1) / 2 else hiB W g c t p true:=by
 unfold YY loA hiB; rw [if_neg (by rw [h]; exact Bool.false_ne_true),if_neg (JmC hw),if_neg Bool.false_ne_true]
theorem Jtg (hw:W p≠[]):(∃ w∈W p,loA W g c t p r=YY W g c t w r)∧∀ w∈W p,loA W g c t p r≤YY W g c t w r:=by
 have hne:(W p).map (fun w=>YY W g c t w r)≠[]:=fun e=>hw (List.map_eq_nil_iff.mp e)
 obtain ⟨h1,h2⟩:=Jiw hne;obtain ⟨w,h3,h4⟩:=List.mem_map.mp h1;exact ⟨⟨w,h3,h4.symm⟩,fun w hw=>h2 _ (List.mem_map.mpr ⟨w,hw,rfl⟩)⟩
theorem Jtm (hw:W p≠[]):(∃ w∈W p,hiB W g c t p r=YY W g c t w r)∧∀ w∈W p,YY W g c t w r≤hiB W g c t p r:=by
 have hne:(W p).map (fun w=>YY W g c t w r)≠[]:=fun e=>hw (List.map_eq_nil_iff.mp e)
 obtain ⟨h1,h2⟩:=Jix hne;obtain ⟨w,h3,h4⟩:=List.mem_map.mp h1;exact ⟨⟨w,h3,h4.symm⟩,fun w hw=>h2 _ (List.mem_map.mpr ⟨w,hw,rfl⟩)⟩
theorem Jvk:∀ (t:Nat) (p:α),YY W g c t p true≤YY W g c t p false + 1∧YY W g c t p false≤YY W g c t p true + 1
 | 0,p=>by
  show (if g p=true then 0 else c + 1)≤(if g p=true then 0 else c + 1) + 1∧_;exact ⟨by omega,by show (if g p=true then 0 else c + 1)≤(if g p=true then 0 else c + 1) + 1; omega⟩
 | t + 1,p=>by
  cases hg:g p with
  | true=>rw [Jir hg,Jir hg]; omega
  | false =>
   by_cases hw:W p=[]
   ·rw [Jiq hg hw,Jiq hg hw]; omega
   ·obtain ⟨⟨w1,m1,e1⟩,_⟩:=Jtg (W:=W) (g:=g) (c:=c) (t:=t) (p:=p) (r:=false) hw;obtain ⟨_,l2⟩:=Jtm (W:=W) (g:=g) (c:=c) (t:=t) (p:=p) (r:=true) hw;have b1:=Jvk t w1;have b2:=l2 w1 m1;rw [← e1] at b1;rw [Jrw hg hw,Jrv hg hw];constructor <;> split <;> split <;> omega
def after (k:Int) (r:Bool) (b a:Int):Bool×Int×Bool :=
 if b > a then (!r,(if r then k + b else k - b),r) else if a > b then (r,(if r then k - a else k + a),r) else (r,(if r then k - a else k + a),!r)
def own (c k:Int) (r:Bool):Int:=if r then k else c - k
end
end L2
namespace L2
open PySem PySem.Spec PyProof.Rows
theorem Jh {K:PySem.W.Frag} {f:Addr} {x q:Str} {st:Stmt} (h:JS K f q=JV x q st):Fun K x q st f (JC K f):=by
 obtain ⟨oc,od,kV,doc,pm,an,cdv,ct,osl,h1,h2,h3,h4⟩:=Jrs h;exact ⟨⟨oc,od,kV,doc,pm,an,cdv,ct,osl,h1,h2,h3⟩,h4⟩
theorem JI {K:PySem.W.Frag} {f:Addr} {x q:Str} {st:Stmt} (h:JS K f q=JV x q st):PySem.W.keepIn K (.ref f)=true:=(Jh h).kp
def Jqf:Sum Int Str→V
 | .inl i=>.int i
 | .inr x=>.str x
theorem JrT {v:Value} {x:Sum Int Str} (h:Jhn v=some x):JR (Jqf x) v:=by
 unfold Jhn at h;split at h
 ·cases h; exact ⟨_,rfl⟩
 ·cases h; exact ⟨_,rfl⟩
 ·cases h
theorem Jlf:∀ {us:List Value} {xs:List (Sum Int Str)},us.map Jhn=xs.map some→JF (xs.map Jqf) us
 | [],[],_=>.nil
 | u :: us,x :: xs,h=>by
  rw [List.map_cons,List.map_cons,List.cons.injEq] at h;exact .cons (JrT h.1) (Jlf h.2)
 | [],_ :: _,h=>by cases h
 | _ :: _,[],h=>by cases h
theorem JvL {K:PySem.W.Frag} {n:Str} {xs:List (Sum Int Str)} (h:obT K n=some (true,xs.map some)) (H:Hp):JQ K H (Jc K n) (xs.map Jqf):=by
 unfold obT at h;split at h
 ·rename_i its m sl e;have h:=Option.some.inj h;have h1:decide (its.size≤1000)=true:=congrArg Prod.fst h;have h2:its.toList.map Jhn=xs.map some:=congrArg Prod.snd h;exact .inr ⟨_,its,m,e,rfl,rfl,Nat.le_trans (of_decide_eq_true h1) (by decide),Jlf h2⟩
 ·cases h
theorem mgV {K:PySem.W.Frag} {h:Heap} {mg:Str→Option Value} {n:Str} {i:Int} (X:K.In h) (G:h.Ns mainGlobals mg) (e:obV K n=some (.inl i)):∃ u,mg n=some u∧JR (.int i) u:=by
 obtain ⟨t,z⟩:=JuD e;exact ⟨_,PySem.W.mg_of X G z,⟨_,rfl⟩⟩
theorem Jso {l:PySem.W.OpenLaw} {n k:Nat} {q:Program} {loose:List Str} {XP:(Str→Option Value)→Heap→Prop} {YP:World→Heap→Prop} {d:DefRec} {C:PySem.W.Frag→Prop} {CX:CXT} {sp:PySem.W.Frag→Sp} {x:Str}
  (hn:l.most=some n) (hn2:n≤sizeLine) (hdf:d.params.defaults=[]) (hr:Y3 k callerA)
  (hY:∀ (w:World) (h:Heap),YP w h→∃ K:PySem.W.Frag,K.In h∧C K)
  (F:∀ (w:World) (K:PySem.W.Frag) (mg:Str→Option Value) (fa:Addr) (h:Heap),C K→K.In h→h.Ns mainGlobals mg→mg d.name=some (.ref fa) →
   ∃ fd:FuncData,(∀ (s:Shared) (u:Value),BindsTo s fd ⟨[u],[]⟩ [(x,u)]) ∧
    ∀ base:Heap,K.In base→base.Ns mainGlobals mg→JL l.prog w K mg base CX k fa fd [x] (sp K))
  (hsp:∀ (K:PySem.W.Frag) (H:Hp) (a:Addr) (ns:List Int),ns.length≤n→JtF H→Jz K H a (ns.map V.int)→sp K [.ref a] H (fun v _=>v=.bl true) fun _ _ _=>False)
  (hCX:∀ (H:Hp) (s:Shared) (e:Value) (s':Shared),CX [] H s (fun _ _ _=>False) e s'→False) :
  PySem.W.WalkO q loose XP YP l.row.toRowW d [] (fun f vs=>PySem.call f vs):=by
 refine Att.Jpb hn hdf fun w s₀ s₁ mg mb fa o pm cd doc a vs ns G Y ho hd hcd hmg hobj hints hlen hg=>?_
 obtain ⟨K,KX,hC⟩:=hY w _ Y;obtain ⟨fd,hb,hF⟩:=F w K mg fa _ hC KX G.T.g hmg;exact Jth KX G.T.g G.T.b G.T.builtins G.T.nolimit hg hobj hints (Nat.le_trans hlen hn2) hr hF hb (fun H hO hS=>hsp K H a ns hlen hO hS) fun H e s'=>hCX H s₁ e s'
end L2
namespace L2
open PySem PySem.Spec PyProof.Rows
def Jvv (K:PySem.W.Frag):R2:=fun x y H Q=>∃ a l vs,x=.ref a∧y=.ref l∧Jz K H a vs∧Jz K H l []∧Q (.bl (!vs.isEmpty)) H
theorem Js1 {X:Cx} (hu:X.A.units < cLine):ZF X (compareOp .NotEq) (Jvv X.K):=by
 intro pins s σ H x y v u Q I rx ry h;obtain ⟨a,l,vs,rfl,rfl,ha,hl,q⟩:=h;cases rx;cases ry;obtain ⟨its,rv,pl,_⟩:=I.list ha;obtain ⟨its2,rv2,pl2,_⟩:=I.list hl;cases rv2;have rlen:=rv.length;cases vs with
 | nil =>
  cases rv;have z:=SeqAt.RcNeAt.lists (A:=X.A) (e:=fun _=>true) pl.isList pl2.isList rfl hu (fun j h1 h2=>absurd h1 (Nat.not_lt_zero _)) X.prog X.w X.xe (EP X pins σ Q);exact z ⟨.bl _,H,I,rfl,q⟩
 | cons v r =>
  have z:=SeqAt.RcNeAt.lists_lengths (A:=X.A) pl.isList pl2.isList (by rw [List.size_toArray,← rlen]; rfl) hu X.prog X.w X.xe (EP X pins σ Q);exact z ⟨.bl _,H,I,rfl,q⟩
end L2
namespace L2
open PySem PySem.Spec PyProof.Rows
theorem Jty {X:Cx}:Yn X (.builtin "isinstance") (fun xs H Q=>∃ (a:Addr) (ys:List V),xs=[.ref a,.ty "tuple"]∧JQ X.K H a ys∧Q (.bl true) H):=by
 intro pins s σ H xs us Q I r h;obtain ⟨a,ys,rfl,hs,q⟩:=h;cases r with
 | cons r rr =>
  cases rr with
  | cons r' rr =>
   cases rr;rename_i u u';obtain rfl:u'=.type "tuple":=r';obtain rfl:u=.ref a:=r;obtain ⟨its,_,⟨o,h1,h2,_⟩,_⟩:=I.tuple hs;exact PySem.W.kia_one PySem.W.kitx_tuple I.kIn ⟨o,h1,h2⟩ JrE (fun z=>nomatch z) fun tk=>⟨.bl true,H,I.tok _,rfl,q⟩
theorem cxK {CX:CXT} {P:Program} {w:World} {K:PySem.W.Frag} {mg:Str→Option Value} {base:Heap} {N:List Str} {q:Str} {sc:Scope} {f:Addr} {cd:Value} {A:Around} {o:List Env} {s:Shared} {H:Hp} {E:XK}:(ZU CX P w K mg base N q sc f cd A o s H E).nox.K=K:=rfl
theorem Ji0 {CX:CXT} {P:Program} {w:World} {K:PySem.W.Frag} {mg:Str→Option Value} {base:Heap} {N:List Str} {q:Str} {sc:Scope} {f:Addr} {cd:Value} {A:Around} {o:List Env} {s:Shared} {H:Hp} {E:XK}:(ZU CX P w K mg base N q sc f cd A o s H E).K=K:=rfl
def Jvu:List V→Hp→VK→Prop:=fun xs H Q=>∃ (d:Addr) (kvs:List (JK×V)) (ss:List Str),xs=[.ref d]∧H d=some (.dK kvs)∧kvs.map (·.1)=ss.map Sum.inr∧ss.length < 64∧∀ (p:Addr) (ss':List Str),H p=none→ss'.Perm ss→ss'.Pairwise sle→Q (.ref p) (upd H p (.lst (ss'.map V.str)))
theorem Jmz {P:Program} {w:World}:∀ {ss:List Str} {vs:List (JK×Value)} {us:List Value},vs.map (·.1)=ss.map Sum.inr→us.length=vs.length→(∀ (i:Nat) v,us[i]?=some v→∃ k x,vs[i]?=some (k,x)∧(Yy P w).is k v=true)→StrsAre us ss
 | [],[],[],_,_,_=>.nil
 | [],[],u :: us,_,h,_=>by simp at h
 | [],v :: vs,_,h,_,_=>by simp at h
 | s :: ss,[],_,h,_,_=>by simp at h
 | s :: ss,v :: vs,[],_,h,_=>by simp at h
 | s :: ss,v :: vs,u :: us,h1,h2,h3=>by
  obtain ⟨k,x,e,hk⟩:=h3 0 u rfl;have e:v=(k,x):=Option.some.inj e;subst e;have h1':k=Sum.inr s∧vs.map (·.1)=ss.map Sum.inr:=by simpa using h1
  obtain ⟨rfl,h1'⟩:=h1';rw [Jqi] at hk;rcases Zf hk with ⟨i,t,e,_⟩ | ⟨y,t,e,rfl⟩
  ·cases e
  ·cases e;exact .cons _ _ (Jmz (P:=P) (w:=w) h1' (by simpa using h2) fun i v hv=>h3 (i + 1) v hv)
theorem JqB {X:Cx} (hc:X.calm=true):Yn X (.builtin "sorted") Jvu:=by
 intro pins s σ H xs us Q I r h;obtain ⟨d,kvs,ss,rfl,hd,hk,hz,q⟩:=h;obtain ⟨u,rfl,ru⟩:=JF.one r;cases ru;obtain ⟨z,lo,vs,rel,dd⟩:=Jt3 I.hok hd;obtain ⟨ep,hat⟩:=dd.dictAt;have hh:X.A.handled=none:=I.ok.hd hc;have hlen:vs.length=ss.length:=by rw [← List.length_map (f:=(·.1)),← rel.keys,hk,List.length_map]
 refine Calls.call_function_entry kind_sorted plain_sorted entry_sorted (args_sorted1 _) ?_;unfold Builtin.«sorted»;refine wpAny_bind (m:=checkCount "sorted" 1 1 _) (wpAny_pure ?_);refine wpAny_bind (PySem.W.kdu_collect (A:=X.A.in1) (PySem.W.kdl_dict (knd:=Yy X.prog X.w) (kvs:=vs) (ep:=ep) lo) hh hat (by rw [hlen]; exact Nat.le_trans (Nat.le_of_lt hz) (by decide)) fun h' tk acc hk' hacc=>?_);have I1:Jn X pins σ H { s with heap:=h',toks:=tk }:=I.kept hk';have hl:acc.toList.length=vs.length:=by rw [Array.length_toList]; exact hacc.1
 have hS:StrsAre acc.toList ss:=Jmz (P:=X.prog) (w:=X.w) (by rw [← rel.keys]; exact hk) hl fun i v hv=>hacc.2 i v (by simpa using hv)
 have h64:acc.toList.length < 64:=by rw [hl,hlen]; exact hz
 refine wpAny_bind (wpAny_newList ?_ (Nat.le_trans (Nat.le_of_lt h64) (by decide)));have hoL:(h'.push (seqObj "list" acc.toList.toArray 0)).get? h'.objs.size=some (seqObj "list" acc.toList.toArray 0):=Heap.get?_push_size _ rfl;show wpAny _ _ _ _ _ { s with heap:=h'.push (seqObj "list" acc.toList.toArray 0),toks:=tk };refine wpAny_bind (wpAny_holding (wpAny_call_entry slot_list_sort ⟨_,hoL,rfl⟩ entry_list_sort (list_sort_treeK strKind_oneLt hoL hS.keysOf (fun v₁ v₂ rest e=>keyKind_strs (by rw [← e]; exact hS)) h64 fun st' a1 a2=>⟨_,rfl,?_⟩) (args_list_sort _)));obtain ⟨ss',b1,b2,b3⟩:=sorted_out_str hS a1 a2;obtain ⟨e,he⟩:=sortedHeap_at (out:=(arrOf st').map (·.2)) hoL;have hv:=Jh1 b1;refine wpAny_pure ⟨_,rfl,.ref h'.objs.size,_,I1.laid (t':=tk) (o:=.lst (ss'.map V.str)) (fun b u eb=>?_) (Nat.le_refl _) ⟨?_,((arrOf st').map (·.2)).toList,e,hv,he⟩,rfl,q _ ss' (I1.hok.fresh (Nat.le_refl _)) b2 (JkN b3)⟩
 ·have hlt:=Heap.lt_size eb;rw [sortedHeap_old (Nat.ne_of_lt hlt) (by rw [size_push']; exact Nat.lt_succ_of_lt hlt)];exact Heap.get?_push_of_some _ eb
 ·rw [List.length_map,b2.length_eq];exact Nat.le_trans (Nat.le_of_lt hz) (by decide)
end L2
set_option maxHeartbeats 1600000
namespace Pf
open PySem L2
theorem JnI:Ju ["text"] ["text"] (Jl Jc7):=⟨rfl,rfl,rfl,by decide +kernel,rfl,by decide +kernel,by decide +kernel⟩
theorem JmV:Ju ["hand"] ["hand"] (Jl JeO):=⟨rfl,rfl,rfl,by decide +kernel,rfl,by decide +kernel,by decide +kernel⟩
theorem JsP:Ju ["hand"] ["hand"] (Jl JlL):=⟨rfl,rfl,rfl,by decide +kernel,rfl,by decide +kernel,by decide +kernel⟩
theorem JlF:Ju ["number", "most"] ["number", "most"] (Jl JdJ):=⟨rfl,rfl,rfl,by decide +kernel,rfl,by decide +kernel,by decide +kernel⟩
theorem JlG:Ju ["north", "south"] ["north", "south"] (Jl JdM):=⟨rfl,rfl,rfl,by decide +kernel,rfl,by decide +kernel,by decide +kernel⟩
theorem Jju:Ju ["board", "place", "turns", "north", "south", "ribbon"] ["board", "place", "turns", "north", "south", "ribbon"] (Jl JbE):=⟨rfl,rfl,rfl,by decide +kernel,rfl,by decide +kernel,by decide +kernel⟩
theorem JsR:Ju ["board", "place", "turns"] ["board", "place", "turns"] (Jl JlN):=⟨rfl,rfl,rfl,by decide +kernel,rfl,by decide +kernel,by decide +kernel⟩
theorem Jh7:Ju ["self", "board", "coins", "turns", "left"] ["self", "board", "coins", "turns"] (Jl Jgl):=⟨rfl,rfl,rfl,by decide +kernel,rfl,by decide +kernel,by decide +kernel⟩
theorem Z2:Ju ["self", "turns", "row", "place", "ribbon"] ["self", "turns"] (Jl Jbh):=⟨rfl,rfl,rfl,by decide +kernel,rfl,by decide +kernel,by decide +kernel⟩
theorem JaF:Ju ["self", "place", "turns", "ribbon", "victor", "leading", "led"] ["self", "place", "turns", "ribbon"] (Jl JcR):=⟨rfl,rfl,rfl,by decide +kernel,rfl,by decide +kernel,by decide +kernel⟩
theorem Z4:Ju ["self", "place", "turns", "behind"] ["self", "place", "turns"] (Jl YT):=⟨rfl,rfl,rfl,by decide +kernel,rfl,by decide +kernel,by decide +kernel⟩
theorem Z3:Ju ["self", "place", "turns", "behind"] ["self", "place", "turns"] (Jl YS):=⟨rfl,rfl,rfl,by decide +kernel,rfl,by decide +kernel,by decide +kernel⟩
theorem JlI:Ju ["self", "place", "turns", "north", "south", "ribbon", "hand", "word", "heard"] ["self", "place", "turns", "north", "south", "ribbon", "hand", "word", "heard"] (Jl JdO):=⟨rfl,rfl,rfl,by decide +kernel,rfl,by decide +kernel,by decide +kernel⟩
theorem JmU:Ju ["board", "place", "turns", "north", "south", "ribbon"] ["board", "place", "turns", "north", "south", "ribbon"] (Jl JeL):=⟨rfl,rfl,rfl,by decide +kernel,rfl,by decide +kernel,by decide +kernel⟩
theorem JnP:Ju ["self", "board", "place", "turns", "north", "south", "ribbon"] ["self", "board", "place", "turns", "north", "south", "ribbon"] (Jl Jgk):=⟨rfl,rfl,rfl,by decide +kernel,rfl,by decide +kernel,by decide +kernel⟩
theorem JeK:Ju ["self", "now"] ["self"] (Jl Jb4):=⟨rfl,rfl,rfl,by decide +kernel,rfl,by decide +kernel,by decide +kernel⟩
theorem Jjz:Ju ["self", "now"] ["self"] (Jl Jhd):=⟨rfl,rfl,rfl,by decide +kernel,rfl,by decide +kernel,by decide +kernel⟩
theorem JmZ:Ju ["self"] ["self"] (Jl JeT):=⟨rfl,rfl,rfl,by decide +kernel,rfl,by decide +kernel,by decide +kernel⟩
theorem Jm0:Ju ["self"] ["self"] (Jl JeU):=⟨rfl,rfl,rfl,by decide +kernel,rfl,by decide +kernel,by decide +kernel⟩
theorem Jh6:Ju ["self", "now"] ["self"] (Jl Jgj):=⟨rfl,rfl,rfl,by decide +kernel,rfl,by decide +kernel,by decide +kernel⟩
theorem JnL:Ju ["name", "kept", "most"] ["name", "kept", "most"] (Jl Jgf):=⟨rfl,rfl,rfl,by decide +kernel,rfl,by decide +kernel,by decide +kernel⟩
theorem JnJ:Ju ["name", "kept"] ["name", "kept"] (Jl Jge):=⟨rfl,rfl,rfl,by decide +kernel,rfl,by decide +kernel,by decide +kernel⟩
theorem JnO:Ju ["self"] ["self"] (Jl Jgi):=⟨rfl,rfl,rfl,by decide +kernel,rfl,by decide +kernel,by decide +kernel⟩
theorem Jjv:Ju ["self", "name", "board"] ["self", "name", "board"] (Jl JbF):=⟨rfl,rfl,rfl,by decide +kernel,rfl,by decide +kernel,by decide +kernel⟩
theorem Jka:Ju ["self", "name"] ["self", "name"] (Jl Jb3):=⟨rfl,rfl,rfl,by decide +kernel,rfl,by decide +kernel,by decide +kernel⟩
theorem Jhx:Ju ["self", "name", "board_name", "place", "turns", "north", "south", "ribbon", "board"] ["self", "name", "board_name", "place", "turns", "north", "south", "ribbon"] (Jl JeS):=⟨rfl,rfl,rfl,by decide +kernel,rfl,by decide +kernel,by decide +kernel⟩
theorem JkR:Ju ["self", "name"] ["self", "name"] (Jl JcQ):=⟨rfl,rfl,rfl,by decide +kernel,rfl,by decide +kernel,by decide +kernel⟩
theorem JmX:Ju ["self"] ["self"] (Jl JeQ):=⟨rfl,rfl,rfl,by decide +kernel,rfl,by decide +kernel,by decide +kernel⟩
theorem Jj9:Ju ["self", "name"] ["self", "name"] (Jl Jb2):=⟨rfl,rfl,rfl,by decide +kernel,rfl,by decide +kernel,by decide +kernel⟩
theorem JoZ:Ju ["self", "name"] ["self", "name"] (Jl Jhc):=⟨rfl,rfl,rfl,by decide +kernel,rfl,by decide +kernel,by decide +kernel⟩
theorem JmW:Ju ["self", "name"] ["self", "name"] (Jl JeP):=⟨rfl,rfl,rfl,by decide +kernel,rfl,by decide +kernel,by decide +kernel⟩
theorem JmY:Ju ["self", "name"] ["self", "name"] (Jl JeR):=⟨rfl,rfl,rfl,by decide +kernel,rfl,by decide +kernel,by decide +kernel⟩
theorem JnN:Ju ["self", "name"] ["self", "name"] (Jl Jgh):=⟨rfl,rfl,rfl,by decide +kernel,rfl,by decide +kernel,by decide +kernel⟩
theorem Jh5:Ju ["things"] ["things"] (Jl Jbg):=⟨rfl,rfl,rfl,by decide +kernel,rfl,by decide +kernel,by decide +kernel⟩
theorem JlH:Ju ["place", "places"] ["place", "places"] (Jl JdN):=⟨rfl,rfl,rfl,by decide +kernel,rfl,by decide +kernel,by decide +kernel⟩
theorem JfQ:Ju ["places", "place"] ["places"] (Jl JcP):=⟨rfl,rfl,rfl,by decide +kernel,rfl,by decide +kernel,by decide +kernel⟩
theorem JgC:Ju ["lanes", "places", "lane"] ["lanes", "places"] (Jl JdK):=⟨rfl,rfl,rfl,by decide +kernel,rfl,by decide +kernel,by decide +kernel⟩
theorem JgD:Ju ["goals", "places", "goal"] ["goals", "places"] (Jl JdL):=⟨rfl,rfl,rfl,by decide +kernel,rfl,by decide +kernel,by decide +kernel⟩
theorem Jm2:Ju ["self", "places", "lanes", "goals"] ["self", "places", "lanes", "goals"] (Jl JeX):=⟨rfl,rfl,rfl,by decide +kernel,rfl,by decide +kernel,by decide +kernel⟩
theorem Jg9:Ju ["self", "place"] ["self", "place"] (Jl JaC):=⟨rfl,rfl,rfl,by decide +kernel,rfl,by decide +kernel,by decide +kernel⟩
theorem Jm1:Ju ["self", "place"] ["self", "place"] (Jl Jb5):=⟨rfl,rfl,rfl,by decide +kernel,rfl,by decide +kernel,by decide +kernel⟩
theorem Jkb:Ju ["self", "place"] ["self", "place"] (Jl Jb6):=⟨rfl,rfl,rfl,by decide +kernel,rfl,by decide +kernel,by decide +kernel⟩
theorem Jwj:Ju ["_law_script", "_law_k"] ["_law_script", "_law_k"] (Jl JsT):=⟨rfl,rfl,rfl,by decide +kernel,rfl,by decide +kernel,by decide +kernel⟩
theorem JeI:Ju ["_law_cell", "_law_many", "_law_base", "_law_rest", "_law_mixed", "_law_found", "_law_k"] ["_law_cell", "_law_many", "_law_base"] (Jl Jp8):=⟨rfl,rfl,rfl,by decide +kernel,rfl,by decide +kernel,by decide +kernel⟩
theorem JsO:Ju ["_law_found"] ["_law_found"] (Jl JlJ):=⟨rfl,rfl,rfl,by decide +kernel,rfl,by decide +kernel,by decide +kernel⟩
theorem Zg:Ju ["_law_cell", "_law_many", "_law_letters", "_law_free", "_law_found", "_law_k", "_law_places", "_law_size", "_law_head", "_law_more", "_law_name"] ["_law_cell", "_law_many"] (Jl Jji):=⟨rfl,rfl,rfl,by decide +kernel,rfl,by decide +kernel,by decide +kernel⟩
theorem ZM:Ju ["_law_cell", "_law_draw", "_law_size", "_law_pairs_here", "_law_many", "_law_k", "_law_ends", "_law_pair"] ["_law_cell", "_law_draw", "_law_size"] (Jl JlK):=⟨rfl,rfl,rfl,by decide +kernel,rfl,by decide +kernel,by decide +kernel⟩
theorem JeJ:Ju ["_law_cell", "_law_kind", "_law_size", "_law_marks", "_law_found"] ["_law_cell", "_law_kind", "_law_size"] (Jl Jjj):=⟨rfl,rfl,rfl,by decide +kernel,rfl,by decide +kernel,by decide +kernel⟩
theorem Z1:Ju ["_law_script", "_law_at_here", "_law_cell", "_law_size", "_law_names_here", "_law_kind", "_law_pairs_here", "_law_goals_here", "_law_lanes"] ["_law_script", "_law_at_here"] (Jl JeN):=⟨rfl,rfl,rfl,by decide +kernel,rfl,by decide +kernel,by decide +kernel⟩
theorem Jut:Ju ["_law_ground_here", "_law_place"] ["_law_ground_here", "_law_place"] (Jl JkS):=⟨rfl,rfl,rfl,by decide +kernel,rfl,by decide +kernel,by decide +kernel⟩
theorem Jvg:Ju ["_law_hand_here"] ["_law_hand_here"] (Jl Jp9):=⟨rfl,rfl,rfl,by decide +kernel,rfl,by decide +kernel,by decide +kernel⟩
theorem Juu:Ju ["_law_cell"] ["_law_cell"] (Jl JnR):=⟨rfl,rfl,rfl,by decide +kernel,rfl,by decide +kernel,by decide +kernel⟩
theorem Jvf:Ju ["_law_ground_here", "_law_place", "_law_left"] ["_law_ground_here", "_law_place", "_law_left"] (Jl Jp6):=⟨rfl,rfl,rfl,by decide +kernel,rfl,by decide +kernel,by decide +kernel⟩
theorem Jg8:Ju ["_law_marks", "_law_words", "_law_found"] ["_law_marks"] (Jl Jjh):=⟨rfl,rfl,rfl,by decide +kernel,rfl,by decide +kernel,by decide +kernel⟩
theorem JsQ:Ju ["_law_found", "_law_due_here"] ["_law_found", "_law_due_here"] (Jl JlM):=⟨rfl,rfl,rfl,by decide +kernel,rfl,by decide +kernel,by decide +kernel⟩
theorem Jpo:Ju ["_law_found", "_law_due_here", "_law_k"] ["_law_found", "_law_due_here"] (Jl JnS):=⟨rfl,rfl,rfl,by decide +kernel,rfl,by decide +kernel,by decide +kernel⟩
theorem JnK:Ju ["_law_found", "_law_due_here", "_law_k"] ["_law_found", "_law_due_here"] (Jl JlO):=⟨rfl,rfl,rfl,by decide +kernel,rfl,by decide +kernel,by decide +kernel⟩
theorem Jdj:Ju ["_law_ground_here", "_law_now", "_law_place", "_law_left", "_law_north", "_law_south", "_law_ribbon", "_law_bid", "_law_mover"] ["_law_ground_here", "_law_now"] (Jl Jqa):=⟨rfl,rfl,rfl,by decide +kernel,rfl,by decide +kernel,by decide +kernel⟩
theorem JdI:Ju ["_law_hall", "_law_name", "_law_ground_here", "_law_now", "_law_log", "_law_won_here"] ["_law_hall", "_law_name", "_law_ground_here", "_law_now", "_law_log"] (Jl JeM):=⟨rfl,rfl,rfl,by decide +kernel,rfl,by decide +kernel,by decide +kernel⟩
theorem Jmt:Ju ["_law_cell", "_law_most", "_law_far"] ["_law_cell", "_law_most"] (Jl Jkc):=⟨rfl,rfl,rfl,by decide +kernel,rfl,by decide +kernel,by decide +kernel⟩
theorem JoY:Ju ["_law_cell"] ["_law_cell"] (Jl Jhb):=⟨rfl,rfl,rfl,by decide +kernel,rfl,by decide +kernel,by decide +kernel⟩
theorem JnM:Ju ["_law_ground_here", "_law_cell"] ["_law_ground_here", "_law_cell"] (Jl Jgg):=⟨rfl,rfl,rfl,by decide +kernel,rfl,by decide +kernel,by decide +kernel⟩
theorem JkQ:Ju ["_law_hall", "_law_name", "_law_base", "_law_now", "_law_marks", "e"] ["_law_hall", "_law_name", "_law_base", "_law_now"] (Jl Jp7):=⟨rfl,rfl,rfl,by decide +kernel,rfl,by decide +kernel,by decide +kernel⟩
theorem Jp5:Ju ["_law_ground_here", "_law_plays", "_law_name", "_law_base", "_law_now"] ["_law_ground_here", "_law_plays", "_law_name", "_law_base", "_law_now"] (Jl Jh8):=⟨rfl,rfl,rfl,by decide +kernel,rfl,by decide +kernel,by decide +kernel⟩
theorem JoX:Ju ["_law_cell", "_law_plays"] ["_law_cell", "_law_plays"] (Jl Jha):=⟨rfl,rfl,rfl,by decide +kernel,rfl,by decide +kernel,by decide +kernel⟩
theorem Zh:Ju ["_law_script", "_law_ground_here", "_law_hall", "_law_many", "_law_plays", "_law_play", "_law_name", "_law_cell", "_law_base", "_law_north", "_law_south", "_law_place", "_law_now", "_law_due_here", "_law_found"] ["_law_script"] (Jl JfR):=⟨rfl,rfl,rfl,by decide +kernel,rfl,by decide +kernel,by decide +kernel⟩
set_option genInjectivity false in
set_option genSizeOf false in
structure Txt (K:PySem.W.Frag) (mg:Str→Option Value) where
 JpC:Addr
 Jov:FuncData
 JuX:Df K mg "_wall" Jpp ["k"] JpC Jov
 Jgq:Addr
 Jfi:FuncData
 Jdd:Df K mg "good_name" Jc7 ["text"] Jgq Jfi
 Jft:Addr
 JdU:FuncData
 JcA:Df K mg "check_hand" JeO ["hand"] Jft JdU
 Jl8:Addr
 Jkq:FuncData
 Jmm:Df K mg "other" JlL ["hand"] Jl8 Jkq
 Jd3:Addr
 JcW:FuncData
 ZY:Df K mg "check_up_to" JdJ ["number", "most"] Jd3 JcW
 Jd6:Addr
 JcZ:FuncData
 Jeb:Df K mg "check_coins" JdM ["north", "south"] Jd6 JcZ
 JjS:Addr
 JiM:FuncData
 Jpc:Df K mg "check_bid" JjA ["named", "coins"] JjS JiM
 JbM:Addr
 Jbi:FuncData
 JbO:Df K mg "check_standing" JbE ["board", "place", "turns", "north", "south", "ribbon"] JbM Jbi
 Jmc:Addr
 Jku:FuncData
 Jg6:Df K mg "ended" JlN ["board", "place", "turns"] Jmc Jku
 Jlg:Addr
 JjP:FuncData
 JqJ:Df K mg "coins_of" JkT ["hand", "north", "south"] Jlg JjP
 Jt1:Addr
 JrU:FuncData
 Jwz:Df K mg "pay" JtO ["hand", "price", "north", "south", "ribbon"] Jt1 JrU
 Jox:Addr
 JmF:FuncData
 JtG:Df K mg "settle" JnQ ["north", "south", "ribbon", "bid", "answer"] Jox JmF
 Jfr:Addr
 JdS:FuncData
 JfJ:Df K mg "turn_begin" JeL ["board", "place", "turns", "north", "south", "ribbon"] Jfr JdS
 Jgs:Addr
 Jfk:FuncData
 Jdf:Df K mg "check_new" Jgf ["name", "kept", "most"] Jgs Jfk
 Jgr:Addr
 Jfj:FuncData
 Jde:Df K mg "find_kept" Jge ["name", "kept"] Jgr Jfj
 Jbk:Addr
 Ja3:FuncData
 ZG:Df K mg "check_each_once" Jbg ["things"] Jbk Ja3
 Jd7:Addr
 Jc0:FuncData
 ZZ:Df K mg "check_among" JdN ["place", "places"] Jd7 Jc0
 Jc2:Addr
 Jcp:FuncData
 Jc6:Df K mg "check_places" JcP ["places"] Jc2 Jcp
 Jd4:Addr
 JcX:FuncData
 Jd9:Df K mg "check_lanes" JdK ["lanes", "places"] Jd4 JcX
 Jd5:Addr
 JcY:FuncData
 Jea:Df K mg "check_goals" JdL ["goals", "places"] Jd5 JcY
 Jts:Addr
 Jqq:FuncData
 JbP:Df K mg "_law_at" JsT ["_law_script", "_law_k"] Jts Jqq
 Jqt:Addr
 Jor:FuncData
 Jly:Df K mg "_law_row" Jp8 ["_law_cell", "_law_many", "_law_base"] Jqt Jor
 Jl5:Addr
 Jkn:FuncData
 Jmj:Df K mg "_law_whole" JlJ ["_law_found"] Jl5 Jkn
 Jl9:Addr
 Jkr:FuncData
 Jjt:Df K mg "_law_names" Jji ["_law_cell", "_law_many"] Jl9 Jkr
 Jl7:Addr
 Jkp:FuncData
 Jml:Df K mg "_law_pairs" JlK ["_law_cell", "_law_draw", "_law_size"] Jl7 Jkp
 Jmb:Addr
 Jkt:FuncData
 Jmn:Df K mg "_law_goals" Jjj ["_law_cell", "_law_kind", "_law_size"] Jmb Jkt
 Jkx:Addr
 JiL:FuncData
 JkE:Df K mg "_law_ground" JeN ["_law_script", "_law_at_here"] Jkx JiL
 Jow:Addr
 Jl2:FuncData
 JoP:Df K mg "_law_ways" JkS ["_law_ground_here", "_law_place"] Jow Jl2
 Jqv:Addr
 Jot:FuncData
 JqI:Df K mg "_law_foe" Jp9 ["_law_hand_here"] Jqv Jot
 Joy:Addr
 Jl3:FuncData
 JoQ:Df K mg "_law_hand" JnR ["_law_cell"] Joy Jl3
 Jqr:Addr
 Jop:FuncData
 Jnq:Df K mg "_law_won" Jp6 ["_law_ground_here", "_law_place", "_law_left"] Jqr Jop
 Jl6:Addr
 Jko:FuncData
 Jmk:Df K mg "_law_which" Jjh ["_law_marks"] Jl6 Jko
 Jma:Addr
 Jks:FuncData
 Jg5:Df K mg "_law_holds" JlM ["_law_found", "_law_due_here"] Jma Jks
 Joz:Addr
 Jl4:FuncData
 JdH:Df K mg "_law_flat" JnS ["_law_found", "_law_due_here"] Joz Jl4
 Jmd:Addr
 Jkv:FuncData
 Jmo:Df K mg "_law_deeds" JlO ["_law_found", "_law_due_here"] Jmd Jkv
 Jqw:Addr
 Jou:FuncData
 Jns:Df K mg "_law_due" Jqa ["_law_ground_here", "_law_now"] Jqw Jou
 Jfs:Addr
 JdT:FuncData
 JfL:Df K mg "_law_hall_shows" JeM ["_law_hall", "_law_name", "_law_ground_here", "_law_now", "_law_log"] Jfs JdT
 Jkw:Addr
 JiK:FuncData
 JfK:Df K mg "_law_number" Jkc ["_law_cell", "_law_most"] Jkw JiK
 Jhq:Addr
 Jgn:FuncData
 Jhv:Df K mg "_law_any_hand" Jhb ["_law_cell"] Jhq Jgn
 Jgt:Addr
 Jfl:FuncData
 Jgx:Df K mg "_law_any_place" Jgg ["_law_ground_here", "_law_cell"] Jgt Jfl
 Jqs:Addr
 Joq:FuncData
 Jnr:Df K mg "_law_try" Jp7 ["_law_hall", "_law_name", "_law_base", "_law_now"] Jqs Joq
 JiU:Addr
 Jho:FuncData
 Jjb:Df K mg "_law_refusal" Jh8 ["_law_ground_here", "_law_plays", "_law_name", "_law_base", "_law_now"] JiU Jho
 Jhp:Addr
 Jgm:FuncData
 Jhu:Df K mg "_law_new_name" Jha ["_law_cell", "_law_plays"] Jhp Jgm
 Jqu:Addr
 Jos:FuncData
 Jt8:Df K mg "law" JfR ["_law_script"] Jqu Jos
 Jg3:Addr
 Jl1:mg "HANDS" = some (.ref Jg3)
 Jjf:∀ H:Hp,JQ K H Jg3 [.str "north",.str "south"]
 JaQ:Value
 Jcm:mg "MOST_SIGNS" = some JaQ
 Jb7:JR (.int 6) JaQ
 JaP:Value
 Jaj:mg "MOST_TURNS" = some JaP
 Jae:JR (.int 30) JaP
 JaT:Value
 Jak:mg "MOST_COINS" = some JaT
 Jaf:JR (.int 20) JaT
 Jaw:Value
 Jbz:mg "MOST_BOARDS" = some Jaw
 Jbx:JR (.int 12) Jaw
 JaS:Value
 Jco:mg "MOST_GAMES" = some JaS
 Jb9:JR (.int 20) JaS
 Jav:Value
 Jby:mg "MOST_PLACES" = some Jav
 Jbw:JR (.int 12) Jav
 JaR:Value
 Jcn:mg "MOST_LANES" = some JaR
 Jb8:JR (.int 40) JaR
 JtZ:mg "all" = none
 Zv:mg "len" = none
 ZL:mg "range" = none
 Jnn:mg "min" = none
 Jjm:mg "max" = none
 Jbb:mg "tuple" = none
 JaY:mg "sorted" = none
 JtX:mg "set" = none
 J8:mg "isinstance" = none
 JtY:mg "int" = none
 Jrx:mg "bool" = none
 Jqg:mg "str" = none
 Jit:mg "ValueError" = none
 Jk2:mg "list" = none
 YO:Addr
 Jf7:mg "BidmoverError" = some (.ref YO)
 J9:Addr
 Ji6:mg "BadName" = some (.ref J9)
 J5:Addr
 Ji7:mg "BadHand" = some (.ref J5)
 JB:Addr
 Jcy:mg "OutOfRange" = some (.ref JB)
 JaB:Addr
 JpL:mg "Twice" = some (.ref JaB)
 JW:Addr
 Ji4:mg "NoPlace" = some (.ref JW)
 Jab:Addr
 JoH:mg "BadBid" = some (.ref Jab)
 Jaa:Addr
 JoF:mg "NoLane" = some (.ref Jaa)
 Z9:Addr
 JoE:mg "NotDue" = some (.ref Z9)
 Y9:Addr
 Jh0:mg "NothingDone" = some (.ref Y9)
 Yp:Addr
 Jmg:mg "Taken" = some (.ref Yp)
 YD:Addr
 JoG:mg "Full" = some (.ref YD)
 JY:Addr
 Ji5:mg "Missing" = some (.ref JY)
 J3:Addr
 Jsb:mg "Book" = some (.ref J3)
 Zd:Cls K J3
 Jdc:Addr
 Jfq:FuncData
 JgA:Md K J3 "__init__" "Book.__init__" Jgl ["self", "board", "coins", "turns"] Jdc Jfq
 Jbl:Addr
 Ja4:FuncData
 Jad:Md K J3 "needs_with" "Book.needs_with" Jbh ["self", "turns"] Jbl Ja4
 Jc4:Addr
 Jcr:FuncData
 Jbe:Md K J3 "need_at" "Book.need_at" JcR ["self", "place", "turns", "ribbon"] Jc4 Jcr
 Zo:Addr
 Zk:FuncData
 YW:Md K J3 "need_where_north_leads" "Book.need_where_north_leads" YT ["self", "place", "turns"] Zo Zk
 Zn:Addr
 Zj:FuncData
 YV:Md K J3 "need_where_south_leads" "Book.need_where_south_leads" YS ["self", "place", "turns"] Zn Zj
 JdF:Addr
 JcJ:FuncData
 Jjc:Md K J3 "check_share" "Book.check_share" Jdk ["self", "place", "turns", "north", "ribbon"] JdF JcJ
 JhX:Addr
 JgY:FuncData
 Jnh:Md K J3 "winner" "Book.winner" JhD ["self", "place", "turns", "north", "ribbon"] JhX JgY
 JiY:Addr
 JhR:FuncData
 JoU:Md K J3 "least" "Book.least" Jic ["self", "place", "turns", "ribbon"] JiY JhR
 JhY:Addr
 JgZ:FuncData
 Jni:Md K J3 "bid_of" "Book.bid_of" JhE ["self", "place", "turns", "north", "ribbon"] JhY JgZ
 JfB:Addr
 Jep:FuncData
 JkG:Md K J3 "answer_of" "Book.answer_of" JeW ["self", "place", "turns", "north", "ribbon", "bid"] JfB Jep
 JdG:Addr
 JcK:FuncData
 Jjd:Md K J3 "answer_wins" "Book.answer_wins" Jdl ["self", "place", "turns", "settled", "holder"] JdG JcK
 Jg0:Addr
 Jf5:FuncData
 Jmp:Md K J3 "step_of" "Book.step_of" JgE ["self", "place", "turns", "north", "ribbon", "hand"] Jg0 Jf5
 Jpv:Mk K J3 Jdc
 ZW:YE K J3 "board"
 JdR:YE K J3 "coins"
 JhI:YE K J3 "turns"
 JaA:YE K J3 "needs"
 Ym:Addr
 Jkz:mg "Moment" = some (.ref Ym)
 Yt:Cls K Ym
 JbA:Addr
 Jc1:FuncData
 JbB:Md K Ym "__init__" "Moment.__init__" JdO ["self", "place", "turns", "north", "south", "ribbon", "hand", "word", "heard"] JbA Jc1
 Jiv:Mk K Ym JbA
 JaI:YE K Ym "place"
 JaH:YE K Ym "turns"
 Jcg:YE K Ym "north"
 Jcf:YE K Ym "south"
 JbH:YE K Ym "ribbon"
 JcT:YE K Ym "hand"
 Jba:YE K Ym "word"
 Jch:YE K Ym "heard"
 J6:Addr
 Jsa:mg "Game" = some (.ref J6)
 Zm:Cls K J6
 Jdb:Addr
 Jfp:FuncData
 Jgz:Md K J6 "__init__" "Game.__init__" Jgk ["self", "board", "place", "turns", "north", "south", "ribbon"] Jdb Jfp
 Jcu:Addr
 JbK:FuncData
 JaN:Md K J6 "standing" "Game.standing" Jb4 ["self"] Jcu JbK
 Jhs:Addr
 Jgp:FuncData
 Jex:Md K J6 "due" "Game.due" Jhd ["self"] Jhs Jgp
 Jfy:Addr
 JdZ:FuncData
 JcD:Md K J6 "named" "Game.named" JeT ["self"] Jfy JdZ
 Jfz:Addr
 Jd0:FuncData
 JcE:Md K J6 "deeds" "Game.deeds" JeU ["self"] Jfz Jd0
 Jgv:Addr
 Jfo:FuncData
 Jdh:Md K J6 "over" "Game.over" Jgj ["self"] Jgv Jfo
 JhV:Addr
 JgW:FuncData
 Jnf:Md K J6 "winner" "Game.winner" JhB ["self"] JhV JgW
 JjX:Addr
 JiR:FuncData
 Jph:Md K J6 "told" "Game.told" JjF ["self"] JjX JiR
 JfA:Addr
 Jeo:FuncData
 JkF:Md K J6 "check_due" "Game.check_due" JeV ["self", "hand", "word"] JfA Jeo
 JiX:Addr
 JhQ:FuncData
 JoT:Md K J6 "go_on" "Game.go_on" Jib ["self", "deed", "moment"] JiX JhQ
 Jli:Addr
 JjR:FuncData
 JqL:Md K J6 "bid" "Game.bid" JkV ["self", "hand", "coins"] Jli JjR
 JhW:Addr
 JgX:FuncData
 Jng:Md K J6 "answer" "Game.answer" JhC ["self", "hand", "coins"] JhW JgX
 JjY:Addr
 JiS:FuncData
 Jpi:Md K J6 "step" "Game.step" JjG ["self", "hand", "place"] JjY JiS
 JjZ:Addr
 JiT:FuncData
 Jpj:Md K J6 "back" "Game.back" JjH ["self"] JjZ JiT
 Jpu:Mk K J6 Jdb
 JdQ:YE K J6 "board"
 Jis:YE K J6 "book"
 Je4:YE K J6 "done"
 ZB:YE K J6 "moments"
 Ye:Addr
 Jr9:mg "Hall" = some (.ref Ye)
 Yu:Cls K Ye
 Jda:Addr
 Jfn:FuncData
 Jgy:Md K Ye "__init__" "Hall.__init__" Jgi ["self"] Jda Jfn
 JbN:Addr
 Jbj:FuncData
 Jau:Md K Ye "add_board" "Hall.add_board" JbF ["self", "name", "board"] JbN Jbj
 Jct:Addr
 JbJ:FuncData
 JaM:Md K Ye "board_of" "Hall.board_of" Jb3 ["self", "name"] Jct JbJ
 Jfx:Addr
 JdY:FuncData
 Jap:Md K Ye "begin" "Hall.begin" JeS ["self", "name", "board_name", "place", "turns", "north", "south", "ribbon"] Jfx JdY
 Jc3:Addr
 Jcq:FuncData
 Yz:Md K Ye "game_of" "Hall.game_of" JcQ ["self", "name"] Jc3 Jcq
 JjV:Addr
 JiP:FuncData
 Jpf:Md K Ye "drop" "Hall.drop" JjD ["self", "name"] JjV JiP
 JhT:Addr
 JgU:FuncData
 Jnd:Md K Ye "boards" "Hall.boards" Jhz ["self"] JhT JgU
 Jfv:Addr
 JdW:FuncData
 Jao:Md K Ye "games" "Hall.games" JeQ ["self"] Jfv JdW
 Jcs:Addr
 JbI:FuncData
 JaL:Md K Ye "standing" "Hall.standing" Jb2 ["self", "name"] Jcs JbI
 Jhr:Addr
 Jgo:FuncData
 Jew:Md K Ye "due" "Hall.due" Jhc ["self", "name"] Jhr Jgo
 Jfu:Addr
 JdV:FuncData
 JcB:Md K Ye "named" "Hall.named" JeP ["self", "name"] Jfu JdV
 Jfw:Addr
 JdX:FuncData
 JcC:Md K Ye "deeds" "Hall.deeds" JeR ["self", "name"] Jfw JdX
 Jgu:Addr
 Jfm:FuncData
 Jdg:Md K Ye "over" "Hall.over" Jgh ["self", "name"] Jgu Jfm
 JhS:Addr
 JgT:FuncData
 Jnc:Md K Ye "winner" "Hall.winner" Jhy ["self", "name"] JhS JgT
 JjT:Addr
 JiN:FuncData
 Jpd:Md K Ye "told" "Hall.told" JjB ["self", "name"] JjT JiN
 Jlh:Addr
 JjQ:FuncData
 JqK:Md K Ye "bid" "Hall.bid" JkU ["self", "name", "hand", "coins"] Jlh JjQ
 JhU:Addr
 JgV:FuncData
 Jne:Md K Ye "answer" "Hall.answer" JhA ["self", "name", "hand", "coins"] JhU JgV
 JjU:Addr
 JiO:FuncData
 Jpe:Md K Ye "step" "Hall.step" JjC ["self", "name", "hand", "place"] JjU JiO
 JjW:Addr
 JiQ:FuncData
 Jpg:Md K Ye "back" "Hall.back" JjE ["self", "name"] JjW JiQ
 JiW:Addr
 JhP:FuncData
 JoS:Md K Ye "judge" "Hall.judge" Jia ["self", "board_name", "place", "turns", "north", "south", "ribbon"] JiW JhP
 JiV:Addr
 JhO:FuncData
 JoR:Md K Ye "least" "Hall.least" Jh9 ["self", "board_name", "coins", "place", "turns", "ribbon"] JiV JhO
 Jpt:Mk K Ye Jda
 Zq:YE K Ye "kept_boards"
 Zb:YE K Ye "kept_games"
 JT:Addr
 JpM:mg "Board" = some (.ref JT)
 Y2:Cls K JT
 Jcw:Addr
 Jd2:FuncData
 JfM:Md K JT "__init__" "Board.__init__" JeX ["self", "places", "lanes", "goals"] Jcw Jd2
 JaD:Addr
 Jat:FuncData
 Yk:Md K JT "check_place" "Board.check_place" JaC ["self", "place"] JaD Jat
 JfC:Addr
 Jd1:FuncData
 Zz:Md K JT "ways" "Board.ways" Jb5 ["self", "place"] JfC Jd1
 Jcv:Addr
 JbL:FuncData
 JaO:Md K JT "is_goal" "Board.is_goal" Jb6 ["self", "place"] Jcv JbL
 Jog:Mk K JT Jcw
 JaJ:YE K JT "places"
 JcU:YE K JT "lanes"
 JcV:YE K JT "goals"
 YL:ExC K J5
 Jlm:PySem.W.exmOne K (.ref J5) (.ref YO)=some true
 Jk7:PySem.W.kitOne K (.ref J5) (.type "ValueError")=some true
 JdD:PySem.W.kitOne K (.ref J5) (.ref J9)=some false
 JdE:PySem.W.kitOne K (.ref J5) (.ref J5)=some true
 Jb0:PySem.W.kitOne K (.ref J5) (.ref JB)=some false
 Jfg:PySem.W.kitOne K (.ref J5) (.ref JaB)=some false
 JdB:PySem.W.kitOne K (.ref J5) (.ref JW)=some false
 Jen:PySem.W.kitOne K (.ref J5) (.ref Jab)=some false
 Jem:PySem.W.kitOne K (.ref J5) (.ref Jaa)=some false
 Jel:PySem.W.kitOne K (.ref J5) (.ref Z9)=some false
 Jbu:PySem.W.kitOne K (.ref J5) (.ref Y9)=some false
 Jfh:PySem.W.kitOne K (.ref J5) (.ref Yp)=some false
 Jf2:PySem.W.kitOne K (.ref J5) (.ref YD)=some false
 JdC:PySem.W.kitOne K (.ref J5) (.ref JY)=some false
 Yg:ExC K JB
 JhZ:PySem.W.exmOne K (.ref JB) (.ref YO)=some true
 JhJ:PySem.W.kitOne K (.ref JB) (.type "ValueError")=some true
 JbV:PySem.W.kitOne K (.ref JB) (.ref J9)=some false
 JbW:PySem.W.kitOne K (.ref JB) (.ref J5)=some false
 Ja1:PySem.W.kitOne K (.ref JB) (.ref JB)=some true
 JcG:PySem.W.kitOne K (.ref JB) (.ref JaB)=some false
 JbT:PySem.W.kitOne K (.ref JB) (.ref JW)=some false
 Jcl:PySem.W.kitOne K (.ref JB) (.ref Jab)=some false
 Jck:PySem.W.kitOne K (.ref JB) (.ref Jaa)=some false
 Jcj:PySem.W.kitOne K (.ref JB) (.ref Z9)=some false
 JaK:PySem.W.kitOne K (.ref JB) (.ref Y9)=some false
 JcH:PySem.W.kitOne K (.ref JB) (.ref Yp)=some false
 Jdn:PySem.W.kitOne K (.ref JB) (.ref YD)=some false
 JbU:PySem.W.kitOne K (.ref JB) (.ref JY)=some false
 Jsi:ExC K Jab
 Jsg:ExC K Z9
 Jsh:ExC K Jaa
 YK:ExC K J9
 Jll:PySem.W.exmOne K (.ref J9) (.ref YO)=some true
 Jk6:PySem.W.kitOne K (.ref J9) (.type "ValueError")=some true
 Jdz:PySem.W.kitOne K (.ref J9) (.ref J9)=some true
 JdA:PySem.W.kitOne K (.ref J9) (.ref J5)=some false
 JbZ:PySem.W.kitOne K (.ref J9) (.ref JB)=some false
 Jfe:PySem.W.kitOne K (.ref J9) (.ref JaB)=some false
 Jdx:PySem.W.kitOne K (.ref J9) (.ref JW)=some false
 Jek:PySem.W.kitOne K (.ref J9) (.ref Jab)=some false
 Jej:PySem.W.kitOne K (.ref J9) (.ref Jaa)=some false
 Jei:PySem.W.kitOne K (.ref J9) (.ref Z9)=some false
 Jbt:PySem.W.kitOne K (.ref J9) (.ref Y9)=some false
 Jff:PySem.W.kitOne K (.ref J9) (.ref Yp)=some false
 Jf1:PySem.W.kitOne K (.ref J9) (.ref YD)=some false
 Jdy:PySem.W.kitOne K (.ref J9) (.ref JY)=some false
 Za:ExC K Yp
 JoB:PySem.W.exmOne K (.ref Yp) (.ref YO)=some true
 Jok:PySem.W.kitOne K (.ref Yp) (.type "ValueError")=some true
 Je8:PySem.W.kitOne K (.ref Yp) (.ref J9)=some false
 Je9:PySem.W.kitOne K (.ref Yp) (.ref J5)=some false
 JcF:PySem.W.kitOne K (.ref Yp) (.ref JB)=some false
 JgM:PySem.W.kitOne K (.ref Yp) (.ref JaB)=some false
 Je6:PySem.W.kitOne K (.ref Yp) (.ref JW)=some false
 JfU:PySem.W.kitOne K (.ref Yp) (.ref Jab)=some false
 JfT:PySem.W.kitOne K (.ref Yp) (.ref Jaa)=some false
 JfS:PySem.W.kitOne K (.ref Yp) (.ref Z9)=some false
 Jci:PySem.W.kitOne K (.ref Yp) (.ref Y9)=some false
 JgN:PySem.W.kitOne K (.ref Yp) (.ref Yp)=some true
 JhK:PySem.W.kitOne K (.ref Yp) (.ref YD)=some false
 Je7:PySem.W.kitOne K (.ref Yp) (.ref JY)=some false
 Zt:ExC K YD
 JpE:PySem.W.exmOne K (.ref YD) (.ref YO)=some true
 Jpw:PySem.W.kitOne K (.ref YD) (.type "ValueError")=some true
 JfZ:PySem.W.kitOne K (.ref YD) (.ref J9)=some false
 Jf0:PySem.W.kitOne K (.ref YD) (.ref J5)=some false
 Jdw:PySem.W.kitOne K (.ref YD) (.ref JB)=some false
 JhL:PySem.W.kitOne K (.ref YD) (.ref JaB)=some false
 JfX:PySem.W.kitOne K (.ref YD) (.ref JW)=some false
 JgQ:PySem.W.kitOne K (.ref YD) (.ref Jab)=some false
 JgP:PySem.W.kitOne K (.ref YD) (.ref Jaa)=some false
 JgO:PySem.W.kitOne K (.ref YD) (.ref Z9)=some false
 JcI:PySem.W.kitOne K (.ref YD) (.ref Y9)=some false
 JhM:PySem.W.kitOne K (.ref YD) (.ref Yp)=some false
 JiA:PySem.W.kitOne K (.ref YD) (.ref YD)=some true
 JfY:PySem.W.kitOne K (.ref YD) (.ref JY)=some false
 YJ:ExC K JY
 Jlk:PySem.W.exmOne K (.ref JY) (.ref YO)=some true
 Jk5:PySem.W.kitOne K (.ref JY) (.type "ValueError")=some true
 Jdu:PySem.W.kitOne K (.ref JY) (.ref J9)=some false
 Jdv:PySem.W.kitOne K (.ref JY) (.ref J5)=some false
 JbY:PySem.W.kitOne K (.ref JY) (.ref JB)=some false
 Jfc:PySem.W.kitOne K (.ref JY) (.ref JaB)=some false
 Jds:PySem.W.kitOne K (.ref JY) (.ref JW)=some false
 Jeh:PySem.W.kitOne K (.ref JY) (.ref Jab)=some false
 Jeg:PySem.W.kitOne K (.ref JY) (.ref Jaa)=some false
 Jef:PySem.W.kitOne K (.ref JY) (.ref Z9)=some false
 Jbs:PySem.W.kitOne K (.ref JY) (.ref Y9)=some false
 Jfd:PySem.W.kitOne K (.ref JY) (.ref Yp)=some false
 JfW:PySem.W.kitOne K (.ref JY) (.ref YD)=some false
 Jdt:PySem.W.kitOne K (.ref JY) (.ref JY)=some true
 JtD:ExC K JaB
 YI:ExC K JW
 Jlj:PySem.W.exmOne K (.ref JW) (.ref YO)=some true
 Jk4:PySem.W.kitOne K (.ref JW) (.type "ValueError")=some true
 Jdq:PySem.W.kitOne K (.ref JW) (.ref J9)=some false
 Jdr:PySem.W.kitOne K (.ref JW) (.ref J5)=some false
 JbX:PySem.W.kitOne K (.ref JW) (.ref JB)=some false
 Jfa:PySem.W.kitOne K (.ref JW) (.ref JaB)=some false
 Jdo:PySem.W.kitOne K (.ref JW) (.ref JW)=some true
 Jee:PySem.W.kitOne K (.ref JW) (.ref Jab)=some false
 Jed:PySem.W.kitOne K (.ref JW) (.ref Jaa)=some false
 Jec:PySem.W.kitOne K (.ref JW) (.ref Z9)=some false
 Jbr:PySem.W.kitOne K (.ref JW) (.ref Y9)=some false
 Jfb:PySem.W.kitOne K (.ref JW) (.ref Yp)=some false
 JfV:PySem.W.kitOne K (.ref JW) (.ref YD)=some false
 Jdp:PySem.W.kitOne K (.ref JW) (.ref JY)=some false
def hs:Bool→Str
 | true => "north"
 | false => "south"
theorem Jtk (b:Bool):decide (V.str (hs b)=V.str "north")=b:=by cases b <;> decide +kernel
def ZS (ns:List Int) (k:Int):Int:=if k < ns.length then ns.getD k.toNat 0 else 0
def Yo (z:Str):Prop:=z.length≤1000∧∀ c∈z.cps.toList,c < 16 ^ 8
theorem JfP {z:Str} (h:Yo z):(reprText z).length≤10002:=Nat.le_trans (PySem.StrLaws.reprText_len z h.2) (by have:=h.1; omega)
def Jnj (z:Str):Bool:=decide (z.length≤1000) && z.cps.toList.all fun c=>decide (c < 16 ^ 8)
theorem JeA {z:Str} (h:Jnj z=true):Yo z:=by
 unfold Jnj at h;rw [Bool.and_eq_true] at h;exact ⟨of_decide_eq_true h.1,fun c hc=>of_decide_eq_true (List.all_eq_true.mp h.2 c hc)⟩
def Zr (z:Str):Bool:=z == "north" || z == "south"
theorem JiG (b:Bool):Zr (hs b)=true:=by cases b <;> decide +kernel
theorem Jpz {z:Str} (h:Zr z=true):∃ b,z=hs b:=by
 unfold Zr at h;rcases Bool.or_eq_true_iff.mp h with q | q
 ·exact ⟨true,beq_iff_eq.mp q⟩
 ·exact ⟨false,beq_iff_eq.mp q⟩
theorem JrM (z:Str):inV (.str z) [.str "north",.str "south"]=Zr z:=by
 have h:∀ a b:Str,(a == b)=(b == a):=fun a b=>by rw [Bool.eq_iff_iff,beq_iff_eq,beq_iff_eq]; exact eq_comm
 show ((("north" : Str) == z) || ((("south" : Str) == z) || false))=(z == "north" || z == "south")
 rw [Bool.or_false,h "north" z,h "south" z]
theorem Jje (b:Bool):Yo (hs b):=JeA (by cases b <;> decide +kernel)
theorem lt1 (a b:Nat):decide ([a] < [b])=decide (a < b):=by
 rw [Bool.eq_iff_iff,decide_eq_true_eq,decide_eq_true_eq];constructor
 ·intro h;cases h with
  | rel h=>exact h
  | cons h=>cases h
 ·exact fun h=>.rel h
def Z0 (c:Nat):Bool:=decide (97≤c) && decide (c≤122)
def J1 (z:Str):Bool:=decide (1≤z.length) && decide (z.length≤6) && z.cps.toList.all Z0
theorem Jhl {z:Str} (h:J1 z=true):tm 6 z:=by
 unfold J1 at h;rw [Bool.and_eq_true,Bool.and_eq_true,decide_eq_true_eq,decide_eq_true_eq] at h;refine ⟨h.1.2,fun c hc=>?_⟩;have z:=List.all_eq_true.mp h.2 c hc;unfold Z0 at z;rw [Bool.and_eq_true,decide_eq_true_eq,decide_eq_true_eq] at z;have:c≤122:=z.2;omega
theorem YH {z:Str} (h:J1 z=true):Yo z:=(Jhl h).mono (by decide)
structure Jd8 (ps:List Str) (zs:List (Str×Str)) (gs:List Str):Prop where
 p1:1≤ps.length
 p2:ps.length≤12
 p3:∀ p∈ps,J1 p=true
 p4:ps.Nodup
 l1:zs.length≤40
 l2:∀ z∈zs,z.1∈ps∧z.2∈ps
 l3:zs.Nodup
 g1:∀ g∈gs,g∈ps
 g2:gs.Nodup
theorem Jd8.glen {ps:List Str} {zs:List (Str×Str)} {gs:List Str} (G:Jd8 ps zs gs):gs.length≤12:=by
 have:∀ {l r:List Str},l.Nodup→(∀ x∈l,x∈r)→l.length≤r.length:=by
  intro l
  induction l with
  | nil=>exact fun _ _=>Nat.zero_le _
  | cons x l ih =>
   intro r hn hs
   classical
   have hx:=hs x (List.mem_cons_self ..);have h1:=List.nodup_cons.mp hn;obtain ⟨r1,r2,rfl⟩:=List.append_of_mem hx;have z:=ih (r:=r1 ++ r2) h1.2 fun y hy=>by
    have:=hs y (List.mem_cons_of_mem _ hy);simp only [List.mem_append,List.mem_cons] at this ⊢;rcases this with q | q | q
    ·exact .inl q
    ·subst q; exact absurd hy h1.1
    ·exact .inr q
   simp only [List.length_append,List.length_cons] at z ⊢;omega
 exact Nat.le_trans (this G.g2 G.g1) G.p2
theorem Ja2 (z:Str) (ps:List Str):inV (.str z) (ps.map V.str)=decide (z∈ps):=by
 rw [Bool.eq_iff_iff,decide_eq_true_eq];unfold inV;rw [List.any_eq_true];constructor
 ·rintro ⟨v,hv,e⟩;obtain ⟨y,hy,rfl⟩:=List.mem_map.mp hv;have e':(y == z)=true:=e;rw [← beq_iff_eq.mp e'];exact hy
 ·intro h;exact ⟨.str z,List.mem_map.mpr ⟨z,h,rfl⟩,beq_iff_eq.mpr rfl⟩
theorem Jaq (ps:List Str):(ps.map V.str).all Jeu=true:=by
 rw [List.all_map,List.all_eq_true];exact fun _ _=>rfl
def JlS (p:Str×Str):List JK:=[.inr p.1,.inr p.2]
theorem JsW {p q:Str×Str} (h:JlS p=JlS q):p=q:=by
 unfold JlS at h;simp only [List.cons.injEq,Sum.inr.injEq,and_true] at h;exact Prod.ext h.1 h.2
theorem Jo0 {zs:List (Str×Str)} (h:zs.Nodup):(zs.map JlS).Nodup:=by
 rw [List.Nodup,List.pairwise_map];exact List.Pairwise.imp (fun hne e=>hne (JsW e)) h
theorem Jqc {K:PySem.W.Frag} {H:Hp} {zs:List (V×(Str×Str))} (h:Zu K H zs):Jg4 K H (zs.map (·.1)) ((zs.map (·.2)).map JlS):=by
 refine ⟨by simp,fun i v ks hv hk=>?_⟩;rw [List.getElem?_map] at hv;obtain ⟨z,hz,rfl⟩:=Option.map_eq_some_iff.mp hv;rw [List.getElem?_map,List.getElem?_map,hz] at hk;have hk':JlS z.2=ks:=Option.some.inj hk;rw [← hk'];exact h z (List.mem_of_getElem? hz)
theorem Jar {K:PySem.W.Frag} {H H':Hp} {zs:List (V×(Str×Str))} (h:Zu K H zs) (e:Ji H H'):Zu K H' zs:=fun z hz=>let ⟨a,h1,h2⟩:=h z hz; ⟨a,h1,e.tup h2⟩
def Jbf (K:PySem.W.Frag) (C:Addr) (H:Hp) (b:Addr) (ps:List Str) (zs:List (V×(Str×Str))) (gs:List Str):Prop :=
 ∃ dx tp tl tg,H b=some (.ins C dx [("places",.ref tp),("lanes",.ref tl),("goals",.ref tg)])∧H tp=some (.tup (ps.map V.str))∧H tl=some (.tup (zs.map (·.1)))∧Zu K H zs∧H tg=some (.tup (gs.map V.str))
theorem Jbf.same {K:PySem.W.Frag} {C:Addr} {H H':Hp} {b:Addr} {ps:List Str} {zs:List (V×(Str×Str))} {gs:List Str} (h:Jbf K C H b ps zs gs) (e:Ji H H'):Jbf K C H' b ps zs gs :=
 let ⟨dx,tp,tl,tg,h1,h2,h3,h4,h5⟩:=h; ⟨dx,tp,tl,tg,e _ _ h1,e _ _ h2,e _ _ h3,Jar h4 e,e _ _ h5⟩
def Yc (b:Addr) (H H':Hp):Prop:=∀ a u,a≠b→H a=some u→H' a=some u
theorem Yc.of {b:Addr} {H H':Hp} (e:Ji H H'):Yc b H H':=fun a u _ h=>e a u h
theorem Yc.trans {b:Addr} {H H' H2:Hp} (e:Yc b H H') (e2:Yc b H' H2):Yc b H H2:=fun a u hn h=>e2 a u hn (e a u hn h)
theorem Yc.put {b:Addr} {H:Hp} {o:HO}:Yc b H (upd H b o):=fun a u hn h=>by rw [Jt hn]; exact h
theorem Yc.seq {K:PySem.W.Frag} {b l C dx:Addr} {fs:List (Str×V)} {H H':Hp} {xs:List V} (e:Yc b H H') (hb:H b=some (.ins C dx fs)) (h:Jz K H l xs):Jz K H' l xs:=by
 rcases h with (h | ⟨o,h⟩) | h
 ·exact .inl (.inl (e _ _ (Jas h hb (fun z=>nomatch z)) h))
 ·exact .inl (.inr ⟨o,e _ _ (Jas h hb (fun z=>nomatch z)) h⟩)
 ·exact .inr h
theorem Yc.tup {K:PySem.W.Frag} {b l C dx:Addr} {fs:List (Str×V)} {H H':Hp} {xs:List V} (e:Yc b H H') (hb:H b=some (.ins C dx fs)) (h:JQ K H l xs):JQ K H' l xs:=by
 rcases h with (h | ⟨o,h⟩) | h
 ·exact .inl (.inl (e _ _ (Jas h hb (fun z=>nomatch z)) h))
 ·exact .inl (.inr ⟨o,e _ _ (Jas h hb (fun z=>nomatch z)) h⟩)
 ·exact .inr h
def Jum:Sp:=fun vs H Q _=>∃ z:Str,vs=[.str z]∧z.length≤1000∧∀ H',Ji H H'→Q (.bl (J1 z)) H'
def Juh (K:PySem.W.Frag):Sp:=fun vs H Q _=>∃ l:Addr,vs=[.ref l]∧((∃ ss:List Str,Jz K H l (ss.map V.str)∧ss.length≤64∧ss.Nodup)∨(∃ (us:List V) (kss:List (List JK)),Jz K H l us∧Jg4 K H us kss∧kss.length≤64∧kss.Nodup))∧∀ H',Ji H H'→Q .non H'
def JsF (K:PySem.W.Frag) (k:Addr):Sp:=fun vs H Q E=>∃ (z:Str) (t:Addr) (ps:List Str),vs=[.str z,.ref t]∧Yo z∧(Jz K H t (ps.map V.str)∨JQ K H t (ps.map V.str))∧(z∈ps→Q .non H)∧(z∉ps→E (.ref k) none H)
def JpZ (K:PySem.W.Frag):Sp:=fun vs H Q _=>∃ (l:Addr) (ps:List Str),vs=[.ref l]∧Jz K H l (ps.map V.str)∧1≤ps.length∧ps.length≤12∧(∀ p∈ps,J1 p=true)∧ps.Nodup∧∀ H',Ji H H'→Q .non H'
def Jq7 (K:PySem.W.Frag):Sp:=fun vs H Q _=>∃ (l lp:Addr) (zs:List (V×(Str×Str))) (ps:List Str),vs=[.ref l,.ref lp]∧Jz K H l (zs.map (·.1))∧Zu K H zs∧Jz K H lp (ps.map V.str)∧(∀ p∈ps,Yo p)∧zs.length≤40∧(∀ z∈zs,z.2.1∈ps∧z.2.2∈ps)∧(zs.map (·.2)).Nodup∧∀ H',Ji H H'→Q .non H'
def Jq8 (K:PySem.W.Frag):Sp:=fun vs H Q _=>∃ (l lp:Addr) (gs ps:List Str),vs=[.ref l,.ref lp]∧Jz K H l (gs.map V.str)∧Jz K H lp (ps.map V.str)∧(∀ p∈ps,Yo p)∧gs.length≤64∧(∀ g∈gs,g∈ps)∧gs.Nodup∧∀ H',Ji H H'→Q .non H'
def Jpm (K:PySem.W.Frag) (C:Addr):Sp:=fun vs H Q _=>∃ (b lp ll lg dx:Addr) (ps:List Str) (zs:List (V×(Str×Str))) (gs:List Str),vs=[.ref b,.ref lp,.ref ll,.ref lg]∧H b=some (.ins C dx [])∧Jz K H lp (ps.map V.str)∧Jz K H ll (zs.map (·.1))∧Zu K H zs∧Jz K H lg (gs.map V.str)∧Jd8 ps (zs.map (·.2)) gs ∧
 ∀ H' ps' zs' gs',Yc b H H'→ps'.Perm ps→ps'.Pairwise sle→zs'.Perm zs→(zs'.map (·.2)).Pairwise ple→gs'.Perm gs→gs'.Pairwise sle→Jbf K C H' b ps' zs' gs'→Q .non H'
def Jq6 (K:PySem.W.Frag) (C k:Addr):Sp:=fun vs H Q E=>∃ (b:Addr) (z:Str) (ps:List Str) (zs:List (V×(Str×Str))) (gs:List Str),vs=[.ref b,.str z]∧Yo z∧Jbf K C H b ps zs gs∧(z∈ps→Q .non H)∧(z∉ps→E (.ref k) none H)
def JN (zs:List (Str×Str)) (p:Str):List Str:=(zs.filter fun z=>decide (z.1=p)).map (·.2)
def Jue (K:PySem.W.Frag) (C k:Addr):Sp:=fun vs H Q E=>∃ (b:Addr) (z:Str) (ps:List Str) (zs:List (V×(Str×Str))) (gs:List Str),vs=[.ref b,.str z]∧Yo z∧zs.length≤40∧Jbf K C H b ps zs gs∧(z∈ps→∀ t H',Ji H H'→H' t=some (.tup ((JN (zs.map (·.2)) z).map V.str))→Q (.ref t) H')∧(z∉ps→E (.ref k) none H)
def JqX (K:PySem.W.Frag) (C k:Addr):Sp:=fun vs H Q E=>∃ (b:Addr) (z:Str) (ps:List Str) (zs:List (V×(Str×Str))) (gs:List Str),vs=[.ref b,.str z]∧Yo z∧Jbf K C H b ps zs gs∧(z∈ps→Q (.bl (decide (z∈gs))) H)∧(z∉ps→E (.ref k) none H)
def Jwi (K:PySem.W.Frag):Sp:=fun vs H Q _=>∃ (a:Addr) (ns:List Int) (k:Int),vs=[.ref a,.int k]∧Jz K H a (ns.map V.int)∧0≤k∧Q (.int (ZS ns k)) H
def Jp1 (K:PySem.W.Frag):Sp:=fun vs H Q _=>∃ (a:Addr) (ns:List Int),vs=[.ref a]∧Jz K H a (ns.map V.int)∧ns.length≤63∧∀ H',Q (.bl true) H'
def Ju8:Sp:=fun vs H Q _=>∃ (c:Int) (n:Nat) (b:Int),vs=[.int c,.int n,.int b]∧n≤1000∧0 < b∧b < 1000000∧∀ (p:Addr) (xs:List Int) (H':Hp),H p=none→Ji H H'→H' p=some (.lst (xs.map V.int))→xs.length=n→(∀ x∈xs,0≤x∧x < b)→Q (.ref p) H'
theorem Jip {α:Type}:∀ {l r:List α},l.Nodup→(∀ x∈l,x∈r)→l.length≤r.length
 | [],_,_,_=>Nat.zero_le _
 | x :: l,r,hn,hs=>by
  have hx:=hs x (List.mem_cons_self ..);have h1:=List.nodup_cons.mp hn;obtain ⟨r1,r2,rfl⟩:=List.append_of_mem hx;have z:=Jip (l:=l) (r:=r1 ++ r2) h1.2 fun y hy=>by
   have:=hs y (List.mem_cons_of_mem _ hy);simp only [List.mem_append,List.mem_cons] at this ⊢;rcases this with q | q | q
   ·exact .inl q
   ·subst q; exact absurd hy h1.1
   ·exact .inr q
  simp only [List.length_append,List.length_cons] at z ⊢;omega
theorem JeD {xs:List Int} {e:Int} (h0:0≤e) (h1:e < xs.length):∃ y,Z8 (xs.map V.int) e=some (.int y)∧y∈xs:=by
 obtain ⟨j,rfl⟩:∃ j:Nat,e=(j:Int):=⟨e.toNat,by omega⟩
 have hj:j < xs.length:=by omega
 exact ⟨xs[j],Y0 (by rw [List.getElem?_map,List.getElem?_eq_getElem hj]; rfl),List.getElem_mem hj⟩
def LT:Str := "abcdefghijklmnopqrstuvwxyz"
theorem Jmy {j:Int} (h0:0≤j) (h1:j < 26):Z8 LT.cps.toList j=some (97 + j.toNat):=by
 obtain ⟨i,rfl⟩:∃ i:Nat,j=(i:Int):=⟨j.toNat,by omega⟩
 have hi:i < 26:=by omega
 refine Y0 ?_;rw [Int.toNat_natCast];have z:∀ i,i < 26→LT.cps.toList[i]?=some (97 + i):=by decide +kernel
 exact z i hi
theorem Jsl:LT.length≤sizeLine:=by decide +kernel
theorem JnF {j:Nat} (h:j < 26):Z0 (97 + j)=true:=by
 unfold Z0;rw [decide_eq_true (by omega),decide_eq_true (by omega)]; rfl
theorem Jk8:∀ {ys:List Str},(∀ y∈ys,∃ c,y=⟨#[c]⟩∧Z0 c=true)→(Str.join Str.empty ys).length=ys.length∧∀ c∈(Str.join Str.empty ys).cps.toList,Z0 c=true
 | [],_=>⟨rfl,fun c hc=>by simp [Str.join,Str.empty] at hc⟩
 | [y],h=>by
  obtain ⟨c,rfl,hc⟩:=h y (List.mem_cons_self ..);exact ⟨rfl,fun d hd=>by
   have e:d=c:=by simpa [Str.join] using hd
   rw [e]; exact hc⟩
 | y :: x :: r,h=>by
  obtain ⟨c,rfl,hc⟩:=h y (List.mem_cons_self ..);obtain ⟨a,b⟩:=Jk8 (ys:=x :: r) fun q hq=>h q (List.mem_cons_of_mem _ hq)
  have e:Str.join Str.empty (⟨#[c]⟩ :: x :: r)=(⟨#[c]⟩:Str) ++ Str.empty ++ Str.join Str.empty (x :: r):=rfl;rw [e];refine ⟨?_,fun d hd=>?_⟩
  ·rw [strLen_append,strLen_append,a];simp only [List.length_cons];show 1 + 0 + _=_;omega
  ·rcases PyProof.Rows.mem_cps_append.mp hd with q | q
   ·rcases PyProof.Rows.mem_cps_append.mp q with q | q
    ·have e2:d=c:=by simpa using q
     rw [e2]; exact hc
    ·simp [Str.empty] at q
   ·exact b d q
def nam (hd:Str) (j:Nat):Str:=hd ++ ⟨#[97 + j]⟩
theorem Jtc {hd:Str} {j:Nat} (h1:hd.length≤5) (h2:∀ c∈hd.cps.toList,Z0 c=true) (hj:j < 26):J1 (nam hd j)=true:=by
 unfold J1 nam;have e:(hd ++ (⟨#[97 + j]⟩:Str)).length=hd.length + 1:=by rw [strLen_append]; rfl
 rw [Bool.and_eq_true,Bool.and_eq_true,decide_eq_true_eq,decide_eq_true_eq,e,List.all_eq_true];refine ⟨⟨by omega,by omega⟩,fun c hc=>?_⟩;rcases PyProof.Rows.mem_cps_append.mp hc with q | q
 ·exact h2 c q
 ·have e2:c=97 + j:=by simpa using q
  rw [e2]; exact JnF hj
theorem JuE {hd:Str} {i j:Nat} (h:nam hd i=nam hd j):i=j:=by
 have e:(hd.cps ++ #[97 + i])=(hd.cps ++ #[97 + j]):=congrArg Str.cps h;have e2:=congrArg Array.toList e;rw [Array.toList_append,Array.toList_append] at e2;have e3:=List.append_cancel_left e2;simp at e3;omega
theorem Jtd {hd:Str} {x:Int} {ss:List Str} (h:ss.length < 26) (hx:∀ m:Nat,m < 26→nam hd ((x + m) % 26).toNat∈ss):False:=by
 have nd:((List.range 26).map fun m=>nam hd ((x + (m:Nat)) % 26).toNat).Nodup:=by
  rw [List.Nodup,List.pairwise_map];refine List.Pairwise.imp_of_mem ?_ (List.pairwise_lt_range (n:=26));intro a b ha hb hlt e;have e2:=JuE e;have:=List.mem_range.mp ha;have:=List.mem_range.mp hb;have h1:=Int.emod_nonneg (x + (a:Nat)) (b:=26) (by decide);have h2:=Int.emod_nonneg (x + (b:Nat)) (b:=26) (by decide);omega
 have z:=Jip (r:=ss) nd fun y hy=>by
  obtain ⟨m,hm,rfl⟩:=List.mem_map.mp hy;exact hx m (List.mem_range.mp hm)
 rw [List.length_map,List.length_range] at z;omega
theorem JpI {xs:List Int} {k:Int} (h0:0≤k) (h1:k≤xs.length):((Jal (xs.map V.int) none (some k)).length:Int)=k:=by
 unfold Jal;rw [List.length_map,HT.JsU];show ((List.take ((if k < 0 then _ else _) - 0) _).length:Int)=k;rw [if_neg (by omega),List.length_take,List.length_drop,List.length_map];omega
theorem JoC {xs:List Int} {lo hi:Option Int}:∃ ys:List Int,Jal (xs.map V.int) lo hi=ys.map V.int∧∀ y∈ys,y∈xs:=by
 refine ⟨(xs.drop (HT.YA xs.length 0 lo)).take (HT.YA xs.length xs.length hi - HT.YA xs.length 0 lo),?_,fun y hy=>List.mem_of_mem_drop (List.mem_of_mem_take hy)⟩;unfold Jal;rw [List.length_map,List.map_take,List.map_drop]
def Jsx:Sp:=fun vs H Q _=>∃ (c:Int) (n:Nat),vs=[.int c,.int n]∧1≤n∧n≤12∧∀ (p:Addr) (ss:List Str) (H':Hp),H p=none→Ji H H'→H' p=some (.lst (ss.map V.str))→ss.length=n→(∀ s∈ss,J1 s=true)→ss.Nodup→Q (.ref p) H'
def Jsm (K:PySem.W.Frag) (H:Hp) (zs:List (V×(Int×Int))):Prop:=∀ z∈zs,∃ a,z.1=.ref a∧JQ K H a [.int z.2.1,.int z.2.2]
def JiH (p:Int×Int):List JK:=[.inl p.1,.inl p.2]
theorem Jtj {p q:Int×Int} (h:JiH p=JiH q):p=q:=by
 unfold JiH at h;simp only [List.cons.injEq,Sum.inl.injEq,and_true] at h;exact Prod.ext h.1 h.2
theorem Jo7 {K:PySem.W.Frag} {H:Hp} {zs:List (V×(Int×Int))} (h:Jsm K H zs):Jg4 K H (zs.map (·.1)) ((zs.map (·.2)).map JiH):=by
 refine ⟨by simp,fun i v ks hv hk=>?_⟩;rw [List.getElem?_map] at hv;obtain ⟨z,hz,rfl⟩:=Option.map_eq_some_iff.mp hv;rw [List.getElem?_map,List.getElem?_map,hz] at hk;have hk':JiH z.2=ks:=Option.some.inj hk;rw [← hk'];exact h z (List.mem_of_getElem? hz)
structure PW (K:PySem.W.Frag) (H0:Hp) (pl:Addr) (size:Nat) (H:Hp) (zs:List (V×(Int×Int))):Prop where
 sm:Ji H0 H
 at_:H pl=some (.lst (zs.map (·.1)))
 ip:Jsm K H zs
 nd:(zs.map (·.2)).Nodup
 rg:∀ z∈zs,(0≤z.2.1∧z.2.1 < size)∧(0≤z.2.2∧z.2.2 < size)
theorem PW.add {K:PySem.W.Frag} {H0:Hp} {pl:Addr} {size:Nat} {H H':Hp} {zs:List (V×(Int×Int))} (h:PW K H0 pl size H zs) (n0:H0 pl=none) (e:Ji H H') {t:Addr} {a b:Int} (ht:H' t=some (.tup [.int a,.int b]))
  (hn:(a,b)∉zs.map (·.2)) (hr:(0≤a∧a < size)∧(0≤b∧b < size)):PW K H0 pl size (upd H' pl (.lst (zs.map (·.1) ++ [.ref t]))) (zs ++ [(.ref t,(a,b))]):=by
 have hp':=e _ _ h.at_;have tup:∀ {a:Addr} {xs:List V},JQ K H' a xs→JQ K (upd H' pl (.lst (zs.map (·.1) ++ [.ref t]))) a xs:=fun {a xs} q=>by
  rcases q with (q | ⟨o,q⟩) | q
  ·exact .inl (.inl (by rw [Jt (Jas q hp' (fun z=>nomatch z))]; exact q))
  ·exact .inl (.inr ⟨o,by rw [Jt (Jas q hp' (fun z=>nomatch z))]; exact q⟩)
  ·exact .inr q
 refine ⟨fun b' u q=>?_,by rw [Jg,List.map_append]; rfl,fun z hz=>?_,?_,fun z hz=>?_⟩
 ·rw [Jt (Jw q n0)]; exact e _ _ (h.sm _ _ q)
 ·rcases List.mem_append.mp hz with q | q
  ·obtain ⟨c,h1,h2⟩:=h.ip z q;exact ⟨c,h1,tup (e.tup h2)⟩
  ·rw [List.mem_singleton.mp q];exact ⟨t,rfl,tup (JQ.of ht)⟩
 ·rw [List.map_append,List.nodup_append];refine ⟨h.nd,by simp,fun x hx y hy q=>?_⟩;have hy':y=(a,b):=by simpa using hy
  rw [q,hy'] at hx;exact hn hx
 ·rcases List.mem_append.mp hz with q | q
  ·exact h.rg z q
  ·rw [List.mem_singleton.mp q]; exact hr
def Jsu (K:PySem.W.Frag):Sp:=fun vs H Q _=>∃ (c d:Int) (n:Nat),vs=[.int c,.int d,.int n]∧1≤n∧n≤12∧∀ (p:Addr) (zs:List (V×(Int×Int))) (H':Hp),H p=none→PW K H p n H' zs→zs.length≤40→Q (.ref p) H'
section
variable {P:Program} {w:World} {K:PySem.W.Frag} {mg:Str→Option Value} {base:Heap}
theorem Ja9 (T:Txt K mg):JL P w K mg base YR 1 T.Jts T.Jqq ["_law_script", "_law_k"] (Jwi K):=by
 refine T.JbP.F.ok Jwj (fun vs H Q E h=>?_) (fun cdv A outer s H vs Q E hr h=>?_)
 ·obtain ⟨a,ns,k,rfl,_⟩:=h;rfl
 ·obtain ⟨a,ns,k,rfl,hS,h0,q⟩:=h;refine ⟨_,(@Jf _ _ _ _ _ (@JM _ _ _ _ _ _ _ _ (@Jx _ _ _ _ _ _ _ _ (@Jcc _) (@pv _ 1 _ _ rfl (.inl rfl) rfl rfl) (@JA _ _ _ _ _ _ _ _ _ (@Yl _) rfl T.Zv PySem.boot_len (@Ja _ _ _ _ _ (@pv _ 0 _ _ rfl (.inl rfl) rfl rfl) (@Jd _) rfl) (by decide) (by decide) rfl rfl) (JH _)) (@Jj _ _ _ (@Jq _ _ _ _ (@JD _ _ _ _ _ _ _ (@JU _) (@pv _ 0 _ _ rfl (.inl rfl) rfl rfl) (@pv _ 1 _ _ rfl (.inl rfl) rfl rfl) (fun _ _=>rfl)))) (@Jy _)) (@Jj _ _ _ (@Jq _ _ _ _ (@Je _ _ _ _)))),?_⟩;refine ⟨_,rfl,_,rfl,a,_,rfl,.inl hS,_,_,rfl,rfl,_,rfl,?_⟩;rw [List.length_map];refine YM (fun c=>?_) (fun c=>?_)
  ·have c':k < ns.length:=of_decide_eq_true c;refine ⟨_,rfl,_,rfl,a,_,k,.int (ZS ns k),rfl,rfl,hS,?_,q⟩;obtain ⟨j,rfl⟩:∃ j:Nat,k=(j:Int):=⟨k.toNat,by omega⟩
   have hj:j < ns.length:=by omega
   refine Y0 ?_;rw [List.getElem?_map];unfold ZS;rw [if_pos c',Int.toNat_natCast,List.getD_eq_getElem?_getD,List.getElem?_eq_getElem hj];rfl
  ·have c':¬ k < ns.length:=fun z=>c (decide_eq_true z)
   have e:ZS ns k=0:=by unfold ZS; rw [if_neg c']
   rw [e] at q;exact q
theorem Jn7 (T:Txt K mg):JL P w K mg base YR 1 T.Jqt T.Jor ["_law_cell", "_law_many", "_law_base"] Ju8:=by
 refine T.Jly.F.ok JeI (fun vs H Q E h=>?_) (fun cdv A outer s H vs Q E hr h=>?_)
 ·obtain ⟨_,_,_,rfl,_⟩:=h;rfl
 ·obtain ⟨c,n,b,rfl,hn,hb0,hb1,q⟩:=h;refine ⟨_,(@Jf _ _ _ _ _ (@JE _ _ 3 _ _ _ _ JeI.nd rfl (Or.inl rfl) (@Jm _ _ _ _ _ _ _ _ (@Yx _) (@pv _ 0 _ _ rfl (.inl rfl) rfl rfl) (@Je _ _ _ _)) rfl (.inl rfl)) (@Jf _ _ _ _ _ (@JE _ _ 4 _ _ _ _ JeI.nd rfl (Or.inl rfl) (@Jm _ _ _ _ _ _ _ _ (@JZ _) (@pv _ 0 _ _ rfl (.inl rfl) rfl rfl) (@Je _ _ _ _)) rfl (.inl rfl)) (@Jf _ _ _ _ _ (@JE _ _ 5 _ _ _ _ JeI.nd rfl (Or.inl rfl) (@Yv _ _ _ _ (@Jd _)) rfl (.inl rfl)) (@Jf _ _ _ _ _ (@ZN _ _ _ _ _ _ _ _ PassesOwn.never rfl (@Zy _ _ _ _ _ _ rfl T.ZL (@Ja _ _ _ _ _ (@pv _ 1 _ _ rfl (.inl rfl) rfl rfl) (@Jd _) rfl) rfl) (@YC _ _ 6 _ JeI.nd rfl (Or.inl rfl) (.inl rfl)) (@Jf _ _ _ _ _ (@JE _ _ 4 _ _ _ _ JeI.nd rfl (Or.inl rfl) (@Jm _ _ _ _ _ _ _ _ (@JZ _) (@Jm _ _ _ _ _ _ _ _ (@Yj _) (@Jm _ _ _ _ _ _ _ _ (@Yj _) (@Jm _ _ _ _ _ _ _ _ (@Jaz _) (@pv _ 4 _ _ rfl (.inl rfl) rfl rfl) (@Je _ _ _ _)) (@Jm _ _ _ _ _ _ _ _ (@Jaz _) (@Je _ _ _ _) (@pv _ 6 _ _ rfl (.inl rfl) rfl rfl))) (@Je _ _ _ _)) (@Je _ _ _ _)) rfl (.inl rfl)) (@Jf _ _ _ _ _ (@JM _ _ _ _ _ _ _ _ (@Jx _ _ _ _ _ _ _ _ (@YU _) (@Jm _ _ _ _ _ _ _ _ (@JZ _) (@pv _ 0 _ _ rfl (.inl rfl) rfl rfl) (@Je _ _ _ _)) (@Je _ _ _ _) (JH _)) (@Jj _ _ _ (@J7 _ _ _ _ (@Jc8 _ _ _ _ _ _ _ _ _ _ _ _ PySem.F.plainAttrs_list PySem.F.slot_list_append PySem.F.type_list_append (@ZJ _) (@pv _ 5 _ _ rfl (.inl rfl) rfl rfl) (@Ja _ _ _ _ _ (@Jm _ _ _ _ _ _ _ _ (@JZ _) (@pv _ 3 _ _ rfl (.inl rfl) rfl rfl) (@pv _ 2 _ _ rfl (.inl rfl) rfl rfl)) (@Jd _) rfl) rfl rfl rfl rfl rfl) rfl)) (@Jj _ _ _ (@J7 _ _ _ _ (@Jc8 _ _ _ _ _ _ _ _ _ _ _ _ PySem.F.plainAttrs_list PySem.F.slot_list_append PySem.F.type_list_append (@ZJ _) (@pv _ 5 _ _ rfl (.inl rfl) rfl rfl) (@Ja _ _ _ _ _ (@Jm _ _ _ _ _ _ _ _ (@JZ _) (@Jm _ _ _ _ _ _ _ _ (@Yj _) (@Jm _ _ _ _ _ _ _ _ (@Yx _) (@pv _ 4 _ _ rfl (.inl rfl) rfl rfl) (@Je _ _ _ _)) (@Jm _ _ _ _ _ _ _ _ (@JZ _) (@Jm _ _ _ _ _ _ _ _ (@Jaz _) (@pv _ 4 _ _ rfl (.inl rfl) rfl rfl) (@Je _ _ _ _)) (@Je _ _ _ _))) (@pv _ 2 _ _ rfl (.inl rfl) rfl rfl)) (@Jd _) rfl) rfl rfl rfl rfl rfl) rfl))) (@Jj _ _ _ (@JE _ _ 3 _ _ _ _ JeI.nd rfl (Or.inl rfl) (@Jm _ _ _ _ _ _ _ _ (@Yx _) (@pv _ 3 _ _ rfl (.inl rfl) rfl rfl) (@pv _ 2 _ _ rfl (.inl rfl) rfl rfl)) rfl (.inl rfl))))) (by intro _; rfl)) (@Jj _ _ _ (@Jq _ _ _ _ (@pv _ 5 _ _ rfl (.inl rfl) rfl rfl))))))),?_⟩
  try dsimp only [cxK,Ji0]
  refine ⟨_,rfl,_,_,rfl,rfl,⟨by decide,by decide⟩,_,rfl,_,_,rfl,rfl,(by show (0:Int) < 2147483647; decide),by show 0≤sizeLine; decide,fun p hp=>?_⟩;have hs0:n < sizeLine:=Nat.lt_of_le_of_lt hn (by decide);refine ⟨_,rfl,(n:Int),rfl,by omega,by omega,?_⟩;refine Z7 (n:=n) (fun i σ H2=>∃ (r m:Int) (xs:List Int) (v:Option V),Ji H H2∧H2 p=some (.lst (xs.map V.int))∧xs.length=i∧(∀ x∈xs,0≤x∧x < b)∧σ=[some (.int c),some (.int n),some (.int b),some (.int r),some (.int m),some (.ref p),v])
   ⟨_,_,[],none,Ji.upd hp,Jg,rfl,(fun x hx=>nomatch hx),rfl⟩ ?_ ?_
  ·rintro i σ H2 hi ⟨r,m,xs,v,e,hx,hl,hr,rfl⟩;have add:∀ x:Int,0≤x∧x < b→Ji H (upd H2 p (.lst (xs.map V.int ++ [.int x])))∧upd H2 p (.lst (xs.map V.int ++ [.int x])) p=some (.lst ((xs ++ [x]).map V.int))∧(xs ++ [x]).length=i + 1∧∀ y∈xs ++ [x],0≤y∧y < b:=fun x h=>by
    refine ⟨fun b' u q=>?_,by rw [Jg,List.map_append]; rfl,by simp [hl],fun y hy=>?_⟩
    ·rw [Jt (Jw q hp)]; exact e b' u q
    ·rcases List.mem_append.mp hy with z | z
     ·exact hr y z
     ·rw [List.mem_singleton.mp z]; exact h
   refine ⟨_,rfl,_,_,rfl,rfl,.inr ⟨by decide,by decide⟩,_,rfl,_,_,rfl,rfl,.inl ⟨by decide,by decide⟩,_,_,rfl,rfl,_,_,rfl,rfl,_,_,rfl,rfl,(by show (0:Int) < 2147483647; decide),?_⟩;have hxl:(xs.map V.int).length < sizeLine:=by rw [List.length_map]; omega
   refine ⟨_,rfl,_,_,rfl,rfl,(by show (0:Int) < 2; decide),rfl,_,rfl,YM (fun _=>?_) (fun _=>?_)⟩
   ·refine ⟨_,rfl,.inl ⟨rfl,_,Jz.of hx⟩,_,rfl,_,rfl,_,_,rfl,rfl,hb0,p,_,_,rfl,rfl,hx,hxl,?_⟩;refine ⟨_,rfl,_,rfl,_,_,rfl,rfl,⟨hb0,by show b < 1073741824; omega⟩,?_⟩;obtain ⟨a1,a2,a3,a4⟩:=add (r % b) ⟨Int.emod_nonneg _ (by omega),Int.emod_lt_of_pos _ hb0⟩;exact ⟨_,_,xs ++ [r % b],_,a1,a2,a3,a4,rfl⟩
   ·refine ⟨_,rfl,.inl ⟨rfl,_,Jz.of hx⟩,_,rfl,_,_,rfl,rfl,⟨by decide,by decide⟩,_,rfl,_,_,rfl,rfl,.inr ⟨by decide,by decide⟩,_,_,rfl,rfl,(by show (0:Int) < 2147483647; decide),_,_,rfl,rfl,_,rfl,_,_,rfl,rfl,hb0,p,_,_,rfl,rfl,hx,hxl,?_⟩;refine ⟨_,rfl,_,rfl,_,_,rfl,rfl,⟨hb0,by show b < 1073741824; omega⟩,?_⟩;obtain ⟨a1,a2,a3,a4⟩:=add (((m * 48271 + 7 * (0 + (i:Int)) + 11) % 2147483647 / 8 + (m * 48271 + 7 * (0 + (i:Int)) + 11) % 2147483647 * 69621 % 2147483647) % b) ⟨Int.emod_nonneg _ (by omega),Int.emod_lt_of_pos _ hb0⟩;exact ⟨_,_,_,_,a1,a2,a3,a4,rfl⟩
  ·rintro σ H2 ⟨r,m,xs,v,e,hx,hl,hr,rfl⟩;exact ⟨_,rfl,q p xs H2 hp e hx hl hr⟩
theorem Jil (T:Txt K mg):JL P w K mg base YR 1 T.Jgq T.Jfi ["text"] Jum:=by
 refine T.Jdd.F.ok JnI (fun vs H Q E h=>?_) (fun cdv A outer s H vs Q E hr h=>?_)
 ·obtain ⟨_,rfl,_⟩:=h;rfl
 ·obtain ⟨z,rfl,hz,q⟩:=h;have hzl:z.length≤sizeLine:=Nat.le_trans hz (by decide);refine ⟨_,(@Jf _ _ _ _ _ (@JM _ _ _ _ _ _ _ _ (@PW.pt _ _ _ (@Jac _ _ _ _ _ _ _ (@Jx _ _ _ _ _ _ _ _ (@Jcc _) (@JA _ _ _ _ _ _ _ _ _ (@Ji3 _) rfl T.Zv PySem.boot_len (@Ja _ _ _ _ _ (@pv _ 0 _ _ rfl (.inl rfl) rfl rfl) (@Jd _) rfl) (by decide) (by decide) rfl rfl) (@Je _ _ _ _) (JH _)) (@Jax _ _ _ _ (@Jx _ _ _ _ _ _ _ _ (@Jhh _) (@JA _ _ _ _ _ _ _ _ _ (@Ji3 _) rfl T.Zv PySem.boot_len (@Ja _ _ _ _ _ (@pv _ 0 _ _ rfl (.inl rfl) rfl rfl) (@Jd _) rfl) (by decide) (by decide) rfl rfl) (@ZV _ _ _ _ _ rfl T.Jcm T.Jb7 (by decide)) (JH _))))) (@Jj _ _ _ (@Jq _ _ _ _ (@Ja6 _ _ _ _))) (@Jy _)) (@Jj _ _ _ (@Jq _ _ _ _ (@JA _ _ _ _ _ _ _ _ _ (@Jtz _ rfl) rfl T.JtZ PyProof.Rows.boot_all (@Ja _ _ _ _ _ (@Jhg _ _ _ _ _ _ _ 1 ["sign"] [] _ _ _ _ ["text"] ((Jl Jc7).names) (by decide +kernel) (@JvC _ _ _ _ (@pv _ 0 _ _ rfl (.inl rfl) rfl rfl)) (fun _ _ _ _=>(@Jah _ _ _ _ _ _ _ _ _ 0 (by decide +kernel) rfl rfl)) (fun _ _ _ _=>(@JcS _)) (fun _ _ _ _=>(@Js0 _ _ _ _ _ _ _ _ _ _ _ _ (@Jmv _) (@Jmv _) (@Jp _ _ _ _) (@ZE _ _ _ _ _ _ _ _ _ 0 rfl rfl (by decide) (by decide)) (@Jp _ _ _ _) (by with_unfolding_all rfl))) rfl rfl rfl (by intro _; rfl)) (@Jd _) rfl) (by decide) (by decide) rfl rfl)))),?_⟩;refine ⟨_,rfl,z,rfl,hzl,_,_,rfl,rfl,_,rfl,YM (fun c=>Y1 ?_) (fun c=>?_)⟩
  ·have c':(z.length:Int) < 1:=of_decide_eq_true c;have e:J1 z=false:=by unfold J1; rw [decide_eq_false (by omega)]; rfl
   rw [← e];exact q H (Ji.refl _)
  refine ⟨_,rfl,z,rfl,hzl,_,_,rfl,rfl,_,rfl,YM (fun d=>?_) (fun d=>?_)⟩
  ·have d':(6:Int) < z.length:=of_decide_eq_true d;have e:J1 z=false:=by unfold J1; rw [decide_eq_false (p:=z.length≤6) (by omega),Bool.and_false]; rfl
   rw [← e];exact q H (Ji.refl _)
  have c':¬ (z.length:Int) < 1:=fun w=>c (decide_eq_true w)
  have d':¬ (6:Int) < z.length:=fun w=>d (decide_eq_true w)
  have e:J1 z=z.cps.toList.all Z0:=by unfold J1; rw [decide_eq_true (by omega),decide_eq_true (by omega)]; rfl
  refine ⟨_,rfl,z,rfl,fun D hD=>?_⟩;refine Jnb (fun i v=>∃ c,z.cps[i]?=some c∧v=.bl (Z0 c)) rfl hD hzl (fun i c H2 hc e2 Q' hQ=>?_) (fun ys H2 e2 hD2 hl hF=>?_)
  ·refine ⟨_,rfl,_,_,rfl,rfl,_,rfl,?_⟩;have e1:(!decide ([c] < [97]))=decide (97≤c):=by rw [lt1,Bool.eq_iff_iff]; simp
   have e2:(!decide ([122] < [c]))=decide (c≤122):=by rw [lt1,Bool.eq_iff_iff]; simp
   by_cases h1:97≤c
   ·refine Zw (e1.trans (decide_eq_true h1)) ⟨_,_,rfl,rfl,?_⟩;refine hQ _ ⟨c,hc,congrArg V.bl (e2.trans ?_)⟩;unfold Z0;rw [decide_eq_true h1]; rfl
   ·refine YQ (e1.trans (decide_eq_false h1)) (hQ _ ⟨c,hc,congrArg V.bl ?_⟩);unfold Z0;rw [decide_eq_false h1]; rfl
  ·have hys:ys=(z.cps.toList.map Z0).map V.bl:=by
    apply List.ext_getElem?;intro i;by_cases hi:i < ys.length
    ·obtain ⟨c,h1,h2⟩:=hF i _ (List.getElem?_eq_getElem hi);rw [List.getElem?_eq_getElem hi,h2,List.getElem?_map,List.getElem?_map,Array.getElem?_toList,h1];rfl
    ·rw [List.getElem?_eq_none (by omega),List.getElem?_eq_none];rw [List.length_map,List.length_map,Array.length_toList];have e9:z.cps.size=z.length:=rfl;omega
   refine ⟨D,z.cps.toList.map Z0,rfl,by rw [← hys]; exact Jz.of hD2,?_⟩;have e3:(z.cps.toList.map Z0).all id=J1 z:=by rw [e,List.all_map]; rfl
   rw [e3];exact q H2 e2
theorem JaX (T:Txt K mg):JL P w K mg base YR 1 T.Jbk T.Ja3 ["things"] (Juh K):=by
 refine T.ZG.F.ok Jh5 (fun vs H Q E h=>?_) (fun cdv A outer s H vs Q E hr h=>?_)
 ·obtain ⟨_,rfl,_⟩:=h;rfl
 ·obtain ⟨l,rfl,hl,q⟩:=h;refine ⟨_,(@Jj _ _ _ (@JM _ _ _ _ _ _ _ _ (@Jx _ _ _ _ _ _ _ _ (@Jcc _) (@JA _ _ _ _ _ _ _ _ _ (@Jpa _) rfl T.Zv PySem.boot_len (@Ja _ _ _ _ _ (@ZI _ _ _ _ _ _ _ _ _ (@Jr5 _ rfl hr.units) rfl T.JtX PyProof.Rows.boot_set (@Ja _ _ _ _ _ (@pv _ 0 _ _ rfl (.inl rfl) rfl rfl) (@Jd _) rfl) (by decide) (by decide) rfl rfl) (@Jd _) rfl) (by decide) (by decide) rfl rfl) (@JA _ _ _ _ _ _ _ _ _ (@Yl _) rfl T.Zv PySem.boot_len (@Ja _ _ _ _ _ (@pv _ 0 _ _ rfl (.inl rfl) rfl rfl) (@Jd _) rfl) (by decide) (by decide) rfl rfl) (JH _)) (@Jj _ _ _ (@Jhe _ _)) (@Jy _))),?_⟩;rcases hl with ⟨ss,hS,hz,nd⟩ | ⟨us,kss,hS,tt,hz,nd⟩
  ·refine ⟨_,rfl,.inl ⟨l,ss,rfl,hS,hz,fun p hp=>⟨p,_,rfl,Jg,_,rfl,l,_,rfl,.inl ((Ji.upd hp).seq hS),_,_,rfl,rfl,_,rfl,YQ (decide_eq_false ?_) (q _ (Ji.upd hp))⟩⟩⟩;rw [Jlo nd,List.length_map];exact Int.lt_irrefl _
  ·refine ⟨_,rfl,.inr ⟨l,us,kss,rfl,hS,tt,hz,fun p hp=>⟨p,_,rfl,Jg,_,rfl,l,_,rfl,.inl ((Ji.upd hp).seq hS),_,_,rfl,rfl,_,rfl,YQ (decide_eq_false ?_) (q _ (Ji.upd hp))⟩⟩⟩;rw [Jlo nd,tt.1];exact Int.lt_irrefl _
theorem Ja8 (T:Txt K mg):JL P w K mg base (Y8 P w) 1 T.Jd7 T.Jc0 ["place", "places"] (JsF K T.JW):=by
 refine T.ZZ.F.ok1 JlH (fun vs H Q E h=>?_) (fun cdv A outer s H vs Q E hr h=>?_)
 ·obtain ⟨_,_,_,rfl,_⟩:=h;rfl
 ·obtain ⟨z,t,ps,rfl,ht,hS,q1,q2⟩:=h;refine ⟨_,(@Jj _ _ _ (@JM _ _ _ _ _ _ _ _ (@Jx _ _ _ _ _ _ _ _ (@Jcb _) (@pv _ 0 _ _ rfl (.inl rfl) rfl rfl) (@pv _ 1 _ _ rfl (.inl rfl) rfl rfl) (by with_unfolding_all rfl)) (@Jj _ _ _ (@JaV _ _ _ _ _ _ _ _ _ T.YI T.Ji4 JbQ (@JbS _ _ _ _ _ _ (PJ.cons (@Je1 _ _ _ _ (@pv _ 0 _ _ rfl (.inl rfl) rfl rfl)) (PJ.cons (@Jp _ _ _ _) PJ.nil)) rfl) rfl rfl (by decide) rfl)) (@Jy _))),?_⟩;refine ⟨_,rfl,_,rfl,t,_,rfl,hS,rfl,Jaq ps,_,rfl,?_⟩;rw [if_pos rfl,Ja2];by_cases hin:z∈ps
  ·exact YQ (by rw [decide_eq_true hin]; rfl) (q1 hin)
  ·have hz:=JfP ht;have e1:(Str.empty ++ reprText z).length=(reprText z).length:=by rw [strLen_append]; exact Nat.zero_add _
   refine Zw (by rw [decide_eq_false hin]; rfl) ⟨_,rfl,z,rfl,Nat.le_trans hz (by decide),_,rfl,by rw [e1]; exact Nat.le_trans hz (by decide),_,rfl,?_,?_,q2 hin⟩
   all_goals
    rw [strLen_append,e1];refine Nat.le_trans (Nat.add_le_add_right hz _) (by decide)
theorem JkY (T:Txt K mg):JL P w K mg base YR 2 T.Jc2 T.Jcp ["places"] (JpZ K):=by
 refine T.Jc6.F.ok JfQ (fun vs H Q E h=>?_) (fun cdv A outer s H vs Q E hr h=>?_)
 ·obtain ⟨_,_,rfl,_⟩:=h;rfl
 ·obtain ⟨l,ps,rfl,hS,h1,h2,h3,h4,q⟩:=h;refine ⟨_,(@Jf _ _ _ _ _ (@JM _ _ _ _ _ _ _ _ (@PW.pt _ _ _ (@Jac _ _ _ _ _ _ _ (@Jx _ _ _ _ _ _ _ _ (@Jcc _) (@JA _ _ _ _ _ _ _ _ _ (@Yl _) rfl T.Zv PySem.boot_len (@Ja _ _ _ _ _ (@pv _ 0 _ _ rfl (.inl rfl) rfl rfl) (@Jd _) rfl) (by decide) (by decide) rfl rfl) (@Je _ _ _ _) (JH _)) (@Jax _ _ _ _ (@Jx _ _ _ _ _ _ _ _ (@Jhh _) (@JA _ _ _ _ _ _ _ _ _ (@Yl _) rfl T.Zv PySem.boot_len (@Ja _ _ _ _ _ (@pv _ 0 _ _ rfl (.inl rfl) rfl rfl) (@Jd _) rfl) (by decide) (by decide) rfl rfl) (@ZV _ _ _ _ _ rfl T.Jby T.Jbw (by decide)) (JH _))))) (@Jj _ _ _ (@Jhe _ _)) (@Jy _)) (@Jf _ _ _ _ _ (@ZN _ _ _ _ _ _ _ _ PassesOwn.never rfl (@JbR _ _ _ _ (@pv _ 0 _ _ rfl (.inl rfl) rfl rfl)) (@YC _ _ 1 _ JfQ.nd rfl (Or.inl rfl) (.inl rfl)) (@Jj _ _ _ (@JM _ _ _ _ _ _ _ _ (@Jag _ _ _ _ (@Zx _ _ _ (@Jo _ _ _ _ _ _ _ _ _ _ _ _ _ _ _ T.Jdd (Jil T) (hr.mono (by decide)) JG (@Ja _ _ _ _ _ (@pv _ 1 _ _ rfl (.inl rfl) rfl rfl) (@Jd _) rfl) rfl (by decide) rfl rfl) (by intro _; rfl))) (@Jj _ _ _ (@Jhe _ _)) (@Jy _))) (by intro _; rfl)) (@Jj _ _ _ (@J7 _ _ _ _ (@Jo _ _ _ _ _ _ _ _ _ _ _ _ _ _ _ T.ZG (JaX T) (hr.mono (by decide)) JG (@Ja _ _ _ _ _ (@pv _ 0 _ _ rfl (.inl rfl) rfl rfl) (@Jd _) rfl) rfl (by decide) rfl rfl) rfl)))),?_⟩;refine ⟨_,rfl,l,_,rfl,.inl hS,_,_,rfl,rfl,_,rfl,YQ (decide_eq_false (by rw [List.length_map]; omega)) ?_⟩;refine ⟨_,rfl,l,_,rfl,.inl hS,_,_,rfl,rfl,_,rfl,YQ (decide_eq_false (by rw [List.length_map]; omega)) ?_⟩;refine ⟨_,rfl,l,rfl,⟨_,hS⟩,Jhm (xs:=ps.map V.str) (fun i σ H2=>Ji H H2∧∃ v,σ=[some (.ref l),v]) ⟨Ji.refl _,none,rfl⟩ (fun i σ H2 _ h=>h.1.seq hS) ?_ ?_⟩
  ·rintro i x σ H2 hx ⟨e2,v,rfl⟩;obtain ⟨p,hp,rfl⟩:=List.mem_map.mp (List.mem_of_getElem? hx);refine ⟨_,rfl,p,rfl,Nat.le_trans (Jhl (h3 p hp)).1 (by decide),fun H3 e3=>⟨_,rfl,YQ (by rw [h3 p hp]; rfl) ?_⟩⟩;exact ⟨e2.trans e3,_,rfl⟩
  ·rintro σ H2 ⟨e2,v,rfl⟩;exact ⟨_,rfl,l,rfl,.inl ⟨ps,e2.seq hS,by omega,h4⟩,fun H3 e3=>q H3 (e2.trans e3)⟩
theorem JlX (T:Txt K mg):JL P w K mg base YR 2 T.Jd4 T.JcX ["lanes", "places"] (Jq7 K):=by
 refine T.Jd9.F.ok JgC (fun vs H Q E h=>?_) (fun cdv A outer s H vs Q E hr h=>?_)
 ·obtain ⟨_,_,_,_,rfl,_⟩:=h;rfl
 ·obtain ⟨l,lp,zs,ps,rfl,hS,hP,hp,ht,h1,h2,h3,q⟩:=h;refine ⟨_,(@Jf _ _ _ _ _ (@JM _ _ _ _ _ _ _ _ (@Jx _ _ _ _ _ _ _ _ (@Jhh _) (@JA _ _ _ _ _ _ _ _ _ (@Yl _) rfl T.Zv PySem.boot_len (@Ja _ _ _ _ _ (@pv _ 0 _ _ rfl (.inl rfl) rfl rfl) (@Jd _) rfl) (by decide) (by decide) rfl rfl) (@ZV _ _ _ _ _ rfl T.Jcn T.Jb8 (by decide)) (JH _)) (@Jj _ _ _ (@Jhe _ _)) (@Jy _)) (@Jf _ _ _ _ _ (@ZN _ _ _ _ _ _ _ _ PassesOwn.never rfl (@JbR _ _ _ _ (@pv _ 0 _ _ rfl (.inl rfl) rfl rfl)) (@YC _ _ 2 _ JgC.nd rfl (Or.inl rfl) (.inl rfl)) (@Jf _ _ _ _ _ (@J7 _ _ _ _ (@Jo _ _ _ _ _ _ _ _ _ _ _ _ _ _ _ T.ZZ (Ja8 T) (hr.mono (by decide)) Z5 (@Ja _ _ _ _ _ (@JD _ _ _ _ _ _ _ (@Yq _) (@pv _ 2 _ _ rfl (.inl rfl) rfl rfl) (@Je _ _ _ _) (fun _ _=>rfl)) (@Ja _ _ _ _ _ (@pv _ 1 _ _ rfl (.inl rfl) rfl rfl) (@Jd _) rfl) rfl) rfl (by decide) rfl rfl) rfl) (@Jj _ _ _ (@J7 _ _ _ _ (@Jo _ _ _ _ _ _ _ _ _ _ _ _ _ _ _ T.ZZ (Ja8 T) (hr.mono (by decide)) Z5 (@Ja _ _ _ _ _ (@JD _ _ _ _ _ _ _ (@Yq _) (@pv _ 2 _ _ rfl (.inl rfl) rfl rfl) (@Je _ _ _ _) (fun _ _=>rfl)) (@Ja _ _ _ _ _ (@pv _ 1 _ _ rfl (.inl rfl) rfl rfl) (@Jd _) rfl) rfl) rfl (by decide) rfl rfl) rfl))) (by intro _; rfl)) (@Jj _ _ _ (@J7 _ _ _ _ (@Jo _ _ _ _ _ _ _ _ _ _ _ _ _ _ _ T.ZG (JaX T) (hr.mono (by decide)) JG (@Ja _ _ _ _ _ (@pv _ 0 _ _ rfl (.inl rfl) rfl rfl) (@Jd _) rfl) rfl (by decide) rfl rfl) rfl)))),?_⟩;refine ⟨_,rfl,l,_,rfl,.inl hS,_,_,rfl,rfl,_,rfl,YQ (decide_eq_false (by rw [List.length_map]; omega)) ?_⟩;refine ⟨_,rfl,l,rfl,⟨_,hS⟩,Jhm (xs:=zs.map (·.1)) (fun i σ H2=>H2=H∧∃ v,σ=[some (.ref l),some (.ref lp),v]) ⟨rfl,none,rfl⟩ (fun i σ H2 _ h=>by rw [h.1]; exact hS) ?_ ?_⟩
  ·rintro i x σ H2 hx ⟨rfl,v,rfl⟩;obtain ⟨z,hz,rfl⟩:=List.mem_map.mp (List.mem_of_getElem? hx);obtain ⟨a,ea,ha⟩:=hP z hz;obtain ⟨i1,i2⟩:=h2 z hz;refine ⟨_,rfl,a,_,_,.str z.2.1,ea,rfl,ha,rfl,_,rfl,z.2.1,lp,ps,rfl,ht _ i1,.inl hp,fun _=>?_,fun hn=>absurd i1 hn⟩;exact ⟨_,rfl,a,_,_,.str z.2.2,ea,rfl,ha,rfl,_,rfl,z.2.2,lp,ps,rfl,ht _ i2,.inl hp,fun _=>⟨rfl,_,rfl⟩,fun hn=>absurd i2 hn⟩
  ·rintro σ H2 ⟨rfl,v,rfl⟩;exact ⟨_,rfl,l,rfl,.inr ⟨_,_,hS,Jqc hP,by rw [List.length_map,List.length_map]; omega,Jo0 h3⟩,fun H3 e3=>q H3 e3⟩
theorem JlY (T:Txt K mg):JL P w K mg base YR 2 T.Jd5 T.JcY ["goals", "places"] (Jq8 K):=by
 refine T.Jea.F.ok JgD (fun vs H Q E h=>?_) (fun cdv A outer s H vs Q E hr h=>?_)
 ·obtain ⟨_,_,_,_,rfl,_⟩:=h;rfl
 ·obtain ⟨l,lp,gs,ps,rfl,hS,hp,ht,h1,h2,h3,q⟩:=h;refine ⟨_,(@Jf _ _ _ _ _ (@ZN _ _ _ _ _ _ _ _ PassesOwn.never rfl (@JbR _ _ _ _ (@pv _ 0 _ _ rfl (.inl rfl) rfl rfl)) (@YC _ _ 2 _ JgD.nd rfl (Or.inl rfl) (.inl rfl)) (@Jj _ _ _ (@J7 _ _ _ _ (@Jo _ _ _ _ _ _ _ _ _ _ _ _ _ _ _ T.ZZ (Ja8 T) (hr.mono (by decide)) Z5 (@Ja _ _ _ _ _ (@pv _ 2 _ _ rfl (.inl rfl) rfl rfl) (@Ja _ _ _ _ _ (@pv _ 1 _ _ rfl (.inl rfl) rfl rfl) (@Jd _) rfl) rfl) rfl (by decide) rfl rfl) rfl)) (by intro _; rfl)) (@Jj _ _ _ (@J7 _ _ _ _ (@Jo _ _ _ _ _ _ _ _ _ _ _ _ _ _ _ T.ZG (JaX T) (hr.mono (by decide)) JG (@Ja _ _ _ _ _ (@pv _ 0 _ _ rfl (.inl rfl) rfl rfl) (@Jd _) rfl) rfl (by decide) rfl rfl) rfl))),?_⟩;refine ⟨_,rfl,l,rfl,⟨_,hS⟩,Jhm (xs:=gs.map V.str) (fun i σ H2=>H2=H∧∃ v,σ=[some (.ref l),some (.ref lp),v]) ⟨rfl,none,rfl⟩ (fun i σ H2 _ h=>by rw [h.1]; exact hS) ?_ ?_⟩
  ·rintro i x σ H2 hx ⟨rfl,v,rfl⟩;obtain ⟨g,hg,rfl⟩:=List.mem_map.mp (List.mem_of_getElem? hx);exact ⟨_,rfl,_,rfl,g,lp,ps,rfl,ht _ (h2 g hg),.inl hp,fun _=>⟨rfl,_,rfl⟩,fun hn=>absurd (h2 g hg) hn⟩
  ·rintro σ H2 ⟨rfl,v,rfl⟩;exact ⟨_,rfl,l,rfl,.inl ⟨gs,hS,h1,h3⟩,fun H3 e3=>q H3 e3⟩
theorem Jna (T:Txt K mg):JL P w K mg base YR 3 T.Jcw T.Jd2 ["self", "places", "lanes", "goals"] (Jpm K T.JT):=by
 refine T.JfM.F.ok Jm2 (fun vs H Q E h=>?_) (fun cdv A outer s H vs Q E hr h=>?_)
 ·obtain ⟨_,_,_,_,_,_,_,_,rfl,_⟩:=h;rfl
 ·obtain ⟨b,lp,ll,lg,dx,ps,zs,gs,rfl,hb,hp,hl,hP,hg,G,q⟩:=h;refine ⟨_,(@Jf _ _ _ _ _ (@J7 _ _ _ _ (@Jo _ _ _ _ _ _ _ _ _ _ _ _ _ _ _ T.Jc6 (JkY T) (hr.mono (by decide)) JG (@Ja _ _ _ _ _ (@pv _ 1 _ _ rfl (.inl rfl) rfl rfl) (@Jd _) rfl) rfl (by decide) rfl rfl) rfl) (@Jf _ _ _ _ _ (@J7 _ _ _ _ (@Jo _ _ _ _ _ _ _ _ _ _ _ _ _ _ _ T.Jd9 (JlX T) (hr.mono (by decide)) JG (@Ja _ _ _ _ _ (@pv _ 2 _ _ rfl (.inl rfl) rfl rfl) (@Ja _ _ _ _ _ (@pv _ 1 _ _ rfl (.inl rfl) rfl rfl) (@Jd _) rfl) rfl) rfl (by decide) rfl rfl) rfl) (@Jf _ _ _ _ _ (@J7 _ _ _ _ (@Jo _ _ _ _ _ _ _ _ _ _ _ _ _ _ _ T.Jea (JlY T) (hr.mono (by decide)) JG (@Ja _ _ _ _ _ (@pv _ 3 _ _ rfl (.inl rfl) rfl rfl) (@Ja _ _ _ _ _ (@pv _ 1 _ _ rfl (.inl rfl) rfl rfl) (@Jd _) rfl) rfl) rfl (by decide) rfl rfl) rfl) (@Jf _ _ _ _ _ (@Y6 _ _ _ _ _ _ _ _ (@pv _ 0 _ _ rfl (.inl rfl) rfl rfl) (@ZI _ _ _ _ _ _ _ _ _ (@ZX _) rfl T.Jbb PyProof.Rows.boot_tuple (@Ja _ _ _ _ _ (@JA _ _ _ _ _ _ _ _ _ (@Jcx _) rfl T.JaY PyProof.Rows.boot_sorted (@Ja _ _ _ _ _ (@pv _ 1 _ _ rfl (.inl rfl) rfl rfl) (@Jd _) rfl) (by decide) (by decide) rfl rfl) (@Jd _) rfl) (by decide) (by decide) rfl rfl) rfl) (@Jf _ _ _ _ _ (@Y6 _ _ _ _ _ _ _ _ (@pv _ 0 _ _ rfl (.inl rfl) rfl rfl) (@ZI _ _ _ _ _ _ _ _ _ (@ZX _) rfl T.Jbb PyProof.Rows.boot_tuple (@Ja _ _ _ _ _ (@JA _ _ _ _ _ _ _ _ _ (@JqA _) rfl T.JaY PyProof.Rows.boot_sorted (@Ja _ _ _ _ _ (@pv _ 2 _ _ rfl (.inl rfl) rfl rfl) (@Jd _) rfl) (by decide) (by decide) rfl rfl) (@Jd _) rfl) (by decide) (by decide) rfl rfl) rfl) (@Jj _ _ _ (@Y6 _ _ _ _ _ _ _ _ (@pv _ 0 _ _ rfl (.inl rfl) rfl rfl) (@ZI _ _ _ _ _ _ _ _ _ (@ZX _) rfl T.Jbb PyProof.Rows.boot_tuple (@Ja _ _ _ _ _ (@JA _ _ _ _ _ _ _ _ _ (@Jcx _) rfl T.JaY PyProof.Rows.boot_sorted (@Ja _ _ _ _ _ (@pv _ 3 _ _ rfl (.inl rfl) rfl rfl) (@Jd _) rfl) (by decide) (by decide) rfl rfl) (@Jd _) rfl) (by decide) (by decide) rfl rfl) rfl))))))),?_⟩;have ht:∀ p∈ps,Yo p:=fun p h=>YH (G.p3 p h)
  have hzl:zs.length≤40:=by have:=G.l1; rwa [List.length_map] at this
  have hl2:∀ z∈zs,z.2.1∈ps∧z.2.2∈ps:=fun z hz=>G.l2 z.2 (List.mem_map.mpr ⟨z,hz,rfl⟩)
  have hgl:=G.glen;refine ⟨_,rfl,lp,ps,rfl,hp,G.p1,G.p2,G.p3,G.p4,fun H1 e1=>?_⟩;refine ⟨_,rfl,_,rfl,ll,lp,zs,ps,rfl,e1.seq hl,Jar hP e1,e1.seq hp,ht,hzl,hl2,G.l3,fun H2 e2=>?_⟩;have e12:=e1.trans e2;refine ⟨_,rfl,_,rfl,lg,lp,gs,ps,rfl,e12.seq hg,e12.seq hp,ht,by omega,G.g1,G.g2,fun H3 e3=>?_⟩;have e13:=e12.trans e3;have hb3:=e13 _ _ hb;refine ⟨_,rfl,lp,ps,rfl,e13.seq hp,by have:=G.p2; omega,fun p4 ps' n4 pp ps4=>⟨p4,_,rfl,.inl ⟨Jz.of Jg,fun t5 n5=>?_⟩⟩⟩;have e35:=(Ji.upd (o:=.lst (ps'.map V.str)) n4).trans (Ji.upd (o:=.tup (ps'.map V.str)) n5);refine ⟨_,rfl,b,_,dx,_,rfl,e35 _ _ hb3,T.Y2,T.JaJ,by decide,?_⟩;have b6:=(Yc.of (b:=b) (e13.trans e35)).trans (Yc.put (o:=.ins T.JT dx (Yh "places" (.ref t5) [])));have t5b:t5≠b:=fun e=>by
   have z:=(Ji.upd (o:=.lst (ps'.map V.str)) n4) _ _ hb3;rw [e,z] at n5; cases n5
  have hp6:upd (upd (upd H3 p4 (.lst (ps'.map V.str))) t5 (.tup (ps'.map V.str))) b (.ins T.JT dx (Yh "places" (.ref t5) [])) t5=some (.tup (ps'.map V.str)):=by rw [Jt t5b,Jg]
  have hb6:upd (upd (upd H3 p4 (.lst (ps'.map V.str))) t5 (.tup (ps'.map V.str))) b (.ins T.JT dx (Yh "places" (.ref t5) [])) b=some (.ins T.JT dx [("places",.ref t5)]):=Jg;generalize upd (upd (upd H3 p4 (.lst (ps'.map V.str))) t5 (.tup (ps'.map V.str))) b (.ins T.JT dx (Yh "places" (.ref t5) []))=H6 at b6 hp6 hb6;refine ⟨_,rfl,ll,zs,rfl,b6.seq hb hl,fun z hz=>let ⟨a,h1,h2⟩:=hP z hz; ⟨a,h1,b6.tup hb h2⟩,by omega,fun p7 zs' n7 zp zs7=>⟨p7,_,rfl,.inl ⟨Jz.of Jg,fun t8 n8=>?_⟩⟩⟩;have e68:=(Ji.upd (o:=.lst (zs'.map (·.1))) n7).trans (Ji.upd (o:=.tup (zs'.map (·.1))) n8);refine ⟨_,rfl,b,_,dx,_,rfl,e68 _ _ hb6,T.Y2,T.JcU,by show 1 < 1000; decide,?_⟩;have b9:=(b6.trans (Yc.of e68)).trans (Yc.put (o:=.ins T.JT dx (Yh "lanes" (.ref t8) [("places",.ref t5)])));have t8b:t8≠b:=fun e=>by
   have z:=(Ji.upd (o:=.lst (zs'.map (·.1))) n7) _ _ hb6;rw [e,z] at n8; cases n8
  have hl9:upd (upd (upd H6 p7 (.lst (zs'.map (·.1)))) t8 (.tup (zs'.map (·.1)))) b (.ins T.JT dx (Yh "lanes" (.ref t8) [("places",.ref t5)])) t8=some (.tup (zs'.map (·.1))):=by rw [Jt t8b,Jg]
  have hp9:upd (upd (upd H6 p7 (.lst (zs'.map (·.1)))) t8 (.tup (zs'.map (·.1)))) b (.ins T.JT dx (Yh "lanes" (.ref t8) [("places",.ref t5)])) t5=some (.tup (ps'.map V.str)):=by rw [Jt t5b]; exact e68 _ _ hp6
  have hb9:upd (upd (upd H6 p7 (.lst (zs'.map (·.1)))) t8 (.tup (zs'.map (·.1)))) b (.ins T.JT dx (Yh "lanes" (.ref t8) [("places",.ref t5)])) b=some (.ins T.JT dx [("places",.ref t5),("lanes",.ref t8)]):=Jg;generalize upd (upd (upd H6 p7 (.lst (zs'.map (·.1)))) t8 (.tup (zs'.map (·.1)))) b (.ins T.JT dx (Yh "lanes" (.ref t8) [("places",.ref t5)]))=H9 at b9 hl9 hp9 hb9;refine ⟨_,rfl,lg,gs,rfl,b9.seq hb hg,by omega,fun p10 gs' n10 gp gs10=>⟨p10,_,rfl,.inl ⟨Jz.of Jg,fun t11 n11=>?_⟩⟩⟩;have e911:=(Ji.upd (o:=.lst (gs'.map V.str)) n10).trans (Ji.upd (o:=.tup (gs'.map V.str)) n11);refine ⟨_,rfl,b,_,dx,_,rfl,e911 _ _ hb9,T.Y2,T.JcV,by show 2 < 1000; decide,?_⟩;have b12:=(b9.trans (Yc.of e911)).trans (Yc.put (o:=.ins T.JT dx (Yh "goals" (.ref t11) [("places",.ref t5),("lanes",.ref t8)])));have t11b:t11≠b:=fun e=>by
   have z:=(Ji.upd (o:=.lst (gs'.map V.str)) n10) _ _ hb9;rw [e,z] at n11; cases n11
  refine q _ ps' zs' gs' b12 pp ps4 zp zs7 gp gs10 ⟨dx,t5,t8,t11,Jg,?_,?_,fun z hz=>?_,?_⟩
  ·rw [Jt t5b]; exact e911 _ _ hp9
  ·rw [Jt t8b]; exact e911 _ _ hl9
  ·obtain ⟨a,h1,h2⟩:=hP z (zp.mem_iff.mp hz);exact ⟨a,h1,b12.tup hb h2⟩
  ·rw [Jt t11b,Jg]
theorem ZH (T:Txt K mg):JL P w K mg base (Y8 P w) 2 T.JaD T.Jat ["self", "place"] (Jq6 K T.JT T.JW):=by
 refine T.Yk.F.ok1 Jg9 (fun vs H Q E h=>?_) (fun cdv A outer s H vs Q E hr h=>?_)
 ·obtain ⟨_,_,_,_,_,rfl,_⟩:=h;rfl
 ·obtain ⟨b,z,ps,zs,gs,rfl,ht,⟨dx,tp,tl,tg,hb,hp,_⟩,q1,q2⟩:=h;refine ⟨_,(@Jj _ _ _ (@J7 _ _ _ _ (@Jo _ _ _ _ _ _ _ _ _ _ _ _ _ _ _ T.ZZ (Ja8 T) (hr.mono (by decide)) Y4 (@Ja _ _ _ _ _ (@pv _ 1 _ _ rfl (.inl rfl) rfl rfl) (@Ja _ _ _ _ _ (@Yd _ _ _ _ _ (@pv _ 0 _ _ rfl (.inl rfl) rfl rfl) rfl) (@Jd _) rfl) rfl) rfl (by decide) rfl rfl) rfl)),?_⟩;exact ⟨_,rfl,_,rfl,b,_,dx,_,.ref tp,rfl,hb,T.Y2,T.JaJ,rfl,z,tp,ps,rfl,ht,.inr (JQ.of hp),q1,q2⟩
theorem Jkk (T:Txt K mg):JL P w K mg base (Y8 P w) 3 T.Jcv T.JbL ["self", "place"] (JqX K T.JT T.JW):=by
 refine T.JaO.F.ok1 Jkb (fun vs H Q E h=>?_) (fun cdv A outer s H vs Q E hr h=>?_)
 ·obtain ⟨_,_,_,_,_,rfl,_⟩:=h;rfl
 ·obtain ⟨b,z,ps,zs,gs,rfl,ht,B,q1,q2⟩:=h;refine ⟨_,(@Jf _ _ _ _ _ (@J7 _ _ _ _ (@Ys _ _ _ _ _ _ _ _ _ _ _ _ _ _ _ _ _ _ _ _ (@pv _ 0 _ _ rfl (.inl rfl) rfl rfl) T.Y2 T.Yk.m (ZH T) (hr.mono (by decide)) T.Yk.b .nil Y4 (@Ja _ _ _ _ _ (@pv _ 1 _ _ rfl (.inl rfl) rfl rfl) (@Jd _) rfl) rfl rfl rfl) rfl) (@Jj _ _ _ (@Jq _ _ _ _ (@JlW _ _ _ _ _ _ _ _ (@Jdm _) (@pv _ 1 _ _ rfl (.inl rfl) rfl rfl) (@Yd _ _ _ _ _ (@pv _ 0 _ _ rfl (.inl rfl) rfl rfl) rfl) (by with_unfolding_all rfl))))),?_⟩;obtain ⟨dx,tp,tl,tg,hb,hp,hl,hP,hg⟩:=id B;refine ⟨_,rfl,b,dx,_,rfl,hb,rfl,_,rfl,b,z,ps,zs,gs,rfl,ht,B,fun hin=>?_,q2⟩;refine ⟨_,rfl,_,rfl,b,_,dx,_,.ref tg,rfl,hb,T.Y2,T.JcV,rfl,tg,_,rfl,.inr (JQ.of hg),rfl,Jaq gs,?_⟩;rw [if_neg Bool.false_ne_true,Ja2];exact q1 hin
theorem JdP (T:Txt K mg):JL P w K mg base (Y8 P w) 3 T.JfC T.Jd1 ["self", "place"] (Jue K T.JT T.JW):=by
 refine T.Zz.F.ok1 Jm1 (fun vs H Q E h=>?_) (fun cdv A outer s H vs Q E hr h=>?_)
 ·obtain ⟨_,_,_,_,_,rfl,_⟩:=h;rfl
 ·obtain ⟨b,z,ps,zs,gs,rfl,ht,hlen,B,q1,q2⟩:=h;refine ⟨_,(@Jf _ _ _ _ _ (@J7 _ _ _ _ (@Ys _ _ _ _ _ _ _ _ _ _ _ _ _ _ _ _ _ _ _ _ (@pv _ 0 _ _ rfl (.inl rfl) rfl rfl) T.Y2 T.Yk.m (ZH T) (hr.mono (by decide)) T.Yk.b .nil Y4 (@Ja _ _ _ _ _ (@pv _ 1 _ _ rfl (.inr (.inl rfl)) rfl rfl) (@Jd _) rfl) rfl rfl rfl) rfl) (@Jj _ _ _ (@Jq _ _ _ _ (@ZI _ _ _ _ _ _ _ _ _ (@ZX _) rfl T.Jbb PyProof.Rows.boot_tuple (@Ja _ _ _ _ _ (@Jhg _ _ _ _ _ _ _ 1 ["lane", "place"] [1] _ _ _ _ ["self", "place"] ((Jl Jb5).names) (by decide +kernel) (@Jih _ _ _ _ (@Yd _ _ _ _ _ (@pv _ 0 _ _ rfl (.inl rfl) rfl rfl) rfl)) (fun _ _ _ _=>(@Jah _ _ _ _ _ _ _ _ _ 0 (by decide +kernel) rfl rfl)) (fun _ _ _ _=>(@Jjk _ _ _ (@Jx _ _ _ _ _ _ _ _ (@YU _) (@JD _ _ _ _ _ _ _ (show IxR _ (JnY K) from (@Yq _)) (@ZE _ _ _ _ _ _ _ _ _ 0 rfl rfl (by decide) (by decide)) (@Je _ _ _ _) (fun _ _=>rfl)) (@JaW _ _ _ _ _ _ _ _ _ 1 rfl rfl (by decide) (by decide)) (JH _)))) (fun _ _ _ _=>(@JD _ _ _ _ _ _ _ (show IxR _ (JnY K) from (@Yq _)) (@ZE _ _ _ _ _ _ _ _ _ 0 rfl rfl (by decide) (by decide)) (@Je _ _ _ _) (fun _ _=>rfl))) rfl rfl rfl (by intro _; rfl)) (@Jd _) rfl) (by decide) (by decide) rfl rfl)))),?_⟩;obtain ⟨dx,tp,tl,tg,hb,hp,hl,hP,hg⟩:=id B;refine ⟨_,rfl,b,dx,_,rfl,hb,rfl,_,rfl,b,z,ps,zs,gs,rfl,ht,B,fun hin=>?_,q2⟩;refine ⟨_,rfl,b,_,dx,_,.ref tl,rfl,hb,T.Y2,T.JcU,rfl,tl,rfl,⟨_,JQ.of hl⟩,fun D hD=>?_⟩;refine Jky (xs:=zs.map (·.1)) (fun i ys H2=>Ji H H2∧H2 D=some (.lst ys)∧ys=(JN ((zs.map (·.2)).take i) z).map V.str) rfl (fun i ys H2 p=>JQ.of (p.1 _ _ hl)) ?_ (fun i ys H2 p=>p.2.1) ?_ ?_
  ·exact ⟨Ji.upd hD,Jg,by simp [JN]⟩
  ·rintro i x ys H2 hx ⟨e2,hy,rfl⟩;rw [List.getElem?_map] at hx;obtain ⟨y,hy1,rfl⟩:=Option.map_eq_some_iff.mp hx;obtain ⟨a,ea,ha⟩:=hP y (List.mem_of_getElem? hy1);have ha2:=e2.tup ha;have step:(zs.map (·.2)).take (i + 1)=(zs.map (·.2)).take i ++ [y.2]:=by
    rw [List.take_succ,List.getElem?_map,hy1]; rfl
   have wstep:JN ((zs.map (·.2)).take (i + 1)) z=JN ((zs.map (·.2)).take i) z ++ (if y.2.1=z then [y.2.2] else []):=by
    unfold JN;rw [step,List.filter_append,List.map_append];by_cases h:y.2.1=z
    ·simp [h]
    ·simp [h]
   have wl:(JN ((zs.map (·.2)).take i) z).length≤40:=by
    unfold JN;rw [List.length_map];refine Nat.le_trans (List.length_filter_le _ _) ?_;rw [List.length_take,List.length_map];omega
   refine ⟨_,rfl,a,_,_,.str y.2.1,ea,rfl,ha2,rfl,_,rfl,rfl,_,rfl,?_⟩;by_cases h:y.2.1=z
   ·refine Zw (by rw [h]; exact decide_eq_true rfl) ⟨_,rfl,a,_,_,.str y.2.2,ea,rfl,ha2,rfl,hy,by rw [List.length_map]; exact Nat.lt_of_le_of_lt wl (by decide),fun b' u e=>?_,Jg,?_⟩
    ·rw [Jt (Jw e hD)]; exact e2 b' u e
    ·rw [wstep,if_pos h,List.map_append]; rfl
   ·refine YQ (decide_eq_false (fun e=>h (V.str.inj e))) ⟨e2,hy,?_⟩;rw [wstep,if_neg h,List.append_nil]
  ·rintro ys H2 ⟨e2,hy,rfl⟩;rw [List.length_map] at hy;rw [show zs.length=(zs.map (·.2)).length by simp,List.take_length] at hy;refine ⟨D,_,rfl,.inl ⟨Jz.of hy,fun t n=>?_⟩⟩;exact q1 hin t _ (e2.trans (Ji.upd n)) Jg
theorem Jn8 (T:Txt K mg):JL P w K mg base YR 2 T.Jl9 T.Jkr ["_law_cell", "_law_many"] Jsx:=by
 refine T.Jjt.F.ok Zg (fun vs H Q E h=>?_) (fun cdv A outer s H vs Q E hr h=>?_)
 ·obtain ⟨_,_,rfl,_⟩:=h;rfl
 ·obtain ⟨c,n,rfl,hn1,hn2,q⟩:=h;refine ⟨_,(@Jf _ _ _ _ _ (@JE _ _ 2 _ _ _ _ Zg.nd rfl (Or.inr rfl) (@Jp _ _ _ _) rfl (by first | exact .inl rfl | exact .inr rfl | assumption)) (@Jf _ _ _ _ _ (@Yb _ _ _ (@JE _ _ 3 _ _ _ _ Zg.nd rfl (Or.inl rfl) (@Jo _ _ _ _ _ _ _ _ _ _ _ _ _ _ _ T.Jly (Jn7 T) (hr.mono (by decide)) JG (@Ja _ _ _ _ _ (@Jm _ _ _ _ _ _ _ _ (@Yx _) (@pv _ 0 _ _ rfl (.inl rfl) rfl rfl) (@Je _ _ _ _)) (@Ja _ _ _ _ _ (@Jm _ _ _ _ _ _ _ _ (@Jaz _) (@Je _ _ _ _) (@pv _ 1 _ _ rfl (.inl rfl) rfl rfl)) (@Ja _ _ _ _ _ (@Je _ _ _ _) (@Jd _) rfl) rfl) rfl) rfl (by decide) rfl rfl) rfl (.inl rfl))) (@Jf _ _ _ _ _ (@JE _ _ 4 _ _ _ _ Zg.nd rfl (Or.inl rfl) (@Yv _ _ _ _ (@Jd _)) rfl (.inl rfl)) (@Jf _ _ _ _ _ (@ZN _ _ _ _ _ _ _ _ PassesOwn.never rfl (@Zy _ _ _ _ _ _ rfl T.ZL (@Ja _ _ _ _ _ (@pv _ 1 _ _ rfl (.inl rfl) rfl rfl) (@Jd _) rfl) rfl) (@YC _ _ 5 _ Zg.nd rfl (Or.inl rfl) (.inl rfl)) (@Jf _ _ _ _ _ (@JE _ _ 6 _ _ _ _ Zg.nd rfl (Or.inl rfl) (@Jhf _ _ _ _ _ _ _ _ _ _ (@JlD _) (@pv _ 3 _ _ rfl (.inl rfl) rfl rfl) (@JgG _ _ _ (@Jm _ _ _ _ _ _ _ _ (@Jaz _) (@Je _ _ _ _) (@pv _ 5 _ _ rfl (.inl rfl) rfl rfl))) (@JgG _ _ _ (@Jm _ _ _ _ _ _ _ _ (@Yj _) (@Jm _ _ _ _ _ _ _ _ (@Jaz _) (@Je _ _ _ _) (@pv _ 5 _ _ rfl (.inl rfl) rfl rfl)) (@Je _ _ _ _)))) rfl (.inl rfl)) (@Jf _ _ _ _ _ (@JE _ _ 7 _ _ _ _ Zg.nd rfl (Or.inl rfl) (@Jm _ _ _ _ _ _ _ _ (@Yj _) (@Je _ _ _ _) (@Jm _ _ _ _ _ _ _ _ (@JZ _) (@JD _ _ _ _ _ _ _ (@JU _) (@pv _ 3 _ _ rfl (.inl rfl) rfl rfl) (@Jm _ _ _ _ _ _ _ _ (@Yj _) (@Jm _ _ _ _ _ _ _ _ (@Jaz _) (@Je _ _ _ _) (@pv _ 5 _ _ rfl (.inl rfl) rfl rfl)) (@Je _ _ _ _)) (fun _ _=>rfl)) (@Je _ _ _ _))) rfl (.inl rfl)) (@Jf _ _ _ _ _ (@Yb _ _ _ (@JM _ _ _ _ _ _ _ _ (@Jx _ _ _ _ _ _ _ _ (@YU _) (@Jm _ _ _ _ _ _ _ _ (@JZ _) (@pv _ 0 _ _ rfl (.inl rfl) rfl rfl) (@Je _ _ _ _)) (@Je _ _ _ _) (JH _)) (@Jf _ _ _ _ _ (@JE _ _ 6 _ _ _ _ Zg.nd rfl (Or.inl rfl) (@Jhf _ _ _ _ _ _ _ _ _ _ (@JlD _) (@pv _ 3 _ _ rfl (.inl rfl) rfl rfl) (@JlR _) (@JgG _ _ _ (@Je _ _ _ _))) rfl (.inl rfl)) (@Jf _ _ _ _ _ (@JE _ _ 7 _ _ _ _ Zg.nd rfl (Or.inl rfl) (@Jm _ _ _ _ _ _ _ _ (@Yj _) (@Je _ _ _ _) (@Jm _ _ _ _ _ _ _ _ (@JZ _) (@JD _ _ _ _ _ _ _ (@JU _) (@pv _ 3 _ _ rfl (.inl rfl) rfl rfl) (@Je _ _ _ _) (fun _ _=>rfl)) (@Je _ _ _ _))) rfl (.inl rfl)) (@Jj _ _ _ (@Jre _ _ _ _ _ _ (@Jm _ _ _ _ _ _ _ _ (@JZ _) (@Jm _ _ _ _ _ _ _ _ (@Yj _) (@JD _ _ _ _ _ _ _ (@JU _) (@pv _ 3 _ _ rfl (.inl rfl) rfl rfl) (@Je _ _ _ _) (fun _ _=>rfl)) (@Jm _ _ _ _ _ _ _ _ (@Jaz _) (@Je _ _ _ _) (@pv _ 5 _ _ rfl (.inl rfl) rfl rfl))) (@Je _ _ _ _)) (@JvD _ _ _ _ _ _ _ (@pv _ 6 _ _ rfl (.inl rfl) rfl rfl) (@Jm _ _ _ _ _ _ _ _ (@JZ _) (@JD _ _ _ _ _ _ _ (@JU _) (@pv _ 3 _ _ rfl (.inl rfl) rfl rfl) (@Je _ _ _ _) (fun _ _=>rfl)) (@pv _ 7 _ _ rfl (.inl rfl) rfl rfl)) (@JsH _) (by intro _; rfl)) rfl rfl rfl)))) (@Jy _))) (@Jf _ _ _ _ _ (@Yb _ _ _ (@JM _ _ _ _ _ _ _ _ (@Jx _ _ _ _ _ _ _ _ (@YU _) (@Jm _ _ _ _ _ _ _ _ (@JZ _) (@pv _ 0 _ _ rfl (.inl rfl) rfl rfl) (@Je _ _ _ _)) (@Je _ _ _ _) (JH _)) (@Jf _ _ _ _ _ (@JE _ _ 6 _ _ _ _ Zg.nd rfl (Or.inl rfl) (@Jm _ _ _ _ _ _ _ _ (@JvG _) (@Yv _ _ _ _ (@Ja _ _ _ _ _ (@Jm _ _ _ _ _ _ _ _ (@JZ _) (@Jm _ _ _ _ _ _ _ _ (@Yj _) (@JD _ _ _ _ _ _ _ (@JU _) (@pv _ 3 _ _ rfl (.inl rfl) rfl rfl) (@Je _ _ _ _) (fun _ _=>rfl)) (@Jm _ _ _ _ _ _ _ _ (@Yx _) (@pv _ 5 _ _ rfl (.inl rfl) rfl rfl) (@Je _ _ _ _))) (@Je _ _ _ _)) (@Jd _) rfl)) (@Je _ _ _ _)) rfl (.inl rfl)) (@Jj _ _ _ (@JE _ _ 7 _ _ _ _ Zg.nd rfl (Or.inl rfl) (@Jm _ _ _ _ _ _ _ _ (@Yj _) (@Je _ _ _ _) (@Jm _ _ _ _ _ _ _ _ (@JZ _) (@Jm _ _ _ _ _ _ _ _ (@Yj _) (@pv _ 5 _ _ rfl (.inl rfl) rfl rfl) (@JD _ _ _ _ _ _ _ (@JU _) (@pv _ 3 _ _ rfl (.inl rfl) rfl rfl) (@Je _ _ _ _) (fun _ _=>rfl))) (@Je _ _ _ _))) rfl (.inl rfl)))) (@Jy _))) (@Jf _ _ _ _ _ (@Yb _ _ _ (@JE _ _ 8 _ _ _ _ Zg.nd rfl (Or.inl rfl) (@Jc8 _ _ _ _ _ _ _ _ _ _ _ _ PySem.F.plainAttrs_str PySem.F.slot_str_join PySem.F.type_str_join (@JuF _) (@Jp _ _ _ _) (@Ja _ _ _ _ _ (@Jhg _ _ _ _ _ _ _ 1 ["_law_x", "_law_letters"] [2] _ _ _ _ ["_law_cell", "_law_many", "_law_letters", "_law_free", "_law_found", "_law_k", "_law_places", "_law_size", "_law_head", "_law_more", "_law_name"] ((Jl Jji).names) (by decide +kernel) (@JbR _ _ _ _ (@Jhf _ _ _ _ _ _ _ _ _ _ (@JlD _) (@pv _ 6 _ _ rfl (.inl rfl) rfl rfl) (@JlR _) (@JgG _ _ _ (@Jm _ _ _ _ _ _ _ _ (@Jay _) (@pv _ 7 _ _ rfl (.inl rfl) rfl rfl) (@Je _ _ _ _))))) (fun _ _ _ _=>(@Jah _ _ _ _ _ _ _ _ _ 0 (by decide +kernel) rfl rfl)) (fun _ _ _ _=>(@JcS _)) (fun _ _ _ _=>(@JD _ _ _ _ _ _ _ (@Jk9 _) (@JaW _ _ _ _ _ _ _ _ _ 1 rfl rfl (by decide) (by decide)) (@ZE _ _ _ _ _ _ _ _ _ 0 rfl rfl (by decide) (by decide)) (fun _ _=>rfl))) rfl rfl rfl (by intro _; rfl)) (@Jd _) rfl) rfl rfl rfl rfl rfl) rfl (.inl rfl))) (@Jj _ _ _ (@ZN _ _ _ _ _ _ _ _ PassesOwn.never rfl (@Zy _ _ _ _ _ _ rfl T.ZL (@Ja _ _ _ _ _ (@Je _ _ _ _) (@Jd _) rfl) rfl) (@YC _ _ 9 _ Zg.nd rfl (Or.inl rfl) (.inl rfl)) (@Jf _ _ _ _ _ (@JE _ _ 10 _ _ _ _ Zg.nd rfl (Or.inl rfl) (@Jm _ _ _ _ _ _ _ _ (@Jhi _) (@pv _ 8 _ _ rfl (.inl rfl) rfl rfl) (@JD _ _ _ _ _ _ _ (@Jk9 _) (@pv _ 2 _ _ rfl (.inr (.inl rfl)) rfl rfl) (@Jm _ _ _ _ _ _ _ _ (@JZ _) (@Jm _ _ _ _ _ _ _ _ (@Yj _) (@JD _ _ _ _ _ _ _ (@JU _) (@pv _ 6 _ _ rfl (.inl rfl) rfl rfl) (@Jm _ _ _ _ _ _ _ _ (@Jay _) (@pv _ 7 _ _ rfl (.inl rfl) rfl rfl) (@Je _ _ _ _)) (fun _ _=>rfl)) (@pv _ 9 _ _ rfl (.inl rfl) rfl rfl)) (@Je _ _ _ _)) (fun _ _=>rfl))) rfl (.inl rfl)) (@Jj _ _ _ (@JM _ _ _ _ _ _ _ _ (@Jx _ _ _ _ _ _ _ _ (@Jcb _) (@pv _ 10 _ _ rfl (.inl rfl) rfl rfl) (@pv _ 4 _ _ rfl (.inl rfl) rfl rfl) (by with_unfolding_all rfl)) (@Jf _ _ _ _ _ (@J7 _ _ _ _ (@Jc8 _ _ _ _ _ _ _ _ _ _ _ _ PySem.F.plainAttrs_list PySem.F.slot_list_append PySem.F.type_list_append (@ZJ _) (@pv _ 4 _ _ rfl (.inl rfl) rfl rfl) (@Ja _ _ _ _ _ (@pv _ 10 _ _ rfl (.inl rfl) rfl rfl) (@Jd _) rfl) rfl rfl rfl rfl rfl) rfl) (@Jj _ _ _ (@JsV _ _))) (@Jy _)))) (by intro _; rfl)))))))) (by intro _; rfl)) (@Jj _ _ _ (@Jq _ _ _ _ (@pv _ 4 _ _ rfl (.inl rfl) rfl rfl))))))),?_⟩
  try dsimp only [cxK,Ji0]
  refine ⟨fun σ1 H1=>∃ (pf:Addr) (fs:List Int),Ji H H1∧H1 pf=some (.lst (fs.map V.int))∧fs.length=7 * n∧(∀ x∈fs,0≤x∧x < 26)∧σ1=[some (.int c),some (.int n),some (.str LT),some (.ref pf),none,none,none,none,none,none,none],
   ⟨_,rfl,_,_,rfl,rfl,⟨by decide,by decide⟩,_,rfl,_,_,rfl,rfl,.inl ⟨by decide,by decide⟩,c / 4,7 * n,26,congrArg (fun z=>[V.int (c / 4),V.int z,V.int 26]) (by omega:7 * (n:Int)=((7 * n:Nat):Int)),by omega,by decide,by decide,fun pf fs H1 h1 e1 h2 h3 h4=>⟨pf,fs,e1,h2,h3,h4,rfl⟩⟩,?_⟩
  rintro σ1 H1 ⟨pf,fs,e1,hf,hfl,hfr,rfl⟩;refine ⟨by show 0≤sizeLine; decide,fun pl hpl=>?_⟩;have npl:H pl=none:=by
   cases hd:H pl with
   | none=>rfl
   | some u=>rw [e1 _ _ hd] at hpl; cases hpl
  have sl:=hfl;refine ⟨_,rfl,(n:Int),rfl,by omega,by omega,?_⟩;refine Z7 (n:=n) (fun i σ H2=>∃ (ss:List Str) (v5 v6 v7 v8 v9 v10:Option V),Ji H1 H2∧H2 pl=some (.lst (ss.map V.str))∧ss.length=i∧(∀ s∈ss,J1 s=true)∧ss.Nodup∧σ=[some (.int c),some (.int n),some (.str LT),some (.ref pf),some (.ref pl),v5,v6,v7,v8,v9,v10])
   ⟨[],none,none,none,none,none,none,Ji.upd hpl,Jg,rfl,(fun s hs=>nomatch hs),List.nodup_nil,rfl⟩ ?_ ?_
  ·rintro i σ H2 hi ⟨ss,v5,v6,v7,v8,v9,v10,e2,hs2,hsl,hsg,hsn,rfl⟩;have hf2:=Jz.of (K:=K) (e2 _ _ hf);have at_:∀ {H':Hp} {e:Int},Ji H2 H'→0≤e→e < 7 * n→∃ y,(0≤y∧y < 26)∧Z8 (fs.map V.int) e=some (.int y):=fun {H' e} _ h0 h1=>by
    obtain ⟨y,h2,h3⟩:=JeD (xs:=fs) (e:=e) h0 (by omega);exact ⟨y,hfr y h3,h2⟩
   refine ⟨_,rfl,_,rfl,_,_,rfl,rfl,.inl ⟨by decide,by decide⟩,_,rfl,_,rfl,_,_,rfl,rfl,.inl ⟨by decide,by decide⟩,_,_,rfl,rfl,_,rfl,pf,_,rfl,hf2,fun p1 n1=>?_⟩;obtain ⟨ys1,ey1,my1⟩:=JoC (xs:=fs) (lo:=some (7 * (0 + (i:Int)))) (hi:=some (7 * (0 + (i:Int)) + 6));have ly1:ys1.length=6:=by
    have z:=congrArg List.length ey1;rw [List.length_map] at z;rw [← z];unfold Jal;rw [List.length_map];have a1:HT.YA fs.length 0 (some (7 * (0 + (i:Int))))=7 * i:=by
     rw [show (7 * (0 + (i:Int)))=((7 * i:Nat):Int) by omega,HT.Jpq];omega
    have a2:HT.YA fs.length fs.length (some (7 * (0 + (i:Int)) + 6))=7 * i + 6:=by
     rw [show (7 * (0 + (i:Int)) + 6)=((7 * i + 6:Nat):Int) by omega,HT.Jpq];omega
    rw [a1,a2,List.length_take,List.length_drop,List.length_map];omega
   have e3:=Ji.upd (o:=.lst (Jal (fs.map V.int) (some (7 * (0 + (i:Int)))) (some (7 * (0 + (i:Int)) + 6)))) n1;have h3:upd H2 p1 (.lst (Jal (fs.map V.int) (some (7 * (0 + (i:Int)))) (some (7 * (0 + (i:Int)) + 6)))) p1=some (.lst (ys1.map V.int)):=by rw [Jg,ey1]
   generalize upd H2 p1 (.lst (Jal (fs.map V.int) (some (7 * (0 + (i:Int)))) (some (7 * (0 + (i:Int)) + 6))))=H3 at e3 h3;obtain ⟨y1,yr1,ya1⟩:=at_ e3 (e:=7 * (0 + (i:Int)) + 6) (by omega) (by omega);refine ⟨_,rfl,_,rfl,_,_,rfl,rfl,.inl ⟨by decide,by decide⟩,_,_,rfl,rfl,pf,_,_,.int y1,rfl,rfl,e3.seq hf2,ya1,_,_,rfl,rfl,(by show (0:Int) < 6; decide),_,_,rfl,rfl,?_⟩;refine ⟨fun σ1 H4=>∃ (pp:Addr) (xs:List Int) (sz:Int),Ji H2 H4∧H4 pp=some (.lst (xs.map V.int))∧xs.length=6∧(∀ x∈xs,0≤x∧x < 26)∧1≤sz∧sz≤6∧σ1=[some (.int c),some (.int n),some (.str LT),some (.ref pf),some (.ref pl),some (.int (0 + (i:Int))),some (.ref pp),some (.int sz),v8,v9,v10],?_,?_⟩
   ·refine ⟨_,rfl,_,_,rfl,rfl,(by show (0:Int) < 4; decide),rfl,_,rfl,YM (fun _=>?_) (fun _=>?_)⟩
    ·refine ⟨_,rfl,_,rfl,pf,_,rfl,e3.seq hf2,fun p4 n4=>?_⟩;obtain ⟨ys2,ey2,my2⟩:=JoC (xs:=fs) (lo:=none) (hi:=some 6);have ly2:ys2.length=6:=by
      have z:=congrArg List.length ey2;rw [List.length_map] at z;have z2:=JpI (xs:=fs) (k:=6) (by decide) (by omega);omega
     have n42:H2 p4=none:=by
      cases hd:H2 p4 with
      | none=>rfl
      | some u=>rw [e3 _ _ hd] at n4; cases n4
     have e4:=e3.trans (Ji.upd (o:=.lst (Jal (fs.map V.int) none (some 6))) n4);obtain ⟨y6,yr6,ya6⟩:=at_ e4 (e:=6) (by omega) (by omega);refine ⟨_,rfl,pf,_,_,.int y6,rfl,rfl,e4.seq hf2,ya6,_,_,rfl,rfl,(by show (0:Int) < 6; decide),_,_,rfl,rfl,?_⟩;obtain ⟨y0,yr0,ya0⟩:=at_ e4 (e:=0) (by omega) (by omega);obtain ⟨yo,yro,yao⟩:=at_ e4 (e:=1) (by omega) (by omega);have hsz1:1≤1 + y6 % 6∧1 + y6 % 6≤6:=by omega
     refine ⟨_,rfl,pf,_,_,.int yo,rfl,rfl,e4.seq hf2,yao,_,rfl,_,_,rfl,rfl,.inl ⟨by decide,by decide⟩,_,_,rfl,rfl,_,_,rfl,rfl,(by show (0:Int) < 26; decide),?_⟩;have hj0:=Int.emod_nonneg y0 (b:=1 + y6 % 6) (by omega);have hj1:=Int.emod_lt_of_pos y0 (b:=1 + y6 % 6) (by omega);refine ⟨_,rfl,_,rfl,pf,_,_,.int y0,rfl,rfl,e4.seq hf2,ya0,_,rfl,_,_,rfl,rfl,(by show (0:Int) < 1 + y6 % 6; omega),p4,_,_,(y0 % (1 + y6 % 6)).toNat,rfl,rfl,Jg,?_,?_⟩
     ·rw [ey2,List.length_map,ly2];unfold ixN;rw [if_pos hj0,if_pos (by omega)]
     ·refine ⟨p4,ys2.set (y0 % (1 + y6 % 6)).toNat ((yo + 5 * (0 + (i:Int))) % 26),1 + y6 % 6,fun b u e=>?_,?_,by rw [List.length_set]; exact ly2,fun x hx=>?_,hsz1.1,hsz1.2,rfl⟩
      ·rw [Jt (Jw e n42)]; exact e4 b u e
      ·rw [Jg,ey2,List.map_set]
      ·rcases List.mem_or_eq_of_mem_set hx with w | w
       ·exact hfr x (my2 x w)
       ·rw [w]; omega
    ·exact ⟨p1,ys1,1 + y1 % 6,e3,h3,ly1,fun x hx=>hfr x (my1 x hx),by omega,by omega,rfl⟩
   rintro σ1 H4 ⟨pp,xs,sz,e4,hx4,lx4,rx4,s41,s42,rfl⟩;refine ⟨fun σ1 H4=>∃ (pp:Addr) (xs:List Int) (sz:Int),Ji H2 H4∧H4 pp=some (.lst (xs.map V.int))∧xs.length=6∧(∀ x∈xs,0≤x∧x < 26)∧1≤sz∧sz≤6∧σ1=[some (.int c),some (.int n),some (.str LT),some (.ref pf),some (.ref pl),some (.int (0 + (i:Int))),some (.ref pp),some (.int sz),v8,v9,v10],?_,?_⟩
   ·refine ⟨_,rfl,_,_,rfl,rfl,(by show (0:Int) < 4; decide),rfl,_,rfl,YM (fun _=>?_) (fun _=>⟨pp,xs,sz,e4,hx4,lx4,rx4,s41,s42,rfl⟩)⟩;obtain ⟨yo,yro,yao⟩:=at_ e4 (e:=1) (by omega) (by omega);refine ⟨_,rfl,pf,_,_,.int yo,rfl,rfl,e4.seq hf2,yao,_,rfl,_,_,rfl,rfl,⟨by decide,by decide⟩,_,_,rfl,rfl,_,_,rfl,rfl,(by show (0:Int) < 26; decide),by show 1≤sizeLine; decide,fun p5 n5=>?_⟩;have e5:=e4.trans (Ji.upd (o:=.lst [.int ((yo + (0 + (i:Int)) / 6) % 26)]) n5);refine ⟨p5,6,_,rfl,rfl,Jg,by decide,by decide,by show 1 * 6≤sizeLine; decide,fun p6 n6=>?_⟩;have e6:=e5.trans (Ji.upd (o:=.lst (List.replicate (6:Int).toNat [V.int ((yo + (0 + (i:Int)) / 6) % 26)]).flatten) n6);obtain ⟨y0,yr0,ya0⟩:=at_ e6 (e:=0) (by omega) (by omega);refine ⟨_,rfl,_,rfl,pf,_,_,.int y0,rfl,rfl,e6.seq hf2,ya0,_,_,rfl,rfl,_,_,rfl,rfl,(by show (0:Int) < 6; decide),_,_,rfl,rfl,?_⟩;refine ⟨p6,List.replicate 6 ((yo + (0 + (i:Int)) / 6) % 26),_,e6,?_,by simp,fun x hx=>?_,?_,?_,rfl⟩
    ·rw [Jg]; rfl
    ·rw [(List.mem_replicate.mp hx).2]; omega
    ·omega
    ·omega
   clear hx4 lx4 rx4 s41 s42 e4 pp xs sz H4 e3 h3 H3 ya1 yr1 y1 ly1 my1 ey1 ys1;rintro σ1 H4 ⟨pp,xs,sz,e4,hx4,lx4,rx4,s41,s42,rfl⟩;refine ⟨fun σ1 H5=>∃ hd:Str,Ji H2 H5∧H5 pp=some (.lst (xs.map V.int))∧hd.length≤5∧(∀ c∈hd.cps.toList,Z0 c=true)∧σ1=[some (.int c),some (.int n),some (.str LT),some (.ref pf),some (.ref pl),some (.int (0 + (i:Int))),some (.ref pp),some (.int sz),some (.str hd),v9,v10],?_,?_⟩
   ·refine ⟨rfl,_,rfl,_,rfl,_,_,rfl,rfl,_,rfl,pp,_,rfl,Jz.of hx4,fun p5 n5=>⟨p5,rfl,⟨_,Jz.of Jg⟩,fun D hD=>?_⟩⟩;have e5:=Ji.upd (o:=.lst (Jal (xs.map V.int) none (some (sz - 1)))) n5;have hcl:=JpI (xs:=xs) (k:=sz - 1) (by omega) (by omega);refine JmI (xs:=Jal (xs.map V.int) none (some (sz - 1))) (fun _ v=>∃ c,v=.str ⟨#[c]⟩∧Z0 c=true) rfl (Jz.of Jg) hD (by have:sizeLine=16777216:=sizeLine_eq; omega) (fun i x H6 hx6 e6 Q' hQ=>?_) (fun ys H6 e6 hD6 hl6 hF=>?_)
    ·obtain ⟨j,hj,rfl⟩:=List.mem_map.mp (JuH (List.mem_of_getElem? hx6));obtain ⟨hj0,hj1⟩:=rx4 j hj;exact ⟨_,rfl,_,rfl,_,_,_,rfl,rfl,Jsl,Jmy hj0 hj1,hQ _ ⟨_,rfl,JnF (by omega)⟩⟩
    ·obtain ⟨zs,rfl,hz⟩:∃ zs:List Str,ys=zs.map V.str∧∀ y∈zs,∃ c,y=⟨#[c]⟩∧Z0 c=true:=by
      clear hD6 hl6
      induction ys with
      | nil=>exact ⟨[],rfl,fun u hu=>nomatch hu⟩
      | cons v r ih =>
       obtain ⟨zs,rfl,hz⟩:=ih fun i v' e=>hF (i + 1) v' (by simpa using e)
       obtain ⟨d,rfl,hu⟩:=hF 0 v rfl;refine ⟨⟨#[d]⟩ :: zs,rfl,fun u' h'=>?_⟩;rcases List.mem_cons.mp h' with rfl | h'
       ·exact ⟨d,rfl,hu⟩
       ·exact hz u' h'
     rw [List.length_map] at hl6;obtain ⟨j1,j2⟩:=Jk8 hz;have ej:Txt.join Str.empty zs=Str.join Str.empty zs:=StrLaws.glued_eq_join _ _;have hsum:(zs.map (·.length)).sum=zs.length:=PyProof.Rows.sumLen_of_ones zs fun u hu=>by
      obtain ⟨d,rfl,_⟩:=hz u hu;rfl
     refine ⟨_,D,zs,rfl,rfl,Jz.of hD6,by show _ + zs.length * 0≤_; omega,Txt.join Str.empty zs,(e4.trans e5).trans e6,e6 _ _ (e5 _ _ hx4),?_,?_,rfl⟩
     ·rw [ej,j1]; omega
     ·rw [ej]; exact j2
   rintro σ1 H5 ⟨hd,e5,hx5,hd1,hd2,rfl⟩;obtain ⟨x,hxa,hxm⟩:=JeD (xs:=xs) (e:=sz - 1) (by omega) (by omega);have hs5:=e5 _ _ hs2;refine ⟨26,rfl,by decide,by decide,Z7 (n:=26) (fun j σ H6=>H6=H5∧(∀ m:Nat,m < j→nam hd ((x + m) % 26).toNat∈ss)∧∃ v9 v10,σ=[some (.int c),some (.int n),some (.str LT),some (.ref pf),some (.ref pl),some (.int (0 + (i:Int))),some (.ref pp),some (.int sz),some (.str hd),v9,v10]) ⟨rfl,fun m hm=>absurd hm (Nat.not_lt_zero _),_,_,rfl⟩ ?_ ?_⟩
   ·rintro j σ H6 hj ⟨rfl,hin,v9,v10,rfl⟩;have m0:=Int.emod_nonneg (x + (0 + (j:Int))) (b:=26) (by decide);have m1:=Int.emod_lt_of_pos (x + (0 + (j:Int))) (b:=26) (by decide);have en:(x + (0 + (j:Int))) % 26=(x + (j:Nat)) % 26:=by rw [Int.zero_add]
    refine ⟨_,rfl,_,rfl,_,rfl,_,rfl,_,_,rfl,rfl,pp,_,_,.int x,rfl,rfl,Jz.of hx5,hxa,_,rfl,_,_,rfl,rfl,_,_,rfl,rfl,(by show (0:Int) < 26; decide),_,_,_,rfl,rfl,Jsl,Jmy m0 m1,_,_,rfl,rfl,?_,?_⟩
    ·show hd.length + 1≤sizeLine;have:sizeLine=16777216:=sizeLine_eq;omega
    ·refine ⟨_,rfl,_,rfl,pl,_,rfl,.inl (Jz.of hs5),rfl,Jaq ss,_,rfl,?_⟩;rw [if_pos rfl,Ja2];show if (!decide (nam hd ((x + (0 + (j:Int))) % 26).toNat∈ss))=true then _ else _;rw [en];by_cases hmem:nam hd ((x + (j:Nat)) % 26).toNat∈ss
     ·refine YQ (by rw [decide_eq_true hmem]; rfl) ⟨rfl,fun m hm=>?_,_,_,rfl⟩;by_cases hmj:m=j
      ·rw [hmj]; exact hmem
      ·exact hin m (by omega)
     ·refine Zw (by rw [decide_eq_false hmem]; rfl) ?_;refine ⟨_,rfl,.inl ⟨rfl,_,Jz.of hs5⟩,_,rfl,pl,_,_,rfl,rfl,hs5,by rw [List.length_map]; have:sizeLine=16777216:=sizeLine_eq; omega,?_⟩;refine ⟨ss ++ [nam hd ((x + (j:Nat)) % 26).toNat],_,_,_,_,_,_,fun b u e=>?_,?_,by simp [hsl],fun s hs=>?_,?_,rfl⟩
      ·rw [Jt (Jw e hpl)]; exact e5 b u (e2 b u e)
      ·rw [Jg,List.map_append];rfl
      ·rcases List.mem_append.mp hs with w | w
       ·exact hsg s w
       ·rw [List.mem_singleton.mp w];exact Jtc hd1 hd2 (by rw [en] at m0 m1; omega)
      ·rw [List.nodup_append];refine ⟨hsn,by simp,fun a ha b hb e=>?_⟩;rw [List.mem_singleton] at hb;subst hb e;exact hmem ha
   ·rintro σ H6 ⟨rfl,hin,_⟩;exact (Jtd (x:=x) (ss:=ss) (by omega) fun m hm=>hin m hm).elim
  ·rintro σ H2 ⟨ss,v5,v6,v7,v8,v9,v10,e2,hs2,hsl,hsg,hsn,rfl⟩;exact ⟨_,rfl,q pl ss H2 npl (e1.trans e2) hs2 hsl hsg hsn⟩
theorem Js5 (T:Txt K mg):JL P w K mg base YR 2 T.Jl7 T.Jkp ["_law_cell", "_law_draw", "_law_size"] (Jsu K):=by
 refine T.Jml.F.ok ZM (fun vs H Q E h=>?_) (fun cdv A outer s H vs Q E hr h=>?_)
 ·obtain ⟨_,_,_,rfl,_⟩:=h;rfl
 ·obtain ⟨c,d,n,rfl,hn1,hn2,q⟩:=h;have hu:=Jf3 hr;have szl:sizeLine=16777216:=sizeLine_eq;refine ⟨_,(@Jf _ _ _ _ _ (@JE _ _ 3 _ _ _ _ ZM.nd rfl (Or.inl rfl) (@Yv _ _ _ _ (@Jd _)) rfl (.inl rfl)) (@Jf _ _ _ _ _ (@JE _ _ 4 _ _ _ _ ZM.nd rfl (Or.inl rfl) (@Jm _ _ _ _ _ _ _ _ (@JZ _) (@Jm _ _ _ _ _ _ _ _ (@Yx _) (@pv _ 0 _ _ rfl (.inl rfl) rfl rfl) (@Je _ _ _ _)) (@Je _ _ _ _)) rfl (.inl rfl)) (@Jf _ _ _ _ _ (@Yb _ _ _ (@JM _ _ _ _ _ _ _ _ (@Jx _ _ _ _ _ _ _ _ (@YU _) (@Jm _ _ _ _ _ _ _ _ (@JZ _) (@pv _ 0 _ _ rfl (.inl rfl) rfl rfl) (@Je _ _ _ _)) (@Je _ _ _ _) (JH _)) (@Jj _ _ _ (@ZN _ _ _ _ _ _ _ _ PassesOwn.never rfl (@Zy _ _ _ _ _ _ rfl T.ZL (@Ja _ _ _ _ _ (@Jm _ _ _ _ _ _ _ _ (@Jay _) (@pv _ 2 _ _ rfl (.inl rfl) rfl rfl) (@Je _ _ _ _)) (@Jd _) rfl) rfl) (@YC _ _ 5 _ ZM.nd rfl (Or.inl rfl) (.inl rfl)) (@Jf _ _ _ _ _ (@J7 _ _ _ _ (@Jc8 _ _ _ _ _ _ _ _ _ _ _ _ PySem.F.plainAttrs_list PySem.F.slot_list_append PySem.F.type_list_append (@ZJ _) (@pv _ 3 _ _ rfl (.inl rfl) rfl rfl) (@Ja _ _ _ _ _ (@YX _ _ _ _ _ (@Ja _ _ _ _ _ (@pv _ 5 _ _ rfl (.inl rfl) rfl rfl) (@Ja _ _ _ _ _ (@Jm _ _ _ _ _ _ _ _ (@Yj _) (@pv _ 5 _ _ rfl (.inl rfl) rfl rfl) (@Je _ _ _ _)) (@Jd _) rfl) rfl)) (@Jd _) rfl) rfl rfl rfl rfl rfl) rfl) (@Jj _ _ _ (@J7 _ _ _ _ (@Jc8 _ _ _ _ _ _ _ _ _ _ _ _ PySem.F.plainAttrs_list PySem.F.slot_list_append PySem.F.type_list_append (@ZJ _) (@pv _ 3 _ _ rfl (.inl rfl) rfl rfl) (@Ja _ _ _ _ _ (@YX _ _ _ _ _ (@Ja _ _ _ _ _ (@pv _ 5 _ _ rfl (.inl rfl) rfl rfl) (@Ja _ _ _ _ _ (@JA _ _ _ _ _ _ _ _ _ (@Jf6 _ rfl) rfl T.Jjm PyProof.Rows.boot_max (@Ja _ _ _ _ _ (@Je _ _ _ _) (@Ja _ _ _ _ _ (@Jm _ _ _ _ _ _ _ _ (@Jay _) (@pv _ 5 _ _ rfl (.inl rfl) rfl rfl) (@Je _ _ _ _)) (@Jd _) rfl) rfl) (by decide) (by decide) rfl rfl) (@Jd _) rfl) rfl)) (@Jd _) rfl) rfl rfl rfl rfl rfl) rfl))) (by intro _; rfl))) (@Jy _))) (@Jf _ _ _ _ _ (@Yb _ _ _ (@JM _ _ _ _ _ _ _ _ (@Jx _ _ _ _ _ _ _ _ (@YU _) (@Jm _ _ _ _ _ _ _ _ (@JZ _) (@pv _ 0 _ _ rfl (.inl rfl) rfl rfl) (@Je _ _ _ _)) (@Je _ _ _ _) (JH _)) (@Jj _ _ _ (@ZN _ _ _ _ _ _ _ _ PassesOwn.never rfl (@Jrh _ _ _ _ _ _ _ rfl T.ZL (@Ja _ _ _ _ _ (@Je _ _ _ _) (@Ja _ _ _ _ _ (@Jm _ _ _ _ _ _ _ _ (@Jay _) (@pv _ 2 _ _ rfl (.inl rfl) rfl rfl) (@Je _ _ _ _)) (@Jd _) rfl) rfl) rfl rfl) (@YC _ _ 5 _ ZM.nd rfl (Or.inl rfl) (.inl rfl)) (@Jf _ _ _ _ _ (@J7 _ _ _ _ (@Jc8 _ _ _ _ _ _ _ _ _ _ _ _ PySem.F.plainAttrs_list PySem.F.slot_list_append PySem.F.type_list_append (@ZJ _) (@pv _ 3 _ _ rfl (.inl rfl) rfl rfl) (@Ja _ _ _ _ _ (@YX _ _ _ _ _ (@Ja _ _ _ _ _ (@pv _ 5 _ _ rfl (.inl rfl) rfl rfl) (@Ja _ _ _ _ _ (@Jm _ _ _ _ _ _ _ _ (@Yj _) (@pv _ 5 _ _ rfl (.inl rfl) rfl rfl) (@Je _ _ _ _)) (@Jd _) rfl) rfl)) (@Jd _) rfl) rfl rfl rfl rfl rfl) rfl) (@Jj _ _ _ (@J7 _ _ _ _ (@Jc8 _ _ _ _ _ _ _ _ _ _ _ _ PySem.F.plainAttrs_list PySem.F.slot_list_append PySem.F.type_list_append (@ZJ _) (@pv _ 3 _ _ rfl (.inl rfl) rfl rfl) (@Ja _ _ _ _ _ (@YX _ _ _ _ _ (@Ja _ _ _ _ _ (@pv _ 5 _ _ rfl (.inl rfl) rfl rfl) (@Ja _ _ _ _ _ (@Je _ _ _ _) (@Jd _) rfl) rfl)) (@Jd _) rfl) rfl rfl rfl rfl rfl) rfl))) (by intro _; rfl))) (@Jy _))) (@Jf _ _ _ _ _ (@Yb _ _ _ (@JM _ _ _ _ _ _ _ _ (@Jx _ _ _ _ _ _ _ _ (@YU _) (@Jm _ _ _ _ _ _ _ _ (@JZ _) (@pv _ 0 _ _ rfl (.inl rfl) rfl rfl) (@Je _ _ _ _)) (@Je _ _ _ _) (JH _)) (@Jj _ _ _ (@JE _ _ 4 _ _ _ _ ZM.nd rfl (Or.inl rfl) (@Jm _ _ _ _ _ _ _ _ (@Jaz _) (@Je _ _ _ _) (@JA _ _ _ _ _ _ _ _ _ (@Jf6 _ rfl) rfl T.Jjm PyProof.Rows.boot_max (@Ja _ _ _ _ _ (@Je _ _ _ _) (@Ja _ _ _ _ _ (@Jm _ _ _ _ _ _ _ _ (@Jay _) (@pv _ 2 _ _ rfl (.inl rfl) rfl rfl) (@Je _ _ _ _)) (@Jd _) rfl) rfl) (by decide) (by decide) rfl rfl)) rfl (.inl rfl))) (@Jy _))) (@Jf _ _ _ _ _ (@Yb _ _ _ (@JM _ _ _ _ _ _ _ _ (@Jx _ _ _ _ _ _ _ _ (@YU _) (@Jm _ _ _ _ _ _ _ _ (@JZ _) (@pv _ 0 _ _ rfl (.inl rfl) rfl rfl) (@Je _ _ _ _)) (@Je _ _ _ _) (JH _)) (@Jj _ _ _ (@JE _ _ 4 _ _ _ _ ZM.nd rfl (Or.inl rfl) (@Jm _ _ _ _ _ _ _ _ (@JZ _) (@Jm _ _ _ _ _ _ _ _ (@Yj _) (@Jm _ _ _ _ _ _ _ _ (@Yx _) (@pv _ 0 _ _ rfl (.inl rfl) rfl rfl) (@Je _ _ _ _)) (@Je _ _ _ _)) (@Je _ _ _ _)) rfl (.inl rfl))) (@Jy _))) (@Jf _ _ _ _ _ (@Yb _ _ _ (@JE _ _ 6 _ _ _ _ ZM.nd rfl (Or.inl rfl) (@Jo _ _ _ _ _ _ _ _ _ _ _ _ _ _ _ T.Jly (Jn7 T) (hr.mono (by decide)) JG (@Ja _ _ _ _ _ (@pv _ 1 _ _ rfl (.inl rfl) rfl rfl) (@Ja _ _ _ _ _ (@Jm _ _ _ _ _ _ _ _ (@Jaz _) (@Je _ _ _ _) (@pv _ 4 _ _ rfl (.inl rfl) rfl rfl)) (@Ja _ _ _ _ _ (@pv _ 2 _ _ rfl (.inl rfl) rfl rfl) (@Jd _) rfl) rfl) rfl) rfl (by decide) rfl rfl) rfl (.inl rfl))) (@Jf _ _ _ _ _ (@ZN _ _ _ _ _ _ _ _ PassesOwn.never rfl (@Zy _ _ _ _ _ _ rfl T.ZL (@Ja _ _ _ _ _ (@pv _ 4 _ _ rfl (.inl rfl) rfl rfl) (@Jd _) rfl) rfl) (@YC _ _ 5 _ ZM.nd rfl (Or.inl rfl) (.inl rfl)) (@Jf _ _ _ _ _ (@JE _ _ 7 _ _ _ _ ZM.nd rfl (Or.inl rfl) (@YX _ _ _ _ _ (@Ja _ _ _ _ _ (@JD _ _ _ _ _ _ _ (@JU _) (@pv _ 6 _ _ rfl (.inl rfl) rfl rfl) (@Jm _ _ _ _ _ _ _ _ (@Jaz _) (@Je _ _ _ _) (@pv _ 5 _ _ rfl (.inl rfl) rfl rfl)) (fun _ _=>rfl)) (@Ja _ _ _ _ _ (@JD _ _ _ _ _ _ _ (@JU _) (@pv _ 6 _ _ rfl (.inl rfl) rfl rfl) (@Jm _ _ _ _ _ _ _ _ (@Yj _) (@Jm _ _ _ _ _ _ _ _ (@Jaz _) (@Je _ _ _ _) (@pv _ 5 _ _ rfl (.inl rfl) rfl rfl)) (@Je _ _ _ _)) (fun _ _=>rfl)) (@Jd _) rfl) rfl)) rfl (.inl rfl)) (@Jf _ _ _ _ _ (@Yb _ _ _ (@JM _ _ _ _ _ _ _ _ (@Jx _ _ _ _ _ _ _ _ (@YU _) (@Jm _ _ _ _ _ _ _ _ (@JZ _) (@pv _ 0 _ _ rfl (.inl rfl) rfl rfl) (@Je _ _ _ _)) (@Je _ _ _ _) (JH _)) (@Jj _ _ _ (@JE _ _ 7 _ _ _ _ ZM.nd rfl (Or.inl rfl) (@YX _ _ _ _ _ (@Ja _ _ _ _ _ (@Jm _ _ _ _ _ _ _ _ (@Yj _) (@Je _ _ _ _) (@Jm _ _ _ _ _ _ _ _ (@Yx _) (@pv _ 5 _ _ rfl (.inl rfl) rfl rfl) (@Je _ _ _ _))) (@Ja _ _ _ _ _ (@JD _ _ _ _ _ _ _ (@JU _) (@pv _ 6 _ _ rfl (.inl rfl) rfl rfl) (@pv _ 5 _ _ rfl (.inl rfl) rfl rfl) (fun _ _=>rfl)) (@Jd _) rfl) rfl)) rfl (.inl rfl))) (@Jy _))) (@Jj _ _ _ (@Yb _ _ _ (@JM _ _ _ _ _ _ _ _ (@Jx _ _ _ _ _ _ _ _ (@Jm3 _ hu) (@pv _ 7 _ _ rfl (.inl rfl) rfl rfl) (@pv _ 3 _ _ rfl (.inl rfl) rfl rfl) (by with_unfolding_all rfl)) (@Jj _ _ _ (@J7 _ _ _ _ (@Jc8 _ _ _ _ _ _ _ _ _ _ _ _ PySem.F.plainAttrs_list PySem.F.slot_list_append PySem.F.type_list_append (@ZJ _) (@pv _ 3 _ _ rfl (.inl rfl) rfl rfl) (@Ja _ _ _ _ _ (@pv _ 7 _ _ rfl (.inl rfl) rfl rfl) (@Jd _) rfl) rfl rfl rfl rfl rfl) rfl)) (@Jy _)))))) (by intro _; rfl)) (@Jj _ _ _ (@Jq _ _ _ _ (@pv _ 3 _ _ rfl (.inl rfl) rfl rfl))))))))))),?_⟩
  try dsimp only [cxK,Ji0]
  refine ⟨by show 0≤sizeLine; decide,fun pl hpl=>?_⟩;have W0:PW K H pl n (upd H pl (.lst [])) []:=⟨Ji.upd hpl,Jg,(fun z hz=>nomatch hz),List.nodup_nil,(fun z hz=>nomatch hz)⟩
  generalize upd H pl (.lst [])=H1 at W0;refine ⟨_,rfl,_,_,rfl,rfl,⟨by decide,by decide⟩,_,_,rfl,rfl,(by show (0:Int) < 9; decide),?_⟩;refine ⟨fun σ1 H2=>∃ zs v5,PW K H pl n H2 zs∧(c % 4=0→zs.length≤22)∧(c % 4≠0→zs=[])∧σ1=[some (.int c),some (.int d),some (.int n),some (.ref pl),some (.int (c / 4 % 9)),v5,none,none],?_,?_⟩
  ·refine ⟨_,rfl,_,_,rfl,rfl,(by show (0:Int) < 4; decide),rfl,_,rfl,YM (fun c0=>?_) (fun c0=>⟨[],none,W0,fun _=>Nat.zero_le _,fun _=>rfl,rfl⟩)⟩;have c0':c % 4=0:=V.int.inj (of_decide_eq_true c0);refine ⟨_,rfl,_,_,rfl,rfl,(n:Int) - 1,rfl,by omega,by omega,?_⟩;rw [show ((n:Int) - 1).toNat=n - 1 by omega];refine Z7 (n:=n - 1) (fun i σ H2=>∃ zs v5,PW K H pl n H2 zs∧zs.length=2 * i∧(∀ z∈zs,z.2.1 < i)∧σ=[some (.int c),some (.int d),some (.int n),some (.ref pl),some (.int (c / 4 % 9)),v5,none,none]) ⟨[],none,W0,rfl,(fun z hz=>nomatch hz),rfl⟩ ?_ ?_
   ·rintro i σ H2 hi ⟨zs,v5,W,hl,hz,rfl⟩;refine ⟨_,rfl,.inl ⟨rfl,_,Jz.of W.at_⟩,_,rfl,_,rfl,_,_,rfl,rfl,by show 2≤sizeLine; omega,fun t1 n1=>⟨pl,_,_,rfl,rfl,(Ji.upd n1) _ _ W.at_,by rw [List.length_map]; omega,?_⟩⟩;have W1:=W.add hpl (Ji.upd n1) (t:=t1) (a:=0 + (i:Int)) (b:=0 + (i:Int) + 1) Jg (fun q=>by
     obtain ⟨z,h1,h2⟩:=List.mem_map.mp q;have:=hz z h1;rw [h2] at this;have:(0:Int) + i < i:=this;omega) ⟨by omega,by omega⟩
    refine ⟨_,rfl,.inl ⟨rfl,_,Jz.of W1.at_⟩,_,rfl,_,rfl,_,_,rfl,rfl,_,_,rfl,by show 2≤sizeLine; omega,fun t2 n2=>⟨pl,_,_,rfl,rfl,(Ji.upd n2) _ _ W1.at_,by rw [List.length_map,List.length_append]; show _ + 1 < _; omega,?_⟩⟩;have W2:=W1.add hpl (Ji.upd n2) (t:=t2) (a:=0 + (i:Int)) (b:=if 0 + (i:Int) - 1 > 0 then 0 + (i:Int) - 1 else 0) Jg (fun q=>by
     rw [List.map_append,List.mem_append] at q;rcases q with q | q
     ·obtain ⟨z,h1,h2⟩:=List.mem_map.mp q;have:=hz z h1;rw [h2] at this;have:(0:Int) + i < i:=this;omega
     ·have e:=congrArg Prod.snd (List.mem_singleton.mp q);have e:(if 0 + (i:Int) - 1 > 0 then 0 + (i:Int) - 1 else 0)=0 + (i:Int) + 1:=e;split at e <;> omega) ⟨by omega,by split <;> omega⟩
    exact ⟨_,_,W2,by simp [hl]; omega,fun z hz2=>by
     rcases List.mem_append.mp hz2 with q | q
     ·rcases List.mem_append.mp q with q | q
      ·have:=hz z q; show z.2.1 < ((i + 1:Nat):Int); omega
      ·rw [List.mem_singleton.mp q]; show (0:Int) + i < ((i + 1:Nat):Int); omega
     ·rw [List.mem_singleton.mp q]; show (0:Int) + i < ((i + 1:Nat):Int); omega,rfl⟩
   ·rintro σ H2 ⟨zs,v5,W,hl,hz,rfl⟩;exact ⟨zs,v5,W,fun _=>by omega,fun h=>absurd c0' h,rfl⟩
  rintro σ1 H2 ⟨zs,v5,W,l1,l2,rfl⟩;refine ⟨fun σ1 H2=>∃ zs v5,PW K H pl n H2 zs∧(c % 4=0∨c % 4=1→zs.length≤22)∧(c % 4≠0→c % 4≠1→zs=[])∧σ1=[some (.int c),some (.int d),some (.int n),some (.ref pl),some (.int (c / 4 % 9)),v5,none,none],?_,?_⟩
  ·refine ⟨_,rfl,_,_,rfl,rfl,(by show (0:Int) < 4; decide),rfl,_,rfl,YM (fun c1=>?_) (fun c1=>⟨zs,v5,W,fun h=>l1 (h.elim id fun e=>absurd (decide_eq_true (congrArg V.int e)) c1),fun h _=>l2 h,rfl⟩)⟩;have c1':c % 4=1:=V.int.inj (of_decide_eq_true c1);obtain rfl:zs=[]:=l2 (by omega);refine ⟨_,rfl,_,_,rfl,rfl,1,(n:Int) - 1,rfl,⟨by omega,by omega,by omega,by omega⟩,?_⟩;rw [show ((n:Int) - 1 - 1).toNat=n - 2 by omega];refine Z7 (n:=n - 2) (fun i σ H2=>∃ zs v5,PW K H pl n H2 zs∧zs.length=2 * i∧(∀ z∈zs,z.2.1 < 1 + i)∧σ=[some (.int c),some (.int d),some (.int n),some (.ref pl),some (.int (c / 4 % 9)),v5,none,none]) ⟨[],v5,W,rfl,(fun z hz=>nomatch hz),rfl⟩ ?_ ?_
   ·rintro i σ H2 hi ⟨zs,v5,W,hl,hz,rfl⟩;refine ⟨_,rfl,.inl ⟨rfl,_,Jz.of W.at_⟩,_,rfl,_,rfl,_,_,rfl,rfl,by show 2≤sizeLine; omega,fun t1 n1=>⟨pl,_,_,rfl,rfl,(Ji.upd n1) _ _ W.at_,by rw [List.length_map]; omega,?_⟩⟩;have W1:=W.add hpl (Ji.upd n1) (t:=t1) (a:=1 + (i:Int)) (b:=1 + (i:Int) + 1) Jg (fun q=>by
     obtain ⟨z,h1,h2⟩:=List.mem_map.mp q;have:=hz z h1;rw [h2] at this;have:(1:Int) + i < 1 + i:=this;omega) ⟨by omega,by omega⟩
    refine ⟨_,rfl,.inl ⟨rfl,_,Jz.of W1.at_⟩,_,rfl,by show 2≤sizeLine; omega,fun t2 n2=>⟨pl,_,_,rfl,rfl,(Ji.upd n2) _ _ W1.at_,by rw [List.length_map,List.length_append]; show _ + 1 < _; omega,?_⟩⟩;have W2:=W1.add hpl (Ji.upd n2) (t:=t2) (a:=1 + (i:Int)) (b:=0) Jg (fun q=>by
     rw [List.map_append,List.mem_append] at q;rcases q with q | q
     ·obtain ⟨z,h1,h2⟩:=List.mem_map.mp q;have:=hz z h1;rw [h2] at this;have:(1:Int) + i < 1 + i:=this;omega
     ·have e:=congrArg Prod.snd (List.mem_singleton.mp q);have e:(0:Int)=1 + (i:Int) + 1:=e;omega) ⟨by omega,by omega⟩
    exact ⟨_,_,W2,by simp [hl]; omega,fun z hz2=>by
     rcases List.mem_append.mp hz2 with q | q
     ·rcases List.mem_append.mp q with q | q
      ·have:=hz z q; show z.2.1 < 1 + ((i + 1:Nat):Int); omega
      ·rw [List.mem_singleton.mp q]; show (1:Int) + i < 1 + ((i + 1:Nat):Int); omega
     ·rw [List.mem_singleton.mp q]; show (1:Int) + i < 1 + ((i + 1:Nat):Int); omega,rfl⟩
   ·rintro σ H2 ⟨zs,v5,W,hl,hz,rfl⟩;exact ⟨zs,v5,W,fun _=>by omega,fun h h'=>absurd c1' h',rfl⟩
  clear l1 l2 W v5 zs H2;rintro σ1 H2 ⟨zs,v5,W,l1,l2,rfl⟩;have m9:0≤c / 4 % 9∧c / 4 % 9≤8:=by omega
  refine ⟨fun σ1 H3=>∃ m:Int,H3=H2∧0≤m∧zs.length + m≤40∧(c % 4=2→m≤2 * ((n:Int) - 2)∨m=0)∧σ1=[some (.int c),some (.int d),some (.int n),some (.ref pl),some (.int m),v5,none,none],?_,?_⟩
  ·refine ⟨_,rfl,_,_,rfl,rfl,(by show (0:Int) < 4; decide),rfl,_,rfl,YM (fun c2=>?_) (fun c2=>⟨_,rfl,m9.1,?_,fun h=>absurd (decide_eq_true (congrArg V.int h)) c2,rfl⟩)⟩
   ·have c2':c % 4=2:=V.int.inj (of_decide_eq_true c2);obtain rfl:zs=[]:=l2 (by omega) (by omega);refine ⟨_,rfl,_,_,rfl,rfl,_,_,rfl,_,_,rfl,rfl,.inl ⟨by decide,by decide⟩,_,rfl,?_,?_,fun _=>?_,rfl⟩
    ·split <;> omega
    ·show ((0:Nat):Int) + _≤40;split <;> omega
    ·split <;> omega
   ·by_cases h:c % 4=0∨c % 4=1
    ·have:=l1 h; omega
    ·rw [l2 (fun e=>h (.inl e)) (fun e=>h (.inr e))];show ((0:Nat):Int) + _≤40;omega
  rintro σ1 H3 ⟨m,rfl,hm0,hm1,hm2,rfl⟩;refine ⟨fun σ1 H4=>∃ m:Nat,H4=H3∧zs.length + m≤40∧(c % 4=2→m≤2 * (n - 2))∧σ1=[some (.int c),some (.int d),some (.int n),some (.ref pl),some (.int m),v5,none,none],?_,?_⟩
  ·refine ⟨_,rfl,_,_,rfl,rfl,(by show (0:Int) < 4; decide),rfl,_,rfl,YM (fun c3=>?_) (fun c3=>⟨m.toNat,rfl,by omega,fun h=>by have:=hm2 h; omega,by rw [Int.toNat_of_nonneg hm0]⟩)⟩;have c3':c % 4=3:=V.int.inj (of_decide_eq_true c3);obtain rfl:zs=[]:=l2 (by omega) (by omega);refine ⟨_,rfl,_,_,rfl,rfl,⟨by decide,by decide⟩,_,_,rfl,rfl,_,_,rfl,rfl,(by show (0:Int) < 41; decide),((c / 4 + 40) % 41).toNat,rfl,?_,fun h=>by omega,?_⟩
   ·show 0 + _≤40;omega
   ·rw [Int.toNat_of_nonneg (by omega)]; rfl
  clear hm2 hm1 hm0 m;rintro σ1 H4 ⟨m,rfl,hm1,hm2,rfl⟩;refine ⟨fun σ1 H5=>∃ (pe:Addr) (es:List Int),PW K H pl n H5 zs∧Jz K H5 pe (es.map V.int)∧pe≠pl∧es.length=2 * m∧(∀ x∈es,0≤x∧x < n)∧σ1=[some (.int c),some (.int d),some (.int n),some (.ref pl),some (.int m),v5,some (.ref pe),none],
   ⟨_,rfl,_,rfl,_,_,rfl,rfl,.inl ⟨by decide,by decide⟩,_,rfl,d,2 * m,n,congrArg (fun z=>[V.int d,V.int z,V.int n]) (by omega:2 * (m:Int)=((2 * m:Nat):Int)),by omega,by omega,by omega,fun pe es H4 h1 e4 h2 h3 h4=>?_⟩,?_⟩
  ·exact ⟨pe,es,⟨W.sm.trans e4,e4 _ _ W.at_,fun z hz=>let ⟨a,g1,g2⟩:=W.ip z hz; ⟨a,g1,e4.tup g2⟩,W.nd,W.rg⟩,Jz.of h2,(fun e=>by rw [e,W.at_] at h1; cases h1),h3,h4,rfl⟩
  rintro σ1 H4 ⟨pe,es,W4,he,hne,hel,her,rfl⟩;refine ⟨_,rfl,(m:Int),rfl,by omega,by omega,?_⟩;refine Z7 (n:=m) (fun i σ H5=>∃ zs' v5 v7,PW K H pl n H5 zs'∧Jz K H5 pe (es.map V.int)∧zs'.length≤zs.length + i∧σ=[some (.int c),some (.int d),some (.int n),some (.ref pl),some (.int m),v5,some (.ref pe),v7]) ⟨zs,v5,none,W4,he,by omega,rfl⟩ ?_ ?_
  ·rintro i σ H5 hi ⟨zs',v5,v7,W5,he5,hl5,rfl⟩;obtain ⟨x1,a1,g1⟩:=JeD (xs:=es) (e:=2 * (0 + (i:Int))) (by omega) (by omega);obtain ⟨x2,a2,g2⟩:=JeD (xs:=es) (e:=2 * (0 + (i:Int)) + 1) (by omega) (by omega);refine ⟨_,rfl,_,rfl,_,_,rfl,rfl,.inl ⟨by decide,by decide⟩,pe,_,_,.int x1,rfl,rfl,he5,a1,_,rfl,_,rfl,_,_,rfl,rfl,.inl ⟨by decide,by decide⟩,_,_,rfl,rfl,pe,_,_,.int x2,rfl,rfl,he5,a2,by show 2≤sizeLine; omega,fun t n1=>?_⟩;have e6:=Ji.upd (o:=.tup [.int x1,.int x2]) n1;refine ⟨fun σ1 H6=>∃ t a b,Ji H5 H6∧H6 t=some (.tup [.int a,.int b])∧((0≤a∧a < n)∧(0≤b∧b < n))∧σ1=[some (.int c),some (.int d),some (.int n),some (.ref pl),some (.int m),some (.int (0 + (i:Int))),some (.ref pe),some (.ref t)],?_,?_⟩
   ·refine ⟨_,rfl,_,_,rfl,rfl,(by show (0:Int) < 4; decide),rfl,_,rfl,YM (fun c2=>?_) (fun c2=>⟨t,x1,x2,e6,Jg,⟨her x1 g1,her x2 g2⟩,rfl⟩)⟩;have c2':c % 4=2:=V.int.inj (of_decide_eq_true c2);have hmm:=hm2 c2';obtain ⟨x3,a3,g3⟩:=JeD (xs:=es) (e:=0 + (i:Int)) (by omega) (by omega);refine ⟨_,rfl,_,_,rfl,rfl,⟨by decide,by decide⟩,_,_,rfl,rfl,_,rfl,_,rfl,pe,_,_,.int x3,rfl,rfl,e6.seq he5,a3,by show 2≤sizeLine; omega,fun t2 n2=>?_⟩;exact ⟨t2,1 + (0 + (i:Int)) / 2,x3,e6.trans (Ji.upd n2),Jg,⟨by omega,her x3 g3⟩,rfl⟩
   rintro σ1 H6 ⟨t,a,b,e6,ht,hab,rfl⟩;refine ⟨fun σ1 H7=>∃ zs' v5 v7,PW K H pl n H7 zs'∧Jz K H7 pe (es.map V.int)∧zs'.length≤zs.length + (i + 1)∧σ1=[some (.int c),some (.int d),some (.int n),some (.ref pl),some (.int m),v5,some (.ref pe),v7],?_,fun σ' H' h=>h⟩;have W6:PW K H pl n H6 zs':=⟨W5.sm.trans e6,e6 _ _ W5.at_,fun z hz=>let ⟨a,g1,g2⟩:=W5.ip z hz; ⟨a,g1,e6.tup g2⟩,W5.nd,W5.rg⟩
   classical
   refine ⟨_,rfl,_,rfl,t,pl,_,JiH (a,b),_,rfl,rfl,JQ.of ht,Jz.of W6.at_,Jo7 W6.ip,_,rfl,?_⟩;have emem:(JiH (a,b)∈(zs'.map (·.2)).map JiH)↔(a,b)∈zs'.map (·.2):=by
    constructor
    ·intro h;obtain ⟨y,h1,h2⟩:=List.mem_map.mp h;rw [← Jtj h2]; exact h1
    ·exact fun h=>List.mem_map.mpr ⟨_,h,rfl⟩
   by_cases hin:(a,b)∈zs'.map (·.2)
   ·refine YQ (by rw [if_pos rfl,decide_eq_true (emem.mpr hin)]; rfl) ⟨zs',_,_,W6,e6.seq he5,by omega,rfl⟩
   ·refine Zw (by rw [if_pos rfl,decide_eq_false (fun h=>hin (emem.mp h))]; rfl) ?_;refine ⟨_,rfl,.inl ⟨rfl,_,Jz.of W6.at_⟩,_,rfl,pl,_,_,rfl,rfl,W6.at_,by rw [List.length_map]; omega,?_⟩;refine ⟨_,_,_,W6.add hpl (Ji.refl _) ht hin hab,?_,by simp; omega,rfl⟩;rcases e6.seq he5 with (h | ⟨o,h⟩) | h
    ·exact .inl (.inl (by rw [Jt hne]; exact h))
    ·exact .inl (.inr ⟨o,by rw [Jt hne]; exact h⟩)
    ·exact .inr h
  ·rintro σ H5 ⟨zs',v5,v7,W5,he5,hl5,rfl⟩;exact ⟨_,rfl,q pl zs' H5 hpl W5 (by omega)⟩
end
def JsB:Sp:=fun vs H Q _=>∃ (c kd:Int) (n:Nat),vs=[.int c,.int kd,.int n]∧1≤n∧n≤12∧∀ (p:Addr) (gs:List Int) (H':Hp),H p=none→Ji H H'→H' p=some (.lst (gs.map V.int))→gs.Nodup→(∀ g∈gs,0≤g∧g < n)→Q (.ref p) H'
def nm (ps:List Str) (x:Int):Str:=ps.getD x.toNat Str.empty
theorem Jnm {ps:List Str} {x:Int} (h0:0≤x) (h1:x < ps.length):Z8 (ps.map V.str) x=some (.str (nm ps x)):=by
 obtain ⟨j,rfl⟩:∃ j:Nat,x=(j:Int):=⟨x.toNat,by omega⟩
 have hj:j < ps.length:=by omega
 refine Y0 ?_;unfold nm;rw [List.getElem?_map,List.getD_eq_getElem?_getD,Int.toNat_natCast,List.getElem?_eq_getElem hj];rfl
theorem Jk1 {ps:List Str} {x:Int} (h0:0≤x) (h1:x < ps.length):nm ps x∈ps:=by
 have hj:x.toNat < ps.length:=by omega
 unfold nm;rw [List.getD_eq_getElem?_getD,List.getElem?_eq_getElem hj];exact List.getElem_mem hj
theorem Jof {ps:List Str} (nd:ps.Nodup) {x y:Int} (h0:0≤x) (h1:x < ps.length) (g0:0≤y) (g1:y < ps.length) (e:nm ps x=nm ps y):x=y:=by
 have hx:x.toNat < ps.length:=by omega
 have hy:y.toNat < ps.length:=by omega
 unfold nm at e;rw [List.getD_eq_getElem?_getD,List.getD_eq_getElem?_getD,List.getElem?_eq_getElem hx,List.getElem?_eq_getElem hy] at e;have e:ps[x.toNat]=ps[y.toNat]:=e;have z:x.toNat=y.toNat:=by
  rcases Nat.lt_trichotomy x.toNat y.toNat with h | h | h
  ·exact absurd e (List.pairwise_iff_getElem.mp nd _ _ hx hy h)
  ·exact h
  ·exact absurd e.symm (List.pairwise_iff_getElem.mp nd _ _ hy hx h)
 omega
def nm2 (ps:List Str) (p:Int×Int):Str×Str:=(nm ps p.1,nm ps p.2)
theorem Jmx {α β:Type} {f:α→β}:∀ {l:List α},l.Nodup→(∀ a∈l,∀ b∈l,f a=f b→a=b)→(l.map f).Nodup:=by
 intro l h hi;rw [List.Nodup,List.pairwise_map];exact List.Pairwise.imp_of_mem (fun ha hb hne e=>hne (hi _ ha _ hb e)) h
structure Ground (K:PySem.W.Frag) (H:Hp) (t:Addr) (ps:List Str) (zs:List (V×(Str×Str))) (gs:List Str):Prop where
 good:Jd8 ps (zs.map (·.2)) gs
 at_:∃ pn pl pg,H t=some (.tup [.ref pn,.ref pl,.ref pg])∧H pn=some (.lst (ps.map V.str))∧H pl=some (.lst (zs.map (·.1)))∧Zu K H zs∧H pg=some (.lst (gs.map V.str))
theorem Ground.same {K:PySem.W.Frag} {H H':Hp} {t:Addr} {ps:List Str} {zs:List (V×(Str×Str))} {gs:List Str} (G:Ground K H t ps zs gs) (e:Ji H H'):Ground K H' t ps zs gs :=
 ⟨G.good,let ⟨pn,pl,pg,h1,h2,h3,h4,h5⟩:=G.at_; ⟨pn,pl,pg,e _ _ h1,e _ _ h2,e _ _ h3,Jar h4 e,e _ _ h5⟩⟩
def Jq1 (K:PySem.W.Frag):Sp:=fun vs H Q _=>∃ (a:Addr) (ns:List Int) (k:Int),vs=[.ref a,.int k]∧Jz K H a (ns.map V.int)∧0≤k∧∀ t ps zs gs H',Ji H H'→Ground K H' t ps zs gs→Q (.ref t) H'
section
variable {P:Program} {w:World} {K:PySem.W.Frag} {mg:Str→Option Value} {base:Heap}
theorem Js7 (T:Txt K mg):JL P w K mg base YR 2 T.Jmb T.Jkt ["_law_cell", "_law_kind", "_law_size"] JsB:=by
 refine T.Jmn.F.ok JeJ (fun vs H Q E h=>?_) (fun cdv A outer s H vs Q E hr h=>?_)
 ·obtain ⟨_,_,_,rfl,_⟩:=h;rfl
 ·obtain ⟨c,kd,n,rfl,hn1,hn2,q⟩:=h;have szl:sizeLine=16777216:=sizeLine_eq;refine ⟨_,(@Jf _ _ _ _ _ (@Yb _ _ _ (@JE _ _ 3 _ _ _ _ JeJ.nd rfl (Or.inr rfl) (@Jo _ _ _ _ _ _ _ _ _ _ _ _ _ _ _ T.Jly (Jn7 T) (hr.mono (by decide)) JG (@Ja _ _ _ _ _ (@Jm _ _ _ _ _ _ _ _ (@Yx _) (@pv _ 0 _ _ rfl (.inl rfl) rfl rfl) (@Je _ _ _ _)) (@Ja _ _ _ _ _ (@pv _ 2 _ _ rfl (.inl rfl) rfl rfl) (@Ja _ _ _ _ _ (@Je _ _ _ _) (@Jd _) rfl) rfl) rfl) rfl (by decide) rfl rfl) rfl (by first | exact .inl rfl | exact .inr rfl | assumption))) (@Jf _ _ _ _ _ (@Yb _ _ _ (@Jnk _ _ _ _ _ _ _ _ _ _ 4 1 ["_law_k", "_law_marks"] [3] _ _ _ _ ["_law_cell", "_law_kind", "_law_size", "_law_marks", "_law_found"] ((Jl Jjj).names) (by decide +kernel) JeJ.nd rfl (@Zy _ _ _ _ _ _ rfl T.ZL (@Ja _ _ _ _ _ (@pv _ 2 _ _ rfl (.inl rfl) rfl rfl) (@Jd _) rfl) rfl) (fun _ _ _ _=>(@Jah _ _ _ _ _ _ _ _ _ 0 (by decide +kernel) rfl rfl)) (fun _ _ _ _=>(@Jjk _ _ _ (@Jx _ _ _ _ _ _ _ _ (@YU _) (@JD _ _ _ _ _ _ _ (show IxR _ (Jie K) from (@JU _)) (@JaW _ _ _ _ _ _ _ _ _ 1 rfl rfl (by decide) (by decide)) (@ZE _ _ _ _ _ _ _ _ _ 0 rfl rfl (by decide) (by decide)) (fun _ _=>rfl)) (@Je _ _ _ _) (JH _)))) (fun _ _ _ _=>(@ZE _ _ _ _ _ _ _ _ _ 0 rfl rfl (by decide) (by decide))) rfl rfl rfl rfl rfl (by intro _; rfl))) (@Jf _ _ _ _ _ (@Yb _ _ _ (@JM _ _ _ _ _ _ _ _ (@PW.pt _ _ _ (@Jif _ _ _ _ _ _ _ (@Jx _ _ _ _ _ _ _ _ (@Jcc _) (@pv _ 1 _ _ rfl (.inl rfl) rfl rfl) (@Je _ _ _ _) (JH _)) (@JgF _ _ _ _ (@Jx _ _ _ _ _ _ _ _ (@Jc9 _) (@Jm _ _ _ _ _ _ _ _ (@JZ _) (@pv _ 0 _ _ rfl (.inl rfl) rfl rfl) (@Je _ _ _ _)) (@Je _ _ _ _) (JH _))))) (@Jj _ _ _ (@JE _ _ 4 _ _ _ _ JeJ.nd rfl (Or.inl rfl) (@Yv _ _ _ _ (@Ja _ _ _ _ _ (@Jm _ _ _ _ _ _ _ _ (@Jay _) (@pv _ 2 _ _ rfl (.inl rfl) rfl rfl) (@Je _ _ _ _)) (@Jd _) rfl)) rfl (.inl rfl))) (@Jy _))) (@Jf _ _ _ _ _ (@Yb _ _ _ (@JM _ _ _ _ _ _ _ _ (@PW.pt _ _ _ (@Jif _ _ _ _ _ _ _ (@Jx _ _ _ _ _ _ _ _ (@YU _) (@Jm _ _ _ _ _ _ _ _ (@JZ _) (@pv _ 0 _ _ rfl (.inl rfl) rfl rfl) (@Je _ _ _ _)) (@Je _ _ _ _) (JH _)) (@JgF _ _ _ _ (@Jx _ _ _ _ _ _ _ _ (@Jn6 _ hr.units0) (@pv _ 4 _ _ rfl (.inl rfl) rfl rfl) (@Yv _ _ _ _ (@Jd _)) (JH _))))) (@Jj _ _ _ (@JE _ _ 4 _ _ _ _ JeJ.nd rfl (Or.inl rfl) (@Yv _ _ _ _ (@Ja _ _ _ _ _ (@Jm _ _ _ _ _ _ _ _ (@Jay _) (@pv _ 2 _ _ rfl (.inl rfl) rfl rfl) (@Je _ _ _ _)) (@Jd _) rfl)) rfl (.inl rfl))) (@Jy _))) (@Jj _ _ _ (@Jq _ _ _ _ (@pv _ 4 _ _ rfl (.inl rfl) rfl rfl))))))),?_⟩;refine ⟨fun σ1 H1=>∃ (pm:Addr) (ms:List Int),Ji H H1∧Jz K H1 pm (ms.map V.int)∧ms.length=n∧σ1=[some (.int c),some (.int kd),some (.int n),some (.ref pm),none],
   ⟨_,rfl,_,_,rfl,rfl,⟨by decide,by decide⟩,_,rfl,_,n,_,rfl,by omega,by decide,by decide,fun pm ms H1 h1 e1 h2 h3 h4=>⟨pm,ms,e1,Jz.of h2,h3,rfl⟩⟩,?_⟩
  rintro σ1 H1 ⟨pm,ms,e1,hm,hml,rfl⟩;have fresh:∀ {p:Addr} {H':Hp},Ji H H'→H' p=none→H p=none:=fun {p H'} e h=>by
   cases hd:H p with
   | none=>rfl
   | some u=>rw [e _ _ hd] at h; cases h
  let R:St→Hp→Prop:=fun σ1 H2=>∃ (p:Addr) (gs:List Int),H p=none∧Ji H H2∧H2 p=some (.lst (gs.map V.int))∧gs.Nodup∧(∀ g∈gs,0≤g∧g < n)∧σ1=[some (.int c),some (.int kd),some (.int n),some (.ref pm),some (.ref p)]
  have one:∀ {p:Addr} {H2:Hp},Ji H H2→H2 p=none→R [some (.int c),some (.int kd),some (.int n),some (.ref pm),some (.ref p)] (upd H2 p (.lst [.int ((n:Int) - 1)])):=fun {p H2} e2 np =>
   ⟨p,[(n:Int) - 1],fresh e2 np,e2.trans (Ji.upd np),Jg,by simp,fun g hg=>by rw [List.mem_singleton.mp hg]; omega,rfl⟩
  refine ⟨R,?_,?_⟩
  ·refine ⟨_,rfl,(n:Int),rfl,by omega,by omega,fun D hD=>?_⟩;rw [show ((n:Int)).toNat=n from Int.toNat_natCast n];refine Jht (n:=n) (fun i ys H2=>Ji H1 H2∧H2 D=some (.lst ys)∧∃ gs:List Int,ys=gs.map V.int∧gs.length≤i∧gs.Nodup∧∀ g∈gs,0≤g∧g < i) rfl ⟨Ji.upd hD,Jg,[],rfl,Nat.le_refl _,List.nodup_nil,fun g hg=>nomatch hg⟩ (fun i ys H2 p=>p.2.1) ?_ ?_
   ·rintro i ys H2 hi ⟨e2,hy,gs,rfl,hgl,hgn,hgr⟩;obtain ⟨x,a1,_⟩:=JeD (xs:=ms) (e:=0 + (i:Int)) (by omega) (by omega);refine ⟨_,rfl,_,rfl,pm,_,_,.int x,rfl,rfl,e2.seq hm,a1,rfl,_,rfl,YM (fun _=>?_) (fun _=>?_)⟩
    ·refine ⟨_,rfl,hy,by rw [List.length_map]; omega,fun b u e=>?_,Jg,gs ++ [0 + (i:Int)],by rw [List.map_append]; rfl,by simp; omega,?_,fun g hg=>?_⟩
     ·rw [Jt (Jw e hD)]; exact e2 b u e
     ·rw [List.nodup_append];refine ⟨hgn,by simp,fun x hx y hy e=>?_⟩;rw [List.mem_singleton] at hy;have:=hgr x hx;omega
     ·rcases List.mem_append.mp hg with w | w
      ·have:=hgr g w; omega
      ·rw [List.mem_singleton.mp w]; omega
    ·exact ⟨e2,hy,gs,rfl,by omega,hgn,fun g hg=>by have:=hgr g hg; omega⟩
   ·rintro ys H2 ⟨e2,hy,gs,rfl,_,hgn,hgr⟩;exact ⟨D,gs,fresh e1 hD,e1.trans e2,hy,hgn,hgr,rfl⟩
  rintro σ1 H2 ⟨p2,gs2,np2,e2,hp2,nd2,rg2,rfl⟩;refine ⟨R,?_,?_⟩
  ·refine ⟨_,rfl,_,_,rfl,rfl,_,rfl,YM (fun _=>?_) (fun _=>YG ⟨p2,gs2,np2,e2,hp2,nd2,rg2,rfl⟩)⟩;refine ⟨_,rfl,_,_,rfl,rfl,(by show (0:Int) < 3; decide),rfl,_,rfl,YM (fun _=>?_) (fun _=>⟨p2,gs2,np2,e2,hp2,nd2,rg2,rfl⟩)⟩;exact ⟨_,rfl,_,_,rfl,rfl,by show 1≤sizeLine; omega,fun p np=>one e2 np⟩
  clear rg2 nd2 hp2 e2 np2 gs2 p2 H2;rintro σ1 H2 ⟨p2,gs2,np2,e2,hp2,nd2,rg2,rfl⟩;refine ⟨R,?_,?_⟩
  ·refine ⟨_,rfl,_,_,rfl,rfl,(by show (0:Int) < 3; decide),rfl,_,rfl,YM (fun _=>?_) (fun _=>YG ⟨p2,gs2,np2,e2,hp2,nd2,rg2,rfl⟩)⟩;refine ⟨_,rfl,by show 0≤sizeLine; omega,fun l nl=>⟨p2,l,_,rfl,rfl,(Ji.upd nl).seq (Jz.of hp2),Jz.of Jg,_,rfl,YM (fun _=>?_) (fun _=>?_)⟩⟩
   ·exact ⟨_,rfl,_,_,rfl,rfl,by show 1≤sizeLine; omega,fun p np=>one (e2.trans (Ji.upd nl)) np⟩
   ·exact ⟨p2,gs2,np2,e2.trans (Ji.upd nl),(Ji.upd nl) _ _ hp2,nd2,rg2,rfl⟩
  clear rg2 nd2 hp2 e2 np2 gs2 p2 H2;rintro σ1 H2 ⟨p2,gs2,np2,e2,hp2,nd2,rg2,rfl⟩;exact ⟨_,rfl,q p2 gs2 H2 np2 e2 hp2 nd2 rg2⟩
theorem Jmu {K:PySem.W.Frag} {H:Hp} {D:Addr} {ys ys':List V} {zs:List (V×(Str×Str))} (h:Zu K H zs) (hD:H D=some (.lst ys)):Zu K (upd H D (.lst ys')) zs:=fun z hz=>by
 obtain ⟨a,h1,h2⟩:=h z hz;refine ⟨a,h1,?_⟩;rcases h2 with (q | ⟨o,q⟩) | q
 ·exact .inl (.inl (by rw [Jt (Jas q hD (fun z=>nomatch z))]; exact q))
 ·exact .inl (.inr ⟨o,by rw [Jt (Jas q hD (fun z=>nomatch z))]; exact q⟩)
 ·exact .inr q
theorem Jrp (T:Txt K mg):JL P w K mg base YR 3 T.Jkx T.JiL ["_law_script", "_law_at_here"] (Jq1 K):=by
 refine T.JkE.F.ok Z1 (fun vs H Q E h=>?_) (fun cdv A outer s H vs Q E hr h=>?_)
 ·obtain ⟨_,_,_,rfl,_⟩:=h;rfl
 ·obtain ⟨a,ns,k,rfl,hS,h0,q⟩:=h;have szl:sizeLine=16777216:=sizeLine_eq;refine ⟨_,(@Jf _ _ _ _ _ (@Yb _ _ _ (@JE _ _ 2 _ _ _ _ Z1.nd rfl (Or.inl rfl) (@Jo _ _ _ _ _ _ _ _ _ _ _ _ _ _ _ T.JbP (Ja9 T) (hr.mono (by decide)) JG (@Ja _ _ _ _ _ (@pv _ 0 _ _ rfl (.inl rfl) rfl rfl) (@Ja _ _ _ _ _ (@Jm _ _ _ _ _ _ _ _ (@Yj _) (@pv _ 1 _ _ rfl (.inl rfl) rfl rfl) (@Je _ _ _ _)) (@Jd _) rfl) rfl) rfl (by decide) rfl rfl) rfl (.inl rfl))) (@Jf _ _ _ _ _ (@Yb _ _ _ (@JE _ _ 3 _ _ _ _ Z1.nd rfl (Or.inl rfl) (@JD _ _ _ _ _ _ _ (@JU _) (@Yv _ _ _ _ (@Ja _ _ _ _ _ (@Je _ _ _ _) (@Ja _ _ _ _ _ (@Je _ _ _ _) (@Ja _ _ _ _ _ (@Je _ _ _ _) (@Ja _ _ _ _ _ (@Je _ _ _ _) (@Ja _ _ _ _ _ (@Je _ _ _ _) (@Ja _ _ _ _ _ (@Je _ _ _ _) (@Ja _ _ _ _ _ (@Je _ _ _ _) (@Jd _) rfl) rfl) rfl) rfl) rfl) rfl) rfl)) (@Jm _ _ _ _ _ _ _ _ (@JZ _) (@pv _ 2 _ _ rfl (.inl rfl) rfl rfl) (@Je _ _ _ _)) (fun _ _=>rfl)) rfl (.inl rfl))) (@Jf _ _ _ _ _ (@Yb _ _ _ (@JM _ _ _ _ _ _ _ _ (@Jx _ _ _ _ _ _ _ _ (@YU _) (@Jm _ _ _ _ _ _ _ _ (@JZ _) (@Jm _ _ _ _ _ _ _ _ (@Yx _) (@pv _ 2 _ _ rfl (.inl rfl) rfl rfl) (@Je _ _ _ _)) (@Je _ _ _ _)) (@Je _ _ _ _) (JH _)) (@Jj _ _ _ (@JE _ _ 3 _ _ _ _ Z1.nd rfl (Or.inl rfl) (@Jm _ _ _ _ _ _ _ _ (@Yj _) (@Je _ _ _ _) (@Jm _ _ _ _ _ _ _ _ (@JZ _) (@Jm _ _ _ _ _ _ _ _ (@Yx _) (@pv _ 2 _ _ rfl (.inl rfl) rfl rfl) (@Je _ _ _ _)) (@Je _ _ _ _))) rfl (.inl rfl))) (@Jy _))) (@Jf _ _ _ _ _ (@Yb _ _ _ (@JE _ _ 4 _ _ _ _ Z1.nd rfl (Or.inr rfl) (@Jo _ _ _ _ _ _ _ _ _ _ _ _ _ _ _ T.Jjt (Jn8 T) (hr.mono (by decide)) JG (@Ja _ _ _ _ _ (@Jo _ _ _ _ _ _ _ _ _ _ _ _ _ _ _ T.JbP (Ja9 T) (hr.mono (by decide)) JG (@Ja _ _ _ _ _ (@pv _ 0 _ _ rfl (.inl rfl) rfl rfl) (@Ja _ _ _ _ _ (@Jm _ _ _ _ _ _ _ _ (@Yj _) (@pv _ 1 _ _ rfl (.inl rfl) rfl rfl) (@Je _ _ _ _)) (@Jd _) rfl) rfl) rfl (by decide) rfl rfl) (@Ja _ _ _ _ _ (@pv _ 3 _ _ rfl (.inl rfl) rfl rfl) (@Jd _) rfl) rfl) rfl (by decide) rfl rfl) rfl (by first | exact .inl rfl | exact .inr rfl | assumption))) (@Jf _ _ _ _ _ (@Yb _ _ _ (@JE _ _ 5 _ _ _ _ Z1.nd rfl (Or.inl rfl) (@Jo _ _ _ _ _ _ _ _ _ _ _ _ _ _ _ T.JbP (Ja9 T) (hr.mono (by decide)) JG (@Ja _ _ _ _ _ (@pv _ 0 _ _ rfl (.inl rfl) rfl rfl) (@Ja _ _ _ _ _ (@pv _ 1 _ _ rfl (.inl rfl) rfl rfl) (@Jd _) rfl) rfl) rfl (by decide) rfl rfl) rfl (.inl rfl))) (@Jf _ _ _ _ _ (@Yb _ _ _ (@JE _ _ 6 _ _ _ _ Z1.nd rfl (Or.inl rfl) (@Jo _ _ _ _ _ _ _ _ _ _ _ _ _ _ _ T.Jml (Js5 T) (hr.mono (by decide)) JG (@Ja _ _ _ _ _ (@pv _ 5 _ _ rfl (.inl rfl) rfl rfl) (@Ja _ _ _ _ _ (@Jo _ _ _ _ _ _ _ _ _ _ _ _ _ _ _ T.JbP (Ja9 T) (hr.mono (by decide)) JG (@Ja _ _ _ _ _ (@pv _ 0 _ _ rfl (.inl rfl) rfl rfl) (@Ja _ _ _ _ _ (@Jm _ _ _ _ _ _ _ _ (@Yj _) (@pv _ 1 _ _ rfl (.inl rfl) rfl rfl) (@Je _ _ _ _)) (@Jd _) rfl) rfl) rfl (by decide) rfl rfl) (@Ja _ _ _ _ _ (@pv _ 3 _ _ rfl (.inl rfl) rfl rfl) (@Jd _) rfl) rfl) rfl) rfl (by decide) rfl rfl) rfl (.inl rfl))) (@Jf _ _ _ _ _ (@Yb _ _ _ (@JE _ _ 7 _ _ _ _ Z1.nd rfl (Or.inl rfl) (@Jo _ _ _ _ _ _ _ _ _ _ _ _ _ _ _ T.Jmn (Js7 T) (hr.mono (by decide)) JG (@Ja _ _ _ _ _ (@Jo _ _ _ _ _ _ _ _ _ _ _ _ _ _ _ T.JbP (Ja9 T) (hr.mono (by decide)) JG (@Ja _ _ _ _ _ (@pv _ 0 _ _ rfl (.inl rfl) rfl rfl) (@Ja _ _ _ _ _ (@Jm _ _ _ _ _ _ _ _ (@Yj _) (@pv _ 1 _ _ rfl (.inl rfl) rfl rfl) (@Je _ _ _ _)) (@Jd _) rfl) rfl) rfl (by decide) rfl rfl) (@Ja _ _ _ _ _ (@Jm _ _ _ _ _ _ _ _ (@JZ _) (@pv _ 5 _ _ rfl (.inl rfl) rfl rfl) (@Je _ _ _ _)) (@Ja _ _ _ _ _ (@pv _ 3 _ _ rfl (.inl rfl) rfl rfl) (@Jd _) rfl) rfl) rfl) rfl (by decide) rfl rfl) rfl (.inl rfl))) (@Jf _ _ _ _ _ (@Yb _ _ _ (@Jnk _ _ _ _ _ _ _ _ _ _ 8 2 ["_law_a", "_law_b", "_law_names_here"] [4] _ _ _ _ ["_law_script", "_law_at_here", "_law_cell", "_law_size", "_law_names_here", "_law_kind", "_law_pairs_here", "_law_goals_here", "_law_lanes"] ((Jl JeN).names) (by decide +kernel) Z1.nd rfl (@JbR _ _ _ _ (@pv _ 6 _ _ rfl (.inl rfl) rfl rfl)) (fun _ _ _ _=>(show PG _ _ (Jqo K 2 _) from Jn1 rfl (@ZO _ _ _ _ _ (@Jah _ _ _ _ _ _ _ _ _ 0 (by decide +kernel) rfl rfl) (@ZO _ _ _ _ _ (@Jah _ _ _ _ _ _ _ _ _ 1 (by decide +kernel) rfl rfl) (@JlT _) rfl) rfl))) (fun _ _ _ _=>(@JcS _)) (fun _ _ _ _=>(@YX _ _ _ _ _ (@Ja _ _ _ _ _ (@JD _ _ _ _ _ _ _ (show IxR _ (Jie K) from (@JU _)) (@JaW _ _ _ _ _ _ _ _ _ 2 rfl rfl (by decide) (by decide)) (@ZE _ _ _ _ _ _ _ _ _ 0 rfl rfl (by decide) (by decide)) (fun _ _=>rfl)) (@Ja _ _ _ _ _ (@JD _ _ _ _ _ _ _ (show IxR _ (Jie K) from (@JU _)) (@JaW _ _ _ _ _ _ _ _ _ 2 rfl rfl (by decide) (by decide)) (@ZE _ _ _ _ _ _ _ _ _ 1 rfl rfl (by decide) (by decide)) (fun _ _=>rfl)) (@Jd _) rfl) rfl))) rfl rfl rfl rfl rfl (by intro _; rfl))) (@Jj _ _ _ (@Jq _ _ _ _ (@YX _ _ _ _ _ (@Ja _ _ _ _ _ (@pv _ 4 _ _ rfl (.inr (.inl rfl)) rfl rfl) (@Ja _ _ _ _ _ (@pv _ 8 _ _ rfl (.inl rfl) rfl rfl) (@Ja _ _ _ _ _ (@Jhg _ _ _ _ _ _ _ 1 ["_law_k", "_law_names_here"] [4] _ _ _ _ ["_law_script", "_law_at_here", "_law_cell", "_law_size", "_law_names_here", "_law_kind", "_law_pairs_here", "_law_goals_here", "_law_lanes"] ((Jl JeN).names) (by decide +kernel) (@JbR _ _ _ _ (@pv _ 7 _ _ rfl (.inl rfl) rfl rfl)) (fun _ _ _ _=>(@Jah _ _ _ _ _ _ _ _ _ 0 (by decide +kernel) rfl rfl)) (fun _ _ _ _=>(@JcS _)) (fun _ _ _ _=>(@JD _ _ _ _ _ _ _ (show IxR _ (Jie K) from (@JU _)) (@JaW _ _ _ _ _ _ _ _ _ 1 rfl rfl (by decide) (by decide)) (@ZE _ _ _ _ _ _ _ _ _ 0 rfl rfl (by decide) (by decide)) (fun _ _=>rfl))) rfl rfl rfl (by intro _; rfl)) (@Jd _) rfl) rfl) rfl)))))))))))),?_⟩
  try dsimp only [cxK,Ji0]
  refine ⟨fun σ1 H1=>∃ c:Int,H1=H∧σ1=[some (.ref a),some (.int k),some (.int c),none,none,none,none,none,none],
   ⟨_,rfl,_,rfl,_,_,rfl,rfl,a,ns,_,rfl,hS,by omega,_,rfl,rfl⟩,?_⟩
  rintro σ1 H1 ⟨c,rfl,rfl⟩;refine ⟨fun σ1 H2=>∃ n:Nat,Ji H1 H2∧1≤n∧n≤12∧σ1=[some (.ref a),some (.int k),some (.int c),some (.int n),none,none,none,none,none],?_,?_⟩
  ·refine ⟨by show 7≤sizeLine; omega,fun l nl=>?_⟩;obtain ⟨n,hn,h1,h2⟩:∃ n:Nat,Z8 [V.int 4,V.int 3,V.int 5,V.int 6,V.int 2,V.int 5,V.int 1] (c % 7)=some (.int n)∧1≤n∧n≤12:=by
    have h:c % 7=0∨c % 7=1∨c % 7=2∨c % 7=3∨c % 7=4∨c % 7=5∨c % 7=6:=by omega
    rcases h with h | h | h | h | h | h | h <;> rw [h]
    ·exact ⟨4,rfl,by decide,by decide⟩
    ·exact ⟨3,rfl,by decide,by decide⟩
    ·exact ⟨5,rfl,by decide,by decide⟩
    ·exact ⟨6,rfl,by decide,by decide⟩
    ·exact ⟨2,rfl,by decide,by decide⟩
    ·exact ⟨5,rfl,by decide,by decide⟩
    ·exact ⟨1,rfl,by decide,by decide⟩
   exact ⟨_,rfl,_,_,rfl,rfl,(by show (0:Int) < 7; decide),l,_,_,.int n,rfl,rfl,Jz.of Jg,hn,n,Ji.upd nl,h1,h2,rfl⟩
  rintro σ1 H2 ⟨n,e2,hn1,hn2,rfl⟩;refine ⟨fun σ1 H3=>∃ n:Nat,H3=H2∧1≤n∧n≤12∧σ1=[some (.ref a),some (.int k),some (.int c),some (.int n),none,none,none,none,none],?_,?_⟩
  ·refine ⟨_,rfl,_,_,rfl,rfl,⟨by decide,by decide⟩,_,_,rfl,rfl,(by show (0:Int) < 6; decide),rfl,_,rfl,YM (fun _=>?_) (fun _=>⟨n,rfl,hn1,hn2,rfl⟩)⟩;refine ⟨_,rfl,_,_,rfl,rfl,⟨by decide,by decide⟩,_,_,rfl,rfl,(by show (0:Int) < 12; decide),_,_,rfl,rfl,(1 + c / 42 % 12).toNat,rfl,by omega,by omega,?_⟩;rw [Int.toNat_of_nonneg (by omega)]; rfl
  clear hn1 hn2 n;rintro σ1 H3 ⟨n,rfl,hn1,hn2,rfl⟩;refine ⟨fun σ1 H4=>∃ (pn:Addr) (ps:List Str),Ji H1 H4∧H4 pn=some (.lst (ps.map V.str))∧ps.length=n∧(∀ s∈ps,J1 s=true)∧ps.Nodup∧σ1=[some (.ref a),some (.int k),some (.int c),some (.int n),some (.ref pn),none,none,none,none],
   ⟨_,rfl,_,rfl,_,_,rfl,rfl,a,ns,_,rfl,e2.seq hS,by omega,_,rfl,_,n,rfl,hn1,hn2,fun pn ps H4 h1 e4 h2 h3 h4 h5=>⟨pn,ps,e2.trans e4,h2,h3,h4,h5,rfl⟩⟩,?_⟩
  rintro σ1 H4 ⟨pn,ps,e4,hpn,hpl,hpg,hpd,rfl⟩;refine ⟨fun σ1 H5=>∃ kd:Int,H5=H4∧σ1=[some (.ref a),some (.int k),some (.int c),some (.int n),some (.ref pn),some (.int kd),none,none,none],
   ⟨_,rfl,_,rfl,a,ns,_,rfl,e4.seq hS,h0,_,rfl,rfl⟩,?_⟩
  rintro σ1 H5 ⟨kd,rfl,rfl⟩;refine ⟨fun σ1 H6=>∃ (pp:Addr) (zs:List (V×(Int×Int))),PW K H5 pp n H6 zs∧zs.length≤40∧σ1=[some (.ref a),some (.int k),some (.int c),some (.int n),some (.ref pn),some (.int kd),some (.ref pp),none,none],
   ⟨_,rfl,_,rfl,_,rfl,_,_,rfl,rfl,a,ns,_,rfl,e4.seq hS,by omega,_,rfl,kd,_,n,rfl,hn1,hn2,fun pp zs H6 h1 W hl=>⟨pp,zs,W,hl,rfl⟩⟩,?_⟩
  rintro σ1 H6 ⟨pp,zs,W,hzl,rfl⟩;have e6:=e4.trans W.sm;refine ⟨fun σ1 H7=>∃ (pg:Addr) (gs:List Int),Ji H6 H7∧H7 pg=some (.lst (gs.map V.int))∧gs.Nodup∧(∀ g∈gs,0≤g∧g < n)∧σ1=[some (.ref a),some (.int k),some (.int c),some (.int n),some (.ref pn),some (.int kd),some (.ref pp),some (.ref pg),none],
   ⟨_,rfl,_,rfl,_,_,rfl,rfl,a,ns,_,rfl,e6.seq hS,by omega,_,rfl,_,_,rfl,rfl,(by show (0:Int) < 4; decide),_,rfl,_,_,n,rfl,hn1,hn2,fun pg gs H7 h1 e7 h2 h3 h4=>⟨pg,gs,e7,h2,h3,h4,rfl⟩⟩,?_⟩
  rintro σ1 H7 ⟨pg,gs,e7,hpgs,hgd,hgr,rfl⟩;have e17:=e6.trans e7;have hpn7:=e7 _ _ (W.sm _ _ hpn);have hpp7:=e7 _ _ W.at_;refine ⟨fun σ1 H8=>∃ (pl:Addr) (ls:List (V×(Str×Str))),Ji H7 H8∧H8 pl=some (.lst (ls.map (·.1)))∧Zu K H8 ls∧ls.map (·.2)=(zs.map (·.2)).map (nm2 ps)∧σ1=[some (.ref a),some (.int k),some (.int c),some (.int n),some (.ref pn),some (.int kd),some (.ref pp),some (.ref pg),some (.ref pl)],?_,?_⟩
  ·refine ⟨_,rfl,pp,rfl,⟨_,Jz.of hpp7⟩,fun D hD=>?_⟩;refine Jlq (xs:=zs.map (·.1)) (fun i ys H8=>Ji H7 H8∧H8 D=some (.lst ys)∧∃ ls:List (V×(Str×Str)),ys=ls.map (·.1)∧Zu K H8 ls∧ls.map (·.2)=((zs.take i).map (·.2)).map (nm2 ps)) rfl rfl (fun i ys H8 p=>Jz.of (p.1 _ _ hpp7)) ⟨Ji.upd hD,Jg,[],rfl,(fun z hz=>nomatch hz),rfl⟩ (fun i ys H8 p=>p.2.1) ?_ ?_
   ·rintro i x ys H8 hx ⟨e8,hy,ls,rfl,hP,hls⟩;rw [List.getElem?_map] at hx;obtain ⟨z,hz,rfl⟩:=Option.map_eq_some_iff.mp hx;obtain ⟨b,eb,hb⟩:=W.ip z (List.mem_of_getElem? hz);obtain ⟨r1,r2⟩:=W.rg z (List.mem_of_getElem? hz);refine ⟨b,.int z.2.1,.int z.2.2,eb,(e7.trans e8).tup hb,?_⟩;simp only [JeH,if_true];have hll:ls.length≤40:=by
     have z:=congrArg List.length hls;rw [List.length_map,List.length_map,List.length_map,List.length_take] at z;omega
    refine ⟨_,rfl,_,rfl,pn,_,_,_,rfl,rfl,Jz.of (e8 _ _ hpn7),Jnm r1.1 (by omega),_,rfl,_,rfl,pn,_,_,_,rfl,rfl,Jz.of (e8 _ _ hpn7),Jnm r2.1 (by omega),by show 2≤sizeLine; omega,fun t nt=>?_⟩;have e9:=Ji.upd (o:=.tup [.str (nm ps z.2.1),.str (nm ps z.2.2)]) nt;refine ⟨e9 _ _ hy,by rw [List.length_map]; omega,fun b u e=>?_,Jg,ls ++ [(.ref t,nm2 ps z.2)],by rw [List.map_append]; rfl,fun z' hz'=>?_,?_⟩
    ·rw [Jt (Jw e hD)]; exact e9 _ _ (e8 b u e)
    ·rcases List.mem_append.mp hz' with q | q
     ·exact Jmu (Jar hP e9) (e9 _ _ hy) z' q
     ·rw [List.mem_singleton.mp q];exact Jmu (zs:=[(.ref t,nm2 ps z.2)]) (fun z' hz'=>by rw [List.mem_singleton.mp hz']; exact ⟨t,rfl,JQ.of Jg⟩) (e9 _ _ hy) _ (List.mem_singleton.mpr rfl)
    ·rw [List.map_append,hls,List.take_succ,hz,List.map_append,List.map_append]; rfl
   ·rintro ys H8 ⟨e8,hy,ls,rfl,hP,hls⟩;rw [List.length_map,List.take_length] at hls;exact ⟨D,ls,e8,hy,hP,hls,rfl⟩
  rintro σ1 H8 ⟨pl,ls,e8,hll,hP,hls,rfl⟩;refine ⟨_,rfl,_,rfl,_,rfl,pg,rfl,⟨_,Jz.of (e8 _ _ hpgs)⟩,fun D hD=>?_⟩;refine JmI (xs:=gs.map V.int) (fun i v=>∃ g,gs[i]?=some g∧v=.str (nm ps g)) rfl (Jz.of (e8 _ _ hpgs)) hD ?_ (fun i x H9 hx e9 Q' hQ=>?_) (fun ys H9 e9 hy hyl hF=>?_)
  ·rw [List.length_map];have:gs.length≤n:=by
    have z:=Jip (r:=(List.range n).map fun (i:Nat)=>(i:Int)) hgd fun x hx=>by
     have:=hgr x hx;exact List.mem_map.mpr ⟨x.toNat,List.mem_range.mpr (by omega),by omega⟩
    simpa using z
   omega
  ·rw [List.getElem?_map] at hx;obtain ⟨g,hg,rfl⟩:=Option.map_eq_some_iff.mp hx;have:=hgr g (List.mem_of_getElem? hg);exact ⟨_,rfl,_,rfl,pn,_,_,_,rfl,rfl,Jz.of (e9 _ _ (e8 _ _ hpn7)),Jnm this.1 (by omega),hQ _ ⟨g,hg,rfl⟩⟩
  ·have eys:ys=(gs.map (nm ps)).map V.str:=by
    apply List.ext_getElem?;intro i;by_cases hi:i < ys.length
    ·obtain ⟨g,h1,h2⟩:=hF i _ (List.getElem?_eq_getElem hi);rw [List.getElem?_eq_getElem hi,h2,List.getElem?_map,List.getElem?_map,h1];rfl
    ·rw [List.getElem?_eq_none (by omega),List.getElem?_eq_none];rw [List.length_map] at hyl;rw [List.length_map,List.length_map];omega
   subst eys;refine ⟨by show 3≤sizeLine; omega,fun t nt=>q t ps ls (gs.map (nm ps)) _ ((e17.trans e8).trans (e9.trans (Ji.upd nt))) ⟨⟨by omega,by omega,hpg,hpd,?_,?_,?_,?_,?_⟩,pn,pl,D,Jg,?_,?_,?_,?_⟩⟩
   ·rw [hls,List.length_map,List.length_map]; exact hzl
   ·intro z hz;rw [hls] at hz;obtain ⟨y,hy1,rfl⟩:=List.mem_map.mp hz;obtain ⟨z',hz',rfl⟩:=List.mem_map.mp hy1;obtain ⟨r1,r2⟩:=W.rg z' hz';exact ⟨Jk1 r1.1 (by omega),Jk1 r2.1 (by omega)⟩
   ·rw [hls];refine Jmx W.nd fun x hx y hy e=>?_
    obtain ⟨z',hz',rfl⟩:=List.mem_map.mp hx;obtain ⟨z2,hz2,rfl⟩:=List.mem_map.mp hy;obtain ⟨r1,r2⟩:=W.rg z' hz';obtain ⟨r3,r4⟩:=W.rg z2 hz2;have e1:=congrArg Prod.fst e;have e2:=congrArg Prod.snd e;exact Prod.ext (Jof hpd r1.1 (by omega) r3.1 (by omega) e1) (Jof hpd r2.1 (by omega) r4.1 (by omega) e2)
   ·intro g hg;obtain ⟨x,hx,rfl⟩:=List.mem_map.mp hg;have:=hgr x hx;exact Jk1 this.1 (by omega)
   ·refine Jmx hgd fun x hx y hy e=>?_
    have h1:=hgr x hx;have h2:=hgr y hy;exact Jof hpd h1.1 (by omega) h2.1 (by omega) e
   ·exact (e9.trans (Ji.upd nt)) _ _ (e8 _ _ hpn7)
   ·exact (e9.trans (Ji.upd nt)) _ _ hll
   ·exact Jar hP (e9.trans (Ji.upd nt))
   ·exact (Ji.upd nt) _ _ hy
end
def rf (x:Str):List V:=[.str "refused",.str x]
def Zp (z:Str) (n:Int) (zs:List (Str×Str)) (gs:List Str):V:=if z∈gs then .str "north" else if n=0∨JN zs z=[] then .str "south" else .non
theorem JrX {z:Str} {n:Int} {zs zs':List (Str×Str)} {gs gs':List Str} (h1:zs'.Perm zs) (h2:gs'.Perm gs):Zp z n zs' gs'=Zp z n zs gs:=by
 unfold Zp;have e1:(z∈gs')↔(z∈gs):=h2.mem_iff;have e2:(JN zs' z=[])↔(JN zs z=[]):=by
  have hp:(JN zs' z).Perm (JN zs z):=(h1.filter _).map _;constructor
  ·intro e; rw [e] at hp; exact hp.symm.eq_nil
  ·intro e; rw [e] at hp; exact hp.eq_nil
 simp only [e1,e2]
def Juf (k:Addr):Sp:=fun vs H Q E=>∃ n m:Int,vs=[.int n,.int m]∧(0≤m∧m≤30)∧(0≤n∧n≤m→Q .non H)∧(¬ (0≤n∧n≤m)→E (.ref k) none H)
def JsD (K:PySem.W.Frag) (C k1 k2:Addr):Sp:=fun vs H Q E=>∃ (b:Addr) (z:Str) (n:Int) (ps:List Str) (zs:List (V×(Str×Str))) (gs:List Str),vs=[.ref b,.str z,.int n]∧Yo z∧zs.length≤40∧Jbf K C H b ps zs gs ∧
 (z∉ps→E (.ref k1) none H)∧(z∈ps→¬ (0≤n∧n≤30)→E (.ref k2) none H)∧(z∈ps→0≤n∧n≤30→∀ H',Ji H H'→Q (Zp z n (zs.map (·.2)) gs) H')
def Jam (n s:Int):Prop:=0≤n∧0≤s∧n + s≤20
instance (n s:Int):Decidable (Jam n s):=by unfold Jam; exact inferInstance
def Jse (n s:Int) (r:Bool) (b a:Int):Prop:=(0≤b∧b≤(if r then s else n))∧(0≤a∧a≤(if r then n else s))
instance (n s:Int) (r:Bool) (b a:Int):Decidable (Jse n s r b a):=by unfold Jse; exact inferInstance
def JmS (k:Addr):Sp:=fun vs H Q E=>∃ z:Str,vs=[.str z]∧Yo z∧(Zr z=true→Q .non H)∧(Zr z=false→E (.ref k) none H)
def Jsv (k:Addr):Sp:=fun vs H Q E=>∃ z:Str,vs=[.str z]∧Yo z∧(∀ b,z=hs b→Q (.str (hs (!b))) H)∧(Zr z=false→E (.ref k) none H)
def JlC (k:Addr):Sp:=fun vs H Q E=>∃ n s:Int,vs=[.int n,.int s]∧(Jam n s→Q .non H)∧(¬ Jam n s→E (.ref k) none H)
theorem tcT {σ:St} {H:Hp} {F G:Hp→Prop} (h:F H):JeH σ H (fun b H3=>if b=true then F H3 else G H3):=by
 show if true=true then F H else G H;rw [if_pos rfl];exact h
abbrev ZR (zs:List (Str×Str)) (gs:List Str) (c:Int) (t:Nat) (p:Str) (r:Bool):Int:=YY (JN zs) (fun p=>decide (p∈gs)) c t p r
abbrev loB (zs:List (Str×Str)) (gs:List Str) (c:Int) (t:Nat) (p:Str) (r:Bool):Int:=loA (JN zs) (fun p=>decide (p∈gs)) c t p r
abbrev hiC (zs:List (Str×Str)) (gs:List Str) (c:Int) (t:Nat) (p:Str) (r:Bool):Int:=hiB (JN zs) (fun p=>decide (p∈gs)) c t p r
theorem Jpk {ps:List Str} {zs:List (Str×Str)} {gs:List Str} (G:Jd8 ps zs gs) {p w:Str} (h:w∈JN zs p):w∈ps:=by
 unfold JN at h;obtain ⟨z,hz,rfl⟩:=List.mem_map.mp h;exact (G.l2 z (List.mem_filter.mp hz).1).2
theorem Jmq {ps:List Str} {zs:List (Str×Str)} {gs:List Str} (G:Jd8 ps zs gs) (p:Str):(JN zs p).length≤40:=by
 unfold JN;rw [List.length_map];exact Nat.le_trans (List.length_filter_le _ _) G.l1
theorem Jd8.perm {ps ps':List Str} {zs zs':List (Str×Str)} {gs gs':List Str} (G:Jd8 ps zs gs) (p:ps'.Perm ps) (z:zs'.Perm zs) (g:gs'.Perm gs):Jd8 ps' zs' gs' :=
 ⟨by rw [p.length_eq]; exact G.p1,by rw [p.length_eq]; exact G.p2,fun x h=>G.p3 x (p.mem_iff.mp h),p.nodup_iff.mpr G.p4,by rw [z.length_eq]; exact G.l1,
  fun x h=>let q:=G.l2 x (z.mem_iff.mp h); ⟨p.mem_iff.mpr q.1,p.mem_iff.mpr q.2⟩,z.nodup_iff.mpr G.l3,fun x h=>p.mem_iff.mpr (G.g1 x (g.mem_iff.mp h)),g.nodup_iff.mpr G.g2⟩
structure Bd (K:PySem.W.Frag) (C:Addr) (H:Hp) (b:Addr) (ps:List Str) (zs:List (V×(Str×Str))) (gs:List Str):Prop where
 B:Jbf K C H b ps zs gs
 G:Jd8 ps (zs.map (·.2)) gs
theorem Bd.same {K:PySem.W.Frag} {C:Addr} {H H':Hp} {b:Addr} {ps:List Str} {zs:List (V×(Str×Str))} {gs:List Str} (h:Bd K C H b ps zs gs) (e:Ji H H'):Bd K C H' b ps zs gs:=⟨h.B.same e,h.G⟩
theorem Bd.zl {K:PySem.W.Frag} {C:Addr} {H:Hp} {b:Addr} {ps:List Str} {zs:List (V×(Str×Str))} {gs:List Str} (h:Bd K C H b ps zs gs):zs.length≤40:=by have:=h.G.l1; rwa [List.length_map] at this
theorem Yc.bd {K:PySem.W.Frag} {C C' dx:Addr} {H H':Hp} {b k:Addr} {ps:List Str} {zs:List (V×(Str×Str))} {gs:List Str} {fs:List (Str×V)} (h:Bd K C H b ps zs gs) (e:Yc k H H') (hk:H k=some (.ins C' dx fs)) (hn:k≠b):Bd K C H' b ps zs gs:=by
 obtain ⟨⟨d,tp,tl,tg,h1,h2,h3,h4,h5⟩,G⟩:=h;exact ⟨⟨d,tp,tl,tg,e _ _ (fun z=>hn z.symm) h1,e _ _ (Jas h2 hk (fun z=>nomatch z)) h2,e _ _ (Jas h3 hk (fun z=>nomatch z)) h3,fun z hz=>let ⟨a,q1,q2⟩:=h4 z hz; ⟨a,q1,e.tup hk q2⟩,e _ _ (Jas h5 hk (fun z=>nomatch z)) h5⟩,G⟩
def Jbm (p:Str) (r:Bool):List JK:=[.inr p,.inr (hs r)]
theorem JrO {a b:Bool} (h:hs a=hs b):a=b:=by cases a <;> cases b <;> first | rfl | (exact absurd h (by decide +kernel))
theorem JoI {p q:Str} {r s:Bool} (h:Jbm p r=Jbm q s):p=q∧r=s:=by
 unfold Jbm at h;simp only [List.cons.injEq,Sum.inr.injEq,and_true] at h;exact ⟨h.1,JrO h.2⟩
def Jgb (H:Hp) (a:Addr) (ps:List Str) (f:Str→Bool→Int):Prop:=∃ kvs:List (List JK×V),H a=some (.dT kvs)∧∀ p∈ps,∀ r,Yi kvs (Jbm p r)=some (.int (f p r))
theorem Jgb.same {H H':Hp} {a:Addr} {ps:List Str} {f:Str→Bool→Int} (h:Jgb H a ps f) (e:Ji H H'):Jgb H' a ps f:=let ⟨kvs,h1,h2⟩:=h; ⟨kvs,e _ _ h1,h2⟩
structure Bk (K:PySem.W.Frag) (C CB:Addr) (H:Hp) (k b:Addr) (ps:List Str) (zs:List (V×(Str×Str))) (gs:List Str) (c:Int) (t n:Nat):Prop where
 B:Bd K C H b ps zs gs
 c0:0≤c
 c1:c≤20
 t1:t≤30
 at_:∃ (dx l:Addr) (rs:List Addr),H k=some (.ins CB dx [("board",.ref b),("coins",.int c),("turns",.int t),("needs",.ref l)])∧H l=some (.lst (rs.map V.ref))∧rs.length=n∧∀ (i:Nat) a,rs[i]?=some a→Jgb H a ps (ZR (zs.map (·.2)) gs c i)
theorem Bk.same {K:PySem.W.Frag} {C CB:Addr} {H H':Hp} {k b:Addr} {ps:List Str} {zs:List (V×(Str×Str))} {gs:List Str} {c:Int} {t n:Nat} (h:Bk K C CB H k b ps zs gs c t n) (e:Ji H H'):Bk K C CB H' k b ps zs gs c t n :=
 ⟨h.B.same e,h.c0,h.c1,h.t1,let ⟨dx,l,rs,h1,h2,h3,h4⟩:=h.at_; ⟨dx,l,rs,e _ _ h1,e _ _ h2,h3,fun i a q=>(h4 i a q).same e⟩⟩
section
variable (K:PySem.W.Frag) (C CB:Addr)
def Jva:Sp:=fun vs H Q _=>∃ (k b:Addr) (z:Str) (m:Nat) (ps:List Str) (zs:List (V×(Str×Str))) (gs:List Str) (c:Int) (t n:Nat),vs=[.ref k,.str z,.int ((m:Int) + 1)]∧Bk K C CB H k b ps zs gs c t n∧m < n∧z∈ps∧JN (zs.map (·.2)) z≠[] ∧
 ∀ H',Ji H H'→Q (.int (loB (zs.map (·.2)) gs c m z false)) H'
def Ju9:Sp:=fun vs H Q _=>∃ (k b:Addr) (z:Str) (m:Nat) (ps:List Str) (zs:List (V×(Str×Str))) (gs:List Str) (c:Int) (t n:Nat),vs=[.ref k,.str z,.int ((m:Int) + 1)]∧Bk K C CB H k b ps zs gs c t n∧m < n∧z∈ps∧JN (zs.map (·.2)) z≠[] ∧
 ∀ H',Ji H H'→Q (.int (hiC (zs.map (·.2)) gs c m z true)) H'
def Jui:Sp:=fun vs H Q _=>∃ (k b:Addr) (z:Str) (m:Nat) (r:Bool) (ps:List Str) (zs:List (V×(Str×Str))) (gs:List Str) (c:Int) (t n:Nat),vs=[.ref k,.str z,.int m,.str (hs r)]∧Bk K C CB H k b ps zs gs c t n∧m≤n∧m≤30∧z∈ps ∧
 ∀ H',Ji H H'→Q (.int (ZR (zs.map (·.2)) gs c m z r)) H'
def Jsw:Sp:=fun vs H Q _=>∃ (k b:Addr) (m:Nat) (ps:List Str) (zs:List (V×(Str×Str))) (gs:List Str) (c:Int) (t n:Nat),vs=[.ref k,.int m]∧Bk K C CB H k b ps zs gs c t n∧m≤n∧m≤30 ∧
 ∀ a H',Ji H H'→Jgb H' a ps (ZR (zs.map (·.2)) gs c m)→Q (.ref a) H'
def JnC (x:Addr):Sp:=fun vs H Q E=>∃ (k b dx:Addr) (c t:Int) (ps:List Str) (zs:List (V×(Str×Str))) (gs:List Str),vs=[.ref k,.ref b,.int c,.int t]∧H k=some (.ins CB dx [])∧k≠b∧Bd K C H b ps zs gs ∧
 (¬ (0≤c∧c≤20)→E (.ref x) none H)∧(0≤c∧c≤20→¬ (0≤t∧t≤30)→E (.ref x) none H) ∧
 (0≤c∧c≤20→0≤t∧t≤30→∀ H',Yc k H H'→Bk K C CB H' k b ps zs gs c t.toNat (t.toNat + 1)→Q .non H')
def Zc (zs:List (Str×Str)) (gs:List Str) (m:Nat) (z:Str):Prop:=z∈gs∨m=0∨JN zs z=[]
instance (zs:List (Str×Str)) (gs:List Str) (m:Nat) (z:Str):Decidable (Zc zs gs m z):=by unfold Zc; exact inferInstance
theorem JoA {z:Str} {m:Nat} {zs:List (Str×Str)} {gs:List Str}:(Zc zs gs m z→∃ x,Zp z (m:Int) zs gs=.str x)∧(¬ Zc zs gs m z→Zp z (m:Int) zs gs=.non):=by
 unfold Zp Zc;by_cases hg:z∈gs
 ·rw [if_pos hg]; exact ⟨fun _=>⟨_,rfl⟩,fun h=>absurd (.inl hg) h⟩
 ·rw [if_neg hg];by_cases h0:(m:Int)=0∨JN zs z=[]
  ·rw [if_pos h0];refine ⟨fun _=>⟨_,rfl⟩,fun h=>absurd (.inr ?_) h⟩;rcases h0 with h0 | h0
   ·exact .inl (by omega)
   ·exact .inr h0
  ·rw [if_neg h0];refine ⟨fun h=>?_,fun _=>rfl⟩;rcases h with h | h | h
   ·exact absurd h hg
   ·exact absurd (.inl (by omega)) h0
   ·exact absurd (.inr h) h0
end
section
variable {P:Program} {w:World} {K:PySem.W.Frag} {mg:Str→Option Value} {base:Heap}
theorem Ja7 (T:Txt K mg):JL P w K mg base (Y8 P w) 1 T.Jd3 T.JcW ["number", "most"] (Juf T.JB):=by
 refine T.ZY.F.ok1 JlF (fun vs H Q E h=>?_) (fun cdv A outer s H vs Q E hr h=>?_)
 ·obtain ⟨_,_,rfl,_⟩:=h;rfl
 ·obtain ⟨n,m,rfl,hm,q1,q2⟩:=h;refine ⟨_,(@Jj _ _ _ (@JM _ _ _ _ _ _ _ _ (@PW.pt _ _ _ (@Jac _ _ _ _ _ _ _ (@Jx _ _ _ _ _ _ _ _ (@Jcc _) (@pv _ 0 _ _ rfl (.inl rfl) rfl rfl) (@Je _ _ _ _) (JH _)) (@Jax _ _ _ _ (@Jx _ _ _ _ _ _ _ _ (@Jhh _) (@pv _ 0 _ _ rfl (.inl rfl) rfl rfl) (@pv _ 1 _ _ rfl (.inl rfl) rfl rfl) (JH _))))) (@Jj _ _ _ (@JaV _ _ _ _ _ _ _ _ _ T.Yg T.Jcy JbQ (@JbS _ _ _ _ _ _ (PJ.cons (@Jp _ _ _ _) (PJ.cons (@JlU _ _ _ _ (@pv _ 1 _ _ rfl (.inl rfl) rfl rfl)) PJ.nil)) rfl) rfl rfl (by decide) rfl)) (@Jy _))),?_⟩;have fm:∀ m:Nat,m < 31→(m:Int).natAbs.log2 < 1920∧(Str.empty ++ Str.ofString "it goes from 0 to " ++ Str.ofString (toString (m:Int))).length≤sizeLine:=by decide +kernel
  obtain ⟨m,rfl⟩:∃ j:Nat,m=(j:Int):=⟨m.toNat,by omega⟩
  have fm:=fm m (by omega);have bad:¬ (0≤n∧n≤m)→Jny T.JB E (JkL [tC (.str "it goes from 0 to "),JpX (fun σ H Q=>∃ v,σ[1]?=some (some v)∧Q v H)] Str.empty) { nx:=fun _ H'=>Q .non H',rt:=Q } [some (.int n),some (.int (m:Int))] H:=fun hb =>
   ⟨_,rfl,by decide +kernel,_,rfl,_,rfl,fm.1,_,rfl,fm.2,fm.2,q2 hb⟩
  refine ⟨_,rfl,_,_,rfl,rfl,_,rfl,YM (fun c=>?_) (fun c=>?_)⟩
  ·exact Y1 (bad fun z=>by have:=z.1; have:=of_decide_eq_true c; omega)
  refine ⟨_,rfl,_,rfl,_,_,rfl,rfl,_,rfl,YM (fun d=>?_) (fun d=>?_)⟩
  ·exact bad fun z=>by have:=z.2; have:=of_decide_eq_true d; omega
  ·exact q1 ⟨Int.not_lt.mp fun z=>c (decide_eq_true z),Int.not_lt.mp fun z=>d (decide_eq_true z)⟩
theorem Jkg (T:Txt K mg):JL P w K mg base (Y8 P w) 4 T.Jmc T.Jku ["board", "place", "turns"] (JsD K T.JT T.JW T.JB):=by
 refine T.Jg6.F.ok1 JsR (fun vs H Q E h=>?_) (fun cdv A outer s H vs Q E hr h=>?_)
 ·obtain ⟨_,_,_,_,_,_,rfl,_⟩:=h;rfl
 ·obtain ⟨b,z,n,ps,zs,gs,rfl,ht,hl,B,q1,q2,q3⟩:=h;refine ⟨_,(@Jf _ _ _ _ _ (@J7 _ _ _ _ (@Ys _ _ _ _ _ _ _ _ _ _ _ _ _ _ _ _ _ _ _ _ (@pv _ 0 _ _ rfl (.inl rfl) rfl rfl) T.Y2 T.Yk.m (ZH T) (hr.mono (by decide)) T.Yk.b .nil Y4 (@Ja _ _ _ _ _ (@pv _ 1 _ _ rfl (.inl rfl) rfl rfl) (@Jd _) rfl) rfl rfl rfl) rfl) (@Jf _ _ _ _ _ (@J7 _ _ _ _ (@Jo _ _ _ _ _ _ _ _ _ _ _ _ _ _ _ T.ZY (Ja7 T) (hr.mono (by decide)) Y4 (@Ja _ _ _ _ _ (@pv _ 2 _ _ rfl (.inl rfl) rfl rfl) (@Ja _ _ _ _ _ (@ZV _ _ _ _ _ rfl T.Jaj T.Jae (by decide)) (@Jd _) rfl) rfl) rfl (by decide) rfl rfl) rfl) (@Jf _ _ _ _ _ (@JM _ _ _ _ _ _ _ _ (@Zx _ _ _ (@Ys _ _ _ _ _ _ _ _ _ _ _ _ _ _ _ _ _ _ _ _ (@pv _ 0 _ _ rfl (.inl rfl) rfl rfl) T.Y2 T.JaO.m (Jkk T) (hr.mono (by decide)) T.JaO.b .nil Y4 (@Ja _ _ _ _ _ (@pv _ 1 _ _ rfl (.inl rfl) rfl rfl) (@Jd _) rfl) rfl rfl rfl) (by intro _; rfl)) (@Jj _ _ _ (@Jq _ _ _ _ (@Jp _ _ _ _))) (@Jy _)) (@Jf _ _ _ _ _ (@JM _ _ _ _ _ _ _ _ (@PW.pt _ _ _ (@Jac _ _ _ _ _ _ _ (@Jx _ _ _ _ _ _ _ _ (@YU _) (@pv _ 2 _ _ rfl (.inl rfl) rfl rfl) (@Je _ _ _ _) (JH _)) (@Jax _ _ _ _ (@Jx _ _ _ _ _ _ _ _ (@YU _) (@JA _ _ _ _ _ _ _ _ _ (@Yl _) rfl T.Zv PySem.boot_len (@Ja _ _ _ _ _ (@Ys _ _ _ _ _ _ _ _ _ _ _ _ _ _ _ _ _ _ _ _ (@pv _ 0 _ _ rfl (.inl rfl) rfl rfl) T.Y2 T.Zz.m (JdP T) (hr.mono (by decide)) T.Zz.b .nil Y4 (@Ja _ _ _ _ _ (@pv _ 1 _ _ rfl (.inl rfl) rfl rfl) (@Jd _) rfl) rfl rfl rfl) (@Jd _) rfl) (by decide) (by decide) rfl rfl) (@Je _ _ _ _) (JH _))))) (@Jj _ _ _ (@Jq _ _ _ _ (@Jp _ _ _ _))) (@Jy _)) (@Jj _ _ _ (@Jq _ _ _ _ (@Jbp _ _ _))))))),?_⟩;obtain ⟨dx,tp,tl,tg,hb,_⟩:=id B;refine ⟨_,rfl,b,dx,_,rfl,hb,rfl,_,rfl,b,z,ps,zs,gs,rfl,ht,B,fun hin=>?_,q1⟩;refine ⟨_,rfl,n,30,rfl,⟨by decide,by decide⟩,fun hn=>?_,q2 hin⟩;refine ⟨_,rfl,b,dx,_,rfl,hb,rfl,_,rfl,b,z,ps,zs,gs,rfl,ht,B,fun _=>⟨_,rfl,?_⟩,fun h=>absurd hin h⟩;have q:=q3 hin hn;by_cases hg:z∈gs
  ·refine Zw (decide_eq_true hg) ?_;have e:Zp z n (zs.map (·.2)) gs=.str "north":=by unfold Zp; rw [if_pos hg]
   rw [e] at q;exact q H (Ji.refl _)
  ·refine YQ (decide_eq_false hg) ⟨_,rfl,rfl,_,rfl,?_⟩;by_cases h0:n=0
   ·have e:Zp z n (zs.map (·.2)) gs=.str "south":=by unfold Zp; rw [if_neg hg,if_pos (.inl h0)]
    rw [e] at q;exact Zw (by rw [h0]; exact decide_eq_true rfl) (Y1 (q H (Ji.refl _)))
   ·refine YQ (decide_eq_false fun e=>h0 (V.int.inj e)) ⟨_,rfl,b,dx,_,rfl,hb,rfl,_,rfl,b,z,ps,zs,gs,rfl,ht,hl,B,fun _ t H' e' ht'=>⟨t,_,rfl,.inr (JQ.of ht'),rfl,_,rfl,?_⟩,fun h=>absurd hin h⟩;rw [List.length_map];by_cases hw:JN (zs.map (·.2)) z=[]
    ·have e:Zp z n (zs.map (·.2)) gs=.str "south":=by unfold Zp; rw [if_neg hg,if_pos (.inr hw)]
     rw [e] at q;exact Zw (by rw [hw]; exact decide_eq_true rfl) (q H' e')
    ·have e:Zp z n (zs.map (·.2)) gs=.non:=by unfold Zp; rw [if_neg hg,if_neg (fun h=>h.elim h0 hw)]
     rw [e] at q;refine YQ (decide_eq_false fun e2=>?_) (q H' e');have e3:((JN (zs.map (·.2)) z).length:Int)=0:=V.int.inj e2;exact hw (List.length_eq_zero_iff.mp (by omega))
theorem JhF (T:Txt K mg):JL P w K mg base (Y8 P w) 1 T.Jft T.JdU ["hand"] (JmS T.J5):=by
 refine T.JcA.F.ok1 JmV (fun vs H Q E h=>?_) (fun cdv A outer s H vs Q E hr h=>?_)
 ·obtain ⟨_,rfl,_⟩:=h;rfl
 ·obtain ⟨z,rfl,ht,q1,q2⟩:=h;refine ⟨_,(@Jj _ _ _ (@JM _ _ _ _ _ _ _ _ (@Jx _ _ _ _ _ _ _ _ (@Jcb _) (@pv _ 0 _ _ rfl (.inl rfl) rfl rfl) (@ZA _ _ _ _ rfl T.Jl1 (by decide)) (by with_unfolding_all rfl)) (@Jj _ _ _ (@JaV _ _ _ _ _ _ _ _ _ T.YL T.Ji7 JbQ (@JbS _ _ _ _ _ _ (PJ.cons (@Je1 _ _ _ _ (@pv _ 0 _ _ rfl (.inl rfl) rfl rfl)) (PJ.cons (@Jp _ _ _ _) PJ.nil)) rfl) rfl rfl (by decide) rfl)) (@Jy _))),?_⟩;refine ⟨_,rfl,T.Jg3,_,rfl,.inr (T.Jjf H),rfl,rfl,_,rfl,?_⟩;rw [if_pos rfl,JrM];have hz:=JfP ht;have e1:(Str.empty ++ reprText z).length=(reprText z).length:=by rw [strLen_append]; exact Nat.zero_add _
  cases hb:Zr z with
  | true=>exact YG (q1 hb)
  | false =>
   refine Y1 ⟨_,rfl,z,rfl,Nat.le_trans hz (by decide),_,rfl,by rw [e1]; exact Nat.le_trans hz (by decide),_,rfl,?_,?_,q2 hb⟩
   all_goals
    rw [strLen_append,e1];refine Nat.le_trans (Nat.add_le_add_right hz _) (by decide)
theorem Js6 (T:Txt K mg):JL P w K mg base (Y8 P w) 2 T.Jl8 T.Jkq ["hand"] (Jsv T.J5):=by
 refine T.Jmm.F.ok1 JsP (fun vs H Q E h=>?_) (fun cdv A outer s H vs Q E hr h=>?_)
 ·obtain ⟨_,rfl,_⟩:=h;rfl
 ·obtain ⟨z,rfl,ht,q1,q2⟩:=h;refine ⟨_,(@Jf _ _ _ _ _ (@J7 _ _ _ _ (@Jo _ _ _ _ _ _ _ _ _ _ _ _ _ _ _ T.JcA (JhF T) (hr.mono (by decide)) Y4 (@Ja _ _ _ _ _ (@pv _ 0 _ _ rfl (.inl rfl) rfl rfl) (@Jd _) rfl) rfl (by decide) rfl rfl) rfl) (@Jj _ _ _ (@Jq _ _ _ _ (@Jke _ _ _ _ _ _ _ _ (@Jx _ _ _ _ _ _ _ _ (@YU _) (@pv _ 0 _ _ rfl (.inl rfl) rfl rfl) (@Jp _ _ _ _) (JH _)) (@Jp _ _ _ _) (@Jp _ _ _ _))))),?_⟩;refine ⟨_,rfl,z,rfl,ht,fun hb=>?_,q2⟩;obtain ⟨b,rfl⟩:=Jpz hb;refine ⟨_,rfl,rfl,_,rfl,?_⟩;rw [Jtk];cases b with
  | true=>exact Y1 (q1 true rfl)
  | false=>exact YG (q1 false rfl)
theorem JlZ (T:Txt K mg):JL P w K mg base (Y8 P w) 1 T.Jd6 T.JcZ ["north", "south"] (JlC T.JB):=by
 refine T.Jeb.F.ok1 JlG (fun vs H Q E h=>?_) (fun cdv A outer s H vs Q E hr h=>?_)
 ·obtain ⟨_,_,rfl,_⟩:=h;rfl
 ·obtain ⟨n,s,rfl,q1,q2⟩:=h;refine ⟨_,(@Jj _ _ _ (@JM _ _ _ _ _ _ _ _ (@PW.pt _ _ _ (@Jac _ _ _ _ _ _ _ (@Jx _ _ _ _ _ _ _ _ (@Jcc _) (@pv _ 0 _ _ rfl (.inl rfl) rfl rfl) (@Je _ _ _ _) (JH _)) (@Jac _ _ _ _ _ _ _ (@Jx _ _ _ _ _ _ _ _ (@Jcc _) (@pv _ 1 _ _ rfl (.inl rfl) rfl rfl) (@Je _ _ _ _) (JH _)) (@Jax _ _ _ _ (@Jx _ _ _ _ _ _ _ _ (@Jhh _) (@Jm _ _ _ _ _ _ _ _ (@Yj _) (@pv _ 0 _ _ rfl (.inl rfl) rfl rfl) (@pv _ 1 _ _ rfl (.inl rfl) rfl rfl)) (@ZV _ _ _ _ _ rfl T.Jak T.Jaf (by decide)) (JH _)))))) (@Jj _ _ _ (@JaV _ _ _ _ _ _ _ _ _ T.Yg T.Jcy JbQ (@JbS _ _ _ _ _ _ (PJ.cons (@Jp _ _ _ _) (PJ.cons (@JlU _ _ _ _ (@ZV _ _ _ _ _ rfl T.Jak T.Jaf (by decide))) PJ.nil)) rfl) rfl rfl (by decide) rfl)) (@Jy _))),?_⟩;have bad:¬ Jam n s→Jny T.JB E (JkL [tC (.str "coins go from 0, both hands' together to "),JpX (tC (.int 20))] Str.empty) { nx:=fun _ H'=>Q .non H',rt:=Q } [some (.int n),some (.int s)] H:=fun hb =>
   ⟨_,rfl,by decide +kernel,_,rfl,by decide +kernel,_,rfl,by decide +kernel,by decide +kernel,q2 hb⟩
  refine ⟨_,rfl,_,_,rfl,rfl,_,rfl,YM (fun c=>?_) (fun c=>?_)⟩
  ·exact Y1 (bad fun z=>by have:=z.1; have:=of_decide_eq_true c; omega)
  refine ⟨_,rfl,_,_,rfl,rfl,_,rfl,YM (fun d=>?_) (fun d=>?_)⟩
  ·exact Y1 (bad fun z=>by have:=z.2.1; have:=of_decide_eq_true d; omega)
  refine ⟨_,rfl,_,rfl,_,_,rfl,rfl,_,_,rfl,rfl,_,rfl,YM (fun e=>?_) (fun e=>?_)⟩
  ·exact bad fun z=>by have:=z.2.2; have:=of_decide_eq_true e; omega
  ·refine q1 ⟨?_,?_,?_⟩
   ·exact Int.not_lt.mp fun z=>c (decide_eq_true z)
   ·exact Int.not_lt.mp fun z=>d (decide_eq_true z)
   ·exact Int.not_lt.mp fun z=>e (decide_eq_true z)
theorem Jce (T:Txt K mg):JL P w K mg base YR 4 T.Zo T.Zk ["self", "place", "turns"] (Jva K T.JT T.J3):=by
 refine T.YW.F.ok Z4 (fun vs H Q E h=>?_) (fun cdv A outer s H vs Q E hr h=>?_)
 ·obtain ⟨_,_,_,_,_,_,_,_,_,_,rfl,_⟩:=h;rfl
 ·obtain ⟨k,b,z,m,ps,zs,gs,c,t,n,rfl,B,hm,hz,hw,q⟩:=h;have hu:=Jf3 hr;refine ⟨_,(@Jf _ _ _ _ _ (@JE _ _ 3 _ _ _ _ Z4.nd rfl (Or.inr rfl) (@JD _ _ _ _ _ _ _ (@JU _) (@Yd _ _ _ _ _ (@pv _ 0 _ _ rfl (.inl rfl) rfl rfl) rfl) (@Jm _ _ _ _ _ _ _ _ (@Jay _) (@pv _ 2 _ _ rfl (.inl rfl) rfl rfl) (@Je _ _ _ _)) (fun _ _=>rfl)) rfl (by first | exact .inl rfl | exact .inr rfl | assumption)) (@Jj _ _ _ (@Jq _ _ _ _ (@JA _ _ _ _ _ _ _ _ _ (@Jr6 _ rfl) rfl T.Jnn PyProof.Rows.boot_min (@Ja _ _ _ _ _ (@Jhg _ _ _ _ _ _ _ 1 ["way", "behind"] [3] _ _ _ _ ["self", "place", "turns", "behind"] ((Jl YT).names) (by decide +kernel) (@Jih _ _ _ _ (@Ys _ _ _ _ _ _ _ _ _ _ _ _ _ _ _ _ _ _ _ _ (@Yd _ _ _ _ _ (@pv _ 0 _ _ rfl (.inl rfl) rfl rfl) rfl) T.Y2 T.Zz.m (JdP T) (hr.mono (by decide)) T.Zz.b .nil Z5 (@Ja _ _ _ _ _ (@pv _ 1 _ _ rfl (.inl rfl) rfl rfl) (@Jd _) rfl) rfl rfl rfl)) (fun _ _ _ _=>(@Jah _ _ _ _ _ _ _ _ _ 0 (by decide +kernel) rfl rfl)) (fun _ _ _ _=>(@JcS _)) (fun _ _ _ _=>(@JlV _ _ _ _ _ _ hu (@JaW _ _ _ _ _ _ _ _ _ 1 rfl rfl (by decide) (by decide)) (@YX _ _ _ _ _ (@Ja _ _ _ _ _ (@ZE _ _ _ _ _ _ _ _ _ 0 rfl rfl (by decide) (by decide)) (@Ja _ _ _ _ _ (@Jp _ _ _ _) (@Jd _) rfl) rfl)) (fun _ _=>rfl))) rfl rfl rfl (by intro _; rfl)) (@Jd _) rfl) (by decide) (by decide) rfl rfl)))),?_⟩;obtain ⟨dx,l,rs,h1,h2,h3,h4⟩:=B.at_;obtain ⟨a,ha⟩:∃ a,rs[m]?=some a:=⟨_,List.getElem?_eq_getElem (by omega)⟩
  obtain ⟨kvs,hk1,hk2⟩:=h4 m a ha;obtain ⟨bdx,tp,tl,tg,hb,_⟩:=id B.B.B;have hwl:=Jmq B.B.G z;have hat:Z8 (rs.map V.ref) ((m:Int) + 1 - 1)=some (.ref a):=by
   rw [Int.add_sub_cancel]; exact Y0 (by rw [List.getElem?_map,ha]; rfl)
  refine ⟨_,rfl,k,_,dx,_,.ref l,rfl,h1,T.Zd,T.JaA,rfl,_,rfl,_,_,rfl,rfl,l,_,_,.ref a,rfl,rfl,Jz.of h2,hat,?_⟩;refine ⟨_,rfl,k,_,dx,_,.ref b,rfl,h1,T.Zd,T.ZW,rfl,b,bdx,_,rfl,hb,rfl,_,rfl,b,z,ps,zs,gs,rfl,YH (B.B.G.p3 z hz),B.B.zl,B.B.B,fun _ tw H1 e1 ht=>?_,fun h=>absurd hz h⟩;refine ⟨tw,rfl,⟨_,JQ.of ht⟩,fun D hD=>?_⟩;refine Jky (xs:=(JN (zs.map (·.2)) z).map V.str) (fun i ys H2=>Ji H1 H2∧H2 D=some (.lst ys)∧ys=((JN (zs.map (·.2)) z).take i).map fun w=>V.int (ZR (zs.map (·.2)) gs c m w false)) rfl (fun i ys H2 p=>JQ.of (p.1 _ _ ht)) ⟨Ji.upd hD,Jg,by simp⟩ (fun i ys H2 p=>p.2.1) ?_ ?_
  ·rintro i x ys H2 hx ⟨e2,hy,rfl⟩;rw [List.getElem?_map] at hx;obtain ⟨w',hw1,rfl⟩:=Option.map_eq_some_iff.mp hx;have hin:=Jpk B.B.G (List.mem_of_getElem? hw1);refine tcT ?_;refine ⟨_,rfl,_,rfl,by show 2≤sizeLine; decide,fun p hp=>?_⟩;have g:=Jbn.t (k:=Jbm w' false) ((Ji.upd (o:=.tup [.str w',.str "south"]) hp) _ _ (e2 _ _ (e1 _ _ hk1))) (show upd H2 p (.tup [.str w',.str "south"]) p=some (.tup ((Jbm w' false).map kV)) from Jg);rw [hk2 w' hin false] at g;have hDp:D≠p:=Jw hy hp;refine ⟨a,_,rfl,g,by rw [Jt hDp]; exact hy,?_,fun b' u e=>?_,Jg,?_⟩
   ·rw [List.length_map,List.length_take];refine Nat.lt_of_le_of_lt (Nat.min_le_right _ _) (Nat.lt_of_le_of_lt hwl (by decide))
   ·rw [Jt (Jw e hD),Jt (Jw (e2 _ _ e) hp)]; exact e2 b' u e
   ·rw [List.take_succ,hw1,List.map_append]; rfl
  ·rintro ys H2 ⟨e2,hy,rfl⟩;rw [List.length_map,List.take_length] at hy;have e:((JN (zs.map (·.2)) z).map fun w=>V.int (ZR (zs.map (·.2)) gs c m w false))=((JN (zs.map (·.2)) z).map fun w=>ZR (zs.map (·.2)) gs c m w false).map V.int:=by rw [List.map_map]; rfl
   rw [e] at hy;refine ⟨D,_,rfl,Jz.of hy,?_,fun M hM1 hM2=>?_⟩
   ·rw [List.length_map]; exact List.length_pos_iff.mpr hw
   ·rw [JuG hM1 hM2]; exact q H2 (e1.trans e2)
theorem Jcd (T:Txt K mg):JL P w K mg base YR 4 T.Zn T.Zj ["self", "place", "turns"] (Ju9 K T.JT T.J3):=by
 refine T.YV.F.ok Z3 (fun vs H Q E h=>?_) (fun cdv A outer s H vs Q E hr h=>?_)
 ·obtain ⟨_,_,_,_,_,_,_,_,_,_,rfl,_⟩:=h;rfl
 ·obtain ⟨k,b,z,m,ps,zs,gs,c,t,n,rfl,B,hm,hz,hw,q⟩:=h;have hu:=Jf3 hr;refine ⟨_,(@Jf _ _ _ _ _ (@JE _ _ 3 _ _ _ _ Z3.nd rfl (Or.inr rfl) (@JD _ _ _ _ _ _ _ (@JU _) (@Yd _ _ _ _ _ (@pv _ 0 _ _ rfl (.inl rfl) rfl rfl) rfl) (@Jm _ _ _ _ _ _ _ _ (@Jay _) (@pv _ 2 _ _ rfl (.inl rfl) rfl rfl) (@Je _ _ _ _)) (fun _ _=>rfl)) rfl (by first | exact .inl rfl | exact .inr rfl | assumption)) (@Jj _ _ _ (@Jq _ _ _ _ (@JA _ _ _ _ _ _ _ _ _ (@Jr7 _ rfl) rfl T.Jjm PyProof.Rows.boot_max (@Ja _ _ _ _ _ (@Jhg _ _ _ _ _ _ _ 1 ["way", "behind"] [3] _ _ _ _ ["self", "place", "turns", "behind"] ((Jl YS).names) (by decide +kernel) (@Jih _ _ _ _ (@Ys _ _ _ _ _ _ _ _ _ _ _ _ _ _ _ _ _ _ _ _ (@Yd _ _ _ _ _ (@pv _ 0 _ _ rfl (.inl rfl) rfl rfl) rfl) T.Y2 T.Zz.m (JdP T) (hr.mono (by decide)) T.Zz.b .nil Z5 (@Ja _ _ _ _ _ (@pv _ 1 _ _ rfl (.inl rfl) rfl rfl) (@Jd _) rfl) rfl rfl rfl)) (fun _ _ _ _=>(@Jah _ _ _ _ _ _ _ _ _ 0 (by decide +kernel) rfl rfl)) (fun _ _ _ _=>(@JcS _)) (fun _ _ _ _=>(@JlV _ _ _ _ _ _ hu (@JaW _ _ _ _ _ _ _ _ _ 1 rfl rfl (by decide) (by decide)) (@YX _ _ _ _ _ (@Ja _ _ _ _ _ (@ZE _ _ _ _ _ _ _ _ _ 0 rfl rfl (by decide) (by decide)) (@Ja _ _ _ _ _ (@Jp _ _ _ _) (@Jd _) rfl) rfl)) (fun _ _=>rfl))) rfl rfl rfl (by intro _; rfl)) (@Jd _) rfl) (by decide) (by decide) rfl rfl)))),?_⟩;obtain ⟨dx,l,rs,h1,h2,h3,h4⟩:=B.at_;obtain ⟨a,ha⟩:∃ a,rs[m]?=some a:=⟨_,List.getElem?_eq_getElem (by omega)⟩
  obtain ⟨kvs,hk1,hk2⟩:=h4 m a ha;obtain ⟨bdx,tp,tl,tg,hb,_⟩:=id B.B.B;have hwl:=Jmq B.B.G z;have hat:Z8 (rs.map V.ref) ((m:Int) + 1 - 1)=some (.ref a):=by
   rw [Int.add_sub_cancel]; exact Y0 (by rw [List.getElem?_map,ha]; rfl)
  refine ⟨_,rfl,k,_,dx,_,.ref l,rfl,h1,T.Zd,T.JaA,rfl,_,rfl,_,_,rfl,rfl,l,_,_,.ref a,rfl,rfl,Jz.of h2,hat,?_⟩;refine ⟨_,rfl,k,_,dx,_,.ref b,rfl,h1,T.Zd,T.ZW,rfl,b,bdx,_,rfl,hb,rfl,_,rfl,b,z,ps,zs,gs,rfl,YH (B.B.G.p3 z hz),B.B.zl,B.B.B,fun _ tw H1 e1 ht=>?_,fun h=>absurd hz h⟩;refine ⟨tw,rfl,⟨_,JQ.of ht⟩,fun D hD=>?_⟩;refine Jky (xs:=(JN (zs.map (·.2)) z).map V.str) (fun i ys H2=>Ji H1 H2∧H2 D=some (.lst ys)∧ys=((JN (zs.map (·.2)) z).take i).map fun w=>V.int (ZR (zs.map (·.2)) gs c m w true)) rfl (fun i ys H2 p=>JQ.of (p.1 _ _ ht)) ⟨Ji.upd hD,Jg,by simp⟩ (fun i ys H2 p=>p.2.1) ?_ ?_
  ·rintro i x ys H2 hx ⟨e2,hy,rfl⟩;rw [List.getElem?_map] at hx;obtain ⟨w',hw1,rfl⟩:=Option.map_eq_some_iff.mp hx;have hin:=Jpk B.B.G (List.mem_of_getElem? hw1);refine tcT ?_;refine ⟨_,rfl,_,rfl,by show 2≤sizeLine; decide,fun p hp=>?_⟩;have g:=Jbn.t (k:=Jbm w' true) ((Ji.upd (o:=.tup [.str w',.str "north"]) hp) _ _ (e2 _ _ (e1 _ _ hk1))) (show upd H2 p (.tup [.str w',.str "north"]) p=some (.tup ((Jbm w' true).map kV)) from Jg);rw [hk2 w' hin true] at g;have hDp:D≠p:=Jw hy hp;refine ⟨a,_,rfl,g,by rw [Jt hDp]; exact hy,?_,fun b' u e=>?_,Jg,?_⟩
   ·rw [List.length_map,List.length_take];refine Nat.lt_of_le_of_lt (Nat.min_le_right _ _) (Nat.lt_of_le_of_lt hwl (by decide))
   ·rw [Jt (Jw e hD),Jt (Jw (e2 _ _ e) hp)]; exact e2 b' u e
   ·rw [List.take_succ,hw1,List.map_append]; rfl
  ·rintro ys H2 ⟨e2,hy,rfl⟩;rw [List.length_map,List.take_length] at hy;have e:((JN (zs.map (·.2)) z).map fun w=>V.int (ZR (zs.map (·.2)) gs c m w true))=((JN (zs.map (·.2)) z).map fun w=>ZR (zs.map (·.2)) gs c m w true).map V.int:=by rw [List.map_map]; rfl
   rw [e] at hy;refine ⟨D,_,rfl,Jz.of hy,?_,fun M hM1 hM2=>?_⟩
   ·rw [List.length_map]; exact List.length_pos_iff.mpr hw
   ·rw [JuI hM1 hM2]; exact q H2 (e1.trans e2)
theorem JkZ (T:Txt K mg):JL P w K mg base YR 5 T.Jc4 T.Jcr ["self", "place", "turns", "ribbon"] (Jui K T.JT T.J3):=by
 refine T.Jbe.F.ok JaF (fun vs H Q E h=>?_) (fun cdv A outer s H vs Q E hr h=>?_)
 ·obtain ⟨_,_,_,_,_,_,_,_,_,_,_,rfl,_⟩:=h;rfl
 ·obtain ⟨k,b,z,m,r,ps,zs,gs,c,t,n,rfl,B,hm,hm2,hz,q⟩:=h;refine ⟨_,(@Jf _ _ _ _ _ (@JE _ _ 4 _ _ _ _ JaF.nd rfl (Or.inl rfl) (@Jo _ _ _ _ _ _ _ _ _ _ _ _ _ _ _ T.Jg6 (Jkg T) (hr.mono (by decide)) Z5 (@Ja _ _ _ _ _ (@Yd _ _ _ _ _ (@pv _ 0 _ _ rfl (.inl rfl) rfl rfl) rfl) (@Ja _ _ _ _ _ (@pv _ 1 _ _ rfl (.inl rfl) rfl rfl) (@Ja _ _ _ _ _ (@pv _ 2 _ _ rfl (.inl rfl) rfl rfl) (@Jd _) rfl) rfl) rfl) rfl (by decide) rfl rfl) rfl (.inl rfl)) (@Jf _ _ _ _ _ (@JM _ _ _ _ _ _ _ _ (@Jbo _ _ _ _ _ _ (@Jjl _ _ _ _ _ (@pv _ 4 _ _ rfl (.inl rfl) rfl rfl)) (by first | exact Zi _ (by decide) (by decide) | rfl)) (@Jj _ _ _ (@Jq _ _ _ _ (@Jke _ _ _ _ _ _ _ _ (@Jx _ _ _ _ _ _ _ _ (@YU _) (@pv _ 4 _ _ rfl (.inl rfl) rfl rfl) (@Jp _ _ _ _) (JH _)) (@Je _ _ _ _) (@Jm _ _ _ _ _ _ _ _ (@Yj _) (@Yd _ _ _ _ _ (@pv _ 0 _ _ rfl (.inl rfl) rfl rfl) rfl) (@Je _ _ _ _))))) (@Jy _)) (@Jf _ _ _ _ _ (@JE _ _ 5 _ _ _ _ JaF.nd rfl (Or.inl rfl) (@Ys _ _ _ _ _ _ _ _ _ _ _ _ _ _ _ _ _ _ _ _ (@pv _ 0 _ _ rfl (.inl rfl) rfl rfl) T.Zd T.YW.m (Jce T) (hr.mono (by decide)) T.YW.b .nil JG (@Ja _ _ _ _ _ (@pv _ 1 _ _ rfl (.inl rfl) rfl rfl) (@Ja _ _ _ _ _ (@pv _ 2 _ _ rfl (.inl rfl) rfl rfl) (@Jd _) rfl) rfl) rfl rfl rfl) rfl (.inl rfl)) (@Jf _ _ _ _ _ (@JE _ _ 6 _ _ _ _ JaF.nd rfl (Or.inl rfl) (@Ys _ _ _ _ _ _ _ _ _ _ _ _ _ _ _ _ _ _ _ _ (@pv _ 0 _ _ rfl (.inl rfl) rfl rfl) T.Zd T.YV.m (Jcd T) (hr.mono (by decide)) T.YV.b .nil JG (@Ja _ _ _ _ _ (@pv _ 1 _ _ rfl (.inl rfl) rfl rfl) (@Ja _ _ _ _ _ (@pv _ 2 _ _ rfl (.inl rfl) rfl rfl) (@Jd _) rfl) rfl) rfl rfl rfl) rfl (.inl rfl)) (@Jf _ _ _ _ _ (@JM _ _ _ _ _ _ _ _ (@Jx _ _ _ _ _ _ _ _ (@YU _) (@pv _ 3 _ _ rfl (.inl rfl) rfl rfl) (@Jp _ _ _ _) (JH _)) (@Jj _ _ _ (@Jq _ _ _ _ (@JA _ _ _ _ _ _ _ _ _ (@Jf6 _ rfl) rfl T.Jjm PyProof.Rows.boot_max (@Ja _ _ _ _ _ (@pv _ 5 _ _ rfl (.inl rfl) rfl rfl) (@Ja _ _ _ _ _ (@Jm _ _ _ _ _ _ _ _ (@Yx _) (@Jm _ _ _ _ _ _ _ _ (@Yj _) (@pv _ 5 _ _ rfl (.inl rfl) rfl rfl) (@pv _ 6 _ _ rfl (.inl rfl) rfl rfl)) (@Je _ _ _ _)) (@Jd _) rfl) rfl) (by decide) (by decide) rfl rfl))) (@Jy _)) (@Jj _ _ _ (@Jq _ _ _ _ (@JA _ _ _ _ _ _ _ _ _ (@JmK _ rfl) rfl T.Jnn PyProof.Rows.boot_min (@Ja _ _ _ _ _ (@pv _ 6 _ _ rfl (.inl rfl) rfl rfl) (@Ja _ _ _ _ _ (@Jm _ _ _ _ _ _ _ _ (@Yx _) (@Jm _ _ _ _ _ _ _ _ (@Yj _) (@Jm _ _ _ _ _ _ _ _ (@Yj _) (@pv _ 5 _ _ rfl (.inl rfl) rfl rfl) (@pv _ 6 _ _ rfl (.inl rfl) rfl rfl)) (@Je _ _ _ _)) (@Je _ _ _ _)) (@Jd _) rfl) rfl) (by decide) (by decide) rfl rfl)))))))),?_⟩;obtain ⟨dx,l,rs,h1,h2,h3,h4⟩:=B.at_;refine ⟨_,rfl,k,_,dx,_,.ref b,rfl,h1,T.Zd,T.ZW,rfl,_,rfl,_,rfl,b,z,m,ps,zs,gs,rfl,YH (B.B.G.p3 z hz),B.B.zl,B.B.B,fun h=>absurd hz h,fun _ h=>absurd (by omega) h,fun _ _ H1 e1=>?_⟩;by_cases hg:z∈gs
  ·have ev:Zp z m (zs.map (·.2)) gs=.str "north":=by unfold Zp; rw [if_pos hg]
   rw [ev];have en:ZR (zs.map (·.2)) gs c m z r=0:=Jir (decide_eq_true hg);rw [en] at q;exact ⟨_,rfl,_,rfl,Y1 ⟨_,rfl,rfl,_,rfl,Y1 (q H1 e1)⟩⟩
  ·by_cases h0:(m:Int)=0∨JN (zs.map (·.2)) z=[]
   ·have ev:Zp z m (zs.map (·.2)) gs=.str "south":=by unfold Zp; rw [if_neg hg,if_pos h0]
    rw [ev];have en:ZR (zs.map (·.2)) gs c m z r=c + 1:=by
     rcases h0 with h0 | h0
     ·have:m=0:=by omega
      subst this;exact Jru (decide_eq_false hg)
     ·exact Jiq (decide_eq_false hg) h0
    rw [en] at q;exact ⟨_,rfl,_,rfl,Y1 ⟨_,rfl,rfl,_,rfl,YG ⟨_,rfl,k,_,dx,_,.int c,rfl,e1 _ _ h1,T.Zd,T.JdR,rfl,_,_,rfl,rfl,q H1 e1⟩⟩⟩
   ·have ev:Zp z m (zs.map (·.2)) gs=.non:=by unfold Zp; rw [if_neg hg,if_neg h0]
    rw [ev];obtain ⟨j,rfl⟩:∃ j,m=j + 1:=⟨m - 1,by omega⟩
    have hw:JN (zs.map (·.2)) z≠[]:=fun e=>h0 (.inr e)
    refine ⟨_,rfl,_,rfl,YG ?_⟩;refine ⟨_,rfl,k,dx,_,rfl,e1 _ _ h1,rfl,_,rfl,_,rfl,k,b,z,j,ps,zs,gs,c,t,n,rfl,B.same e1,by omega,hz,hw,fun H2 e2=>?_⟩;have e12:=e1.trans e2;refine ⟨_,rfl,k,dx,_,rfl,e12 _ _ h1,rfl,_,rfl,_,rfl,k,b,z,j,ps,zs,gs,c,t,n,rfl,B.same e12,by omega,hz,hw,fun H3 e3=>?_⟩;have q:=q H3 (e12.trans e3);refine ⟨_,rfl,rfl,_,rfl,?_⟩;rw [Jtk];cases r with
    | true =>
     rw [ZR,Jrw (W:=JN (zs.map (·.2))) (g:=fun p=>decide (p∈gs)) (p:=z) (decide_eq_false hg) hw] at q;exact Y1 ⟨_,rfl,_,rfl,_,rfl,_,_,rfl,rfl,_,_,rfl,rfl,⟨by decide,by decide⟩,_,_,rfl,q⟩
    | false =>
     rw [ZR,Jrv (W:=JN (zs.map (·.2))) (g:=fun p=>decide (p∈gs)) (p:=z) (decide_eq_false hg) hw] at q;exact YG ⟨_,rfl,_,rfl,_,rfl,_,_,rfl,rfl,_,_,rfl,rfl,_,_,rfl,rfl,⟨by decide,by decide⟩,_,_,rfl,q⟩
theorem Jio (T:Txt K mg):JL P w K mg base YR 6 T.Jbl T.Ja4 ["self", "turns"] (Jsw K T.JT T.J3):=by
 refine T.Jad.F.ok Z2 (fun vs H Q E h=>?_) (fun cdv A outer s H vs Q E hr h=>?_)
 ·obtain ⟨_,_,_,_,_,_,_,_,_,rfl,_⟩:=h;rfl
 ·obtain ⟨k,b,m,ps,zs,gs,c,t,n,rfl,B,hm,hm2,q⟩:=h;have hu:=Jf3 hr;have szl:sizeLine=16777216:=sizeLine_eq;refine ⟨_,(@Jf _ _ _ _ _ (@JE _ _ 2 _ _ _ _ Z2.nd rfl (Or.inl rfl) (@JsZ _ _) rfl (.inl rfl)) (@Jf _ _ _ _ _ (@ZN _ _ _ _ _ _ _ _ PassesOwn.never rfl (@Jih _ _ _ _ (@Yd _ _ _ _ _ (@Yd _ _ _ _ _ (@pv _ 0 _ _ rfl (.inl rfl) rfl rfl) rfl) rfl)) (@YC _ _ 3 _ Z2.nd rfl (Or.inl rfl) (.inl rfl)) (@Jj _ _ _ (@ZN _ _ _ _ _ _ _ _ PassesOwn.never rfl (@Jih _ _ _ _ (@ZA _ _ _ _ rfl T.Jl1 (by decide))) (@YC _ _ 4 _ Z2.nd rfl (Or.inl rfl) (.inl rfl)) (@Jj _ _ _ (@JlQ _ _ _ _ _ _ _ _ _ hu (@pv _ 2 _ _ rfl (.inl rfl) rfl rfl) (@YX _ _ _ _ _ (@Ja _ _ _ _ _ (@pv _ 3 _ _ rfl (.inl rfl) rfl rfl) (@Ja _ _ _ _ _ (@pv _ 4 _ _ rfl (.inl rfl) rfl rfl) (@Jd _) rfl) rfl)) (@Ys _ _ _ _ _ _ _ _ _ _ _ _ _ _ _ _ _ _ _ _ (@pv _ 0 _ _ rfl (.inl rfl) rfl rfl) T.Zd T.Jbe.m (JkZ T) (hr.mono (by decide)) T.Jbe.b .nil JG (@Ja _ _ _ _ _ (@pv _ 3 _ _ rfl (.inl rfl) rfl rfl) (@Ja _ _ _ _ _ (@pv _ 1 _ _ rfl (.inl rfl) rfl rfl) (@Ja _ _ _ _ _ (@pv _ 4 _ _ rfl (.inl rfl) rfl rfl) (@Jd _) rfl) rfl) rfl) rfl rfl rfl) rfl)) (by intro _; rfl))) (by intro _; rfl)) (@Jj _ _ _ (@Jq _ _ _ _ (@pv _ 2 _ _ rfl (.inl rfl) rfl rfl))))),?_⟩;obtain ⟨dx,l,rs,h1,h2,h3,h4⟩:=B.at_;obtain ⟨bdx,tp,tl,tg,hb,hp,_⟩:=id B.B.B;intro d hd;have kp:∀ {H2:Hp} {kvs:List (List JK×V)},Ji H H2→Ji H (upd H2 d (.dT kvs)):=fun e b' u h=>by rw [Jt (Jw h hd)]; exact e b' u h
  refine ⟨_,rfl,k,_,dx,_,.ref b,rfl,kp (Ji.refl _) _ _ h1,T.Zd,T.ZW,rfl,b,_,bdx,_,.ref tp,rfl,kp (Ji.refl _) _ _ hb,T.Y2,T.JaJ,rfl,tp,rfl,⟨_,JQ.of (kp (Ji.refl _) _ _ hp)⟩,?_⟩;refine JpB (xs:=ps.map V.str) (fun i σ H2=>∃ kvs v1 v2,Ji H H2∧H2 d=some (.dT kvs)∧kvs.length≤2 * i∧(∀ p∈ps.take i,∀ r,Yi kvs (Jbm p r)=some (.int (ZR (zs.map (·.2)) gs c m p r)))∧σ=[some (.ref k),some (.int m),some (.ref d),v1,v2])
   ⟨[],none,none,kp (Ji.refl _),Jg,Nat.zero_le _,fun p hp=>by simp at hp,rfl⟩ (fun i σ H2 _ h=>by obtain ⟨_,_,_,e,_⟩:=h; exact JQ.of (e _ _ hp)) ?_ ?_
  ·rintro i x σ H2 hx ⟨kvs,v1,v2,e2,hd2,hl2,hv2,rfl⟩;rw [List.getElem?_map] at hx;obtain ⟨p,hp1,rfl⟩:=Option.map_eq_some_iff.mp hx;have hpm:=List.mem_of_getElem? hp1;refine ⟨T.Jg3,rfl,⟨_,T.Jjf _⟩,?_⟩;refine JpB (xs:=[.str "north",.str "south"]) (fun j σ H3=>∃ kvs v2,Ji H H3∧H3 d=some (.dT kvs)∧kvs.length≤2 * i + j∧(∀ p∈ps.take i,∀ r,Yi kvs (Jbm p r)=some (.int (ZR (zs.map (·.2)) gs c m p r))) ∧
     (0 < j→Yi kvs (Jbm p true)=some (.int (ZR (zs.map (·.2)) gs c m p true)))∧(1 < j→Yi kvs (Jbm p false)=some (.int (ZR (zs.map (·.2)) gs c m p false)))∧σ=[some (.ref k),some (.int m),some (.ref d),some (.str p),v2])
    ⟨kvs,v2,e2,hd2,by omega,hv2,fun z=>absurd z (by decide),fun z=>absurd z (by decide),rfl⟩ (fun i σ H2 _ h=>T.Jjf _) ?_ ?_
   ·rintro j y σ H3 hy ⟨kvs,v2,e3,hd3,hl3,hv3,hn3,hs3,rfl⟩;obtain ⟨r,rfl,hrj⟩:∃ r:Bool,y=.str (hs r)∧((r=true∧j=0)∨(r=false∧j=1)):=by
     match j,hy with
     | 0,h=>exact ⟨true,(Option.some.inj h).symm,.inl ⟨rfl,rfl⟩⟩
     | 1,h=>exact ⟨false,(Option.some.inj h).symm,.inr ⟨rfl,rfl⟩⟩
     | j + 2,h=>cases h
    refine ⟨_,rfl,k,dx,_,rfl,e3 _ _ h1,rfl,_,rfl,_,rfl,_,rfl,k,b,p,m,r,ps,zs,gs,c,t,n,rfl,B.same e3,hm,hm2,hpm,fun H4 e4=>?_⟩;refine ⟨_,rfl,_,rfl,_,rfl,by show 2≤sizeLine; decide,fun tp4 n4=>?_⟩;have hd4:upd H4 tp4 (.tup [.str p,.str (hs r)]) d=some (.dT kvs):=(Ji.upd n4) _ _ (e4 _ _ hd3);have hlen:ps.length≤12:=B.B.G.p2;have hil:i < ps.length:=(List.getElem?_eq_some_iff.mp hp1).1;have hj2:j≤1:=by rcases hrj with h | h <;> omega
    refine ⟨d,_,rfl,Jhw.t (k:=Jbm p r) hd4 (show upd H4 tp4 (.tup [.str p,.str (hs r)]) tp4=some (.tup ((Jbm p r).map kV)) from Jg) (by omega),_,_,kp ((e3.trans e4).trans (Ji.upd n4)),Jg,?_,fun p' hp' r'=>?_,fun h=>?_,fun h=>?_,rfl⟩
    ·unfold JaU;split
     ·rw [List.length_map]; omega
     ·rw [List.length_append,List.length_singleton]; omega
    ·rw [Jj4];by_cases hk:Jbm p' r'=Jbm p r
     ·obtain ⟨rfl,rfl⟩:=JoI hk;rw [if_pos rfl]
     ·rw [if_neg hk]; exact hv3 p' hp' r'
    ·rw [Jj4];rcases hrj with ⟨rfl,rfl⟩ | ⟨rfl,rfl⟩
     ·rw [if_pos rfl]
     ·rw [if_neg (fun e=>by have:=(JoI e).2; cases this)]; exact hn3 (by decide)
    ·rcases hrj with ⟨rfl,rfl⟩ | ⟨rfl,rfl⟩
     ·exact absurd h (by decide)
     ·rw [Jj4,if_pos rfl]
   ·rintro σ H3 ⟨kvs,v2,e3,hd3,hl3,hv3,hn3,hs3,rfl⟩;refine ⟨kvs,_,_,e3,hd3,by have:[V.str "north",V.str "south"].length=2:=rfl; omega,fun p' hp' r=>?_,rfl⟩;rw [List.take_succ,hp1] at hp';rcases List.mem_append.mp hp' with h | h
    ·exact hv3 p' h r
    ·have h:p'=p:=by simpa using h
     subst h;cases r with
     | true=>exact hn3 (by decide)
     | false=>exact hs3 (by decide)
  ·rintro σ H2 ⟨kvs,v1,v2,e2,hd2,hl2,hv2,rfl⟩;rw [List.length_map,List.take_length] at hv2;exact ⟨_,rfl,q d H2 e2 ⟨kvs,hd2,hv2⟩⟩
theorem Joe (T:Txt K mg):JL P w K mg base (Y8 P w) 7 T.Jdc T.Jfq ["self", "board", "coins", "turns"] (JnC K T.JT T.J3 T.JB):=by
 refine T.JgA.F.ok1 Jh7 (fun vs H Q E h=>?_) (fun cdv A outer s H vs Q E hr h=>?_)
 ·obtain ⟨_,_,_,_,_,_,_,_,rfl,_⟩:=h;rfl
 ·obtain ⟨k,b,dx,c,t,ps,zs,gs,rfl,hk,hkb,B,q1,q2,q⟩:=h;have szl:sizeLine=16777216:=sizeLine_eq;refine ⟨_,(@Jf _ _ _ _ _ (@J7 _ _ _ _ (@Jo _ _ _ _ _ _ _ _ _ _ _ _ _ _ _ T.ZY (Ja7 T) (hr.mono (by decide)) Y4 (@Ja _ _ _ _ _ (@pv _ 2 _ _ rfl (.inl rfl) rfl rfl) (@Ja _ _ _ _ _ (@ZV _ _ _ _ _ rfl T.Jak T.Jaf (by decide)) (@Jd _) rfl) rfl) rfl (by decide) rfl rfl) rfl) (@Jf _ _ _ _ _ (@J7 _ _ _ _ (@Jo _ _ _ _ _ _ _ _ _ _ _ _ _ _ _ T.ZY (Ja7 T) (hr.mono (by decide)) Y4 (@Ja _ _ _ _ _ (@pv _ 3 _ _ rfl (.inl rfl) rfl rfl) (@Ja _ _ _ _ _ (@ZV _ _ _ _ _ rfl T.Jaj T.Jae (by decide)) (@Jd _) rfl) rfl) rfl (by decide) rfl rfl) rfl) (@Jf _ _ _ _ _ (@Y6 _ _ _ _ _ _ _ _ (@pv _ 0 _ _ rfl (.inl rfl) rfl rfl) (@pv _ 1 _ _ rfl (.inl rfl) rfl rfl) rfl) (@Jf _ _ _ _ _ (@Y6 _ _ _ _ _ _ _ _ (@pv _ 0 _ _ rfl (.inl rfl) rfl rfl) (@pv _ 2 _ _ rfl (.inl rfl) rfl rfl) rfl) (@Jf _ _ _ _ _ (@Y6 _ _ _ _ _ _ _ _ (@pv _ 0 _ _ rfl (.inl rfl) rfl rfl) (@pv _ 3 _ _ rfl (.inl rfl) rfl rfl) rfl) (@Jf _ _ _ _ _ (@Y6 _ _ _ _ _ _ _ _ (@pv _ 0 _ _ rfl (.inl rfl) rfl rfl) (@Yv _ _ _ _ (@Jd _)) rfl) (@Jj _ _ _ (@ZN _ _ _ _ _ _ _ _ PassesOwn.leaving rfl (@Zy _ _ _ _ _ _ rfl T.ZL (@Ja _ _ _ _ _ (@Jm _ _ _ _ _ _ _ _ (@Yj _) (@pv _ 3 _ _ rfl (.inl rfl) rfl rfl) (@Je _ _ _ _)) (@Jd _) rfl) rfl) (@YC _ _ 4 _ Jh7.nd rfl (Or.inl rfl) (.inl rfl)) (@Jj _ _ _ (@J7 _ _ _ _ (@Jc8 _ _ _ _ _ _ _ _ _ _ _ _ PySem.F.plainAttrs_list PySem.F.slot_list_append PySem.F.type_list_append (@ZJ _) (@Yd _ _ _ _ _ (@pv _ 0 _ _ rfl (.inl rfl) rfl rfl) rfl) (@Ja _ _ _ _ _ (@Ys _ _ _ _ _ _ _ _ _ _ _ _ _ _ _ _ _ _ _ _ (@pv _ 0 _ _ rfl (.inl rfl) rfl rfl) T.Zd T.Jad.m (Jio T) (hr.mono (by decide)) T.Jad.b .nil JG (@Ja _ _ _ _ _ (@pv _ 4 _ _ rfl (.inl rfl) rfl rfl) (@Jd _) rfl) rfl rfl rfl) (@Jd _) rfl) rfl rfl rfl rfl rfl) rfl)) (by intro _; rfl))))))))),?_⟩;refine ⟨_,rfl,c,20,rfl,⟨by decide,by decide⟩,fun hc=>?_,q1⟩;refine ⟨_,rfl,t,30,rfl,⟨by decide,by decide⟩,fun ht=>?_,q2 hc⟩;have q:=q hc ht;obtain ⟨tn,rfl⟩:∃ j:Nat,t=(j:Int):=⟨t.toNat,by omega⟩
  rw [Int.toNat_natCast] at q;refine ⟨_,rfl,_,rfl,k,_,dx,_,rfl,hk,T.Zd,T.ZW,by decide,?_⟩;have b1:Yc k H (upd H k (.ins T.J3 dx (Yh "board" (.ref b) []))):=Yc.put;have h1:upd H k (.ins T.J3 dx (Yh "board" (.ref b) [])) k=some (.ins T.J3 dx [("board",.ref b)]):=Jg;generalize upd H k (.ins T.J3 dx (Yh "board" (.ref b) []))=H1 at b1 h1;refine ⟨_,rfl,_,rfl,k,_,dx,_,rfl,h1,T.Zd,T.JdR,by show 1 < 1000; decide,?_⟩;have b2:=b1.trans (Yc.put (o:=.ins T.J3 dx (Yh "coins" (.int c) [("board",.ref b)])));have h2:upd H1 k (.ins T.J3 dx (Yh "coins" (.int c) [("board",.ref b)])) k=some (.ins T.J3 dx [("board",.ref b),("coins",.int c)]):=Jg;generalize upd H1 k (.ins T.J3 dx (Yh "coins" (.int c) [("board",.ref b)]))=H2 at b2 h2;refine ⟨_,rfl,_,rfl,k,_,dx,_,rfl,h2,T.Zd,T.JhI,by show 2 < 1000; decide,?_⟩;have b3:=b2.trans (Yc.put (o:=.ins T.J3 dx (Yh "turns" (.int (tn:Int)) [("board",.ref b),("coins",.int c)])));have h3:upd H2 k (.ins T.J3 dx (Yh "turns" (.int (tn:Int)) [("board",.ref b),("coins",.int c)])) k=some (.ins T.J3 dx [("board",.ref b),("coins",.int c),("turns",.int (tn:Int))]):=Jg;generalize upd H2 k (.ins T.J3 dx (Yh "turns" (.int (tn:Int)) [("board",.ref b),("coins",.int c)]))=H3 at b3 h3;refine ⟨by show 0≤sizeLine; decide,fun l hl=>?_⟩;refine ⟨_,rfl,k,_,dx,_,rfl,(Ji.upd hl) _ _ h3,T.Zd,T.JaA,by show 3 < 1000; decide,?_⟩;have lk:l≠k:=fun e=>by rw [e,h3] at hl; cases hl
  have lH:H l=none:=by
   cases e:H l with
   | none=>rfl
   | some u=>rw [b3 l u lk e] at hl; cases hl
  have b4:=(b3.trans (Yc.of (Ji.upd (o:=.lst []) hl))).trans (Yc.put (o:=.ins T.J3 dx (Yh "needs" (.ref l) [("board",.ref b),("coins",.int c),("turns",.int (tn:Int))])));have h4:upd (upd H3 l (.lst [])) k (.ins T.J3 dx (Yh "needs" (.ref l) [("board",.ref b),("coins",.int c),("turns",.int (tn:Int))])) k=some (.ins T.J3 dx [("board",.ref b),("coins",.int c),("turns",.int (tn:Int)),("needs",.ref l)]):=Jg;have l4:upd (upd H3 l (.lst [])) k (.ins T.J3 dx (Yh "needs" (.ref l) [("board",.ref b),("coins",.int c),("turns",.int (tn:Int))])) l=some (.lst []):=by rw [Jt lk,Jg]
  generalize upd (upd H3 l (.lst [])) k (.ins T.J3 dx (Yh "needs" (.ref l) [("board",.ref b),("coins",.int c),("turns",.int (tn:Int))]))=H4 at b4 h4 l4;refine ⟨_,rfl,_,_,rfl,rfl,(tn:Int) + 1,rfl,by omega,by omega,?_⟩;rw [show ((tn:Int) + 1).toNat=tn + 1 by omega];refine Z7 (n:=tn + 1) (fun i σ H5=>∃ rs v,Yc k H H5∧H5 k=some (.ins T.J3 dx [("board",.ref b),("coins",.int c),("turns",.int (tn:Int)),("needs",.ref l)])∧H5 l=some (.lst (rs.map V.ref))∧rs.length=i∧(∀ (j:Nat) a,rs[j]?=some a→Jgb H5 a ps (ZR (zs.map (·.2)) gs c j))∧σ=[some (.ref k),some (.ref b),some (.int c),some (.int (tn:Int)),v])
   ⟨[],none,b4,h4,l4,rfl,fun j a e=>by simp at e,rfl⟩ ?_ ?_
  ·rintro i σ H5 hi ⟨rs,v,b5,h5,l5,len5,r5,rfl⟩;have B5:Bk K T.JT T.J3 H5 k b ps zs gs c tn i:=⟨Yc.bd B b5 hk hkb,hc.1,hc.2,by omega,dx,l,rs,h5,l5,len5,r5⟩
   refine ⟨_,rfl,k,_,dx,_,.ref l,rfl,h5,T.Zd,T.JaA,rfl,.inl ⟨rfl,_,Jz.of l5⟩,_,rfl,k,dx,_,rfl,h5,rfl,_,rfl,k,b,i,ps,zs,gs,c,tn,i,by rw [Int.zero_add]; rfl,B5,Nat.le_refl _,by omega,fun a H6 e6 r6=>?_⟩;refine ⟨l,_,_,rfl,rfl,e6 _ _ l5,by rw [List.length_map]; omega,rs ++ [a],_,?_,?_,?_,?_,?_,rfl⟩
   ·intro x u hx hu;rw [Jt (Jw hu lH)];exact e6 _ _ (b5 x u hx hu)
   ·rw [Jt (fun e=>lk e.symm)]; exact e6 _ _ h5
   ·rw [Jg,List.map_append]; rfl
   ·rw [List.length_append,len5]; rfl
   ·intro j x hx;have key:∀ {y:Addr} {f:Str→Bool→Int},Jgb H6 y ps f→Jgb (upd H6 l (.lst (rs.map V.ref ++ [.ref a]))) y ps f:=fun {y f} hy=>by
     obtain ⟨kvs,y1,y2⟩:=hy;exact ⟨kvs,by rw [Jt (Jas y1 (e6 _ _ l5) (fun z=>nomatch z))]; exact y1,y2⟩
    by_cases hj:j < rs.length
    ·rw [List.getElem?_append_left hj] at hx;exact key ((r5 j x hx).same e6)
    ·rw [List.getElem?_append_right (by omega)] at hx;have hj0:j - rs.length=0:=by
      cases e:j - rs.length with
      | zero=>rfl
      | succ n=>rw [e] at hx; simp at hx
     rw [hj0] at hx;have:a=x:=by simpa using hx
     subst this;have:j=i:=by omega
     subst this;exact key r6
  ·rintro σ H5 ⟨rs,v,b5,h5,l5,len5,r5,rfl⟩;exact q H5 b5 ⟨Yc.bd B b5 hk hkb,hc.1,hc.2,by omega,dx,l,rs,h5,l5,len5,r5⟩
end
def Jsy (K:PySem.W.Frag):Sp:=fun vs H Q _=>∃ (t:Addr) (z:Str) (ps:List Str) (zs:List (V×(Str×Str))) (gs:List Str),vs=[.ref t,.str z]∧Ground K H t ps zs gs∧∀ (p:Addr) (ws:List Str) (H':Hp),Ji H H'→H' p=some (.lst (ws.map V.str))→ws.Perm (JN (zs.map (·.2)) z)→ws.Pairwise sle→Q (.ref p) H'
def JbD (z:Str) (n:Int) (zs:List (Str×Str)) (gs:List Str):Str:=if z∈gs then "north" else if n=0∨JN zs z=[] then "south" else ""
def Ju7 (K:PySem.W.Frag):Sp:=fun vs H Q _=>∃ (t:Addr) (z:Str) (n:Int) (ps:List Str) (zs:List (V×(Str×Str))) (gs:List Str),vs=[.ref t,.str z,.int n]∧Ground K H t ps zs gs∧∀ H',Ji H H'→Q (.str (JbD z n (zs.map (·.2)) gs)) H'
section
variable {K:PySem.W.Frag} {C CB:Addr} {H:Hp} {σ:St} {i j l:Nat} {E:XK} {Q:VK}
theorem Jqm {H4:Hp} {l1 l2 l3 x dx:Addr} {ps:List Str} {zs:List (V×(Str×Str))} {gs:List Str} (e4:Ji H H4) (k1:H4 l1=some (.lst (ps.map V.str))) (k2:H4 l2=some (.lst (zs.map (·.1)))) (k3:H4 l3=some (.lst (gs.map V.str))) (hP:Zu K H4 zs) (G:Jd8 ps (zs.map (·.2)) gs)
  (nx:H4 x=none) (ndx:H4 dx=none) (q:∀ ps' zs' gs' H',Ji H H'→Bd K C H' x ps' zs' gs'→ps'.Perm ps→ps'.Pairwise sle→zs'.Perm zs→(zs'.map (·.2)).Pairwise ple→gs'.Perm gs→gs'.Pairwise sle→Q .non H') :
  Jpm K C (.ref x :: ([.ref l1,.ref l2,.ref l3] ++ [])) (upd (upd H4 dx (.own x)) x (.ins C dx [])) Q E:=by
 have e5:Ji H4 (upd (upd H4 dx (.own x)) x (.ins C dx [])):=fun b u e=>by
  rw [Jt (Jw e nx),Jt (Jw e ndx)]; exact e
 refine ⟨x,l1,l2,l3,dx,ps,zs,gs,rfl,Jg,Jz.of (e5 _ _ k1),Jz.of (e5 _ _ k2),Jar hP e5,Jz.of (e5 _ _ k3),G,fun H' ps' zs' gs' bt pp ps zp zs gp gs B=>q ps' zs' gs' H' (fun b u e=>?_) ⟨B,G.perm pp (zp.map _) gp⟩ pp ps zp zs gp gs⟩;have e6:=e4 b u e;exact bt b u (Jw e6 nx) (e5 b u e6)
theorem JrA {x0 x dx:Addr} {b:Addr} {ps:List Str} {zs:List (V×(Str×Str))} {gs:List Str} {c t:Int} (B:Bd K C H b ps zs gs) (hc:0≤c∧c≤20) (ht:0≤t∧t≤30)
  (nx:H x=none) (ndx:H dx=none) (q:∀ H',Ji H H'→Bk K C CB H' x b ps zs gs c t.toNat (t.toNat + 1)→Q .non H') :
  JnC K C CB x0 (.ref x :: ([.ref b,.int c,.int t] ++ [])) (upd (upd H dx (.own x)) x (.ins CB dx [])) Q E:=by
 have e5:Ji H (upd (upd H dx (.own x)) x (.ins CB dx [])):=fun b u e=>by
  rw [Jt (Jw e nx),Jt (Jw e ndx)]; exact e
 obtain ⟨bdx,_,_,_,hb,_⟩:=id B.B;refine ⟨x,b,dx,c,t,ps,zs,gs,rfl,Jg,(fun e=>by rw [← e,nx] at hb; cases hb),B.same e5,fun h=>absurd hc h,fun _ h=>absurd ht h,fun _ _ H' bt Bk'=>q H' (fun b u e=>?_) Bk'⟩;exact bt b u (Jw e nx) (e5 b u e)
theorem Bk.ins {k b:Addr} {ps:List Str} {zs:List (V×(Str×Str))} {gs:List Str} {c:Int} {t n:Nat} (h:Bk K C CB H k b ps zs gs c t n):∃ dx l,H k=some (.ins CB dx [("board",.ref b),("coins",.int c),("turns",.int t),("needs",.ref l)]):=let ⟨dx,l,_,h1,_⟩:=h.at_; ⟨dx,l,h1⟩
end
theorem JpR {zs zs':List (Str×Str)} (h:zs'.Perm zs) (p:Str):(JN zs' p).Perm (JN zs p):=(h.filter _).map _
theorem Jnu {zs zs':List (Str×Str)} (h:zs'.Perm zs) (p:Str):JN zs' p=[]↔JN zs p=[]:=by
 have hp:=JpR h p;constructor
 ·intro e; rw [e] at hp; exact hp.symm.eq_nil
 ·intro e; rw [e] at hp; exact hp.eq_nil
theorem JqM {z:Str} {m:Nat} {zs zs':List (Str×Str)} {gs gs':List Str} (zp:zs'.Perm zs) (gp:gs'.Perm gs) :
  (z∈gs'∧JbD z (m:Int) zs gs = "north"∧Zc zs' gs' m z)∨(z∉gs'∧JbD z (m:Int) zs gs = "south"∧Zc zs' gs' m z)∨(JbD z (m:Int) zs gs = ""∧¬ Zc zs' gs' m z):=by
 have e1:(z∈gs')↔(z∈gs):=gp.mem_iff;have e2:=Jnu zp z;unfold JbD Zc;by_cases hg:z∈gs
 ·exact .inl ⟨e1.mpr hg,by rw [if_pos hg],.inl (e1.mpr hg)⟩
 ·by_cases h0:(m:Int)=0∨JN zs z=[]
  ·refine .inr (.inl ⟨fun h=>hg (e1.mp h),by rw [if_neg hg,if_pos h0],.inr ?_⟩);rcases h0 with h0 | h0
   ·exact .inl (by omega)
   ·exact .inr (e2.mpr h0)
  ·refine .inr (.inr ⟨by rw [if_neg hg,if_neg h0],?_⟩);rintro (h | h | h)
   ·exact hg (e1.mp h)
   ·exact h0 (.inl (by omega))
   ·exact h0 (.inr (e2.mp h))
theorem JvN {x n:Int} (h:0 < n):0≤x % n∧x % n < n:=⟨Int.emod_nonneg _ (by omega),Int.emod_lt_of_pos _ h⟩
theorem Ji8 {ps:List Str} (h:1≤ps.length) (x:Int):∃ p,Z8 (ps.map V.str) (x % ((ps.map V.str).length:Int))=some (.str p)∧p∈ps:=by
 rw [List.length_map];have hb:=JvN (x:=x) (n:=(ps.length:Int)) (by omega);exact ⟨_,Jnm hb.1 hb.2,Jk1 hb.1 hb.2⟩
def Jbd:V→Bool
 | .non=>true
 | .int _=>true
 | .str _=>true
 | _=>false
def Jss:Sp:=fun vs H Q _=>∃ i:Int,vs=[.int i]∧Q (.bl true) H
def Jul:Sp:=fun vs H Q _=>∃ i:Int,vs=[.int i]∧∀ b H',Ji H H'→Q (.str (hs b)) H'
def Jsz:Sp:=fun vs H Q _=>∃ x:V,vs=[x,x]∧Jbd x=true∧Q (.bl true) H
inductive Ph
 | over
 | bid
 | ans (b:Int)
 | step (h:Bool)
structure Mo where
 p:Str
 m:Nat
 n:Int
 r:Bool
 ph:Ph
def Mo.hand (x:Mo):V:=match x.ph with
 | .over=>.non
 | .bid=>.str (hs (!x.r))
 | .ans _=>.str (hs x.r)
 | .step h=>.str (hs h)
def Mo.word (x:Mo):V:=match x.ph with
 | .over=>.non
 | .bid=>.str "bid"
 | .ans _=>.str "answer"
 | .step _=>.str "step"
def Mo.heard (x:Mo):V:=match x.ph with
 | .ans b=>.int b
 | _=>.non
def Mo.fs (c:Int) (x:Mo):List (Str×V):=[("place",.str x.p),("turns",.int (x.m:Int)),("north",.int x.n),("south",.int (c - x.n)),("ribbon",.str (hs x.r)),("hand",x.hand),("word",x.word),("heard",x.heard)]
structure JoN (ps:List Str) (zs:List (Str×Str)) (gs:List Str) (c:Int) (T:Nat) (x:Mo):Prop where
 p:x.p∈ps
 m:x.m≤T
 n:0≤x.n∧x.n≤c
 e:x.ph=.over↔Zc zs gs x.m x.p
 b:∀ b,x.ph=.ans b→0≤b∧b≤own c x.n (!x.r)
def Jai (zs:List (Str×Str)) (gs:List Str) (p:Str) (m:Nat) (n:Int) (r:Bool):Mo:=⟨p,m,n,r,if Zc zs gs m p then .over else .bid⟩
theorem Jqh {ps:List Str} {zs:List (Str×Str)} {gs:List Str} {c:Int} {T:Nat} {p:Str} {m:Nat} {n:Int} {r:Bool} (hp:p∈ps) (hm:m≤T) (hn:0≤n∧n≤c):JoN ps zs gs c T (Jai zs gs p m n r):=by
 refine ⟨hp,hm,hn,?_,fun b h=>?_⟩
 ·show (if Zc zs gs m p then Ph.over else Ph.bid)=.over↔_;by_cases he:Zc zs gs m p
  ·rw [if_pos he]; exact ⟨fun _=>he,fun _=>rfl⟩
  ·rw [if_neg he]; exact ⟨fun h=>(nomatch h),fun h=>absurd h he⟩
 ·have h:(if Zc zs gs m p then Ph.over else Ph.bid)=.ans b:=h;split at h <;> cases h
structure Gm where
 S:Hp
 g:Addr
 b:Addr
 k:Addr
 ld:Addr
 lm:Addr
 ps:List Str
 zs:List (V×(Str×Str))
 gs:List Str
 c:Int
 T:Nat
section
variable {K:PySem.W.Frag} {mg:Str→Option Value} (T:Txt K mg)
structure Yr (G:Gm) (H:Hp) (ds:List (Addr×List V)) (ms:List (Addr×Mo)):Prop where
 sm:Ji G.S H
 bk:Bk K T.JT T.J3 G.S G.k G.b G.ps G.zs G.gs G.c G.T (G.T + 1)
 gi:∃ dx,G.S G.g=some (.ins T.J6 dx [("board",.ref G.b),("book",.ref G.k),("done",.ref G.ld),("moments",.ref G.lm)])
 nd:G.S G.ld=none
 nm:G.S G.lm=none
 ne:G.ld≠G.lm
 hd:H G.ld=some (.lst (ds.map fun d=>.ref d.1))
 hm:H G.lm=some (.lst (ms.map fun x=>.ref x.1))
 dt:∀ d∈ds,H d.1=some (.tup d.2)
 mt:∀ x∈ms,∃ dx,H x.1=some (.ins T.Ym dx (x.2.fs G.c))
 mo:∀ x∈ms,JoN G.ps (G.zs.map (·.2)) G.gs G.c G.T x.2
variable {T} {G:Gm} {H H':Hp} {ds:List (Addr×List V)} {ms:List (Addr×Mo)}
theorem Yr.same (h:Yr T G H ds ms) (e:Ji H H'):Yr T G H' ds ms :=
 ⟨h.sm.trans e,h.bk,h.gi,h.nd,h.nm,h.ne,e _ _ h.hd,e _ _ h.hm,fun d hd=>e _ _ (h.dt d hd),fun x hx=>let ⟨dx,q⟩:=h.mt x hx; ⟨dx,e _ _ q⟩,h.mo⟩
def Chg (X:List Addr) (H H':Hp):Prop:=∀ b u,b∉X→H b=some u→H' b=some u
theorem Chg.of {X:List Addr} (e:Ji H H'):Chg X H H':=fun b u _ h=>e b u h
theorem Chg.trans {X:List Addr} {H2:Hp} (e:Chg X H H') (e2:Chg X H' H2):Chg X H H2:=fun b u hn h=>e2 b u hn (e b u hn h)
theorem Chg.tup {X:List Addr} (e:Chg X H H') (hX:∀ x∈X,∃ vs,H x=some (.lst vs)) {a:Addr} {xs:List V} (h:H a=some (.tup xs)):H' a=some (.tup xs) :=
 e _ _ (fun hx=>by obtain ⟨vs,q⟩:=hX a hx; rw [h] at q; cases q) h
theorem Chg.ins {X:List Addr} (e:Chg X H H') (hX:∀ x∈X,∃ vs,H x=some (.lst vs)) {a C dx:Addr} {fs:List (Str×V)} (h:H a=some (.ins C dx fs)):H' a=some (.ins C dx fs) :=
 e _ _ (fun hx=>by obtain ⟨vs,q⟩:=hX a hx; rw [h] at q; cases q) h
theorem Yr.lists (h:Yr T G H ds ms):∀ x∈[G.ld,G.lm],∃ vs,H x=some (.lst vs):=fun x hx=>by
 rcases List.mem_cons.mp hx with rfl | hx
 ·exact ⟨_,h.hd⟩
 ·rw [List.mem_singleton.mp hx]; exact ⟨_,h.hm⟩
theorem Yr.static (h:Yr T G H ds ms) (e:Chg [G.ld,G.lm] H H'):Ji G.S H':=fun b u q=>e b u (fun hx=>by
 rcases List.mem_cons.mp hx with rfl | hx
 ·rw [h.nd] at q; cases q
 ·rw [List.mem_singleton.mp hx,h.nm] at q; cases q) (h.sm b u q)
theorem Yr.frame {X:List Addr} (h:Yr T G H ds ms) (e:Chg X H H') (hX:∀ x∈X,∃ vs,H x=some (.lst vs)) (hS:∀ x∈X,G.S x=none) (h1:G.ld∉X) (h2:G.lm∉X):Yr T G H' ds ms :=
 ⟨fun b u q=>e b u (fun hx=>by rw [hS b hx] at q; cases q) (h.sm b u q),h.bk,h.gi,h.nd,h.nm,h.ne,e _ _ h1 h.hd,e _ _ h2 h.hm,fun d hd=>e.tup hX (h.dt d hd),fun x hx=>let ⟨dx,q⟩:=h.mt x hx; ⟨dx,e.ins hX q⟩,h.mo⟩
theorem JfF {xs:List V} {v:V}:Z8 (xs ++ [v]) (-1)=some v:=by
 have e:ixN (xs ++ [v]).length (-1)=some xs.length:=by
  unfold ixN;rw [List.length_append];simp;exact ⟨by omega,by omega⟩
 unfold Z8;rw [e];simp
theorem Yr.more (h:Yr T G H ds ms) {H1:Hp} (e:Ji H H1) {d a dx:Addr} {dv:List V} {x:Mo} (hd:H1 d=some (.tup dv)) (ha:H1 a=some (.ins T.Ym dx (x.fs G.c))) (hx:JoN G.ps (G.zs.map (·.2)) G.gs G.c G.T x) :
  Chg [G.ld,G.lm] H (upd (upd H1 G.ld (.lst (ds.map (fun d=>V.ref d.1) ++ [.ref d]))) G.lm (.lst (ms.map (fun x=>V.ref x.1) ++ [.ref a])))∧Yr T G (upd (upd H1 G.ld (.lst (ds.map (fun d=>V.ref d.1) ++ [.ref d]))) G.lm (.lst (ms.map (fun x=>V.ref x.1) ++ [.ref a]))) (ds ++ [(d,dv)]) (ms ++ [(a,x)]):=by
 have h1:=h.same e;have c1:Chg [G.ld,G.lm] H1 (upd (upd H1 G.ld (.lst (ds.map (fun d=>V.ref d.1) ++ [.ref d]))) G.lm (.lst (ms.map (fun x=>V.ref x.1) ++ [.ref a]))):=fun b u hn q=>by
  rw [Jt (fun z=>hn (by rw [z]; simp)),Jt (fun z=>hn (by rw [z]; simp))]; exact q
 refine ⟨(Chg.of e).trans c1,h1.static c1,h.bk,h.gi,h.nd,h.nm,h.ne,?_,?_,fun y hy=>?_,fun y hy=>?_,fun y hy=>?_⟩
 ·rw [Jt h.ne,Jg,List.map_append]; rfl
 ·rw [Jg,List.map_append]; rfl
 ·rcases List.mem_append.mp hy with q | q
  ·exact c1.tup h1.lists (h1.dt y q)
  ·rw [List.mem_singleton.mp q]; exact c1.tup h1.lists hd
 ·rcases List.mem_append.mp hy with q | q
  ·obtain ⟨dy,z⟩:=h1.mt y q;exact ⟨dy,c1.ins h1.lists z⟩
  ·rw [List.mem_singleton.mp q]; exact ⟨dx,c1.ins h1.lists ha⟩
 ·rcases List.mem_append.mp hy with q | q
  ·exact h.mo y q
  ·rw [List.mem_singleton.mp q]; exact hx
variable (T)
def Jnz:Sp:=fun vs H Q _=>∃ (x dx:Addr) (v1 v2 v3 v4 v5 v6 v7 v8:V),vs=[.ref x,v1,v2,v3,v4,v5,v6,v7,v8]∧H x=some (.ins T.Ym dx [])∧Q .non (upd H x (.ins T.Ym dx [("place",v1),("turns",v2),("north",v3),("south",v4),("ribbon",v5),("hand",v6),("word",v7),("heard",v8)]))
def JqU:Sp:=fun vs H Q _=>∃ (b:Addr) (p:Str) (m:Nat) (n c:Int) (r:Bool) (ps:List Str) (zs:List (V×(Str×Str))) (gs:List Str),vs=[.ref b,.str p,.int (m:Int),.int n,.int (c - n),.str (hs r)]∧Bd K T.JT H b ps zs gs∧p∈ps∧m≤30∧∀ a dx H',H a=none→Ji H H'→H' a=some (.ins T.Ym dx ((Jai (zs.map (·.2)) gs p m n r).fs c))→Q (.ref a) H'
def Jh3 (ps:List Str) (z:Str) (m n s:Int) (x:Str) (H:Hp) (E:XK):Prop :=
 (z∉ps→E (.ref T.JW) none H)∧(z∈ps→¬ (0≤m∧m≤30)→E (.ref T.JB) none H)∧(z∈ps→0≤m∧m≤30→¬ Jam n s→E (.ref T.JB) none H)∧(z∈ps→0≤m∧m≤30→Jam n s→Zr x=false→E (.ref T.J5) none H)
def Jpl (ps:List Str) (z:Str) (m n s:Int) (x:Str):Prop:=z∈ps∧(0≤m∧m≤30)∧Jam n s∧Zr x=true
theorem JqT {ps:List Str} {z:Str} {m n s:Int} {x:Str} {H:Hp} {E:XK} (h:Jpl ps z m n s x):Jh3 T ps z m n s x H E :=
 ⟨fun z=>absurd h.1 z,fun _ z=>absurd h.2.1 z,fun _ _ z=>absurd h.2.2.1 z,fun _ _ _ z=>by rw [h.2.2.2] at z; cases z⟩
def Jq5:Sp:=fun vs H Q E=>∃ (b:Addr) (z x:Str) (m n s:Int) (ps:List Str) (zs:List (V×(Str×Str))) (gs:List Str),vs=[.ref b,.str z,.int m,.int n,.int s,.str x]∧Yo z∧Yo x∧Bd K T.JT H b ps zs gs∧Jh3 T ps z m n s x H E∧(Jpl ps z m n s x→Q .non H)
def JnB:Sp:=fun vs H Q E=>∃ (g b dx:Addr) (z x:Str) (m n s:Int) (ps:List Str) (zs:List (V×(Str×Str))) (gs:List Str),vs=[.ref g,.ref b,.str z,.int m,.int n,.int s,.str x]∧H g=some (.ins T.J6 dx [])∧g≠b∧Yo z∧Yo x∧Bd K T.JT H b ps zs gs∧Jh3 T ps z m n s x H E ∧
 (z∈ps→0≤m∧m≤30→Jam n s→∀ r,x=hs r→∀ (G:Gm) (a:Addr) (H':Hp),G.g=g→G.b=b→G.ps=ps→G.zs=zs→G.gs=gs→G.c=n + s→G.T=m.toNat→Yc g H G.S→Yr T G H' [] [(a,Jai (zs.map (·.2)) gs z m.toNat n r)]→Q .non H')
def Jq0:Sp:=fun vs H Q _=>∃ (G:Gm) (ds:List (Addr×List V)) (ms:List (Addr×Mo)) (a:Addr) (x:Mo),vs=[.ref G.g]∧Yr T G H ds (ms ++ [(a,x)])∧∀ t H',Ji H H'→H' t=some (.tup [.str x.p,.int (x.m:Int),.int x.n,.int (G.c - x.n),.str (hs x.r)])→Q (.ref t) H'
def Jun:Sp:=fun vs H Q _=>∃ (G:Gm) (ds:List (Addr×List V)) (ms:List (Addr×Mo)) (a:Addr) (x:Mo),vs=[.ref G.g]∧Yr T G H ds (ms ++ [(a,x)])∧(x.ph=.over→Q .non H)∧(x.ph≠.over→∀ t H',Ji H H'→H' t=some (.tup [x.hand,x.word])→Q (.ref t) H')
def Jq2:Sp:=fun vs H Q _=>∃ (G:Gm) (ds:List (Addr×List V)) (ms:List (Addr×Mo)) (a:Addr) (x:Mo),vs=[.ref G.g]∧Yr T G H ds (ms ++ [(a,x)])∧Q x.heard H
def Jq3:Sp:=fun vs H Q _=>∃ (G:Gm) (ds:List (Addr×List V)) (ms:List (Addr×Mo)),vs=[.ref G.g]∧Yr T G H ds ms∧∀ t H',Ji H H'→H' t=some (.tup (ds.map fun d=>.ref d.1))→Q (.ref t) H'
def JsA:Sp:=fun vs H Q _=>∃ (G:Gm) (ds:List (Addr×List V)) (ms:List (Addr×Mo)) (a:Addr) (x:Mo),vs=[.ref G.g]∧Yr T G H ds (ms ++ [(a,x)])∧∀ H',Ji H H'→Q (Zp x.p (x.m:Int) (G.zs.map (·.2)) G.gs) H'
end
section
variable {P:Program} {w:World} {K:PySem.W.Frag} {mg:Str→Option Value} {base:Heap}
theorem Js3 (T:Txt K mg):JL P w K mg base YR 1 T.Jl5 T.Jkn ["_law_found"] Jss:=by
 refine T.Jmj.F.ok JsO (fun vs H Q E h=>?_) (fun cdv A outer s H vs Q E hr h=>?_)
 ·obtain ⟨i,rfl,_⟩:=h;rfl
 ·obtain ⟨i,rfl,q⟩:=h;refine ⟨_,(@Jj _ _ _ (@Jq _ _ _ _ (@Jn5 _ _ _ _ _ _ _ (@JA _ _ _ _ _ _ _ _ _ (@Jbv _) rfl T.J8 PyProof.Rows.boot_isinstance (@Ja _ _ _ _ _ (@pv _ 0 _ _ rfl (.inl rfl) rfl rfl) (@Ja _ _ _ _ _ (@Je2 _ _ _ _ rfl T.JtY PyProof.Rows.boot_int (by decide) (by decide)) (@Jd _) rfl) rfl) (by decide) (by decide) rfl rfl) (@Jn3 _ _ _ _ _ (@JvE _ _ _ _ (@JA _ _ _ _ _ _ _ _ _ (@Jbv _) rfl T.J8 PyProof.Rows.boot_isinstance (@Ja _ _ _ _ _ (@pv _ 0 _ _ rfl (.inl rfl) rfl rfl) (@Ja _ _ _ _ _ (@Je2 _ _ _ _ rfl T.Jrx PyProof.Rows.boot_bool (by decide) (by decide)) (@Jd _) rfl) rfl) (by decide) (by decide) rfl rfl)))))),?_⟩;refine ⟨_,rfl,_,_,_,_,rfl,⟨_,.inl rfl⟩,.int i,JvP,_,rfl,Y1 ?_⟩;exact ⟨_,rfl,_,_,_,_,rfl,⟨_,.inl rfl⟩,.int i,JvQ,_,rfl,q⟩
theorem Jkf (T:Txt K mg):JL P w K mg base YR 2 T.Jma T.Jks ["_law_found", "_law_due_here"] Jsz:=by
 refine T.Jg5.F.ok JsQ (fun vs H Q E h=>?_) (fun cdv A outer s H vs Q E hr h=>?_)
 ·obtain ⟨_,rfl,_⟩:=h;rfl
 ·obtain ⟨x,rfl,hx,q⟩:=h;refine ⟨_,(@Jf _ _ _ _ _ (@JM _ _ _ _ _ _ _ _ (@Jbo _ _ _ _ _ _ (@JgI _ _ _ _ _ (@pv _ 1 _ _ rfl (.inl rfl) rfl rfl)) (by first | exact Zi _ (by decide) (by decide) | rfl)) (@Jj _ _ _ (@Jq _ _ _ _ (@Jri _ _ _ _ _ _ (@JgI _ _ _ _ _ (@pv _ 0 _ _ rfl (.inl rfl) rfl rfl)) (by first | exact Zi _ (by decide) (by decide) | rfl)))) (@Jy _)) (@Jf _ _ _ _ _ (@JM _ _ _ _ _ _ _ _ (@Zx _ _ _ (@JA _ _ _ _ _ _ _ _ _ (@Jbv _) rfl T.J8 PyProof.Rows.boot_isinstance (@Ja _ _ _ _ _ (@pv _ 1 _ _ rfl (.inl rfl) rfl rfl) (@Ja _ _ _ _ _ (@Je2 _ _ _ _ rfl T.Jqg PyProof.Rows.boot_str (by decide) (by decide)) (@Jd _) rfl) rfl) (by decide) (by decide) rfl rfl) (by intro _; rfl)) (@Jj _ _ _ (@Jq _ _ _ _ (@Jn5 _ _ _ _ _ _ _ (@JA _ _ _ _ _ _ _ _ _ (@Jbv _) rfl T.J8 PyProof.Rows.boot_isinstance (@Ja _ _ _ _ _ (@pv _ 0 _ _ rfl (.inl rfl) rfl rfl) (@Ja _ _ _ _ _ (@Je2 _ _ _ _ rfl T.Jqg PyProof.Rows.boot_str (by decide) (by decide)) (@Jd _) rfl) rfl) (by decide) (by decide) rfl rfl) (@Jn3 _ _ _ _ _ (@JlW _ _ _ _ _ _ _ _ (@YU _) (@pv _ 0 _ _ rfl (.inl rfl) rfl rfl) (@pv _ 1 _ _ rfl (.inl rfl) rfl rfl) (JH _)))))) (@Jy _)) (@Jj _ _ _ (@Jq _ _ _ _ (@Jn5 _ _ _ _ _ _ _ (@Jo _ _ _ _ _ _ _ _ _ _ _ _ _ _ _ T.Jmj (Js3 T) (hr.mono (by decide)) JG (@Ja _ _ _ _ _ (@pv _ 0 _ _ rfl (.inl rfl) rfl rfl) (@Jd _) rfl) rfl (by decide) rfl rfl) (@Jn3 _ _ _ _ _ (@JlW _ _ _ _ _ _ _ _ (@YU _) (@pv _ 0 _ _ rfl (.inl rfl) rfl rfl) (@pv _ 1 _ _ rfl (.inl rfl) rfl rfl) (JH _)))))))),?_⟩;refine ⟨_,rfl,_,rfl,?_⟩;cases x with
  | non =>
   refine Zw (by rfl) ⟨_,rfl,?_⟩;exact q
  | int i =>
   refine YQ (by rfl) ⟨_,rfl,_,_,_,_,rfl,⟨_,.inl rfl⟩,.int i,JvO,_,rfl,YG ?_⟩;refine ⟨_,rfl,i,rfl,_,rfl,Y1 ⟨_,rfl,_,rfl,rfl,?_⟩⟩;rw [decide_eq_true rfl];exact q
  | str z =>
   refine YQ (by rfl) ⟨_,rfl,_,_,_,_,rfl,⟨_,.inl rfl⟩,.str z,JrF,_,rfl,Y1 ?_⟩;refine ⟨_,rfl,_,_,_,_,rfl,⟨_,.inl rfl⟩,.str z,JrF,_,rfl,Y1 ⟨_,rfl,_,rfl,rfl,?_⟩⟩;rw [decide_eq_true rfl];exact q
  | _=>exact absurd hx Bool.false_ne_true
theorem JuB (T:Txt K mg):JL P w K mg base YR 1 T.Joy T.Jl3 ["_law_cell"] Jul:=by
 refine T.JoQ.F.ok Juu (fun vs H Q E h=>?_) (fun cdv A outer s H vs Q E hr h=>?_)
 ·obtain ⟨i,rfl,_⟩:=h;rfl
 ·obtain ⟨i,rfl,q⟩:=h;refine ⟨_,(@Jj _ _ _ (@Jq _ _ _ _ (@JD _ _ _ _ _ _ _ (@JU _) (@Yv _ _ _ _ (@Ja _ _ _ _ _ (@Jp _ _ _ _) (@Ja _ _ _ _ _ (@Jp _ _ _ _) (@Jd _) rfl) rfl)) (@Jm _ _ _ _ _ _ _ _ (@JZ _) (@pv _ 0 _ _ rfl (.inl rfl) rfl rfl) (@Je _ _ _ _)) (fun _ _=>rfl)))),?_⟩;refine ⟨by decide,fun p hp=>⟨_,rfl,_,_,rfl,rfl,(by show (0:Int) < 2; decide),p,_,_,.str (hs (decide (i % 2=0))),rfl,rfl,Jz.of Jg,?_,q _ _ (Ji.upd hp)⟩⟩;have h:i % 2=0∨i % 2=1:=by omega
  rcases h with h | h <;> rw [h] <;> rfl
theorem JuA (T:Txt K mg):JL P w K mg base YR 1 T.Jow T.Jl2 ["_law_ground_here", "_law_place"] (Jsy K):=by
 refine T.JoP.F.ok Jut (fun vs H Q E h=>?_) (fun cdv A outer s H vs Q E hr h=>?_)
 ·obtain ⟨_,_,_,_,_,rfl,_⟩:=h;rfl
 ·obtain ⟨t,z,ps,zs,gs,rfl,G,q⟩:=h;have szl:sizeLine=16777216:=sizeLine_eq;refine ⟨_,(@Jj _ _ _ (@Jq _ _ _ _ (@JA _ _ _ _ _ _ _ _ _ (@Jcx _) rfl T.JaY PyProof.Rows.boot_sorted (@Ja _ _ _ _ _ (@Jhg _ _ _ _ _ _ _ 2 ["_law_start", "_law_end", "_law_place"] [1] _ _ _ _ ["_law_ground_here", "_law_place"] ((Jl JkS).names) (by decide +kernel) (@JbR _ _ _ _ (@JD _ _ _ _ _ _ _ (@Yq _) (@pv _ 0 _ _ rfl (.inl rfl) rfl rfl) (@Je _ _ _ _) (fun _ _=>rfl))) (fun _ _ _ _=>(show PG _ _ (Jqo K 2 _) from Jn1 rfl (@ZO _ _ _ _ _ (@Jah _ _ _ _ _ _ _ _ _ 0 (by decide +kernel) rfl rfl) (@ZO _ _ _ _ _ (@Jah _ _ _ _ _ _ _ _ _ 1 (by decide +kernel) rfl rfl) (@JlT _) rfl) rfl))) (fun _ _ _ _=>(@Jjk _ _ _ (@Jx _ _ _ _ _ _ _ _ (@YU _) (@ZE _ _ _ _ _ _ _ _ _ 0 rfl rfl (by decide) (by decide)) (@JaW _ _ _ _ _ _ _ _ _ 2 rfl rfl (by decide) (by decide)) (JH _)))) (fun _ _ _ _=>(@ZE _ _ _ _ _ _ _ _ _ 1 rfl rfl (by decide) (by decide))) rfl rfl rfl (by intro _; rfl)) (@Jd _) rfl) (by decide) (by decide) rfl rfl))),?_⟩;obtain ⟨pn,pl,pg,h1,h2,h3,h4,h5⟩:=G.at_;have hzl:zs.length≤40:=by have:=G.good.l1; rwa [List.length_map] at this
  have wl:∀ i,(JN ((zs.map (·.2)).take i) z).length≤40:=fun i=>by
   unfold JN;rw [List.length_map];refine Nat.le_trans (List.length_filter_le _ _) ?_;rw [List.length_take,List.length_map];omega
  refine ⟨_,rfl,t,_,_,.ref pl,rfl,rfl,JQ.of h1,rfl,pl,rfl,⟨_,Jz.of h3⟩,fun D hD=>?_⟩;refine Jlq (xs:=zs.map (·.1)) (fun i ys H2=>Ji H H2∧H2 D=some (.lst ys)∧ys=(JN ((zs.map (·.2)).take i) z).map V.str) rfl rfl (fun i ys H2 p=>Jz.of (p.1 _ _ h3)) ⟨Ji.upd hD,Jg,by simp [JN]⟩ (fun i ys H2 p=>p.2.1) ?_ ?_
  ·rintro i x ys H2 hx ⟨e2,hy,rfl⟩;rw [List.getElem?_map] at hx;obtain ⟨y,hy1,rfl⟩:=Option.map_eq_some_iff.mp hx;obtain ⟨a,ea,ha⟩:=h4 y (List.mem_of_getElem? hy1);have step:(zs.map (·.2)).take (i + 1)=(zs.map (·.2)).take i ++ [y.2]:=by
    rw [List.take_succ,List.getElem?_map,hy1]; rfl
   have wstep:JN ((zs.map (·.2)).take (i + 1)) z=JN ((zs.map (·.2)).take i) z ++ (if y.2.1=z then [y.2.2] else []):=by
    unfold JN;rw [step,List.filter_append,List.map_append];by_cases h:y.2.1=z
    ·simp [h]
    ·simp [h]
   have wli:=wl i;refine ⟨a,.str y.2.1,.str y.2.2,ea,e2.tup ha,_,rfl,_,rfl,rfl,_,rfl,?_⟩;by_cases h:y.2.1=z
   ·refine Zw (by rw [h]; exact decide_eq_true rfl) ⟨_,rfl,hy,by rw [List.length_map]; omega,fun b' u e=>?_,Jg,?_⟩
    ·rw [Jt (Jw e hD)]; exact e2 b' u e
    ·rw [wstep,if_pos h,List.map_append]; rfl
   ·refine YQ (decide_eq_false (fun e=>h (V.str.inj e))) ⟨e2,hy,?_⟩;rw [wstep,if_neg h,List.append_nil]
  ·rintro ys H2 ⟨e2,hy,rfl⟩;rw [List.length_map] at hy;rw [show zs.length=(zs.map (·.2)).length by simp] at hy;have wll:=wl (zs.map (·.2)).length;rw [List.take_length] at hy wll;exact ⟨D,_,rfl,Jz.of hy,by omega,fun p ws np hp hs=>q p ws _ (e2.trans (Ji.upd np)) Jg hp hs⟩
theorem Jrn (T:Txt K mg):JL P w K mg base YR 2 T.Jqr T.Jop ["_law_ground_here", "_law_place", "_law_left"] (Ju7 K):=by
 refine T.Jnq.F.ok Jvf (fun vs H Q E h=>?_) (fun cdv A outer s H vs Q E hr h=>?_)
 ·obtain ⟨_,_,_,_,_,_,rfl,_⟩:=h;rfl
 ·obtain ⟨t,z,n,ps,zs,gs,rfl,G,q⟩:=h;refine ⟨_,(@Jf _ _ _ _ _ (@JM _ _ _ _ _ _ _ _ (@Jx _ _ _ _ _ _ _ _ (@Jdm _) (@pv _ 1 _ _ rfl (.inl rfl) rfl rfl) (@JD _ _ _ _ _ _ _ (@Yq _) (@pv _ 0 _ _ rfl (.inl rfl) rfl rfl) (@Je _ _ _ _) (fun _ _=>rfl)) (by with_unfolding_all rfl)) (@Jj _ _ _ (@Jq _ _ _ _ (@Jp _ _ _ _))) (@Jy _)) (@Jf _ _ _ _ _ (@JM _ _ _ _ _ _ _ _ (@PW.pt _ _ _ (@Jac _ _ _ _ _ _ _ (@Jx _ _ _ _ _ _ _ _ (@YU _) (@pv _ 2 _ _ rfl (.inl rfl) rfl rfl) (@Je _ _ _ _) (JH _)) (@Jax _ _ _ _ (@Jx _ _ _ _ _ _ _ _ (@Jn6 _ hr.units0) (@Jo _ _ _ _ _ _ _ _ _ _ _ _ _ _ _ T.JoP (JuA T) (hr.mono (by decide)) JG (@Ja _ _ _ _ _ (@pv _ 0 _ _ rfl (.inl rfl) rfl rfl) (@Ja _ _ _ _ _ (@pv _ 1 _ _ rfl (.inl rfl) rfl rfl) (@Jd _) rfl) rfl) rfl (by decide) rfl rfl) (@Yv _ _ _ _ (@Jd _)) (JH _))))) (@Jj _ _ _ (@Jq _ _ _ _ (@Jp _ _ _ _))) (@Jy _)) (@Jj _ _ _ (@Jq _ _ _ _ (@Jp _ _ _ _))))),?_⟩;obtain ⟨pn,pl,pg,h1,h2,h3,h4,h5⟩:=G.at_;refine ⟨_,rfl,_,rfl,t,_,_,.ref pg,rfl,rfl,JQ.of h1,rfl,pg,_,rfl,.inl (Jz.of h5),rfl,Jaq gs,_,rfl,?_⟩;rw [if_neg Bool.false_ne_true,Ja2];by_cases hg:z∈gs
  ·refine Zw (decide_eq_true hg) ?_;have e:JbD z n (zs.map (·.2)) gs = "north":=by unfold JbD; rw [if_pos hg]
   rw [e] at q;exact q H (Ji.refl _)
  ·refine YQ (decide_eq_false hg) ⟨_,rfl,rfl,_,rfl,?_⟩;by_cases h0:n=0
   ·have e:JbD z n (zs.map (·.2)) gs = "south":=by unfold JbD; rw [if_neg hg,if_pos (.inl h0)]
    rw [e] at q;exact Zw (by rw [h0]; exact decide_eq_true rfl) (Y1 (q H (Ji.refl _)))
   ·refine YQ (decide_eq_false fun e=>h0 (V.int.inj e)) ⟨_,rfl,_,rfl,t,z,ps,zs,gs,rfl,G,fun p ws H' e' hp wp _=>⟨by show 0≤sizeLine; decide,fun l nl=>⟨p,l,_,rfl,rfl,(Ji.upd nl).seq (Jz.of hp),Jz.of Jg,_,rfl,?_⟩⟩⟩;by_cases hw:JN (zs.map (·.2)) z=[]
    ·have e:JbD z n (zs.map (·.2)) gs = "south":=by unfold JbD; rw [if_neg hg,if_pos (.inr hw)]
     rw [e] at q;rw [hw] at wp;exact Zw (by rw [wp.eq_nil]; rfl) (q _ (e'.trans (Ji.upd nl)))
    ·have e:JbD z n (zs.map (·.2)) gs = "":=by unfold JbD; rw [if_neg hg,if_neg (fun h=>h.elim h0 hw)]
     rw [e] at q;refine YQ ?_ (q _ (e'.trans (Ji.upd nl)));cases ws with
     | nil=>exact absurd (wp.symm.eq_nil) hw
     | cons _ _=>rfl
end
section
variable {P:Program} {w:World} {K:PySem.W.Frag} {mg:Str→Option Value} {base:Heap}
theorem JgJ (T:Txt K mg):JL P w K mg base YR 1 T.JbA T.Jc1 ["self", "place", "turns", "north", "south", "ribbon", "hand", "word", "heard"] (Jnz T):=by
 refine T.JbB.F.ok JlI (fun vs H Q E h=>?_) (fun cdv A outer s H vs Q E hr h=>?_)
 ·obtain ⟨_,_,_,_,_,_,_,_,_,_,rfl,_⟩:=h;rfl
 ·obtain ⟨x,dx,v1,v2,v3,v4,v5,v6,v7,v8,rfl,hx,q⟩:=h;refine ⟨_,(@Jf _ _ _ _ _ (@Y6 _ _ _ _ _ _ _ _ (@pv _ 0 _ _ rfl (.inl rfl) rfl rfl) (@pv _ 1 _ _ rfl (.inl rfl) rfl rfl) rfl) (@Jf _ _ _ _ _ (@Y6 _ _ _ _ _ _ _ _ (@pv _ 0 _ _ rfl (.inl rfl) rfl rfl) (@pv _ 2 _ _ rfl (.inl rfl) rfl rfl) rfl) (@Jf _ _ _ _ _ (@Y6 _ _ _ _ _ _ _ _ (@pv _ 0 _ _ rfl (.inl rfl) rfl rfl) (@pv _ 3 _ _ rfl (.inl rfl) rfl rfl) rfl) (@Jf _ _ _ _ _ (@Y6 _ _ _ _ _ _ _ _ (@pv _ 0 _ _ rfl (.inl rfl) rfl rfl) (@pv _ 4 _ _ rfl (.inl rfl) rfl rfl) rfl) (@Jf _ _ _ _ _ (@Y6 _ _ _ _ _ _ _ _ (@pv _ 0 _ _ rfl (.inl rfl) rfl rfl) (@pv _ 5 _ _ rfl (.inl rfl) rfl rfl) rfl) (@Jf _ _ _ _ _ (@Y6 _ _ _ _ _ _ _ _ (@pv _ 0 _ _ rfl (.inl rfl) rfl rfl) (@pv _ 6 _ _ rfl (.inl rfl) rfl rfl) rfl) (@Jf _ _ _ _ _ (@Y6 _ _ _ _ _ _ _ _ (@pv _ 0 _ _ rfl (.inl rfl) rfl rfl) (@pv _ 7 _ _ rfl (.inl rfl) rfl rfl) rfl) (@Jj _ _ _ (@Y6 _ _ _ _ _ _ _ _ (@pv _ 0 _ _ rfl (.inl rfl) rfl rfl) (@pv _ 8 _ _ rfl (.inl rfl) rfl rfl) rfl))))))))),?_⟩;refine ⟨_,rfl,_,rfl,x,_,dx,_,rfl,hx,T.Yt,T.JaI,by decide,?_⟩;refine ⟨_,rfl,_,rfl,x,_,dx,[("place",v1)],rfl,Jg,T.Yt,T.JaH,by show 1 < 1000; decide,?_⟩;rw [JcO];refine ⟨_,rfl,_,rfl,x,_,dx,[("place",v1),("turns",v2)],rfl,Jg,T.Yt,T.Jcg,by show 2 < 1000; decide,?_⟩;rw [JcO];refine ⟨_,rfl,_,rfl,x,_,dx,[("place",v1),("turns",v2),("north",v3)],rfl,Jg,T.Yt,T.Jcf,by show 3 < 1000; decide,?_⟩;rw [JcO];refine ⟨_,rfl,_,rfl,x,_,dx,[("place",v1),("turns",v2),("north",v3),("south",v4)],rfl,Jg,T.Yt,T.JbH,by show 4 < 1000; decide,?_⟩;rw [JcO];refine ⟨_,rfl,_,rfl,x,_,dx,[("place",v1),("turns",v2),("north",v3),("south",v4),("ribbon",v5)],rfl,Jg,T.Yt,T.JcT,by show 5 < 1000; decide,?_⟩;rw [JcO];refine ⟨_,rfl,_,rfl,x,_,dx,[("place",v1),("turns",v2),("north",v3),("south",v4),("ribbon",v5),("hand",v6)],rfl,Jg,T.Yt,T.Jba,by show 6 < 1000; decide,?_⟩;rw [JcO];refine ⟨_,rfl,_,rfl,x,_,dx,[("place",v1),("turns",v2),("north",v3),("south",v4),("ribbon",v5),("hand",v6),("word",v7)],rfl,Jg,T.Yt,T.Jch,by show 7 < 1000; decide,?_⟩;rw [JcO];exact q
theorem JjL {T:Txt K mg} {H:Hp} {x dx:Addr} {v1 v2 v3 v4 v5 v6 v7 v8:V} {Q:VK} {E:XK} (nx:H x=none) (ndx:H dx=none) (q:∀ H',Ji H H'→H' x=some (.ins T.Ym dx [("place",v1),("turns",v2),("north",v3),("south",v4),("ribbon",v5),("hand",v6),("word",v7),("heard",v8)])→Q .non H') :
  Jnz T (.ref x :: ([v1,v2,v3,v4,v5,v6,v7,v8] ++ [])) (upd (upd H dx (.own x)) x (.ins T.Ym dx [])) Q E:=by
 refine ⟨x,dx,v1,v2,v3,v4,v5,v6,v7,v8,rfl,Jg,q _ (fun b u e=>?_) Jg⟩;rw [Jt (Jw e nx),Jt (Jw e nx),Jt (Jw e ndx)]; exact e
theorem Jm4 (T:Txt K mg):JL P w K mg base YR 6 T.Jfr T.JdS ["board", "place", "turns", "north", "south", "ribbon"] (JqU T):=by
 refine T.JfJ.F.ok JmU (fun vs H Q E h=>?_) (fun cdv A outer s H vs Q E hr h=>?_)
 ·obtain ⟨_,_,_,_,_,_,_,_,_,rfl,_⟩:=h;rfl
 ·obtain ⟨b,p,m,n,c,r,ps,zs,gs,rfl,B,hp,hm,q⟩:=h;refine ⟨_,(@Jf _ _ _ _ _ (@JM _ _ _ _ _ _ _ _ (@Jbo _ _ _ _ _ _ (@Jjl _ _ _ _ _ (@Jo _ _ _ _ _ _ _ _ _ _ _ _ _ _ _ T.Jg6 (Jkg T) (hr.mono (by decide)) Z5 (@Ja _ _ _ _ _ (@pv _ 0 _ _ rfl (.inl rfl) rfl rfl) (@Ja _ _ _ _ _ (@pv _ 1 _ _ rfl (.inl rfl) rfl rfl) (@Ja _ _ _ _ _ (@pv _ 2 _ _ rfl (.inl rfl) rfl rfl) (@Jd _) rfl) rfl) rfl) rfl (by decide) rfl rfl)) (by first | exact Zi _ (by decide) (by decide) | rfl)) (@Jj _ _ _ (@Jq _ _ _ _ (@JgH _ _ _ _ _ _ _ _ _ _ _ _ _ _ _ _ _ T.Jiv (JgJ T) (hr.mono (by decide)) rfl T.Jkz T.JbB.b .nil JG (@Ja _ _ _ _ _ (@pv _ 1 _ _ rfl (.inl rfl) rfl rfl) (@Ja _ _ _ _ _ (@pv _ 2 _ _ rfl (.inl rfl) rfl rfl) (@Ja _ _ _ _ _ (@pv _ 3 _ _ rfl (.inl rfl) rfl rfl) (@Ja _ _ _ _ _ (@pv _ 4 _ _ rfl (.inl rfl) rfl rfl) (@Ja _ _ _ _ _ (@pv _ 5 _ _ rfl (.inl rfl) rfl rfl) (@Ja _ _ _ _ _ (@Jbp _ _ _) (@Ja _ _ _ _ _ (@Jbp _ _ _) (@Ja _ _ _ _ _ (@Jbp _ _ _) (@Jd _) rfl) rfl) rfl) rfl) rfl) rfl) rfl) rfl) (by decide) rfl rfl))) (@Jy _)) (@Jj _ _ _ (@Jq _ _ _ _ (@JgH _ _ _ _ _ _ _ _ _ _ _ _ _ _ _ _ _ T.Jiv (JgJ T) (hr.mono (by decide)) rfl T.Jkz T.JbB.b .nil JG (@Ja _ _ _ _ _ (@pv _ 1 _ _ rfl (.inl rfl) rfl rfl) (@Ja _ _ _ _ _ (@pv _ 2 _ _ rfl (.inl rfl) rfl rfl) (@Ja _ _ _ _ _ (@pv _ 3 _ _ rfl (.inl rfl) rfl rfl) (@Ja _ _ _ _ _ (@pv _ 4 _ _ rfl (.inl rfl) rfl rfl) (@Ja _ _ _ _ _ (@pv _ 5 _ _ rfl (.inl rfl) rfl rfl) (@Ja _ _ _ _ _ (@Jo _ _ _ _ _ _ _ _ _ _ _ _ _ _ _ T.Jmm (Js6 T) (hr.mono (by decide)) Z5 (@Ja _ _ _ _ _ (@pv _ 5 _ _ rfl (.inl rfl) rfl rfl) (@Jd _) rfl) rfl (by decide) rfl rfl) (@Ja _ _ _ _ _ (@Jp _ _ _ _) (@Ja _ _ _ _ _ (@Jbp _ _ _) (@Jd _) rfl) rfl) rfl) rfl) rfl) rfl) rfl) rfl) (by decide) rfl rfl)))),?_⟩;have tp:=YH (B.G.p3 p hp);refine ⟨_,rfl,_,rfl,_,rfl,b,p,(m:Int),ps,zs,gs,rfl,tp,B.zl,B.B,fun z=>absurd hp z,fun _ z=>absurd ⟨by omega,by omega⟩ z,fun _ _ H1 e1=>?_⟩;have en:=JoA (z:=p) (m:=m) (zs:=zs.map (·.2)) (gs:=gs);by_cases he:Zc (zs.map (·.2)) gs m p
  ·obtain ⟨y,hy⟩:=en.1 he;rw [hy];refine ⟨_,rfl,Y1 ⟨_,rfl,_,rfl,_,rfl,_,rfl,_,rfl,fun x dx nx ndx hne=>JjL nx ndx fun H2 e2 h2=>⟨rfl,q x dx H2 (e1.free nx) (e1.trans e2) ?_⟩⟩⟩;rw [h2];show _=some (HO.ins _ dx (Mo.fs c ⟨p,m,n,r,if Zc (zs.map (·.2)) gs m p then .over else .bid⟩));rw [if_pos he]; rfl
  ·rw [en.2 he];refine ⟨_,rfl,YG ⟨_,rfl,_,rfl,_,rfl,_,rfl,_,rfl,_,rfl,hs r,rfl,Jje r,(fun r' hr'=>?_),(fun z=>by rw [JiG] at z; cases z)⟩⟩;obtain rfl:=JrO hr';refine fun x dx nx ndx hne=>JjL nx ndx fun H2 e2 h2=>⟨rfl,q x dx H2 (e1.free nx) (e1.trans e2) ?_⟩
   rw [h2];show _=some (HO.ins _ dx (Mo.fs c ⟨p,m,n,r,if Zc (zs.map (·.2)) gs m p then .over else .bid⟩));rw [if_neg he]; rfl
theorem Jjw (T:Txt K mg):JL P w K mg base (Y8 P w) 4 T.JbM T.Jbi ["board", "place", "turns", "north", "south", "ribbon"] (Jq5 T):=by
 refine T.JbO.F.ok1 Jju (fun vs H Q E h=>?_) (fun cdv A outer s H vs Q E hr h=>?_)
 ·obtain ⟨_,_,_,_,_,_,_,_,_,rfl,_⟩:=h;rfl
 ·obtain ⟨b,z,x,m,n,s,ps,zs,gs,rfl,tz,tx,B,⟨q1,q2,q3,q4⟩,q⟩:=h;refine ⟨_,(@Jf _ _ _ _ _ (@J7 _ _ _ _ (@Ys _ _ _ _ _ _ _ _ _ _ _ _ _ _ _ _ _ _ _ _ (@pv _ 0 _ _ rfl (.inl rfl) rfl rfl) T.Y2 T.Yk.m (ZH T) (hr.mono (by decide)) T.Yk.b .nil Y4 (@Ja _ _ _ _ _ (@pv _ 1 _ _ rfl (.inl rfl) rfl rfl) (@Jd _) rfl) rfl rfl rfl) rfl) (@Jf _ _ _ _ _ (@J7 _ _ _ _ (@Jo _ _ _ _ _ _ _ _ _ _ _ _ _ _ _ T.ZY (Ja7 T) (hr.mono (by decide)) Y4 (@Ja _ _ _ _ _ (@pv _ 2 _ _ rfl (.inl rfl) rfl rfl) (@Ja _ _ _ _ _ (@ZV _ _ _ _ _ rfl T.Jaj T.Jae (by decide)) (@Jd _) rfl) rfl) rfl (by decide) rfl rfl) rfl) (@Jf _ _ _ _ _ (@J7 _ _ _ _ (@Jo _ _ _ _ _ _ _ _ _ _ _ _ _ _ _ T.Jeb (JlZ T) (hr.mono (by decide)) Y4 (@Ja _ _ _ _ _ (@pv _ 3 _ _ rfl (.inl rfl) rfl rfl) (@Ja _ _ _ _ _ (@pv _ 4 _ _ rfl (.inl rfl) rfl rfl) (@Jd _) rfl) rfl) rfl (by decide) rfl rfl) rfl) (@Jj _ _ _ (@J7 _ _ _ _ (@Jo _ _ _ _ _ _ _ _ _ _ _ _ _ _ _ T.JcA (JhF T) (hr.mono (by decide)) Y4 (@Ja _ _ _ _ _ (@pv _ 5 _ _ rfl (.inl rfl) rfl rfl) (@Jd _) rfl) rfl (by decide) rfl rfl) rfl))))),?_⟩;obtain ⟨bdx,tp,tl,tg,hb,_⟩:=id B.B;refine ⟨_,rfl,b,bdx,_,rfl,hb,rfl,_,rfl,b,z,ps,zs,gs,rfl,tz,B.B,fun hz=>?_,q1⟩;refine ⟨_,rfl,m,30,rfl,⟨by decide,by decide⟩,fun hm=>?_,q2 hz⟩;refine ⟨_,rfl,_,rfl,n,s,rfl,fun hc=>?_,q3 hz hm⟩;exact ⟨_,rfl,x,rfl,tx,fun hx=>q ⟨hz,hm,hc,hx⟩,q4 hz hm hc⟩
theorem Yc.bk {C CB C' dx:Addr} {H H':Hp} {k b g:Addr} {ps:List Str} {zs:List (V×(Str×Str))} {gs:List Str} {c:Int} {t n:Nat} {fs:List (Str×V)} (h:Bk K C CB H k b ps zs gs c t n) (e:Yc g H H') (hg:H g=some (.ins C' dx fs)) (h1:g≠k) (h2:g≠b):Bk K C CB H' k b ps zs gs c t n :=
 ⟨Yc.bd h.B e hg h2,h.c0,h.c1,h.t1,let ⟨dx,l,rs,k1,k2,k3,k4⟩:=h.at_; ⟨dx,l,rs,e _ _ (fun z=>h1 z.symm) k1,e _ _ (Jas k2 hg (fun z=>nomatch z)) k2,k3,fun i a q=>let ⟨kvs,r1,r2⟩:=k4 i a q; ⟨kvs,e _ _ (Jas r1 hg (fun z=>nomatch z)) r1,r2⟩⟩⟩
theorem Jod (T:Txt K mg):JL P w K mg base (Y8 P w) 9 T.Jdb T.Jfp ["self", "board", "place", "turns", "north", "south", "ribbon"] (JnB T):=by
 refine T.Jgz.F.ok1 JnP (fun vs H Q E h=>?_) (fun cdv A outer s H vs Q E hr h=>?_)
 ·obtain ⟨_,_,_,_,_,_,_,_,_,_,_,rfl,_⟩:=h;rfl
 ·obtain ⟨g,b,dx,z,x,m,n,s,ps,zs,gs,rfl,hg,hgb,tz,tx,B,hE,q⟩:=h;have szl:sizeLine=16777216:=sizeLine_eq;refine ⟨_,(@Jf _ _ _ _ _ (@J7 _ _ _ _ (@Jo _ _ _ _ _ _ _ _ _ _ _ _ _ _ _ T.JbO (Jjw T) (hr.mono (by decide)) Y4 (@Ja _ _ _ _ _ (@pv _ 1 _ _ rfl (.inl rfl) rfl rfl) (@Ja _ _ _ _ _ (@pv _ 2 _ _ rfl (.inl rfl) rfl rfl) (@Ja _ _ _ _ _ (@pv _ 3 _ _ rfl (.inl rfl) rfl rfl) (@Ja _ _ _ _ _ (@pv _ 4 _ _ rfl (.inl rfl) rfl rfl) (@Ja _ _ _ _ _ (@pv _ 5 _ _ rfl (.inl rfl) rfl rfl) (@Ja _ _ _ _ _ (@pv _ 6 _ _ rfl (.inl rfl) rfl rfl) (@Jd _) rfl) rfl) rfl) rfl) rfl) rfl) rfl (by decide) rfl rfl) rfl) (@Jf _ _ _ _ _ (@Y6 _ _ _ _ _ _ _ _ (@pv _ 0 _ _ rfl (.inl rfl) rfl rfl) (@pv _ 1 _ _ rfl (.inl rfl) rfl rfl) rfl) (@Jf _ _ _ _ _ (@Y6 _ _ _ _ _ _ _ _ (@pv _ 0 _ _ rfl (.inl rfl) rfl rfl) (@JgH _ _ _ _ _ _ _ _ _ _ _ _ _ _ _ _ _ T.Jpv (Joe T) (hr.mono (by decide)) rfl T.Jsb T.JgA.b .nil Z5 (@Ja _ _ _ _ _ (@pv _ 1 _ _ rfl (.inl rfl) rfl rfl) (@Ja _ _ _ _ _ (@Jm _ _ _ _ _ _ _ _ (@Yj _) (@pv _ 4 _ _ rfl (.inl rfl) rfl rfl) (@pv _ 5 _ _ rfl (.inl rfl) rfl rfl)) (@Ja _ _ _ _ _ (@pv _ 3 _ _ rfl (.inl rfl) rfl rfl) (@Jd _) rfl) rfl) rfl) (by decide) rfl rfl) rfl) (@Jf _ _ _ _ _ (@Y6 _ _ _ _ _ _ _ _ (@pv _ 0 _ _ rfl (.inl rfl) rfl rfl) (@Yv _ _ _ _ (@Jd _)) rfl) (@Jj _ _ _ (@Y6 _ _ _ _ _ _ _ _ (@pv _ 0 _ _ rfl (.inl rfl) rfl rfl) (@Yv _ _ _ _ (@Ja _ _ _ _ _ (@Jo _ _ _ _ _ _ _ _ _ _ _ _ _ _ _ T.JfJ (Jm4 T) (hr.mono (by decide)) JG (@Ja _ _ _ _ _ (@pv _ 1 _ _ rfl (.inl rfl) rfl rfl) (@Ja _ _ _ _ _ (@pv _ 2 _ _ rfl (.inl rfl) rfl rfl) (@Ja _ _ _ _ _ (@pv _ 3 _ _ rfl (.inl rfl) rfl rfl) (@Ja _ _ _ _ _ (@pv _ 4 _ _ rfl (.inl rfl) rfl rfl) (@Ja _ _ _ _ _ (@pv _ 5 _ _ rfl (.inl rfl) rfl rfl) (@Ja _ _ _ _ _ (@pv _ 6 _ _ rfl (.inl rfl) rfl rfl) (@Jd _) rfl) rfl) rfl) rfl) rfl) rfl) rfl (by decide) rfl rfl) (@Jd _) rfl)) rfl)))))),?_⟩;refine ⟨_,rfl,_,rfl,_,rfl,_,rfl,_,rfl,_,rfl,b,z,x,m,n,s,ps,zs,gs,rfl,tz,tx,B,hE,fun ⟨hz,hm,hc,hx⟩=>?_⟩;obtain ⟨r,rfl⟩:=Jpz hx;have q:=q hz hm hc r rfl;obtain ⟨m,rfl⟩:∃ j:Nat,m=(j:Int):=⟨m.toNat,by omega⟩
  rw [Int.toNat_natCast] at q;have hcn:0≤n∧0≤s∧n + s≤20:=hc;refine ⟨_,rfl,_,rfl,g,_,dx,_,rfl,hg,T.Zm,T.JdQ,by decide,?_⟩;have b1:Yc g H (upd H g (.ins T.J6 dx (Yh "board" (.ref b) []))):=Yc.put;have h1:upd H g (.ins T.J6 dx (Yh "board" (.ref b) [])) g=some (.ins T.J6 dx [("board",.ref b)]):=Jg;generalize upd H g (.ins T.J6 dx (Yh "board" (.ref b) []))=H1 at b1 h1;have B1:Bd K T.JT H1 b ps zs gs:=Yc.bd B b1 hg hgb;refine ⟨_,rfl,_,rfl,_,rfl,_,_,rfl,rfl,_,rfl,fun k dk nk ndk hne=>JrA B1 ⟨by omega,by omega⟩ ⟨by omega,by omega⟩ nk ndk fun H2 e2 Bk2=>⟨rfl,?_⟩⟩;rw [Int.toNat_natCast] at Bk2;have gk:g≠k:=Jw h1 nk;have h2:=e2 _ _ h1;have b2:=b1.trans (Yc.of e2);refine ⟨_,rfl,g,_,dx,_,rfl,h2,T.Zm,T.Jis,by show 1 < 1000; decide,?_⟩;have h3:upd H2 g (.ins T.J6 dx (Yh "book" (.ref k) [("board",.ref b)])) g=some (.ins T.J6 dx [("board",.ref b),("book",.ref k)]):=Jg;have c3:Yc g H2 (upd H2 g (.ins T.J6 dx (Yh "book" (.ref k) [("board",.ref b)]))):=Yc.put;generalize upd H2 g (.ins T.J6 dx (Yh "book" (.ref k) [("board",.ref b)]))=H3 at h3 c3;have b3:=b2.trans c3;have Bk3:=Yc.bk Bk2 c3 h2 gk hgb;refine ⟨by show 0≤sizeLine; decide,fun ld nld=>?_⟩;have gld:g≠ld:=Jw h3 nld;refine ⟨_,rfl,g,_,dx,_,rfl,(Ji.upd nld) _ _ h3,T.Zm,T.Je4,by show 2 < 1000; decide,?_⟩;have h4:upd (upd H3 ld (.lst [])) g (.ins T.J6 dx (Yh "done" (.ref ld) [("board",.ref b),("book",.ref k)])) g=some (.ins T.J6 dx [("board",.ref b),("book",.ref k),("done",.ref ld)]):=Jg;have d4:upd (upd H3 ld (.lst [])) g (.ins T.J6 dx (Yh "done" (.ref ld) [("board",.ref b),("book",.ref k)])) ld=some (.lst []):=by rw [Jt (fun z=>gld z.symm),Jg]
  have c4:Yc g H3 (upd (upd H3 ld (.lst [])) g (.ins T.J6 dx (Yh "done" (.ref ld) [("board",.ref b),("book",.ref k)]))):=(Yc.of (Ji.upd nld)).trans Yc.put;generalize upd (upd H3 ld (.lst [])) g (.ins T.J6 dx (Yh "done" (.ref ld) [("board",.ref b),("book",.ref k)]))=H4 at h4 d4 c4;have Bk4:=Yc.bk Bk3 c4 h3 gk hgb;refine ⟨_,rfl,_,rfl,_,rfl,_,rfl,_,rfl,_,rfl,b,z,m,n,n + s,r,ps,zs,gs,(by rw [show n + s - n=s by omega]; rfl),Bk4.B,hz,by omega,fun a dxa H5 na e5 ha=>?_⟩;refine ⟨by show 1≤sizeLine; decide,fun lm nlm=>?_⟩;refine ⟨_,rfl,g,_,dx,_,rfl,(Ji.upd nlm) _ _ (e5 _ _ h4),T.Zm,T.ZB,by show 3 < 1000; decide,?_⟩;have h5:=e5 _ _ h4;have glm:g≠lm:=Jw h5 nlm;have dlm:ld≠lm:=Jw (e5 _ _ d4) nlm;have ag:a≠g:=fun z=>by rw [z,h4] at na; cases na
  have alm:a≠lm:=Jw ha nlm;have n4lm:H4 lm=none:=e5.free nlm;let S:Hp:=upd H3 g (.ins T.J6 dx [("board",.ref b),("book",.ref k),("done",.ref ld),("moments",.ref lm)]);have h6:upd (upd H5 lm (.lst [.ref a])) g (.ins T.J6 dx (Yh "moments" (.ref lm) [("board",.ref b),("book",.ref k),("done",.ref ld)])) g=some (.ins T.J6 dx [("board",.ref b),("book",.ref k),("done",.ref ld),("moments",.ref lm)]):=Jg;refine q ⟨S,g,b,k,ld,lm,ps,zs,gs,n + s,m⟩ a _ rfl rfl rfl rfl rfl rfl rfl (b3.trans Yc.put) ⟨fun b' u e=>?_,Yc.bk Bk3 Yc.put h3 gk hgb,⟨dx,Jg⟩,?_,?_,dlm,?_,?_,(fun d hd=>nomatch hd),fun y hy=>?_,fun y hy=>?_⟩
  ·by_cases hbg:b'=g
   ·subst hbg;have e:upd H3 b' _ b'=some u:=e;rw [Jg] at e;rw [h6]; exact e
   ·have e:upd H3 g _ b'=some u:=e;rw [Jt hbg] at e;rw [Jt hbg];exact (Ji.upd nlm) _ _ (e5 _ _ (c4 _ _ hbg e))
  ·show upd H3 g _ ld=none;rw [Jt (fun z=>gld z.symm)]; exact nld
  ·show upd H3 g _ lm=none;rw [Jt (fun z=>glm z.symm)];cases hq:H3 lm with
   | none=>rfl
   | some u=>rw [c4 _ _ (fun z=>glm z.symm) hq] at n4lm; cases n4lm
  ·rw [Jt (fun z=>gld z.symm)]; exact (Ji.upd nlm) _ _ (e5 _ _ d4)
  ·rw [Jt (fun z=>glm z.symm),Jg]; rfl
  ·rw [List.mem_singleton.mp hy];refine ⟨dxa,?_⟩;rw [Jt ag]; exact (Ji.upd nlm) _ _ ha
  ·rw [List.mem_singleton.mp hy]; exact Jqh hz (Nat.le_refl _) ⟨hcn.1,by show n≤n + s; omega⟩
theorem Jkj (T:Txt K mg):JL P w K mg base YR 1 T.Jcu T.JbK ["self"] (Jq0 T):=by
 refine T.JaN.F.ok JeK (fun vs H Q E h=>?_) (fun cdv A outer s H vs Q E hr h=>?_)
 ·obtain ⟨_,_,_,_,_,rfl,_⟩:=h;rfl
 ·obtain ⟨G,ds,ms,a,x,rfl,A0,q⟩:=h;refine ⟨_,(@Jf _ _ _ _ _ (@JE _ _ 1 _ _ _ _ JeK.nd rfl (Or.inl rfl) (@JD _ _ _ _ _ _ _ (@JU _) (@Yd _ _ _ _ _ (@pv _ 0 _ _ rfl (.inl rfl) rfl rfl) rfl) (@Jnl _ _ _ _ _ _ (@JkJ _) (@Je _ _ _ _)) (fun _ _=>rfl)) rfl (.inl rfl)) (@Jj _ _ _ (@Jq _ _ _ _ (@YX _ _ _ _ _ (@Ja _ _ _ _ _ (@Yd _ _ _ _ _ (@pv _ 1 _ _ rfl (.inl rfl) rfl rfl) rfl) (@Ja _ _ _ _ _ (@Yd _ _ _ _ _ (@pv _ 1 _ _ rfl (.inl rfl) rfl rfl) rfl) (@Ja _ _ _ _ _ (@Yd _ _ _ _ _ (@pv _ 1 _ _ rfl (.inl rfl) rfl rfl) rfl) (@Ja _ _ _ _ _ (@Yd _ _ _ _ _ (@pv _ 1 _ _ rfl (.inl rfl) rfl rfl) rfl) (@Ja _ _ _ _ _ (@Yd _ _ _ _ _ (@pv _ 1 _ _ rfl (.inl rfl) rfl rfl) rfl) (@Jd _) rfl) rfl) rfl) rfl) rfl))))),?_⟩;obtain ⟨dx,hg⟩:=A0.gi;have hm:=A0.hm;rw [List.map_append] at hm;obtain ⟨dm,ha⟩:=A0.mt (a,x) (List.mem_append_right _ (List.mem_singleton.mpr rfl));have ha:H a=some (.ins T.Ym dm (x.fs G.c)):=ha;refine ⟨_,rfl,G.g,_,dx,_,.ref G.lm,rfl,A0.sm _ _ hg,T.Zm,T.ZB,rfl,_,rfl,G.lm,_,_,.ref a,rfl,rfl,Jz.of hm,JfF,?_⟩;refine ⟨_,rfl,a,_,dm,_,.str x.p,rfl,ha,T.Yt,T.JaI,rfl,_,rfl,a,_,dm,_,.int (x.m:Int),rfl,ha,T.Yt,T.JaH,rfl,_,rfl,a,_,dm,_,.int x.n,rfl,ha,T.Yt,T.Jcg,rfl,_,rfl,a,_,dm,_,.int (G.c - x.n),rfl,ha,T.Yt,T.Jcf,rfl,_,rfl,a,_,dm,_,.str (hs x.r),rfl,ha,T.Yt,T.JbH,rfl,by show 5≤sizeLine; decide,fun t nt=>q t _ (Ji.upd nt) Jg⟩
theorem Jo4 (T:Txt K mg):JL P w K mg base YR 1 T.Jhs T.Jgp ["self"] (Jun T):=by
 refine T.Jex.F.ok Jjz (fun vs H Q E h=>?_) (fun cdv A outer s H vs Q E hr h=>?_)
 ·obtain ⟨_,_,_,_,_,rfl,_⟩:=h;rfl
 ·obtain ⟨G,ds,ms,a,x,rfl,A0,q1,q2⟩:=h;refine ⟨_,(@Jf _ _ _ _ _ (@JE _ _ 1 _ _ _ _ Jjz.nd rfl (Or.inl rfl) (@JD _ _ _ _ _ _ _ (@JU _) (@Yd _ _ _ _ _ (@pv _ 0 _ _ rfl (.inl rfl) rfl rfl) rfl) (@Jnl _ _ _ _ _ _ (@JkJ _) (@Je _ _ _ _)) (fun _ _=>rfl)) rfl (.inl rfl)) (@Jj _ _ _ (@Jq _ _ _ _ (@Jke _ _ _ _ _ _ _ _ (@Jbo _ _ _ _ _ _ (@JgI _ _ _ _ _ (@Yd _ _ _ _ _ (@pv _ 1 _ _ rfl (.inl rfl) rfl rfl) rfl)) (by first | exact Zi _ (by decide) (by decide) | rfl)) (@Jbp _ _ _) (@YX _ _ _ _ _ (@Ja _ _ _ _ _ (@Yd _ _ _ _ _ (@pv _ 1 _ _ rfl (.inl rfl) rfl rfl) rfl) (@Ja _ _ _ _ _ (@Yd _ _ _ _ _ (@pv _ 1 _ _ rfl (.inl rfl) rfl rfl) rfl) (@Jd _) rfl) rfl)))))),?_⟩;obtain ⟨dx,hg⟩:=A0.gi;have hm:=A0.hm;rw [List.map_append] at hm;obtain ⟨dm,ha⟩:=A0.mt (a,x) (List.mem_append_right _ (List.mem_singleton.mpr rfl));have ha:H a=some (.ins T.Ym dm (x.fs G.c)):=ha;refine ⟨_,rfl,G.g,_,dx,_,.ref G.lm,rfl,A0.sm _ _ hg,T.Zm,T.ZB,rfl,_,rfl,G.lm,_,_,.ref a,rfl,rfl,Jz.of hm,JfF,?_⟩;refine ⟨_,rfl,a,_,dm,_,x.word,rfl,ha,T.Yt,T.Jba,rfl,?_⟩;by_cases ho:x.ph=.over
  ·have hw:x.word=.non:=by unfold Mo.word; rw [ho]
   rw [hw];exact ⟨_,rfl,Y1 (q1 ho)⟩
  ·have hw:∃ y,x.word=.str y:=by
    unfold Mo.word;cases hp:x.ph with
    | over=>exact absurd hp ho
    | bid=>exact ⟨_,rfl⟩
    | ans b=>exact ⟨_,rfl⟩
    | step h=>exact ⟨_,rfl⟩
   obtain ⟨y,hw⟩:=hw;have e1:(match x.word with | .non=>true | _=>false)=false:=by rw [hw]
   rw [hw];refine ⟨_,rfl,YG ⟨_,rfl,a,_,dm,_,x.hand,rfl,ha,T.Yt,T.JcT,rfl,_,rfl,a,_,dm,_,x.word,rfl,ha,T.Yt,T.Jba,rfl,by show 2≤sizeLine; decide,fun t nt=>q2 ho t _ (Ji.upd nt) Jg⟩⟩
theorem Jm8 (T:Txt K mg):JL P w K mg base YR 1 T.Jfy T.JdZ ["self"] (Jq2 T):=by
 refine T.JcD.F.ok JmZ (fun vs H Q E h=>?_) (fun cdv A outer s H vs Q E hr h=>?_)
 ·obtain ⟨_,_,_,_,_,rfl,_⟩:=h;rfl
 ·obtain ⟨G,ds,ms,a,x,rfl,A0,q⟩:=h;refine ⟨_,(@Jj _ _ _ (@Jq _ _ _ _ (@Yd _ _ _ _ _ (@JD _ _ _ _ _ _ _ (@JU _) (@Yd _ _ _ _ _ (@pv _ 0 _ _ rfl (.inl rfl) rfl rfl) rfl) (@Jnl _ _ _ _ _ _ (@JkJ _) (@Je _ _ _ _)) (fun _ _=>rfl)) rfl))),?_⟩;obtain ⟨dx,hg⟩:=A0.gi;have hm:=A0.hm;rw [List.map_append] at hm;obtain ⟨dm,ha⟩:=A0.mt (a,x) (List.mem_append_right _ (List.mem_singleton.mpr rfl));have ha:H a=some (.ins T.Ym dm (x.fs G.c)):=ha;exact ⟨_,rfl,G.g,_,dx,_,.ref G.lm,rfl,A0.sm _ _ hg,T.Zm,T.ZB,rfl,_,rfl,G.lm,_,_,.ref a,rfl,rfl,Jz.of hm,JfF,a,_,dm,_,x.heard,rfl,ha,T.Yt,T.Jch,rfl,q⟩
theorem Jm9 (T:Txt K mg):JL P w K mg base YR 1 T.Jfz T.Jd0 ["self"] (Jq3 T):=by
 refine T.JcE.F.ok Jm0 (fun vs H Q E h=>?_) (fun cdv A outer s H vs Q E hr h=>?_)
 ·obtain ⟨_,_,_,rfl,_⟩:=h;rfl
 ·obtain ⟨G,ds,ms,rfl,A0,q⟩:=h;refine ⟨_,(@Jj _ _ _ (@Jq _ _ _ _ (@ZI _ _ _ _ _ _ _ _ _ (@ZX _) rfl T.Jbb PyProof.Rows.boot_tuple (@Ja _ _ _ _ _ (@Yd _ _ _ _ _ (@pv _ 0 _ _ rfl (.inl rfl) rfl rfl) rfl) (@Jd _) rfl) (by decide) (by decide) rfl rfl))),?_⟩;obtain ⟨dx,hg⟩:=A0.gi;exact ⟨_,rfl,G.g,_,dx,_,.ref G.ld,rfl,A0.sm _ _ hg,T.Zm,T.Je4,rfl,G.ld,_,rfl,.inl ⟨Jz.of A0.hd,fun t nt=>q t _ (Ji.upd nt) Jg⟩⟩
theorem Joc (T:Txt K mg):JL P w K mg base YR 5 T.Jgv T.Jfo ["self"] (JsA T):=by
 refine T.Jdh.F.ok Jh6 (fun vs H Q E h=>?_) (fun cdv A outer s H vs Q E hr h=>?_)
 ·obtain ⟨_,_,_,_,_,rfl,_⟩:=h;rfl
 ·obtain ⟨G,ds,ms,a,x,rfl,A0,q⟩:=h;refine ⟨_,(@Jf _ _ _ _ _ (@JE _ _ 1 _ _ _ _ Jh6.nd rfl (Or.inl rfl) (@JD _ _ _ _ _ _ _ (@JU _) (@Yd _ _ _ _ _ (@pv _ 0 _ _ rfl (.inl rfl) rfl rfl) rfl) (@Jnl _ _ _ _ _ _ (@JkJ _) (@Je _ _ _ _)) (fun _ _=>rfl)) rfl (.inl rfl)) (@Jj _ _ _ (@Jq _ _ _ _ (@Jo _ _ _ _ _ _ _ _ _ _ _ _ _ _ _ T.Jg6 (Jkg T) (hr.mono (by decide)) Z5 (@Ja _ _ _ _ _ (@Yd _ _ _ _ _ (@pv _ 0 _ _ rfl (.inl rfl) rfl rfl) rfl) (@Ja _ _ _ _ _ (@Yd _ _ _ _ _ (@pv _ 1 _ _ rfl (.inl rfl) rfl rfl) rfl) (@Ja _ _ _ _ _ (@Yd _ _ _ _ _ (@pv _ 1 _ _ rfl (.inl rfl) rfl rfl) rfl) (@Jd _) rfl) rfl) rfl) rfl (by decide) rfl rfl)))),?_⟩;obtain ⟨dx,hg⟩:=A0.gi;have hm:=A0.hm;rw [List.map_append] at hm;obtain ⟨dm,ha⟩:=A0.mt (a,x) (List.mem_append_right _ (List.mem_singleton.mpr rfl));have ha:H a=some (.ins T.Ym dm (x.fs G.c)):=ha;have ok:=A0.mo (a,x) (List.mem_append_right _ (List.mem_singleton.mpr rfl));have okp:x.p∈G.ps:=ok.p;have okm:x.m≤G.T:=ok.m;have t1:=A0.bk.t1;have B:=A0.bk.B.same A0.sm;refine ⟨_,rfl,G.g,_,dx,_,.ref G.lm,rfl,A0.sm _ _ hg,T.Zm,T.ZB,rfl,_,rfl,G.lm,_,_,.ref a,rfl,rfl,Jz.of hm,JfF,?_⟩;exact ⟨_,rfl,G.g,_,dx,_,.ref G.b,rfl,A0.sm _ _ hg,T.Zm,T.JdQ,rfl,_,rfl,a,_,dm,_,.str x.p,rfl,ha,T.Yt,T.JaI,rfl,_,rfl,a,_,dm,_,.int (x.m:Int),rfl,ha,T.Yt,T.JaH,rfl,G.b,x.p,(x.m:Int),G.ps,G.zs,G.gs,rfl,YH (B.G.p3 _ okp),B.zl,B.B,fun z=>absurd okp z,fun _ z=>absurd ⟨by omega,by omega⟩ z,fun _ _ H1 e1=>q H1 e1⟩
end
section
variable {P:Program} {w:World} {K:PySem.W.Frag} {mg:Str→Option Value} {base:Heap}
theorem Jrz {T:Txt K mg} {H:Hp} {g dx b:Addr} {z x:Str} {m n s:Int} {ps:List Str} {zs:List (V×(Str×Str))} {gs:List Str} {Q:VK} {E:XK} (B:Bd K T.JT H b ps zs gs) (tz:Yo z) (tx:Yo x) (nx:H g=none) (ndx:H dx=none)
  (hE:∀ H',Ji H H'→Jh3 T ps z m n s x H' E) (q:z∈ps→0≤m∧m≤30→Jam n s→∀ r,x=hs r→∀ (S:Hp) (k ld lm a:Addr) (H':Hp),Ji H S→Yr T ⟨S,g,b,k,ld,lm,ps,zs,gs,n + s,m.toNat⟩ H' [] ([] ++ [(a,Jai (zs.map (·.2)) gs z m.toNat n r)])→Q .non H') :
  JnB T (.ref g :: ([.ref b,.str z,.int m,.int n,.int s,.str x] ++ [])) (upd (upd H dx (.own g)) g (.ins T.J6 dx [])) Q E:=by
 have e5:Ji H (upd (upd H dx (.own g)) g (.ins T.J6 dx [])):=fun b u e=>by
  rw [Jt (Jw e nx),Jt (Jw e ndx)]; exact e
 obtain ⟨bdx,_,_,_,hb,_⟩:=id B.B;refine ⟨g,b,dx,z,x,m,n,s,ps,zs,gs,rfl,Jg,(fun e=>by rw [← e,nx] at hb; cases hb),tz,tx,B.same e5,hE _ e5,fun h1 h2 h3 r h4 G a H' g1 g2 g3 g4 g5 g6 g7 bt A=>?_⟩;obtain ⟨S,g',b',k,ld,lm,ps',zs',gs',c,T0⟩:=G;cases g1; cases g2; cases g3; cases g4; cases g5; cases g6; cases g7;exact q h1 h2 h3 r h4 S k ld lm a H' (fun b' u e=>bt b' u (Jw e nx) (e5 b' u e)) A
end
def Jvb:Sp:=fun vs H Q _=>∃ b:Bool,vs=[.str (hs b)]∧Q (.str (hs (!b))) H
def Mo.mover (x:Mo):V:=match x.ph with
 | .step h=>.str (hs h)
 | _=>.str ""
def Mo.told (x:Mo):V:=match x.ph with
 | .step h=>.str (hs h)
 | _=>.non
def Jkl (c:Int) (x:Mo):List V:=[.str x.p,.int (x.m:Int),.int x.n,.int (c - x.n),.str (hs x.r),x.heard,x.mover]
theorem Jiu {zs:List (Str×Str)} {gs:List Str} {p:Str} {m:Nat} {n:Int} {r:Bool}:(Jai zs gs p m n r).told=.non∧(Jai zs gs p m n r).mover=.str ""∧(Jai zs gs p m n r).heard=.non:=by
 unfold Mo.told Mo.mover Mo.heard Jai;by_cases h:Zc zs gs m p
 ·simp [h]
 ·simp [h]
theorem Jtp {x:Mo}:Jbd x.hand=true∧Jbd x.word=true∧Jbd x.heard=true∧Jbd x.told=true:=by
 unfold Mo.hand Mo.word Mo.heard Mo.told;cases x.ph <;> exact ⟨rfl,rfl,rfl,rfl⟩
def Jev (H:Hp) (ls:List Addr) (ds:List (Addr×List V)):Prop:=ls.length=ds.length∧∀ (i:Nat) a d,ls[i]?=some a→ds[i]?=some d→H a=some (.tup d.2)
def Jv5 (K:PySem.W.Frag) (H:Hp) (ls:List Addr) (ds:List (Addr×List V)):Prop:=ls.length=ds.length∧∀ (i:Nat) a d,ls[i]?=some a→ds[i]?=some d→JQ K H a d.2
theorem Jev.sq {K:PySem.W.Frag} {H:Hp} {ls:List Addr} {ds:List (Addr×List V)} (h:Jev H ls ds):Jv5 K H ls ds:=⟨h.1,fun i a d h1 h2=>JQ.of (h.2 i a d h1 h2)⟩
theorem Jev.same {H H':Hp} {ls:List Addr} {ds:List (Addr×List V)} (h:Jev H ls ds) (e:Ji H H'):Jev H' ls ds:=⟨h.1,fun i a d h1 h2=>e _ _ (h.2 i a d h1 h2)⟩
theorem Jev.snoc {H:Hp} {ls:List Addr} {ds:List (Addr×List V)} (h:Jev H ls ds) {a d:Addr} {v:List V} (ha:H a=some (.tup v)):Jev H (ls ++ [a]) (ds ++ [(d,v)]):=by
 refine ⟨by rw [List.length_append,List.length_append,h.1]; rfl,fun i b e h1 h2=>?_⟩;by_cases hi:i < ls.length
 ·rw [List.getElem?_append_left hi] at h1;rw [List.getElem?_append_left (by rw [← h.1]; exact hi)] at h2;exact h.2 i b e h1 h2
 ·rw [List.getElem?_append_right (by omega)] at h1;rw [List.getElem?_append_right (by rw [← h.1]; omega),← h.1] at h2;cases hj:i - ls.length with
  | zero =>
   rw [hj] at h1 h2;cases Option.some.inj h1;cases Option.some.inj h2;exact ha
  | succ j=>rw [hj] at h1; simp at h1
structure GG (K:PySem.W.Frag) (H:Hp) (t:Addr) (ps:List Str) (zs:List (V×(Str×Str))) (gs:List Str) (ps':List Str) (zs':List (V×(Str×Str))) (gs':List Str):Prop where
 G:Ground K H t ps zs gs
 pp:ps'.Perm ps
 zp:zs'.Perm zs
 gp:gs'.Perm gs
 zo:(zs'.map (·.2)).Pairwise ple
 B:Jd8 ps' (zs'.map (·.2)) gs'
theorem GG.same {K:PySem.W.Frag} {H H':Hp} {t:Addr} {ps:List Str} {zs:List (V×(Str×Str))} {gs:List Str} {ps':List Str} {zs':List (V×(Str×Str))} {gs':List Str} (h:GG K H t ps zs gs ps' zs' gs') (e:Ji H H'):GG K H' t ps zs gs ps' zs' gs':=⟨h.G.same e,h.pp,h.zp,h.gp,h.zo,h.B⟩
def JsC (K:PySem.W.Frag):Sp:=fun vs H Q _=>∃ x y,vs=[x,y]∧Q (.bl true) H∧((x=.non∧y=.non)∨∃ (p t:Addr) (xs:List V),x=.ref p∧y=.ref t∧JQ K H p xs∧(Jz K H t xs∨JQ K H t xs)∧xs.length≤1000∧xs.all Jbd=true)
def JqW (K:PySem.W.Frag):Sp:=fun vs H Q _=>∃ (p t:Addr) (ds:List (Addr×List V)) (ls:List Addr),vs=[.ref p,.ref t]∧H p=some (.tup (ds.map fun d=>.ref d.1))∧(Jz K H t (ls.map V.ref)∨JQ K H t (ls.map V.ref))∧Jv5 K H ls ds∧ds.length≤1000∧(∀ d∈ds,JQ K H d.1 d.2∧d.2.length≤1000∧d.2.all Jbd=true)∧Q (.bl true) H
def Juj (K:PySem.W.Frag):Sp:=fun vs H Q _=>∃ (t tn:Addr) (x:Mo) (ps:List Str) (zs:List (V×(Str×Str))) (gs ps':List Str) (zs':List (V×(Str×Str))) (gs':List Str) (c:Int) (T:Nat),vs=[.ref t,.ref tn]∧H tn=some (.tup (Jkl c x))∧GG K H t ps zs gs ps' zs' gs'∧JoN ps' (zs'.map (·.2)) gs' c T x∧(x.ph=.over→∀ H',Ji H H'→Q .non H')∧(x.ph≠.over→∀ tt H',Ji H H'→H' tt=some (.tup [x.hand,x.word])→Q (.ref tt) H')
section
variable {P:Program} {w:World} {K:PySem.W.Frag} {mg:Str→Option Value} {base:Heap}
theorem JvK (T:Txt K mg):JL P w K mg base YR 1 T.Jqv T.Jot ["_law_hand_here"] Jvb:=by
 refine T.JqI.F.ok Jvg (fun vs H Q E h=>?_) (fun cdv A outer s H vs Q E hr h=>?_)
 ·obtain ⟨i,rfl,_⟩:=h;rfl
 ·obtain ⟨b,rfl,q⟩:=h;refine ⟨_,(@Jf _ _ _ _ _ (@JM _ _ _ _ _ _ _ _ (@Jx _ _ _ _ _ _ _ _ (@YU _) (@pv _ 0 _ _ rfl (.inl rfl) rfl rfl) (@Jp _ _ _ _) (JH _)) (@Jj _ _ _ (@Jq _ _ _ _ (@Jp _ _ _ _))) (@Jy _)) (@Jj _ _ _ (@Jq _ _ _ _ (@Jp _ _ _ _)))),?_⟩;refine ⟨_,rfl,rfl,_,rfl,?_⟩;rw [Jtk];cases b with
  | true=>exact Y1 q
  | false=>exact YG q
theorem JeB (T:Txt K mg):JL P w K mg base YR 3 T.Joz T.Jl4 ["_law_found", "_law_due_here"] (JsC K):=by
 refine T.JdH.F.ok Jpo (fun vs H Q E h=>?_) (fun cdv A outer s H vs Q E hr h=>?_)
 ·obtain ⟨_,_,rfl,_⟩:=h;rfl
 ·obtain ⟨x,y,rfl,q,h⟩:=h;refine ⟨_,(@Jf _ _ _ _ _ (@JM _ _ _ _ _ _ _ _ (@Jbo _ _ _ _ _ _ (@JgI _ _ _ _ _ (@pv _ 1 _ _ rfl (.inl rfl) rfl rfl)) (by first | exact Zi _ (by decide) (by decide) | rfl)) (@Jj _ _ _ (@Jq _ _ _ _ (@Jri _ _ _ _ _ _ (@JgI _ _ _ _ _ (@pv _ 0 _ _ rfl (.inl rfl) rfl rfl)) (by first | exact Zi _ (by decide) (by decide) | rfl)))) (@Jy _)) (@Jf _ _ _ _ _ (@JM _ _ _ _ _ _ _ _ (@PW.pt _ _ _ (@Jac _ _ _ _ _ _ _ (@Jag _ _ _ _ (@Zx _ _ _ (@JA _ _ _ _ _ _ _ _ _ (@Jty _) rfl T.J8 PyProof.Rows.boot_isinstance (@Ja _ _ _ _ _ (@pv _ 0 _ _ rfl (.inl rfl) rfl rfl) (@Ja _ _ _ _ _ (@Je2 _ _ _ _ rfl T.Jbb PyProof.Rows.boot_tuple (by decide) (by decide)) (@Jd _) rfl) rfl) (by decide) (by decide) rfl rfl) (by intro _; rfl))) (@Jax _ _ _ _ (@Jx _ _ _ _ _ _ _ _ (@Jc9 _) (@JA _ _ _ _ _ _ _ _ _ (@Yl _) rfl T.Zv PySem.boot_len (@Ja _ _ _ _ _ (@pv _ 0 _ _ rfl (.inl rfl) rfl rfl) (@Jd _) rfl) (by decide) (by decide) rfl rfl) (@JA _ _ _ _ _ _ _ _ _ (@Yl _) rfl T.Zv PySem.boot_len (@Ja _ _ _ _ _ (@pv _ 1 _ _ rfl (.inl rfl) rfl rfl) (@Jd _) rfl) (by decide) (by decide) rfl rfl) (JH _))))) (@Jj _ _ _ (@Jq _ _ _ _ (@Ja6 _ _ _ _))) (@Jy _)) (@Jf _ _ _ _ _ (@ZN _ _ _ _ _ _ _ _ PassesOwn.never rfl (@Zy _ _ _ _ _ _ rfl T.ZL (@Ja _ _ _ _ _ (@JA _ _ _ _ _ _ _ _ _ (@Yl _) rfl T.Zv PySem.boot_len (@Ja _ _ _ _ _ (@pv _ 1 _ _ rfl (.inl rfl) rfl rfl) (@Jd _) rfl) (by decide) (by decide) rfl rfl) (@Jd _) rfl) rfl) (@YC _ _ 2 _ Jpo.nd rfl (Or.inl rfl) (.inl rfl)) (@Jj _ _ _ (@JM _ _ _ _ _ _ _ _ (@Jag _ _ _ _ (@Zx _ _ _ (@Jo _ _ _ _ _ _ _ _ _ _ _ _ _ _ _ T.Jg5 (Jkf T) (hr.mono (by decide)) JG (@Ja _ _ _ _ _ (@JD _ _ _ _ _ _ _ (@Yq _) (@pv _ 0 _ _ rfl (.inl rfl) rfl rfl) (@pv _ 2 _ _ rfl (.inl rfl) rfl rfl) (fun _ _=>rfl)) (@Ja _ _ _ _ _ (@JD _ _ _ _ _ _ _ (@JrJ _) (@pv _ 1 _ _ rfl (.inl rfl) rfl rfl) (@pv _ 2 _ _ rfl (.inl rfl) rfl rfl) (fun _ _=>rfl)) (@Jd _) rfl) rfl) rfl (by decide) rfl rfl) (by intro _; rfl))) (@Jj _ _ _ (@Jq _ _ _ _ (@Ja6 _ _ _ _))) (@Jy _))) (by intro _; rfl)) (@Jj _ _ _ (@Jq _ _ _ _ (@Ja6 _ _ _ _)))))),?_⟩;rcases h with ⟨rfl,rfl⟩ | ⟨p,t,xs,rfl,rfl,hp,ht,hl,hx⟩
  ·exact ⟨_,rfl,_,rfl,Y1 ⟨_,rfl,q⟩⟩
  ·have hl2:xs.length≤sizeLine:=Nat.le_trans hl (by decide);refine ⟨_,rfl,_,rfl,YG ⟨_,rfl,p,xs,rfl,hp,_,rfl,YG ?_⟩⟩;refine ⟨_,rfl,p,xs,rfl,.inr hp,_,rfl,t,xs,rfl,ht,rfl,_,rfl,?_⟩;refine YQ (by rw [decide_eq_true rfl]; rfl) ?_;refine ⟨_,rfl,t,xs,rfl,ht,(xs.length:Int),rfl,by omega,by omega,Z7 (n:=xs.length) (fun i σ H2=>H2=H∧∃ v,σ=[some (.ref p),some (.ref t),v]) ⟨rfl,none,rfl⟩ ?_ ?_⟩
   ·rintro i σ H2 hi ⟨rfl,v,rfl⟩;obtain ⟨y,hy⟩:∃ y,xs[i]?=some y:=⟨xs[i],List.getElem?_eq_getElem hi⟩
    have e0:(0:Int) + (i:Int)=(i:Int):=by omega
    have hf:Jbd y=true:=List.all_eq_true.mp hx y (List.mem_of_getElem? hy);refine ⟨_,rfl,_,rfl,p,xs,_,y,rfl,rfl,hp,by rw [e0]; exact Y0 hy,_,rfl,_,rfl,?_⟩;rcases ht with ht | ht
    ·exact .inl ⟨t,xs,_,y,rfl,rfl,ht,by rw [e0]; exact Y0 hy,y,rfl,hf,_,rfl,YG ⟨rfl,_,rfl⟩⟩
    ·exact .inr (.inl ⟨t,xs,_,y,rfl,rfl,ht,by rw [e0]; exact Y0 hy,y,rfl,hf,_,rfl,YG ⟨rfl,_,rfl⟩⟩)
   ·rintro σ H2 ⟨rfl,v,rfl⟩;exact q
theorem Js8 (T:Txt K mg):JL P w K mg base YR 4 T.Jmd T.Jkv ["_law_found", "_law_due_here"] (JqW K):=by
 refine T.Jmo.F.ok JnK (fun vs H Q E h=>?_) (fun cdv A outer s H vs Q E hr h=>?_)
 ·obtain ⟨_,_,_,_,rfl,_⟩:=h;rfl
 ·obtain ⟨p,t,ds,ls,rfl,hp,ht,hL,hl,hd,q⟩:=h;refine ⟨_,(@Jf _ _ _ _ _ (@JM _ _ _ _ _ _ _ _ (@PW.pt _ _ _ (@Jac _ _ _ _ _ _ _ (@Jag _ _ _ _ (@Zx _ _ _ (@JA _ _ _ _ _ _ _ _ _ (@Jbv _) rfl T.J8 PyProof.Rows.boot_isinstance (@Ja _ _ _ _ _ (@pv _ 0 _ _ rfl (.inl rfl) rfl rfl) (@Ja _ _ _ _ _ (@Je2 _ _ _ _ rfl T.Jbb PyProof.Rows.boot_tuple (by decide) (by decide)) (@Jd _) rfl) rfl) (by decide) (by decide) rfl rfl) (by intro _; rfl))) (@Jax _ _ _ _ (@Jx _ _ _ _ _ _ _ _ (@Jc9 _) (@JA _ _ _ _ _ _ _ _ _ (@Yl _) rfl T.Zv PySem.boot_len (@Ja _ _ _ _ _ (@pv _ 0 _ _ rfl (.inl rfl) rfl rfl) (@Jd _) rfl) (by decide) (by decide) rfl rfl) (@JA _ _ _ _ _ _ _ _ _ (@Yl _) rfl T.Zv PySem.boot_len (@Ja _ _ _ _ _ (@pv _ 1 _ _ rfl (.inl rfl) rfl rfl) (@Jd _) rfl) (by decide) (by decide) rfl rfl) (JH _))))) (@Jj _ _ _ (@Jq _ _ _ _ (@Ja6 _ _ _ _))) (@Jy _)) (@Jf _ _ _ _ _ (@ZN _ _ _ _ _ _ _ _ PassesOwn.never rfl (@Zy _ _ _ _ _ _ rfl T.ZL (@Ja _ _ _ _ _ (@JA _ _ _ _ _ _ _ _ _ (@Yl _) rfl T.Zv PySem.boot_len (@Ja _ _ _ _ _ (@pv _ 1 _ _ rfl (.inl rfl) rfl rfl) (@Jd _) rfl) (by decide) (by decide) rfl rfl) (@Jd _) rfl) rfl) (@YC _ _ 2 _ JnK.nd rfl (Or.inl rfl) (.inl rfl)) (@Jj _ _ _ (@JM _ _ _ _ _ _ _ _ (@Jag _ _ _ _ (@Zx _ _ _ (@Jo _ _ _ _ _ _ _ _ _ _ _ _ _ _ _ T.JdH (JeB T) (hr.mono (by decide)) JG (@Ja _ _ _ _ _ (@JD _ _ _ _ _ _ _ (@Yq _) (@pv _ 0 _ _ rfl (.inl rfl) rfl rfl) (@pv _ 2 _ _ rfl (.inl rfl) rfl rfl) (fun _ _=>rfl)) (@Ja _ _ _ _ _ (@JD _ _ _ _ _ _ _ (@JrJ _) (@pv _ 1 _ _ rfl (.inl rfl) rfl rfl) (@pv _ 2 _ _ rfl (.inl rfl) rfl rfl) (fun _ _=>rfl)) (@Jd _) rfl) rfl) rfl (by decide) rfl rfl) (by intro _; rfl))) (@Jj _ _ _ (@Jq _ _ _ _ (@Ja6 _ _ _ _))) (@Jy _))) (by intro _; rfl)) (@Jj _ _ _ (@Jq _ _ _ _ (@Ja6 _ _ _ _))))),?_⟩;have szl:sizeLine=16777216:=sizeLine_eq;have el:(ls.map V.ref).length=(ds.map fun d=>V.ref d.1).length:=by rw [List.length_map,List.length_map,hL.1]
  refine ⟨_,rfl,_,_,_,_,rfl,⟨_,.inl rfl⟩,.tup hp,JrE,_,rfl,YG ?_⟩;refine ⟨_,rfl,p,_,rfl,.inr (JQ.of hp),_,rfl,t,_,rfl,ht,rfl,_,rfl,?_⟩;refine YQ (by rw [el,decide_eq_true rfl]; rfl) ?_;refine ⟨_,rfl,t,_,rfl,ht,((ls.map V.ref).length:Int),rfl,by omega,by rw [List.length_map,hL.1]; omega,?_⟩;rw [Int.toNat_natCast];refine Z7 (n:=(ls.map V.ref).length) (fun i σ H2=>H2=H∧∃ v,σ=[some (.ref p),some (.ref t),v]) ⟨rfl,none,rfl⟩ ?_ ?_
  ·rintro i σ H2 hi ⟨rfl,v,rfl⟩;rw [List.length_map] at hi;obtain ⟨b,hb⟩:∃ b,ls[i]?=some b:=⟨_,List.getElem?_eq_getElem hi⟩
   obtain ⟨d,hdi⟩:∃ d,ds[i]?=some d:=⟨_,List.getElem?_eq_getElem (by rw [← hL.1]; exact hi)⟩
   have hb2:=hL.2 i b d hb hdi;obtain ⟨d1,d2,d3⟩:=hd d (List.mem_of_getElem? hdi);have a1:Z8 (ds.map fun d=>V.ref d.1) (0 + (i:Int))=some (.ref d.1):=by rw [Int.zero_add]; exact Y0 (by rw [List.getElem?_map,hdi]; rfl)
   have a2:Z8 (ls.map V.ref) (0 + (i:Int))=some (.ref b):=by rw [Int.zero_add]; exact Y0 (by rw [List.getElem?_map,hb]; rfl)
   refine ⟨_,rfl,_,rfl,p,_,_,.ref d.1,rfl,rfl,JQ.of hp,a1,_,rfl,_,rfl,?_⟩;rcases ht with ht | ht
   ·exact .inl ⟨t,_,_,.ref b,rfl,rfl,ht,a2,.ref d.1,.ref b,rfl,⟨_,rfl,YG ⟨rfl,_,rfl⟩⟩,.inr ⟨d.1,b,d.2,rfl,rfl,d1,.inr hb2,d2,d3⟩⟩
   ·exact .inr (.inl ⟨t,_,_,.ref b,rfl,rfl,ht,a2,.ref d.1,.ref b,rfl,⟨_,rfl,YG ⟨rfl,_,rfl⟩⟩,.inr ⟨d.1,b,d.2,rfl,rfl,d1,.inr hb2,d2,d3⟩⟩)
  ·rintro σ H2 ⟨rfl,v,rfl⟩;exact q
theorem Jrq (T:Txt K mg):JL P w K mg base YR 4 T.Jqw T.Jou ["_law_ground_here", "_law_now"] (Juj K):=by
 refine T.Jns.F.ok Jdj (fun vs H Q E h=>?_) (fun cdv A outer s H vs Q E hr h=>?_)
 ·obtain ⟨_,_,_,_,_,_,_,_,_,_,_,rfl,_⟩:=h;rfl
 ·obtain ⟨t,tn,x,ps,zs,gs,ps',zs',gs',c,T0,rfl,htn,g,ok,q1,q2⟩:=h;refine ⟨_,(@Jf _ _ _ _ _ (@Jre _ _ _ _ _ _ (@pv _ 1 _ _ rfl (.inl rfl) rfl rfl) (@Jn1 _ _ _ _ _ _ rfl (@ZO _ _ _ _ _ (@YC _ _ 2 _ Jdj.nd rfl (Or.inl rfl) (.inl rfl)) (@ZO _ _ _ _ _ (@YC _ _ 3 _ Jdj.nd rfl (Or.inl rfl) (.inl rfl)) (@ZO _ _ _ _ _ (@YC _ _ 4 _ Jdj.nd rfl (Or.inl rfl) (.inl rfl)) (@ZO _ _ _ _ _ (@YC _ _ 5 _ Jdj.nd rfl (Or.inl rfl) (.inl rfl)) (@ZO _ _ _ _ _ (@YC _ _ 6 _ Jdj.nd rfl (Or.inl rfl) (.inl rfl)) (@ZO _ _ _ _ _ (@YC _ _ 7 _ Jdj.nd rfl (Or.inl rfl) (.inl rfl)) (@ZO _ _ _ _ _ (@YC _ _ 8 _ Jdj.nd rfl (Or.inl rfl) (.inl rfl)) (@JlT _) rfl) rfl) rfl) rfl) rfl) rfl) rfl) rfl rfl) rfl rfl rfl) (@Jf _ _ _ _ _ (@JM _ _ _ _ _ _ _ _ (@Jx _ _ _ _ _ _ _ _ (@Jc9 _) (@pv _ 8 _ _ rfl (.inl rfl) rfl rfl) (@Jp _ _ _ _) (JH _)) (@Jj _ _ _ (@Jq _ _ _ _ (@YX _ _ _ _ _ (@Ja _ _ _ _ _ (@pv _ 8 _ _ rfl (.inl rfl) rfl rfl) (@Ja _ _ _ _ _ (@Jp _ _ _ _) (@Jd _) rfl) rfl)))) (@Jy _)) (@Jf _ _ _ _ _ (@JM _ _ _ _ _ _ _ _ (@Jbo _ _ _ _ _ _ (@Jjl _ _ _ _ _ (@pv _ 7 _ _ rfl (.inl rfl) rfl rfl)) (by first | exact Zi _ (by decide) (by decide) | rfl)) (@Jj _ _ _ (@Jq _ _ _ _ (@YX _ _ _ _ _ (@Ja _ _ _ _ _ (@pv _ 6 _ _ rfl (.inl rfl) rfl rfl) (@Ja _ _ _ _ _ (@Jp _ _ _ _) (@Jd _) rfl) rfl)))) (@Jy _)) (@Jf _ _ _ _ _ (@JM _ _ _ _ _ _ _ _ (@Jx _ _ _ _ _ _ _ _ (@Jc9 _) (@Jo _ _ _ _ _ _ _ _ _ _ _ _ _ _ _ T.Jnq (Jrn T) (hr.mono (by decide)) JG (@Ja _ _ _ _ _ (@pv _ 0 _ _ rfl (.inl rfl) rfl rfl) (@Ja _ _ _ _ _ (@pv _ 2 _ _ rfl (.inl rfl) rfl rfl) (@Ja _ _ _ _ _ (@pv _ 3 _ _ rfl (.inl rfl) rfl rfl) (@Jd _) rfl) rfl) rfl) rfl (by decide) rfl rfl) (@Jp _ _ _ _) (JH _)) (@Jj _ _ _ (@Jq _ _ _ _ (@Jbp _ _ _))) (@Jy _)) (@Jj _ _ _ (@Jq _ _ _ _ (@YX _ _ _ _ _ (@Ja _ _ _ _ _ (@Jo _ _ _ _ _ _ _ _ _ _ _ _ _ _ _ T.JqI (JvK T) (hr.mono (by decide)) JG (@Ja _ _ _ _ _ (@pv _ 6 _ _ rfl (.inl rfl) rfl rfl) (@Jd _) rfl) rfl (by decide) rfl rfl) (@Ja _ _ _ _ _ (@Jp _ _ _ _) (@Jd _) rfl) rfl)))))))),?_⟩;refine ⟨_,rfl,tn,_,rfl,JQ.of htn,rfl,_,_,rfl,_,_,rfl,_,_,rfl,_,_,rfl,_,_,rfl,_,_,rfl,_,_,rfl,rfl,?_⟩;unfold Mo.mover Mo.heard;unfold Mo.hand Mo.word at q2;cases hp:x.ph with
  | step h =>
   rw [hp] at q2;refine ⟨_,rfl,rfl,_,rfl,Zw (by cases h <;> decide +kernel) ⟨_,rfl,by show 2≤sizeLine; decide,fun tt nt=>q2 (fun z=>nomatch z) tt _ (Ji.upd nt) Jg⟩⟩
  | ans b =>
   rw [hp] at q2;refine ⟨_,rfl,rfl,_,rfl,YQ (by show (!decide (V.str "" = V.str ""))=false; decide +kernel) ⟨_,rfl,_,rfl,Y1 ⟨_,rfl,by show 2≤sizeLine; decide,fun tt nt=>q2 (fun z=>nomatch z) tt _ (Ji.upd nt) Jg⟩⟩⟩
  | over =>
   rw [hp] at q1;refine ⟨_,rfl,rfl,_,rfl,YQ (by decide +kernel) ⟨_,rfl,_,rfl,YG ⟨_,rfl,_,rfl,_,rfl,t,x.p,(x.m:Int),ps,zs,gs,rfl,g.G,fun H1 e1=>?_⟩⟩⟩;have he:=ok.e.mp hp;rcases JqM (z:=x.p) (m:=x.m) (g.zp.map (·.2)) g.gp with ⟨_,hw,_⟩ | ⟨_,hw,_⟩ | ⟨_,hn⟩
   ·exact ⟨rfl,_,rfl,Zw (by rw [hw]; decide +kernel) (q1 rfl H1 e1)⟩
   ·exact ⟨rfl,_,rfl,Zw (by rw [hw]; decide +kernel) (q1 rfl H1 e1)⟩
   ·exact absurd he hn
  | bid =>
   rw [hp] at q2;refine ⟨_,rfl,rfl,_,rfl,YQ (by decide +kernel) ⟨_,rfl,_,rfl,YG ⟨_,rfl,_,rfl,_,rfl,t,x.p,(x.m:Int),ps,zs,gs,rfl,g.G,fun H1 e1=>?_⟩⟩⟩;have he:¬ Zc (zs'.map (·.2)) gs' x.m x.p:=fun z=>by have:=ok.e.mpr z; rw [hp] at this; cases this
   rcases JqM (z:=x.p) (m:=x.m) (g.zp.map (·.2)) g.gp with ⟨_,_,hn⟩ | ⟨_,_,hn⟩ | ⟨hw,_⟩
   ·exact absurd hn he
   ·exact absurd hn he
   ·exact ⟨rfl,_,rfl,YQ (by rw [hw]; decide +kernel) ⟨_,rfl,x.r,rfl,by show 2≤sizeLine; decide,fun tt nt=>q2 (fun z=>nomatch z) tt _ (e1.trans (Ji.upd nt)) Jg⟩⟩
end
section
variable {P:Program} {w:World} {K:PySem.W.Frag} {mg:Str→Option Value} {base:Heap}
theorem JuP {z:Str} {m:Nat} {zs zs':List (Str×Str)} {gs gs':List Str} (zp:zs'.Perm zs) (gp:gs'.Perm gs) (h:Zc zs' gs' m z):Zp z (m:Int) zs' gs'=.str (JbD z (m:Int) zs gs):=by
 rw [JrX zp gp];unfold Zp JbD;by_cases hg:z∈gs
 ·rw [if_pos hg,if_pos hg]
 ·rw [if_neg hg,if_neg hg];have h0:(m:Int)=0∨JN zs z=[]:=by
   rcases h with h | h | h
   ·exact absurd (gp.mem_iff.mp h) hg
   ·exact .inl (by omega)
   ·exact .inr ((Jnu zp z).mp h)
  rw [if_pos h0,if_pos h0]
theorem Jto {z:Str} {n:Int} {zs:List (Str×Str)} {gs:List Str}:Jbd (Zp z n zs gs)=true:=by
 unfold Zp;split
 ·rfl
 ·split <;> rfl
end
theorem Yc.dict {d a:Addr} {H H':Hp} {kvs:List (JK×V)} {o:HO} (e:Yc d H H') (hd:H d=some (.dK kvs)) (h:H a=some o) (ho:∀ k,o≠.dK k):H' a=some o :=
 e _ _ (fun z=>by subst z; rw [hd] at h; exact ho _ (Option.some.inj h).symm) h
theorem Yc.sqD {K:PySem.W.Frag} {d a:Addr} {H H':Hp} {kvs:List (JK×V)} {xs:List V} (e:Yc d H H') (hd:H d=some (.dK kvs)) (h:JQ K H a xs):JQ K H' a xs:=by
 rcases h with (h | ⟨o,h⟩) | h
 ·exact .inl (.inl (e.dict hd h (fun _ z=>nomatch z)))
 ·exact .inl (.inr ⟨o,e.dict hd h (fun _ z=>nomatch z)⟩)
 ·exact .inr h
theorem Yc.bdD {K:PySem.W.Frag} {C d:Addr} {H H':Hp} {kvs:List (JK×V)} {b:Addr} {ps:List Str} {zs:List (V×(Str×Str))} {gs:List Str} (e:Yc d H H') (hd:H d=some (.dK kvs)) (h:Bd K C H b ps zs gs):Bd K C H' b ps zs gs:=by
 obtain ⟨⟨dx,tp,tl,tg,h1,h2,h3,h4,h5⟩,G⟩:=h;exact ⟨⟨dx,tp,tl,tg,e.dict hd h1 (fun _ z=>nomatch z),e.dict hd h2 (fun _ z=>nomatch z),e.dict hd h3 (fun _ z=>nomatch z),fun z hz=>let ⟨a,q1,q2⟩:=h4 z hz; ⟨a,q1,e.sqD hd q2⟩,e.dict hd h5 (fun _ z=>nomatch z)⟩,G⟩
theorem Yc.grD {K:PySem.W.Frag} {d:Addr} {H H':Hp} {kvs:List (JK×V)} {t:Addr} {ps:List Str} {zs:List (V×(Str×Str))} {gs:List Str} (e:Yc d H H') (hd:H d=some (.dK kvs)) (h:Ground K H t ps zs gs):Ground K H' t ps zs gs :=
 ⟨h.good,let ⟨pn,pl,pg,h1,h2,h3,h4,h5⟩:=h.at_; ⟨pn,pl,pg,e.dict hd h1 (fun _ z=>nomatch z),e.dict hd h2 (fun _ z=>nomatch z),e.dict hd h3 (fun _ z=>nomatch z),fun z hz=>let ⟨a,q1,q2⟩:=h4 z hz; ⟨a,q1,e.sqD hd q2⟩,e.dict hd h5 (fun _ z=>nomatch z)⟩⟩
section
variable {K:PySem.W.Frag} {mg:Str→Option Value} (T:Txt K mg)
def Jtb (kvs:List (JK×V)) (z:Str) (n:Int) (H:Hp) (E:XK):Prop :=
 (J1 z=false→E (.ref T.J9) none H)∧(J1 z=true→(Yi kvs (.inr z)).isSome=true→E (.ref T.Yp) none H)∧(J1 z=true→Yi kvs (.inr z)=none→n≤(kvs.length:Int)→E (.ref T.YD) none H)
def Juo:Sp:=fun vs H Q E=>∃ (d:Addr) (z:Str) (n:Int) (kvs:List (JK×V)),vs=[.str z,.ref d,.int n]∧Yo z∧(0≤n∧n≤20)∧H d=some (.dK kvs)∧(∀ H',Ji H H'→Jtb T kvs z n H' E) ∧
 (J1 z=true→Yi kvs (.inr z)=none→(kvs.length:Int) < n→∀ H',Ji H H'→Q .non H')
def Juk:Sp:=fun vs H Q E=>∃ (d:Addr) (z:Str) (kvs:List (JK×V)),vs=[.str z,.ref d]∧Yo z∧H d=some (.dK kvs)∧(Yi kvs (.inr z)=none→E (.ref T.JY) none H)∧(∀ v,Yi kvs (.inr z)=some v→Q v H)
structure Zl (H:Hp) (h d1 d2:Addr) (bs gs:List (JK×V)):Prop where
 hi:∃ dh,H h=some (.ins T.Ye dh [("kept_boards",.ref d1),("kept_games",.ref d2)])
 h1:H d1=some (.dK bs)
 h2:H d2=some (.dK gs)
 ne:d1≠d2
def JnA:Sp:=fun vs H Q _=>∃ (h dx:Addr),vs=[.ref h]∧H h=some (.ins T.Ye dx [])∧∀ d1 d2 H',Yc h H H'→H d1=none→H d2=none→Zl T H' h d1 d2 [] []→Q .non H'
def Jup:Sp:=fun vs H Q E=>∃ (h d1 d2:Addr) (z:Str) (v:V) (bs gs:List (JK×V)),vs=[.ref h,.str z,v]∧Yo z∧Zl T H h d1 d2 bs gs∧(∀ H',Ji H H'→Jtb T bs z 12 H' E) ∧
 (J1 z=true→Yi bs (.inr z)=none→bs.length < 12→∀ H',Yc d1 H H'→Zl T H' h d1 d2 (bs ++ [(.inr z,v)]) gs→Q .non H')
def Jp0:Sp:=fun vs H Q E=>∃ (h d1 d2:Addr) (z:Str) (bs gs:List (JK×V)),vs=[.ref h,.str z]∧Yo z∧Zl T H h d1 d2 bs gs∧(Yi bs (.inr z)=none→E (.ref T.JY) none H)∧(∀ v,Yi bs (.inr z)=some v→Q v H)
def Jq4:Sp:=fun vs H Q E=>∃ (h d1 d2:Addr) (z:Str) (bs gs:List (JK×V)),vs=[.ref h,.str z]∧Yo z∧Zl T H h d1 d2 bs gs∧(Yi gs (.inr z)=none→E (.ref T.JY) none H)∧(∀ v,Yi gs (.inr z)=some v→Q v H)
variable {T}
theorem Zl.same {H H':Hp} {h d1 d2:Addr} {bs gs:List (JK×V)} (A:Zl T H h d1 d2 bs gs) (e:Ji H H'):Zl T H' h d1 d2 bs gs:=⟨let ⟨dh,q⟩:=A.hi; ⟨dh,e _ _ q⟩,e _ _ A.h1,e _ _ A.h2,A.ne⟩
theorem Jry {H:Hp} {h dx:Addr} {Q:VK} {E:XK} (nx:H h=none) (ndx:H dx=none) (q:∀ d1 d2 H',Ji H H'→H d1=none→H d2=none→Zl T H' h d1 d2 [] []→Q .non H'):JnA T (.ref h :: []) (upd (upd H dx (.own h)) h (.ins T.Ye dx [])) Q E:=by
 have e5:Ji H (upd (upd H dx (.own h)) h (.ins T.Ye dx [])):=fun b u e=>by
  rw [Jt (Jw e nx),Jt (Jw e ndx)]; exact e
 exact ⟨h,dx,rfl,Jg,fun d1 d2 H' bt n1 n2 A=>q d1 d2 H' (fun b u e=>bt b u (Jw e nx) (e5 b u e)) (e5.free n1) (e5.free n2) A⟩
end
section
variable {K:PySem.W.Frag} {mg:Str→Option Value} {T:Txt K mg} {G:Gm} {H H':Hp} {ds:List (Addr×List V)} {ms:List (Addr×Mo)} {d:Addr} {kvs:List (JK×V)}
theorem Yc.bkD {C CB k b:Addr} {ps:List Str} {zs:List (V×(Str×Str))} {gs:List Str} {c:Int} {t n:Nat} (e:Yc d H H') (hd:H d=some (.dK kvs)) (h:Bk K C CB H k b ps zs gs c t n):Bk K C CB H' k b ps zs gs c t n :=
 ⟨e.bdD hd h.B,h.c0,h.c1,h.t1,let ⟨dx,l,rs,k1,k2,k3,k4⟩:=h.at_; ⟨dx,l,rs,e.dict hd k1 (fun _ z=>nomatch z),e.dict hd k2 (fun _ z=>nomatch z),k3,fun i a q=>let ⟨kv,r1,r2⟩:=k4 i a q; ⟨kv,e.dict hd r1 (fun _ z=>nomatch z),r2⟩⟩⟩
theorem Yr.less (A:Yr T G H ds ms) (hd:H d=some (.dK kvs)):Yr T ⟨fun x=>if x=d then none else G.S x,G.g,G.b,G.k,G.ld,G.lm,G.ps,G.zs,G.gs,G.c,G.T⟩ H ds ms:=by
 have bt:Yc d G.S (fun x=>if x=d then none else G.S x):=fun a u hn q=>by show (if a=d then none else G.S a)=some u; rw [if_neg hn]; exact q
 have nn:∀ {x},G.S x=none→(if x=d then none else G.S x)=none:=fun h=>by split <;> first | rfl | exact h
 have sm:Ji (fun x=>if x=d then none else G.S x) H:=fun b u q=>by
  have q:(if b=d then none else G.S b)=some u:=q;by_cases hb:b=d
  ·rw [if_pos hb] at q; cases q
  ·rw [if_neg hb] at q; exact A.sm b u q
 obtain ⟨dx,hg⟩:=A.gi;have gd:G.g≠d:=fun z=>by have:=A.sm _ _ hg; rw [z,hd] at this; cases this
 refine ⟨sm,?_,⟨dx,by show (if G.g=d then none else G.S G.g)=_; rw [if_neg gd]; exact hg⟩,nn A.nd,nn A.nm,A.ne,A.hd,A.hm,A.dt,A.mt,A.mo⟩;cases hS:G.S d with
 | none =>
  have e:Ji G.S (fun x=>if x=d then none else G.S x):=fun b u q=>bt b u (fun z=>by rw [z,hS] at q; cases q) q
  exact A.bk.same e
 | some o =>
  have:=A.sm _ _ hS;rw [hd] at this;cases Option.some.inj this;exact bt.bkD hS A.bk
theorem Yr.dict (A:Yr T G H ds ms) (e:Yc d H H') (hd:H d=some (.dK kvs)) (hS:G.S d=none):Yr T G H' ds ms :=
 ⟨fun b u q=>e b u (fun z=>by rw [z,hS] at q; cases q) (A.sm b u q),A.bk,A.gi,A.nd,A.nm,A.ne,e.dict hd A.hd (fun _ z=>nomatch z),e.dict hd A.hm (fun _ z=>nomatch z),fun x hx=>e.dict hd (A.dt x hx) (fun _ z=>nomatch z),fun x hx=>let ⟨dx,q⟩:=A.mt x hx; ⟨dx,e.dict hd q (fun _ z=>nomatch z)⟩,A.mo⟩
variable (T)
def JtW (kvs:List (JK×V)) (z:Str) (n:Nat):Prop:=J1 z=true∧Yi kvs (.inr z)=none∧kvs.length < n
def JsE:Sp:=fun vs H Q E=>∃ (h d1 d2:Addr) (z bz p x:Str) (m n s:Int) (bs gm:List (JK×V)),vs=[.ref h,.str z,.str bz,.str p,.int m,.int n,.int s,.str x]∧Yo z∧Yo bz∧Yo p∧Yo x∧Zl T H h d1 d2 bs gm∧(∀ H',Ji H H'→Jtb T gm z 20 H' E)∧(JtW gm z 20→Yi bs (.inr bz)=none→∀ H',Ji H H'→E (.ref T.JY) none H') ∧
 (JtW gm z 20→∀ v,Yi bs (.inr bz)=some v→∃ (b:Addr) (ps:List Str) (zs:List (V×(Str×Str))) (gs:List Str),v=.ref b∧Bd K T.JT H b ps zs gs∧(∀ H',Ji H H'→Jh3 T ps p m n s x H' E) ∧
  (p∈ps→0≤m∧m≤30→Jam n s→∀ r,x=hs r→∀ (G:Gm) (a:Addr) (H':Hp),G.ps=ps→G.zs=zs→G.gs=gs→G.c=n + s→G.S d1=none→G.S d2=none→Yc d2 H H'→Zl T H' h d1 d2 bs (gm ++ [(.inr z,.ref G.g)])→Yr T G H' [] ([] ++ [(a,Jai (zs.map (·.2)) gs p m.toNat n r)])→Q .non H'))
def JqZ (first:Bool):Sp:=fun vs H Q _=>∃ (h d1 d2:Addr) (bs gm:List (JK×V)) (ss:List Str),vs=[.ref h]∧Zl T H h d1 d2 bs gm∧(if first then bs else gm).map (·.1)=ss.map Sum.inr∧ss.length < 64∧∀ (t:Addr) (ss':List Str) (H':Hp),Ji H H'→ss'.Perm ss→ss'.Pairwise sle→H' t=some (.tup (ss'.map V.str))→Q (.ref t) H'
def JkM (R:Gm→List (Addr×List V)→Mo→Hp→(V→Hp→Prop)→Prop):Sp:=fun vs H Q E=>∃ (h d1 d2:Addr) (z:Str) (bs gm:List (JK×V)),vs=[.ref h,.str z]∧Yo z∧Zl T H h d1 d2 bs gm∧(Yi gm (.inr z)=none→E (.ref T.JY) none H)∧∀ v,Yi gm (.inr z)=some v→∃ (G:Gm) (ds:List (Addr×List V)) (ms:List (Addr×Mo)) (a:Addr) (x:Mo),v=.ref G.g∧Yr T G H ds (ms ++ [(a,x)])∧R G ds x H Q
def Jvr:Gm→List (Addr×List V)→Mo→Hp→(V→Hp→Prop)→Prop:=fun G _ x H Q=>∀ t H',Ji H H'→H' t=some (.tup [.str x.p,.int (x.m:Int),.int x.n,.int (G.c - x.n),.str (hs x.r)])→Q (.ref t) H'
def Jw8:Gm→List (Addr×List V)→Mo→Hp→(V→Hp→Prop)→Prop:=fun _ _ x H Q=>(x.ph=.over→Q .non H)∧(x.ph≠.over→∀ t H',Ji H H'→H' t=some (.tup [x.hand,x.word])→Q (.ref t) H')
def Jvw:Gm→List (Addr×List V)→Mo→Hp→(V→Hp→Prop)→Prop:=fun _ _ x H Q=>Q x.heard H
def Jvz:Gm→List (Addr×List V)→Mo→Hp→(V→Hp→Prop)→Prop:=fun _ ds _ H Q=>∀ t H',Ji H H'→H' t=some (.tup (ds.map fun d=>.ref d.1))→Q (.ref t) H'
def Jwo:Gm→List (Addr×List V)→Mo→Hp→(V→Hp→Prop)→Prop:=fun G _ x H Q=>∀ H',Ji H H'→Q (Zp x.p (x.m:Int) (G.zs.map (·.2)) G.gs) H'
def JqY:Sp:=fun vs H Q _=>∃ (G:Gm) (h d1 d2 t tn tl a:Addr) (z:Str) (bs gm:List (JK×V)) (x:Mo) (ds:List (Addr×List V)) (ms:List (Addr×Mo)) (ls:List Addr) (ps:List Str) (zs:List (V×(Str×Str))) (gs:List Str),vs=[.ref h,.str z,.ref t,.ref tn,.ref tl]∧Yo z∧Zl T H h d1 d2 bs gm∧Yi gm (.inr z)=some (.ref G.g)∧Yr T G H ds (ms ++ [(a,x)])∧H tn=some (.tup (Jkl G.c x))∧GG K H t ps zs gs G.ps G.zs G.gs∧(Jz K H tl (ls.map V.ref)∨JQ K H tl (ls.map V.ref))∧Jev H ls ds∧ds.length≤1000∧(∀ d∈ds,d.2.length≤1000∧d.2.all Jbd=true)∧∀ H',Ji H H'→Q (.bl true) H'
end
section
variable {P:Program} {w:World} {K:PySem.W.Frag} {mg:Str→Option Value} {base:Heap}
theorem Jin (T:Txt K mg):JL P w K mg base (Y8 P w) 2 T.Jgs T.Jfk ["name", "kept", "most"] (Juo T):=by
 refine T.Jdf.F.ok1 JnL (fun vs H Q E h=>?_) (fun cdv A outer s H vs Q E hr h=>?_)
 ·obtain ⟨_,_,_,_,rfl,_⟩:=h;rfl
 ·obtain ⟨d,z,n,kvs,rfl,tz,hn,hd,hE,q⟩:=h;have hu:=Jf3 hr;refine ⟨_,(@Jf _ _ _ _ _ (@JM _ _ _ _ _ _ _ _ (@Jag _ _ _ _ (@Zx _ _ _ (@Jo _ _ _ _ _ _ _ _ _ _ _ _ _ _ _ T.Jdd (Jil T) (hr.mono (by decide)) JG (@Ja _ _ _ _ _ (@pv _ 0 _ _ rfl (.inl rfl) rfl rfl) (@Jd _) rfl) rfl (by decide) rfl rfl) (by intro _; rfl))) (@Jj _ _ _ (@JaV _ _ _ _ _ _ _ _ _ T.YK T.Ji6 JbQ (@JbS _ _ _ _ _ _ (PJ.cons (@Je1 _ _ _ _ (@pv _ 0 _ _ rfl (.inl rfl) rfl rfl)) (PJ.cons (@Jp _ _ _ _) PJ.nil)) rfl) rfl rfl (by decide) rfl)) (@Jy _)) (@Jf _ _ _ _ _ (@JM _ _ _ _ _ _ _ _ (@Jbo _ _ _ _ _ _ (@JvF _ _ _ _ _ hu (@pv _ 0 _ _ rfl (.inl rfl) rfl rfl) (@pv _ 1 _ _ rfl (.inl rfl) rfl rfl)) (by first | exact Zi _ (by decide) (by decide) | rfl)) (@Jj _ _ _ (@JaV _ _ _ _ _ _ _ _ _ T.Za T.Jmg JbQ (@JbS _ _ _ _ _ _ (PJ.cons (@Je1 _ _ _ _ (@pv _ 0 _ _ rfl (.inl rfl) rfl rfl)) (PJ.cons (@Jp _ _ _ _) PJ.nil)) rfl) rfl rfl (by decide) rfl)) (@Jy _)) (@Jj _ _ _ (@JM _ _ _ _ _ _ _ _ (@Jx _ _ _ _ _ _ _ _ (@JtT _) (@JA _ _ _ _ _ _ _ _ _ (@Jr8 _) rfl T.Zv PySem.boot_len (@Ja _ _ _ _ _ (@pv _ 1 _ _ rfl (.inl rfl) rfl rfl) (@Jd _) rfl) (by decide) (by decide) rfl rfl) (@pv _ 2 _ _ rfl (.inl rfl) rfl rfl) (JH _)) (@Jj _ _ _ (@JaV _ _ _ _ _ _ _ _ _ T.Zt T.JoG JbQ (@JbS _ _ _ _ _ _ (PJ.cons (@Jp _ _ _ _) (PJ.cons (@JlU _ _ _ _ (@pv _ 2 _ _ rfl (.inl rfl) rfl rfl)) (PJ.cons (@Jp _ _ _ _) PJ.nil))) rfl) rfl rfl (by decide) rfl)) (@Jy _))))),?_⟩;refine ⟨_,rfl,z,rfl,tz.1,fun H1 e1=>⟨_,rfl,?_⟩⟩;obtain ⟨q1,q2,q3⟩:=hE H1 e1;have hz:=JfP tz;have e0:(Str.empty ++ reprText z).length=(reprText z).length:=by rw [strLen_append]; exact Nat.zero_add _
  have jn:∀ {x:Str},x.length≤50→(Str.empty ++ reprText z ++ x).length≤sizeLine:=fun hx=>by
   rw [strLen_append,e0];exact Nat.le_trans (Nat.add_le_add hz hx) (by decide)
  have hz2:(reprText z).length≤sizeLine:=Nat.le_trans hz (by decide);by_cases hg:J1 z=true
  ·refine YQ (by rw [hg]; rfl) ⟨_,rfl,_,rfl,d,_,rfl,Jbn.k (k:=Sum.inr z) (e1 _ _ hd),_,rfl,?_⟩;cases hv:Yi kvs (Sum.inr z) with
   | some v =>
    rw [hv] at q2;exact Y1 ⟨_,rfl,z,rfl,hz2,_,rfl,by rw [e0]; exact hz2,_,rfl,jn (by decide +kernel),jn (by decide +kernel),q2 hg rfl⟩
   | none =>
    refine YG ⟨_,rfl,d,kvs,rfl,e1 _ _ hd,_,rfl,_,_,rfl,rfl,_,rfl,YM (fun c=>?_) (fun c=>?_)⟩
    ·have fm:∀ m:Nat,m < 21→(m:Int).natAbs.log2 < 1920∧(Str.empty ++ Str.ofString "at most " ++ Str.ofString (toString (m:Int))).length≤sizeLine∧(Str.empty ++ Str.ofString "at most " ++ Str.ofString (toString (m:Int)) ++ Str.ofString " are kept").length≤sizeLine:=by decide +kernel
     obtain ⟨m,rfl⟩:∃ j:Nat,n=(j:Int):=⟨n.toNat,by omega⟩
     have fm:=fm m (by omega);exact ⟨_,rfl,by decide +kernel,_,rfl,_,rfl,fm.1,_,rfl,fm.2.1,_,rfl,fm.2.2,fm.2.2,q3 hg hv (of_decide_eq_true c)⟩
    ·exact q hg hv (Int.not_le.mp fun z=>c (decide_eq_true z)) H1 e1
  ·have hg:J1 z=false:=by simpa using hg
   exact Zw (by rw [hg]; rfl) ⟨_,rfl,z,rfl,hz2,_,rfl,by rw [e0]; exact hz2,_,rfl,jn (by decide +kernel),jn (by decide +kernel),q1 hg⟩
theorem Jim (T:Txt K mg):JL P w K mg base (Y8 P w) 1 T.Jgr T.Jfj ["name", "kept"] (Juk T):=by
 refine T.Jde.F.ok1 JnJ (fun vs H Q E h=>?_) (fun cdv A outer s H vs Q E hr h=>?_)
 ·obtain ⟨_,_,_,rfl,_⟩:=h;rfl
 ·obtain ⟨d,z,kvs,rfl,tz,hd,qE,q⟩:=h;have hu:=Jf3 hr;refine ⟨_,(@Jf _ _ _ _ _ (@JM _ _ _ _ _ _ _ _ (@Jbo _ _ _ _ _ _ (@Jrj _ _ _ _ _ hu (@pv _ 0 _ _ rfl (.inl rfl) rfl rfl) (@pv _ 1 _ _ rfl (.inl rfl) rfl rfl)) (by first | exact Zi _ (by decide) (by decide) | rfl)) (@Jj _ _ _ (@JaV _ _ _ _ _ _ _ _ _ T.YJ T.Ji5 JbQ (@JbS _ _ _ _ _ _ (PJ.cons (@Jp _ _ _ _) (PJ.cons (@Je1 _ _ _ _ (@pv _ 0 _ _ rfl (.inl rfl) rfl rfl)) PJ.nil)) rfl) rfl rfl (by decide) rfl)) (@Jy _)) (@Jj _ _ _ (@Jq _ _ _ _ (@JlV _ _ _ _ _ _ hu (@pv _ 1 _ _ rfl (.inl rfl) rfl rfl) (@pv _ 0 _ _ rfl (.inl rfl) rfl rfl) (fun _ _=>rfl))))),?_⟩;have hz:=JfP tz;refine ⟨_,rfl,_,rfl,d,_,rfl,Jbn.k (k:=Sum.inr z) hd,_,rfl,?_⟩;cases hv:Yi kvs (Sum.inr z) with
  | some v =>
   have g:=Jbn.k (k:=Sum.inr z) hd;rw [hv] at g;exact YG ⟨_,rfl,_,rfl,d,v,rfl,g,q v hv⟩
  | none =>
   have hl:(Str.empty ++ Str.ofString "nothing is kept under ").length≤50:=by decide +kernel
   have jn:(Str.empty ++ Str.ofString "nothing is kept under " ++ reprText z).length≤sizeLine:=by
    rw [strLen_append];exact Nat.le_trans (Nat.add_le_add hl hz) (by decide)
   exact Y1 ⟨_,rfl,Nat.le_trans hl (by decide),_,rfl,z,rfl,Nat.le_trans hz (by decide),_,rfl,jn,jn,qE hv⟩
theorem Job (T:Txt K mg):JL P w K mg base YR 1 T.Jda T.Jfn ["self"] (JnA T):=by
 refine T.Jgy.F.ok JnO (fun vs H Q E h=>?_) (fun cdv A outer s H vs Q E hr h=>?_)
 ·obtain ⟨_,_,rfl,_⟩:=h;rfl
 ·obtain ⟨h,dx,rfl,hh,q⟩:=h;refine ⟨_,(@Jf _ _ _ _ _ (@Y6 _ _ _ _ _ _ _ _ (@pv _ 0 _ _ rfl (.inl rfl) rfl rfl) (@Jn4 _ _) rfl) (@Jj _ _ _ (@Y6 _ _ _ _ _ _ _ _ (@pv _ 0 _ _ rfl (.inl rfl) rfl rfl) (@Jn4 _ _) rfl))),?_⟩;intro d1 n1;have e1:=Ji.upd (o:=.dK []) n1;refine ⟨_,rfl,h,_,dx,_,rfl,e1 _ _ hh,T.Yu,T.Zq,by decide,?_⟩;have b2:=(Yc.of (b:=h) e1).trans (Yc.put (o:=.ins T.Ye dx (Yh "kept_boards" (.ref d1) [])));have d1h:d1≠h:=fun e=>by rw [e,hh] at n1; cases n1
  have k2:upd (upd H d1 (.dK [])) h (.ins T.Ye dx (Yh "kept_boards" (.ref d1) [])) d1=some (.dK []):=by rw [Jt d1h,Jg]
  have h2:upd (upd H d1 (.dK [])) h (.ins T.Ye dx (Yh "kept_boards" (.ref d1) [])) h=some (.ins T.Ye dx [("kept_boards",.ref d1)]):=Jg;generalize upd (upd H d1 (.dK [])) h (.ins T.Ye dx (Yh "kept_boards" (.ref d1) []))=H2 at b2 k2 h2;intro d2 n2;have e3:=Ji.upd (o:=.dK []) n2;have d2h:d2≠h:=fun e=>by rw [e,h2] at n2; cases n2
  have d12:d1≠d2:=Jw k2 n2;have nd2:H d2=none:=by
   cases hq:H d2 with
   | none=>rfl
   | some u=>have:=b2 _ _ d2h hq; rw [n2] at this; cases this
  refine ⟨_,rfl,h,_,dx,_,rfl,e3 _ _ h2,T.Yu,T.Zb,by show 1 < 1000; decide,?_⟩;exact q d1 d2 _ ((b2.trans (Yc.of e3)).trans Yc.put) n1 nd2 ⟨⟨dx,Jg⟩,by rw [Jt d1h]; exact e3 _ _ k2,by rw [Jt d2h,Jg],d12⟩
theorem Jjx (T:Txt K mg):JL P w K mg base (Y8 P w) 3 T.JbN T.Jbj ["self", "name", "board"] (Jup T):=by
 refine T.Jau.F.ok1 Jjv (fun vs H Q E h=>?_) (fun cdv A outer s H vs Q E hr h=>?_)
 ·obtain ⟨_,_,_,_,_,_,_,rfl,_⟩:=h;rfl
 ·obtain ⟨h,d1,d2,z,v,bs,gs,rfl,tz,A0,hE,q⟩:=h;have hu:=Jf3 hr;refine ⟨_,(@Jf _ _ _ _ _ (@J7 _ _ _ _ (@Jo _ _ _ _ _ _ _ _ _ _ _ _ _ _ _ T.Jdf (Jin T) (hr.mono (by decide)) Y4 (@Ja _ _ _ _ _ (@pv _ 1 _ _ rfl (.inl rfl) rfl rfl) (@Ja _ _ _ _ _ (@Yd _ _ _ _ _ (@pv _ 0 _ _ rfl (.inl rfl) rfl rfl) rfl) (@Ja _ _ _ _ _ (@ZV _ _ _ _ _ rfl T.Jbz T.Jbx (by decide)) (@Jd _) rfl) rfl) rfl) rfl (by decide) rfl rfl) rfl) (@Jj _ _ _ (@JlQ _ _ _ _ _ _ _ _ _ hu (@Yd _ _ _ _ _ (@pv _ 0 _ _ rfl (.inl rfl) rfl rfl) rfl) (@pv _ 1 _ _ rfl (.inl rfl) rfl rfl) (@pv _ 2 _ _ rfl (.inl rfl) rfl rfl) rfl))),?_⟩;obtain ⟨dh,hh⟩:=A0.hi;refine ⟨_,rfl,_,rfl,h,_,dh,_,.ref d1,rfl,hh,T.Yu,T.Zq,rfl,d1,z,12,bs,rfl,tz,⟨by decide,by decide⟩,A0.h1,hE,fun hg hv hl H1 e1=>?_⟩;have A1:=A0.same e1;have hl2:bs.length < 12:=by omega
  refine ⟨_,rfl,_,rfl,h,_,dh,_,.ref d1,rfl,e1 _ _ hh,T.Yu,T.Zq,rfl,_,rfl,d1,_,rfl,Jhw.k (k:=Sum.inr z) A1.h1 (Nat.lt_of_lt_of_le hl2 (by decide)),?_⟩;rw [Jn0 v hv];have hd:h≠d1:=fun e=>by have:=A0.h1; rw [← e,hh] at this; cases this
  exact q hg hv hl2 _ ((Yc.of e1).trans Yc.put) ⟨⟨dh,by rw [Jt hd]; exact e1 _ _ hh⟩,Jg,by rw [Jt A0.ne.symm]; exact A1.h2,A0.ne⟩
theorem Jki (T:Txt K mg):JL P w K mg base (Y8 P w) 2 T.Jct T.JbJ ["self", "name"] (Jp0 T):=by
 refine T.JaM.F.ok1 Jka (fun vs H Q E h=>?_) (fun cdv A outer s H vs Q E hr h=>?_)
 ·obtain ⟨_,_,_,_,_,_,rfl,_⟩:=h;rfl
 ·obtain ⟨h,d1,d2,z,bs,gs,rfl,tz,A0,qE,q⟩:=h;refine ⟨_,(@Jj _ _ _ (@Jq _ _ _ _ (@Jo _ _ _ _ _ _ _ _ _ _ _ _ _ _ _ T.Jde (Jim T) (hr.mono (by decide)) Y4 (@Ja _ _ _ _ _ (@pv _ 1 _ _ rfl (.inl rfl) rfl rfl) (@Ja _ _ _ _ _ (@Yd _ _ _ _ _ (@pv _ 0 _ _ rfl (.inl rfl) rfl rfl) rfl) (@Jd _) rfl) rfl) rfl (by decide) rfl rfl))),?_⟩;obtain ⟨dh,hh⟩:=A0.hi;exact ⟨_,rfl,_,rfl,h,_,dh,_,.ref d1,rfl,hh,T.Yu,T.Zq,rfl,d1,z,bs,rfl,tz,A0.h1,qE,q⟩
theorem Z6 (T:Txt K mg):JL P w K mg base (Y8 P w) 2 T.Jc3 T.Jcq ["self", "name"] (Jq4 T):=by
 refine T.Yz.F.ok1 JkR (fun vs H Q E h=>?_) (fun cdv A outer s H vs Q E hr h=>?_)
 ·obtain ⟨_,_,_,_,_,_,rfl,_⟩:=h;rfl
 ·obtain ⟨h,d1,d2,z,bs,gs,rfl,tz,A0,qE,q⟩:=h;refine ⟨_,(@Jj _ _ _ (@Jq _ _ _ _ (@Jo _ _ _ _ _ _ _ _ _ _ _ _ _ _ _ T.Jde (Jim T) (hr.mono (by decide)) Y4 (@Ja _ _ _ _ _ (@pv _ 1 _ _ rfl (.inl rfl) rfl rfl) (@Ja _ _ _ _ _ (@Yd _ _ _ _ _ (@pv _ 0 _ _ rfl (.inl rfl) rfl rfl) rfl) (@Jd _) rfl) rfl) rfl (by decide) rfl rfl))),?_⟩;obtain ⟨dh,hh⟩:=A0.hi;exact ⟨_,rfl,_,rfl,h,_,dh,_,.ref d2,rfl,hh,T.Yu,T.Zb,rfl,d2,z,gs,rfl,tz,A0.h2,qE,q⟩
theorem JhH (T:Txt K mg):JL P w K mg base (Y8 P w) 11 T.Jfx T.JdY ["self", "name", "board_name", "place", "turns", "north", "south", "ribbon"] (JsE T):=by
 refine T.Jap.F.ok1 Jhx (fun vs H Q E h=>?_) (fun cdv A outer s H vs Q E hr h=>?_)
 ·obtain ⟨_,_,_,_,_,_,_,_,_,_,_,_,rfl,_⟩:=h;rfl
 ·obtain ⟨h,d1,d2,z,bz,p,x,m,n,s,bs,gm,rfl,tz,tb,tp,tx,A0,hE,qM,qG⟩:=h;have hu:=Jf3 hr;refine ⟨_,(@Jf _ _ _ _ _ (@J7 _ _ _ _ (@Jo _ _ _ _ _ _ _ _ _ _ _ _ _ _ _ T.Jdf (Jin T) (hr.mono (by decide)) Y4 (@Ja _ _ _ _ _ (@pv _ 1 _ _ rfl (.inl rfl) rfl rfl) (@Ja _ _ _ _ _ (@Yd _ _ _ _ _ (@pv _ 0 _ _ rfl (.inl rfl) rfl rfl) rfl) (@Ja _ _ _ _ _ (@ZV _ _ _ _ _ rfl T.Jco T.Jb9 (by decide)) (@Jd _) rfl) rfl) rfl) rfl (by decide) rfl rfl) rfl) (@Jf _ _ _ _ _ (@JE _ _ 8 _ _ _ _ Jhx.nd rfl (Or.inl rfl) (@Ys _ _ _ _ _ _ _ _ _ _ _ _ _ _ _ _ _ _ _ _ (@pv _ 0 _ _ rfl (.inl rfl) rfl rfl) T.Yu T.JaM.m (Jki T) (hr.mono (by decide)) T.JaM.b .nil Y4 (@Ja _ _ _ _ _ (@pv _ 2 _ _ rfl (.inl rfl) rfl rfl) (@Jd _) rfl) rfl rfl rfl) rfl (.inl rfl)) (@Jj _ _ _ (@JlQ _ _ _ _ _ _ _ _ _ hu (@Yd _ _ _ _ _ (@pv _ 0 _ _ rfl (.inl rfl) rfl rfl) rfl) (@pv _ 1 _ _ rfl (.inl rfl) rfl rfl) (@JgH _ _ _ _ _ _ _ _ _ _ _ _ _ _ _ _ _ T.Jpu (Jod T) (hr.mono (by decide)) rfl T.Jsa T.Jgz.b .nil Y4 (@Ja _ _ _ _ _ (@pv _ 8 _ _ rfl (.inl rfl) rfl rfl) (@Ja _ _ _ _ _ (@pv _ 3 _ _ rfl (.inl rfl) rfl rfl) (@Ja _ _ _ _ _ (@pv _ 4 _ _ rfl (.inl rfl) rfl rfl) (@Ja _ _ _ _ _ (@pv _ 5 _ _ rfl (.inl rfl) rfl rfl) (@Ja _ _ _ _ _ (@pv _ 6 _ _ rfl (.inl rfl) rfl rfl) (@Ja _ _ _ _ _ (@pv _ 7 _ _ rfl (.inl rfl) rfl rfl) (@Jd _) rfl) rfl) rfl) rfl) rfl) rfl) (by decide) rfl rfl) rfl)))),?_⟩;obtain ⟨dh,hh⟩:=A0.hi;refine ⟨_,rfl,_,rfl,h,_,dh,_,.ref d2,rfl,hh,T.Yu,T.Zb,rfl,d2,z,20,gm,rfl,tz,⟨by decide,by decide⟩,A0.h2,hE,fun hg hv hl H1 e1=>?_⟩;have A1:=A0.same e1;have hl2:gm.length < 20:=by omega
  refine ⟨_,rfl,h,dh,_,rfl,e1 _ _ hh,rfl,_,rfl,h,d1,d2,bz,bs,gm,rfl,tb,A1,fun hn=>qM ⟨hg,hv,hl2⟩ hn H1 e1,fun v hv'=>?_⟩;obtain ⟨b,ps,zs,gs,rfl,B,sE,q⟩:=qG ⟨hg,hv,hl2⟩ v hv';refine ⟨_,rfl,_,rfl,_,rfl,_,rfl,_,rfl,_,rfl,fun g dx nx ndx hne=>Jrz (B.same e1) tp tx nx ndx (fun H' e'=>sE H' (e1.trans e')) fun hp hm hc r hr' S k ld lm a H2 e2 A2=>⟨rfl,?_⟩⟩;have e12:=e2.trans A2.sm;have A2h:=A1.same e12;refine ⟨_,rfl,h,_,dh,_,.ref d2,rfl,e12 _ _ (e1 _ _ hh),T.Yu,T.Zb,rfl,_,rfl,d2,_,rfl,Jhw.k (k:=Sum.inr z) A2h.h2 (Nat.lt_of_lt_of_le hl2 (by decide)),?_⟩;rw [Jn0 _ hv];have hd:h≠d2:=fun e=>by have:=A0.h2; rw [← e,hh] at this; cases this
  have bt:Yc d2 H2 (upd H2 d2 (.dK (gm ++ [(.inr z,.ref g)]))):=Yc.put;have A3:=(A2.less A2h.h2).less A2h.h1;have n2:(fun x=>if x=d1 then none else (fun x=>if x=d2 then none else S x) x) d2=none:=by
   show (if d2=d1 then none else if d2=d2 then none else S d2)=none;rw [if_pos rfl]; split <;> rfl
  have n1:(fun x=>if x=d1 then none else (fun x=>if x=d2 then none else S x) x) d1=none:=if_pos rfl;exact q hp hm hc r hr' ⟨fun x=>if x=d1 then none else (fun x=>if x=d2 then none else S x) x,g,b,k,ld,lm,ps,zs,gs,n + s,m.toNat⟩ a _ rfl rfl rfl rfl n1 n2 ((Yc.of (e1.trans e12)).trans bt) ⟨⟨dh,by rw [Jt hd]; exact e12 _ _ (e1 _ _ hh)⟩,by rw [Jt A0.ne]; exact A2h.h1,Jg,A0.ne⟩ (A3.dict bt A2h.h2 n2)
theorem JhG (T:Txt K mg):JL P w K mg base YR 1 T.Jfv T.JdW ["self"] (JqZ T false):=by
 refine T.Jao.F.ok JmX (fun vs H Q E h=>?_) (fun cdv A outer s H vs Q E hr h=>?_)
 ·obtain ⟨_,_,_,_,_,_,rfl,_⟩:=h;rfl
 ·obtain ⟨h,d1,d2,bs,gm,ss,rfl,A0,hk,hl,q⟩:=h;refine ⟨_,(@Jj _ _ _ (@Jq _ _ _ _ (@ZI _ _ _ _ _ _ _ _ _ (@ZX _) rfl T.Jbb PyProof.Rows.boot_tuple (@Ja _ _ _ _ _ (@JA _ _ _ _ _ _ _ _ _ (@JqB _ rfl) rfl T.JaY PyProof.Rows.boot_sorted (@Ja _ _ _ _ _ (@Yd _ _ _ _ _ (@pv _ 0 _ _ rfl (.inl rfl) rfl rfl) rfl) (@Jd _) rfl) (by decide) (by decide) rfl rfl) (@Jd _) rfl) (by decide) (by decide) rfl rfl))),?_⟩;obtain ⟨dh,hh⟩:=A0.hi;refine ⟨_,rfl,h,_,dh,_,.ref d2,rfl,hh,T.Yu,T.Zb,rfl,d2,gm,ss,rfl,A0.h2,hk,hl,fun p ss' np sp so=>⟨p,_,rfl,.inl ⟨Jz.of Jg,fun t nt=>q t ss' _ ((Ji.upd np).trans (Ji.upd nt)) sp so Jg⟩⟩⟩
theorem Jkh (T:Txt K mg):JL P w K mg base (Y8 P w) 3 T.Jcs T.JbI ["self", "name"] (JkM T Jvr):=by
 refine T.JaL.F.ok1 Jj9 (fun vs H Q E h=>?_) (fun cdv A outer s H vs Q E hr h=>?_)
 ·obtain ⟨_,_,_,_,_,_,rfl,_⟩:=h;rfl
 ·obtain ⟨h,d1,d2,z,bs,gm,rfl,tz,A0,qE,q⟩:=h;refine ⟨_,(@Jj _ _ _ (@Jq _ _ _ _ (@JbG _ _ _ _ _ _ _ _ _ _ _ _ _ _ _ _ _ (@Ys _ _ _ _ _ _ _ _ _ _ _ _ _ _ _ _ _ _ _ _ (@pv _ 0 _ _ rfl (.inl rfl) rfl rfl) T.Yu T.Yz.m (Z6 T) (hr.mono (by decide)) T.Yz.b .nil Y4 (@Ja _ _ _ _ _ (@pv _ 1 _ _ rfl (.inl rfl) rfl rfl) (@Jd _) rfl) rfl rfl rfl) T.Zm T.JaN.m (Jkj T) (hr.mono (by decide)) T.JaN.b .nil JG rfl))),?_⟩;obtain ⟨dh,hh⟩:=A0.hi;refine ⟨_,rfl,h,dh,_,rfl,hh,rfl,_,rfl,h,d1,d2,z,bs,gm,rfl,tz,A0,qE,fun v hv=>?_⟩;obtain ⟨G,ds,ms,a,x,rfl,A1,q⟩:=q v hv;obtain ⟨dg,hg⟩:=A1.gi;exact ⟨G.g,dg,_,rfl,A1.sm _ _ hg,rfl,G,ds,ms,a,x,rfl,A1,q⟩
theorem Jo3 (T:Txt K mg):JL P w K mg base (Y8 P w) 3 T.Jhr T.Jgo ["self", "name"] (JkM T Jw8):=by
 refine T.Jew.F.ok1 JoZ (fun vs H Q E h=>?_) (fun cdv A outer s H vs Q E hr h=>?_)
 ·obtain ⟨_,_,_,_,_,_,rfl,_⟩:=h;rfl
 ·obtain ⟨h,d1,d2,z,bs,gm,rfl,tz,A0,qE,q⟩:=h;refine ⟨_,(@Jj _ _ _ (@Jq _ _ _ _ (@JbG _ _ _ _ _ _ _ _ _ _ _ _ _ _ _ _ _ (@Ys _ _ _ _ _ _ _ _ _ _ _ _ _ _ _ _ _ _ _ _ (@pv _ 0 _ _ rfl (.inl rfl) rfl rfl) T.Yu T.Yz.m (Z6 T) (hr.mono (by decide)) T.Yz.b .nil Y4 (@Ja _ _ _ _ _ (@pv _ 1 _ _ rfl (.inl rfl) rfl rfl) (@Jd _) rfl) rfl rfl rfl) T.Zm T.Jex.m (Jo4 T) (hr.mono (by decide)) T.Jex.b .nil JG rfl))),?_⟩;obtain ⟨dh,hh⟩:=A0.hi;refine ⟨_,rfl,h,dh,_,rfl,hh,rfl,_,rfl,h,d1,d2,z,bs,gm,rfl,tz,A0,qE,fun v hv=>?_⟩;obtain ⟨G,ds,ms,a,x,rfl,A1,q⟩:=q v hv;obtain ⟨dg,hg⟩:=A1.gi;exact ⟨G.g,dg,_,rfl,A1.sm _ _ hg,rfl,G,ds,ms,a,x,rfl,A1,q.1,q.2⟩
theorem Jm6 (T:Txt K mg):JL P w K mg base (Y8 P w) 3 T.Jfu T.JdV ["self", "name"] (JkM T Jvw):=by
 refine T.JcB.F.ok1 JmW (fun vs H Q E h=>?_) (fun cdv A outer s H vs Q E hr h=>?_)
 ·obtain ⟨_,_,_,_,_,_,rfl,_⟩:=h;rfl
 ·obtain ⟨h,d1,d2,z,bs,gm,rfl,tz,A0,qE,q⟩:=h;refine ⟨_,(@Jj _ _ _ (@Jq _ _ _ _ (@JbG _ _ _ _ _ _ _ _ _ _ _ _ _ _ _ _ _ (@Ys _ _ _ _ _ _ _ _ _ _ _ _ _ _ _ _ _ _ _ _ (@pv _ 0 _ _ rfl (.inl rfl) rfl rfl) T.Yu T.Yz.m (Z6 T) (hr.mono (by decide)) T.Yz.b .nil Y4 (@Ja _ _ _ _ _ (@pv _ 1 _ _ rfl (.inl rfl) rfl rfl) (@Jd _) rfl) rfl rfl rfl) T.Zm T.JcD.m (Jm8 T) (hr.mono (by decide)) T.JcD.b .nil JG rfl))),?_⟩;obtain ⟨dh,hh⟩:=A0.hi;refine ⟨_,rfl,h,dh,_,rfl,hh,rfl,_,rfl,h,d1,d2,z,bs,gm,rfl,tz,A0,qE,fun v hv=>?_⟩;obtain ⟨G,ds,ms,a,x,rfl,A1,q⟩:=q v hv;obtain ⟨dg,hg⟩:=A1.gi;exact ⟨G.g,dg,_,rfl,A1.sm _ _ hg,rfl,G,ds,ms,a,x,rfl,A1,q⟩
theorem Jm7 (T:Txt K mg):JL P w K mg base (Y8 P w) 3 T.Jfw T.JdX ["self", "name"] (JkM T Jvz):=by
 refine T.JcC.F.ok1 JmY (fun vs H Q E h=>?_) (fun cdv A outer s H vs Q E hr h=>?_)
 ·obtain ⟨_,_,_,_,_,_,rfl,_⟩:=h;rfl
 ·obtain ⟨h,d1,d2,z,bs,gm,rfl,tz,A0,qE,q⟩:=h;refine ⟨_,(@Jj _ _ _ (@Jq _ _ _ _ (@JbG _ _ _ _ _ _ _ _ _ _ _ _ _ _ _ _ _ (@Ys _ _ _ _ _ _ _ _ _ _ _ _ _ _ _ _ _ _ _ _ (@pv _ 0 _ _ rfl (.inl rfl) rfl rfl) T.Yu T.Yz.m (Z6 T) (hr.mono (by decide)) T.Yz.b .nil Y4 (@Ja _ _ _ _ _ (@pv _ 1 _ _ rfl (.inl rfl) rfl rfl) (@Jd _) rfl) rfl rfl rfl) T.Zm T.JcE.m (Jm9 T) (hr.mono (by decide)) T.JcE.b .nil JG rfl))),?_⟩;obtain ⟨dh,hh⟩:=A0.hi;refine ⟨_,rfl,h,dh,_,rfl,hh,rfl,_,rfl,h,d1,d2,z,bs,gm,rfl,tz,A0,qE,fun v hv=>?_⟩;obtain ⟨G,ds,ms,a,x,rfl,A1,q⟩:=q v hv;obtain ⟨dg,hg⟩:=A1.gi;exact ⟨G.g,dg,_,rfl,A1.sm _ _ hg,rfl,G,ds,_,rfl,A1,q⟩
theorem Joa (T:Txt K mg):JL P w K mg base (Y8 P w) 6 T.Jgu T.Jfm ["self", "name"] (JkM T Jwo):=by
 refine T.Jdg.F.ok1 JnN (fun vs H Q E h=>?_) (fun cdv A outer s H vs Q E hr h=>?_)
 ·obtain ⟨_,_,_,_,_,_,rfl,_⟩:=h;rfl
 ·obtain ⟨h,d1,d2,z,bs,gm,rfl,tz,A0,qE,q⟩:=h;refine ⟨_,(@Jj _ _ _ (@Jq _ _ _ _ (@JbG _ _ _ _ _ _ _ _ _ _ _ _ _ _ _ _ _ (@Ys _ _ _ _ _ _ _ _ _ _ _ _ _ _ _ _ _ _ _ _ (@pv _ 0 _ _ rfl (.inl rfl) rfl rfl) T.Yu T.Yz.m (Z6 T) (hr.mono (by decide)) T.Yz.b .nil Y4 (@Ja _ _ _ _ _ (@pv _ 1 _ _ rfl (.inl rfl) rfl rfl) (@Jd _) rfl) rfl rfl rfl) T.Zm T.Jdh.m (Joc T) (hr.mono (by decide)) T.Jdh.b .nil JG rfl))),?_⟩;obtain ⟨dh,hh⟩:=A0.hi;refine ⟨_,rfl,h,dh,_,rfl,hh,rfl,_,rfl,h,d1,d2,z,bs,gm,rfl,tz,A0,qE,fun v hv=>?_⟩;obtain ⟨G,ds,ms,a,x,rfl,A1,q⟩:=q v hv;obtain ⟨dg,hg⟩:=A1.gi;exact ⟨G.g,dg,_,rfl,A1.sm _ _ hg,rfl,G,ds,ms,a,x,rfl,A1,q⟩
end
section
variable {P:Program} {w:World} {K:PySem.W.Frag} {mg:Str→Option Value} {base:Heap}
theorem Jm5 (T:Txt K mg):JL P w K mg base YR 8 T.Jfs T.JdT ["_law_hall", "_law_name", "_law_ground_here", "_law_now", "_law_log"] (JqY T):=by
 refine T.JfL.F.ok JdI (fun vs H Q E h=>?_) (fun cdv A outer s H vs Q E hr h=>?_)
 ·obtain ⟨_,_,_,_,_,_,_,_,_,_,_,_,_,_,_,_,_,_,rfl,_⟩:=h;rfl
 ·obtain ⟨G,h,d1,d2,t,tn,tl,a,z,bs,gm,x,ds,ms,ls,ps,zs,gs,rfl,tz,Hh,hv,A0,htn,g,htl,hL,hdl,hdf,q⟩:=h;refine ⟨_,(@Jf _ _ _ _ _ (@Yb _ _ _ (@JM _ _ _ _ _ _ _ _ (@Jag _ _ _ _ (@Zx _ _ _ (@Jo _ _ _ _ _ _ _ _ _ _ _ _ _ _ _ T.JdH (JeB T) (hr.mono (by decide)) JG (@Ja _ _ _ _ _ (@Ys _ _ _ _ _ _ _ _ _ _ _ _ _ _ _ _ _ _ _ _ (@pv _ 0 _ _ rfl (.inl rfl) rfl rfl) T.Yu T.JaL.m (Jkh T) (hr.mono (by decide)) T.JaL.b .nil Z5 (@Ja _ _ _ _ _ (@pv _ 1 _ _ rfl (.inl rfl) rfl rfl) (@Jd _) rfl) rfl rfl rfl) (@Ja _ _ _ _ _ (@Jhf _ _ _ _ _ _ _ _ _ _ (@Jvc _) (@pv _ 3 _ _ rfl (.inl rfl) rfl rfl) (@JlR _) (@JgG _ _ _ (@Je _ _ _ _))) (@Jd _) rfl) rfl) rfl (by decide) rfl rfl) (by intro _; rfl))) (@Jj _ _ _ (@Jq _ _ _ _ (@Ja6 _ _ _ _))) (@Jy _))) (@Jf _ _ _ _ _ (@Yb _ _ _ (@JM _ _ _ _ _ _ _ _ (@Jag _ _ _ _ (@Zx _ _ _ (@Jo _ _ _ _ _ _ _ _ _ _ _ _ _ _ _ T.JdH (JeB T) (hr.mono (by decide)) JG (@Ja _ _ _ _ _ (@Ys _ _ _ _ _ _ _ _ _ _ _ _ _ _ _ _ _ _ _ _ (@pv _ 0 _ _ rfl (.inl rfl) rfl rfl) T.Yu T.Jew.m (Jo3 T) (hr.mono (by decide)) T.Jew.b .nil Z5 (@Ja _ _ _ _ _ (@pv _ 1 _ _ rfl (.inl rfl) rfl rfl) (@Jd _) rfl) rfl rfl rfl) (@Ja _ _ _ _ _ (@Jo _ _ _ _ _ _ _ _ _ _ _ _ _ _ _ T.Jns (Jrq T) (hr.mono (by decide)) JG (@Ja _ _ _ _ _ (@pv _ 2 _ _ rfl (.inl rfl) rfl rfl) (@Ja _ _ _ _ _ (@pv _ 3 _ _ rfl (.inl rfl) rfl rfl) (@Jd _) rfl) rfl) rfl (by decide) rfl rfl) (@Jd _) rfl) rfl) rfl (by decide) rfl rfl) (by intro _; rfl))) (@Jj _ _ _ (@Jq _ _ _ _ (@Ja6 _ _ _ _))) (@Jy _))) (@Jf _ _ _ _ _ (@JM _ _ _ _ _ _ _ _ (@PW.pt _ _ _ (@Jac _ _ _ _ _ _ _ (@Jag _ _ _ _ (@Zx _ _ _ (@Jo _ _ _ _ _ _ _ _ _ _ _ _ _ _ _ T.Jg5 (Jkf T) (hr.mono (by decide)) JG (@Ja _ _ _ _ _ (@Ys _ _ _ _ _ _ _ _ _ _ _ _ _ _ _ _ _ _ _ _ (@pv _ 0 _ _ rfl (.inl rfl) rfl rfl) T.Yu T.JcB.m (Jm6 T) (hr.mono (by decide)) T.JcB.b .nil Z5 (@Ja _ _ _ _ _ (@pv _ 1 _ _ rfl (.inl rfl) rfl rfl) (@Jd _) rfl) rfl rfl rfl) (@Ja _ _ _ _ _ (@JD _ _ _ _ _ _ _ (@Yq _) (@pv _ 3 _ _ rfl (.inl rfl) rfl rfl) (@Je _ _ _ _) (fun _ _=>rfl)) (@Jd _) rfl) rfl) rfl (by decide) rfl rfl) (by intro _; rfl))) (@Jax _ _ _ _ (@Jag _ _ _ _ (@Zx _ _ _ (@Jo _ _ _ _ _ _ _ _ _ _ _ _ _ _ _ T.Jmo (Js8 T) (hr.mono (by decide)) JG (@Ja _ _ _ _ _ (@Ys _ _ _ _ _ _ _ _ _ _ _ _ _ _ _ _ _ _ _ _ (@pv _ 0 _ _ rfl (.inl rfl) rfl rfl) T.Yu T.JcC.m (Jm7 T) (hr.mono (by decide)) T.JcC.b .nil Z5 (@Ja _ _ _ _ _ (@pv _ 1 _ _ rfl (.inl rfl) rfl rfl) (@Jd _) rfl) rfl rfl rfl) (@Ja _ _ _ _ _ (@pv _ 4 _ _ rfl (.inl rfl) rfl rfl) (@Jd _) rfl) rfl) rfl (by decide) rfl rfl) (by intro _; rfl)))))) (@Jj _ _ _ (@Jq _ _ _ _ (@Ja6 _ _ _ _))) (@Jy _)) (@Jf _ _ _ _ _ (@JE _ _ 5 _ _ _ _ JdI.nd rfl (Or.inl rfl) (@Jbp _ _ _) rfl (.inl rfl)) (@Jf _ _ _ _ _ (@Yb _ _ _ (@JM _ _ _ _ _ _ _ _ (@Jbo _ _ _ _ _ _ (@JgI _ _ _ _ _ (@Jo _ _ _ _ _ _ _ _ _ _ _ _ _ _ _ T.Jns (Jrq T) (hr.mono (by decide)) JG (@Ja _ _ _ _ _ (@pv _ 2 _ _ rfl (.inl rfl) rfl rfl) (@Ja _ _ _ _ _ (@pv _ 3 _ _ rfl (.inl rfl) rfl rfl) (@Jd _) rfl) rfl) rfl (by decide) rfl rfl)) (by first | exact Zi _ (by decide) (by decide) | rfl)) (@Jj _ _ _ (@JE _ _ 5 _ _ _ _ JdI.nd rfl (Or.inl rfl) (@Jo _ _ _ _ _ _ _ _ _ _ _ _ _ _ _ T.Jnq (Jrn T) (hr.mono (by decide)) JG (@Ja _ _ _ _ _ (@pv _ 2 _ _ rfl (.inl rfl) rfl rfl) (@Ja _ _ _ _ _ (@JD _ _ _ _ _ _ _ (@Yq _) (@pv _ 3 _ _ rfl (.inl rfl) rfl rfl) (@Je _ _ _ _) (fun _ _=>rfl)) (@Ja _ _ _ _ _ (@JD _ _ _ _ _ _ _ (@Yq _) (@pv _ 3 _ _ rfl (.inl rfl) rfl rfl) (@Je _ _ _ _) (fun _ _=>rfl)) (@Jd _) rfl) rfl) rfl) rfl (by decide) rfl rfl) rfl (.inl rfl))) (@Jy _))) (@Jj _ _ _ (@Jq _ _ _ _ (@Jo _ _ _ _ _ _ _ _ _ _ _ _ _ _ _ T.Jg5 (Jkf T) (hr.mono (by decide)) JG (@Ja _ _ _ _ _ (@Ys _ _ _ _ _ _ _ _ _ _ _ _ _ _ _ _ _ _ _ _ (@pv _ 0 _ _ rfl (.inl rfl) rfl rfl) T.Yu T.Jdg.m (Joa T) (hr.mono (by decide)) T.Jdg.b .nil Z5 (@Ja _ _ _ _ _ (@pv _ 1 _ _ rfl (.inl rfl) rfl rfl) (@Jd _) rfl) rfl rfl rfl) (@Ja _ _ _ _ _ (@pv _ 5 _ _ rfl (.inl rfl) rfl rfl) (@Jd _) rfl) rfl) rfl (by decide) rfl rfl)))))))),?_⟩
  try dsimp only [cxK,Ji0]
  obtain ⟨dh,hh⟩:=Hh.hi;have ok:JoN G.ps (G.zs.map (·.2)) G.gs G.c G.T x:=A0.mo (a,x) (List.mem_append_right _ (List.mem_singleton.mpr rfl));have fd:=Jtp (x:=x);have nov:∀ {v:V},Yi gm (.inr z)=some v→v=.ref G.g:=fun h=>by rw [hv] at h; exact (Option.some.inj h).symm
  have nn:∀ {Z:Prop},Yi gm (.inr z)=none→Z:=fun h=>by rw [hv] at h; cases h
  have hX:∀ {H1:Hp},Ji H H1→(Jz K H1 tl (ls.map V.ref)∨JQ K H1 tl (ls.map V.ref)):=fun e=>htl.elim (fun h=>.inl (e.seq h)) (fun h=>.inr (e.tup h))
  refine ⟨fun σ1 H1=>Ji H H1∧σ1=[some (.ref h),some (.str z),some (.ref t),some (.ref tn),some (.ref tl),none],?_,?_⟩
  ·refine ⟨_,rfl,h,dh,_,rfl,hh,rfl,_,rfl,h,d1,d2,z,bs,gm,rfl,tz,Hh,nn,fun v hv'=>⟨G,ds,ms,a,x,nov hv',A0,fun t1 H1 e1 h1=>?_⟩⟩;have cut:Jal (Jkl G.c x) none (some 5)=[.str x.p,.int (x.m:Int),.int x.n,.int (G.c - x.n),.str (hs x.r)]:=rfl;refine ⟨_,rfl,_,rfl,tn,_,rfl,JQ.of (e1 _ _ htn),(by rintro ⟨_,h⟩; exact absurd h (by show ¬ (HT.YA 7 7 (some 5)=7); decide)),fun t2 n2=>?_⟩;have s2:=Ji.upd (o:=.tup (Jal (Jkl G.c x) none (some 5))) n2;exact ⟨.ref t1,.ref t2,rfl,⟨_,rfl,YG ⟨e1.trans s2,rfl⟩⟩,.inr ⟨t1,t2,_,rfl,rfl,JQ.of (s2 _ _ h1),.inr (JQ.of (by rw [Jg,cut])),by show 5≤1000; decide,rfl⟩⟩
  rintro σ1 H2 ⟨e2,rfl⟩;refine ⟨fun σ1 H1=>Ji H H1∧σ1=[some (.ref h),some (.str z),some (.ref t),some (.ref tn),some (.ref tl),none],?_,?_⟩
  ·have A2:=A0.same e2;refine ⟨_,rfl,h,dh,_,rfl,e2 _ _ hh,rfl,_,rfl,h,d1,d2,z,bs,gm,rfl,tz,Hh.same e2,nn,fun v hv'=>⟨G,ds,ms,a,x,nov hv',A2,fun ho=>?_,fun ho t3 H3 e3 h3=>?_⟩⟩
   ·exact ⟨_,rfl,_,rfl,t,tn,x,ps,zs,gs,G.ps,G.zs,G.gs,G.c,G.T,rfl,e2 _ _ htn,g.same e2,ok,fun _ H4 e4=>⟨.non,.non,rfl,⟨_,rfl,YG ⟨e2.trans e4,rfl⟩⟩,.inl ⟨rfl,rfl⟩⟩,fun z=>absurd ho z⟩
   ·refine ⟨_,rfl,_,rfl,t,tn,x,ps,zs,gs,G.ps,G.zs,G.gs,G.c,G.T,rfl,(e2.trans e3) _ _ htn,g.same (e2.trans e3),ok,fun z=>absurd z ho,fun _ t4 H4 e4 h4=>⟨.ref t3,.ref t4,rfl,⟨_,rfl,YG ⟨(e2.trans e3).trans e4,rfl⟩⟩,.inr ⟨t3,t4,_,rfl,rfl,JQ.of (e4 _ _ h3),.inr (JQ.of h4),by show 2≤1000; decide,?_⟩⟩⟩;show (Jbd x.hand && (Jbd x.word && true))=true;rw [fd.1,fd.2.1]; rfl
  rintro σ1 H1 ⟨e1,rfl⟩;have A1:=A0.same e1;refine ⟨_,rfl,h,dh,_,rfl,e1 _ _ hh,rfl,_,rfl,h,d1,d2,z,bs,gm,rfl,tz,Hh.same e1,nn,fun v hv'=>⟨G,ds,ms,a,x,nov hv',A1,?_⟩⟩;refine ⟨_,rfl,tn,_,_,x.heard,rfl,rfl,JQ.of (e1 _ _ htn),rfl,x.heard,rfl,fd.2.2.1,_,rfl,YG ?_⟩;refine ⟨_,rfl,h,dh,_,rfl,e1 _ _ hh,rfl,_,rfl,h,d1,d2,z,bs,gm,rfl,tz,Hh.same e1,nn,fun v hv'=>⟨G,ds,ms,a,x,nov hv',A1,fun t2 H2 e2 h2=>?_⟩⟩;have e12:=e1.trans e2;have A2:=A0.same e12;refine ⟨_,rfl,t2,tl,ds,ls,rfl,h2,hX e12,(hL.same e12).sq,hdl,fun d hd=>⟨JQ.of (A2.dt d hd),hdf d hd⟩,_,rfl,YG ?_⟩;refine ⟨fun σ1 H3=>Ji H H3∧σ1=[some (.ref h),some (.str z),some (.ref t),some (.ref tn),some (.ref tl),some (Zp x.p (x.m:Int) (G.zs.map (·.2)) G.gs)],?_,?_⟩
  ·refine ⟨_,rfl,_,rfl,t,tn,x,ps,zs,gs,G.ps,G.zs,G.gs,G.c,G.T,rfl,e12 _ _ htn,g.same e12,ok,fun ho H3 e3=>?_,fun ho t3 H3 e3 h3=>?_⟩
   ·have e13:=e12.trans e3;refine ⟨_,rfl,Y1 ⟨_,rfl,_,rfl,tn,_,_,.str x.p,rfl,rfl,JQ.of (e13 _ _ htn),rfl,_,rfl,tn,_,_,.int (x.m:Int),rfl,rfl,JQ.of (e13 _ _ htn),rfl,t,x.p,(x.m:Int),ps,zs,gs,rfl,g.G.same e13,fun H4 e4=>⟨e13.trans e4,?_⟩⟩⟩;rw [JuP (g.zp.map _) g.gp (ok.e.mp ho)]; rfl
   ·refine ⟨_,rfl,YG ⟨e12.trans e3,?_⟩⟩;rw [JoA.2 (fun z=>ho (ok.e.mpr z))]; rfl
  rintro σ1 H3 ⟨e3,rfl⟩;exact ⟨_,rfl,h,dh,_,rfl,e3 _ _ hh,rfl,_,rfl,h,d1,d2,z,bs,gm,rfl,tz,Hh.same e3,nn,fun v hv'=>⟨G,ds,ms,a,x,nov hv',A0.same e3,fun H4 e4=>⟨_,rfl,_,rfl,Jto,q H4 (e3.trans e4)⟩⟩⟩
def JqV:Sp:=fun vs H Q _=>∃ c m:Int,vs=[.int c,.int m]∧0≤m∧m < 100∧∀ y H',Ji H H'→Q (.int y) H'
theorem Jik (T:Txt K mg):JL P w K mg base YR 1 T.Jkw T.JiK ["_law_cell", "_law_most"] JqV:=by
 refine T.JfK.F.ok Jmt (fun vs H Q E h=>?_) (fun cdv A outer s H vs Q E hr h=>?_)
 ·obtain ⟨_,_,rfl,_⟩:=h;rfl
 ·obtain ⟨c,m,rfl,h0,h1,q⟩:=h;refine ⟨_,(@Jf _ _ _ _ _ (@JM _ _ _ _ _ _ _ _ (@Jx _ _ _ _ _ _ _ _ (@Jc9 _) (@Jm _ _ _ _ _ _ _ _ (@JZ _) (@pv _ 0 _ _ rfl (.inl rfl) rfl rfl) (@Je _ _ _ _)) (@Je _ _ _ _) (JH _)) (@Jj _ _ _ (@Jq _ _ _ _ (@Jm _ _ _ _ _ _ _ _ (@JZ _) (@Jm _ _ _ _ _ _ _ _ (@Yx _) (@pv _ 0 _ _ rfl (.inl rfl) rfl rfl) (@Je _ _ _ _)) (@Jm _ _ _ _ _ _ _ _ (@Yj _) (@pv _ 1 _ _ rfl (.inl rfl) rfl rfl) (@Je _ _ _ _))))) (@Jy _)) (@Jf _ _ _ _ _ (@JE _ _ 2 _ _ _ _ Jmt.nd rfl (Or.inl rfl) (@Jm _ _ _ _ _ _ _ _ (@Yj _) (@Jm _ _ _ _ _ _ _ _ (@Yj _) (@Je _ _ _ _) (@Jm _ _ _ _ _ _ _ _ (@JZ _) (@Jm _ _ _ _ _ _ _ _ (@Yx _) (@pv _ 0 _ _ rfl (.inl rfl) rfl rfl) (@Je _ _ _ _)) (@Je _ _ _ _))) (@JD _ _ _ _ _ _ _ (@JU _) (@Yv _ _ _ _ (@Ja _ _ _ _ _ (@Je _ _ _ _) (@Ja _ _ _ _ _ (@Je _ _ _ _) (@Ja _ _ _ _ _ (@Jm _ _ _ _ _ _ _ _ (@JvH _) (@Je _ _ _ _) (@Je _ _ _ _)) (@Jd _) rfl) rfl) rfl)) (@Jm _ _ _ _ _ _ _ _ (@JZ _) (@Jm _ _ _ _ _ _ _ _ (@Yx _) (@pv _ 0 _ _ rfl (.inl rfl) rfl rfl) (@Je _ _ _ _)) (@Je _ _ _ _)) (fun _ _=>rfl))) rfl (.inl rfl)) (@Jj _ _ _ (@Jq _ _ _ _ (@JD _ _ _ _ _ _ _ (@JU _) (@Yv _ _ _ _ (@Ja _ _ _ _ _ (@Jm _ _ _ _ _ _ _ _ (@Yj _) (@pv _ 1 _ _ rfl (.inl rfl) rfl rfl) (@pv _ 2 _ _ rfl (.inl rfl) rfl rfl)) (@Ja _ _ _ _ _ (@Jm _ _ _ _ _ _ _ _ (@Jay _) (@Je _ _ _ _) (@pv _ 2 _ _ rfl (.inl rfl) rfl rfl)) (@Jd _) rfl) rfl)) (@Jm _ _ _ _ _ _ _ _ (@JZ _) (@Jm _ _ _ _ _ _ _ _ (@Yx _) (@pv _ 0 _ _ rfl (.inl rfl) rfl rfl) (@Je _ _ _ _)) (@Je _ _ _ _)) (fun _ _=>rfl)))))),?_⟩;refine ⟨_,rfl,_,_,rfl,rfl,(by show (0:Int) < 5; decide),rfl,_,rfl,YM (fun _=>?_) (fun _=>?_)⟩
  ·exact ⟨_,rfl,_,_,rfl,rfl,⟨by decide,by decide⟩,_,rfl,_,_,rfl,rfl,_,_,rfl,rfl,(by show (0:Int) < m + 1; omega),q _ _ (Ji.refl _)⟩
  ·refine ⟨_,rfl,_,_,rfl,rfl,⟨by decide,by decide⟩,_,_,rfl,rfl,(by show (0:Int) < 30; decide),_,_,rfl,rfl,_,_,rfl,rfl,⟨by decide,by decide,by decide⟩,by show 3≤sizeLine; decide,fun l hl=>?_⟩;obtain ⟨y,hy⟩:∃ y:Int,Z8 [V.int 0,V.int 0,V.int (10 ^ 40)] (c / 10 % 3)=some (.int y):=by
    have h:c / 10 % 3=0∨c / 10 % 3=1∨c / 10 % 3=2:=by omega
    rcases h with h | h | h <;> rw [h]
    ·exact ⟨0,rfl⟩
    ·exact ⟨0,rfl⟩
    ·exact ⟨10 ^ 40,rfl⟩
   refine ⟨_,rfl,_,_,rfl,rfl,⟨by decide,by decide⟩,_,_,rfl,rfl,(by show (0:Int) < 3; decide),l,_,_,.int y,rfl,rfl,Jz.of Jg,hy,_,_,rfl,rfl,?_⟩;refine ⟨_,rfl,_,rfl,_,_,rfl,rfl,_,rfl,_,_,rfl,rfl,by show 2≤sizeLine; decide,fun l2 hl2=>?_⟩;refine ⟨_,rfl,_,_,rfl,rfl,⟨by decide,by decide⟩,_,_,rfl,rfl,(by show (0:Int) < 2; decide),l2,_,_,.int (if c / 5 % 2=0 then m + (1 + c / 30 % 30 + y) else 0 - (1 + c / 30 % 30 + y)),rfl,rfl,Jz.of Jg,?_,q _ _ ((Ji.upd hl).trans (Ji.upd hl2))⟩;have h:c / 5 % 2=0∨c / 5 % 2=1:=by omega
   rcases h with h | h <;> rw [h] <;> rfl
def JoW:Sp:=fun vs H Q _=>∃ c:Int,vs=[.int c]∧∀ z H',Yo z→Ji H H'→Q (.str z) H'
theorem Jo2 (T:Txt K mg):JL P w K mg base YR 2 T.Jhq T.Jgn ["_law_cell"] JoW:=by
 refine T.Jhv.F.ok JoY (fun vs H Q E h=>?_) (fun cdv A outer s H vs Q E hr h=>?_)
 ·obtain ⟨_,rfl,_⟩:=h;rfl
 ·obtain ⟨c,rfl,q⟩:=h;refine ⟨_,(@Jf _ _ _ _ _ (@JM _ _ _ _ _ _ _ _ (@Jx _ _ _ _ _ _ _ _ (@YU _) (@Jm _ _ _ _ _ _ _ _ (@JZ _) (@pv _ 0 _ _ rfl (.inl rfl) rfl rfl) (@Je _ _ _ _)) (@Je _ _ _ _) (JH _)) (@Jj _ _ _ (@Jq _ _ _ _ (@JD _ _ _ _ _ _ _ (@JU _) (@Yv _ _ _ _ (@Ja _ _ _ _ _ (@Jp _ _ _ _) (@Ja _ _ _ _ _ (@Jp _ _ _ _) (@Ja _ _ _ _ _ (@Jp _ _ _ _) (@Ja _ _ _ _ _ (@Jp _ _ _ _) (@Ja _ _ _ _ _ (@Jp _ _ _ _) (@Ja _ _ _ _ _ (@Jp _ _ _ _) (@Jd _) rfl) rfl) rfl) rfl) rfl) rfl)) (@Jm _ _ _ _ _ _ _ _ (@JZ _) (@Jm _ _ _ _ _ _ _ _ (@Yx _) (@pv _ 0 _ _ rfl (.inl rfl) rfl rfl) (@Je _ _ _ _)) (@Je _ _ _ _)) (fun _ _=>rfl)))) (@Jy _)) (@Jj _ _ _ (@Jq _ _ _ _ (@Jo _ _ _ _ _ _ _ _ _ _ _ _ _ _ _ T.JoQ (JuB T) (hr.mono (by decide)) JG (@Ja _ _ _ _ _ (@Jm _ _ _ _ _ _ _ _ (@Yx _) (@pv _ 0 _ _ rfl (.inl rfl) rfl rfl) (@Je _ _ _ _)) (@Jd _) rfl) rfl (by decide) rfl rfl)))),?_⟩;refine ⟨_,rfl,_,_,rfl,rfl,(by show (0:Int) < 5; decide),rfl,_,rfl,YM (fun _=>?_) (fun _=>?_)⟩
  ·refine ⟨by show 6≤sizeLine; decide,fun l hl=>?_⟩;obtain ⟨z,hz,ht⟩:∃ z:Str,Z8 [V.str "",V.str "North",V.str "north ",V.str "souh",V.str "east",V.str "northsouth"] (c / 5 % 6)=some (.str z)∧Yo z:=by
    have h:c / 5 % 6=0∨c / 5 % 6=1∨c / 5 % 6=2∨c / 5 % 6=3∨c / 5 % 6=4∨c / 5 % 6=5:=by omega
    rcases h with h | h | h | h | h | h <;> rw [h] <;> exact ⟨_,rfl,JeA (by decide +kernel)⟩
   exact ⟨_,rfl,_,_,rfl,rfl,⟨by decide,by decide⟩,_,_,rfl,rfl,(by show (0:Int) < 6; decide),l,_,_,.str z,rfl,rfl,Jz.of Jg,hz,q z _ ht (Ji.upd hl)⟩
  ·exact ⟨_,rfl,_,_,rfl,rfl,⟨by decide,by decide⟩,_,rfl,fun b H' e=>q _ H' (Jje b) e⟩
theorem Jt4 {x:Int}:0≤(if (if x < 20 then x else 20) > 0 then (if x < 20 then x else 20) else 0)∧(if (if x < 20 then x else 20) > 0 then (if x < 20 then x else 20) else 0) < 100:=by
 constructor <;> split <;> (try split) <;> omega
def JkH:List Str:=["BadName", "BadHand", "OutOfRange", "Twice", "NoPlace", "BadBid", "NoLane", "NotDue", "NothingDone", "Taken", "Full", "Missing"]
def Jk3 (j:Nat):List V:=(List.range 12).map (fun k=>V.bl (k == j)) ++ [.bl true]
def Jst:Sp:=fun vs H Q _=>∃ (l:Addr) (j:Nat) (x:Str),vs=[.ref l]∧H l=some (.lst (Jk3 j))∧JkH[j]?=some x∧∀ p H',Ji H H'→H' p=some (.tup (rf x))→Q (.ref p) H'
theorem Jte (j i:Nat) (h:i < 12):Z8 (Jk3 j) ((0:Int) + (i:Int))=some (.bl (i == j)):=by
 rw [Int.zero_add];refine Y0 ?_;unfold Jk3;rw [List.getElem?_append_left (by simp; exact h),List.getElem?_map,List.getElem?_range h];rfl
theorem Jsn (i:Nat) (h:i < 12):∃ x,JkH[i]?=some x∧Z8 (JkH.map V.str) ((0:Int) + (i:Int))=some (.str x):=by
 refine ⟨JkH[i]'h,List.getElem?_eq_getElem h,?_⟩;rw [Int.zero_add];refine Y0 ?_;rw [List.getElem?_map,List.getElem?_eq_getElem h];rfl
theorem Js4 (T:Txt K mg):JL P w K mg base YR 1 T.Jl6 T.Jko ["_law_marks"] Jst:=by
 refine T.Jmk.F.ok Jg8 (fun vs H Q E h=>?_) (fun cdv A outer s H vs Q E hr h=>?_)
 ·obtain ⟨_,_,_,rfl,_⟩:=h;rfl
 ·obtain ⟨l,j,x,rfl,hl,hx,q⟩:=h;refine ⟨_,(@Jf _ _ _ _ _ (@Yb _ _ _ (@JE _ _ 1 _ _ _ _ Jg8.nd rfl (Or.inr rfl) (@Yv _ _ _ _ (@Ja _ _ _ _ _ (@Jp _ _ _ _) (@Ja _ _ _ _ _ (@Jp _ _ _ _) (@Ja _ _ _ _ _ (@Jp _ _ _ _) (@Ja _ _ _ _ _ (@Jp _ _ _ _) (@Ja _ _ _ _ _ (@Jp _ _ _ _) (@Ja _ _ _ _ _ (@Jp _ _ _ _) (@Jd _) rfl) rfl) rfl) rfl) rfl) rfl)) rfl (by first | exact .inl rfl | exact .inr rfl | assumption))) (@Jf _ _ _ _ _ (@Yb _ _ _ (@JE _ _ 1 _ _ _ _ Jg8.nd rfl (Or.inr rfl) (@Jm _ _ _ _ _ _ _ _ (@Jrm _) (@pv _ 1 _ _ rfl (.inr (.inl rfl)) rfl rfl) (@Yv _ _ _ _ (@Ja _ _ _ _ _ (@Jp _ _ _ _) (@Ja _ _ _ _ _ (@Jp _ _ _ _) (@Ja _ _ _ _ _ (@Jp _ _ _ _) (@Ja _ _ _ _ _ (@Jp _ _ _ _) (@Ja _ _ _ _ _ (@Jp _ _ _ _) (@Ja _ _ _ _ _ (@Jp _ _ _ _) (@Jd _) rfl) rfl) rfl) rfl) rfl) rfl))) rfl (by first | exact .inl rfl | exact .inr rfl | assumption))) (@Jf _ _ _ _ _ (@Jnk _ _ _ _ _ _ _ _ _ _ 2 1 ["_law_k", "_law_words", "_law_marks"] [1,0] _ _ _ _ ["_law_marks", "_law_words", "_law_found"] ((Jl Jjh).names) (by decide +kernel) Jg8.nd rfl (@Zy _ _ _ _ _ _ rfl T.ZL (@Ja _ _ _ _ _ (@Je _ _ _ _) (@Jd _) rfl) rfl) (fun _ _ _ _=>(@Jah _ _ _ _ _ _ _ _ _ 0 (by decide +kernel) rfl rfl)) (fun _ _ _ _=>(@Jjk _ _ _ (@Zx _ _ _ (@JD _ _ _ _ _ _ _ (show IxR _ (Jie K) from (@JU _)) (@JaW _ _ _ _ _ _ _ _ _ 2 rfl rfl (by decide) (by decide)) (@ZE _ _ _ _ _ _ _ _ _ 0 rfl rfl (by decide) (by decide)) (fun _ _=>rfl)) (by intro _; rfl)))) (fun _ _ _ _=>(@JD _ _ _ _ _ _ _ (show IxR _ (Jie K) from (@JU _)) (@JaW _ _ _ _ _ _ _ _ _ 1 rfl rfl (by decide) (by decide)) (@ZE _ _ _ _ _ _ _ _ _ 0 rfl rfl (by decide) (by decide)) (fun _ _=>rfl))) rfl rfl rfl rfl rfl (by intro _; rfl)) (@Jf _ _ _ _ _ (@JM _ _ _ _ _ _ _ _ (@PW.pt _ _ _ (@Jif _ _ _ _ _ _ _ (@Jx _ _ _ _ _ _ _ _ (@YU _) (@JA _ _ _ _ _ _ _ _ _ (@Yl _) rfl T.Zv PySem.boot_len (@Ja _ _ _ _ _ (@pv _ 2 _ _ rfl (.inl rfl) rfl rfl) (@Jd _) rfl) (by decide) (by decide) rfl rfl) (@Je _ _ _ _) (JH _)) (@JgF _ _ _ _ (@Zx _ _ _ (@JD _ _ _ _ _ _ _ (@JU _) (@pv _ 0 _ _ rfl (.inr (.inl rfl)) rfl rfl) (@Je _ _ _ _) (fun _ _=>rfl)) (by intro _; rfl))))) (@Jj _ _ _ (@Jq _ _ _ _ (@YX _ _ _ _ _ (@Ja _ _ _ _ _ (@Jp _ _ _ _) (@Ja _ _ _ _ _ (@JD _ _ _ _ _ _ _ (@JU _) (@pv _ 2 _ _ rfl (.inl rfl) rfl rfl) (@Je _ _ _ _) (fun _ _=>rfl)) (@Jd _) rfl) rfl)))) (@Jy _)) (@Jj _ _ _ (@Jq _ _ _ _ (@YX _ _ _ _ _ (@Ja _ _ _ _ _ (@Jp _ _ _ _) (@Ja _ _ _ _ _ (@Jp _ _ _ _) (@Jd _) rfl) rfl)))))))),?_⟩;have hj:j < 12:=(List.getElem?_eq_some_iff.mp hx).1;refine ⟨fun σ1 H1=>∃ p1,Ji H H1∧H1 p1=some (.lst [.str "BadName",.str "BadHand",.str "OutOfRange",.str "Twice",.str "NoPlace",.str "BadBid"])∧σ1=[some (.ref l),some (.ref p1),none],
   ⟨by show 6≤sizeLine; decide,fun p1 hp1=>⟨p1,Ji.upd hp1,Jg,rfl⟩⟩,?_⟩
  rintro σ1 H1 ⟨p1,s1,hp1,rfl⟩;refine ⟨fun σ2 H3=>∃ p3,Ji H1 H3∧H3 p3=some (.lst (JkH.map V.str))∧σ2=[some (.ref l),some (.ref p3),none],
   ⟨_,rfl,by show 6≤sizeLine; decide,fun p2 hp2=>⟨p1,p2,_,_,rfl,rfl,(Ji.upd hp2) _ _ hp1,Jg,by show 12≤sizeLine; decide,fun p3 hp3=>⟨p3,(Ji.upd hp2).trans (Ji.upd hp3),Jg,rfl⟩⟩⟩,?_⟩
  rintro σ2 H3 ⟨p3,s13,hw3,rfl⟩;have s3:=s1.trans s13;refine ⟨12,rfl,by decide,by decide,fun D hD=>Jht (n:=12) (fun i ys H4=>Ji H3 H4∧H4 D=some (.lst ys)∧ys=if j < i then [.str x] else []) rfl ?_ ?_ ?_ ?_⟩
  ·exact ⟨Ji.upd hD,Jg,by simp⟩
  ·exact fun i ys H4 p=>p.2.1
  ·rintro i ys H4 hi ⟨e4,hD4,hys⟩;have keep:∀ o,Ji H3 (upd H4 D o):=fun o b u e=>by rw [Jt (Jw e hD)]; exact e4 b u e
   refine ⟨_,rfl,_,rfl,l,_,_,_,rfl,rfl,Jz.of (e4 _ _ (s3 _ _ hl)),Jte j i hi,_,rfl,?_⟩;by_cases hij:i=j
   ·subst hij;obtain ⟨y,hy1,hy2⟩:=Jsn i hi;rw [hx] at hy1;cases hy1;rw [if_neg (Nat.lt_irrefl _)] at hys;subst hys;refine Zw (by simp) ⟨_,rfl,_,rfl,p3,_,_,.str x,rfl,rfl,Jz.of (e4 _ _ hw3),hy2,hD4,by show 0 < sizeLine; decide,keep _,Jg,?_⟩;rw [if_pos (Nat.lt_succ_self _)]; rfl
   ·refine YQ (by simpa using hij) ⟨e4,hD4,?_⟩;rw [hys];by_cases hlt:j < i
    ·rw [if_pos hlt,if_pos (by omega)]
    ·rw [if_neg hlt,if_neg (by omega)]
  ·rintro ys H4 ⟨e4,hD4,hys⟩;rw [if_pos hj] at hys;subst hys;have s4:=s3.trans e4;refine ⟨_,rfl,D,_,rfl,.inl (Jz.of hD4),rfl,_,rfl,Zw (decide_eq_true rfl) ?_⟩;refine ⟨_,rfl,l,_,_,.bl true,rfl,rfl,Jz.of (s4 _ _ hl),?_,_,rfl,Y1 ?_⟩
   ·have z:Z8 (Jk3 j) ((12:Nat):Int)=some (.bl true):=Y0 (by unfold Jk3; rw [List.getElem?_append_right (by simp)]; simp);exact z
   refine ⟨_,rfl,D,_,_,.str x,rfl,rfl,Jz.of hD4,rfl,by show 2≤sizeLine; decide,fun p hp=>q p _ (s4.trans (Ji.upd hp)) Jg⟩
theorem JqQ {p:Str} (h:J1 p=true):Yo (p ++ "zzzzzz")∧J1 (p ++ "zzzzzz")=false:=by
 refine ⟨(JuZ (Jhl h) (Jv8 (n:=6) (z := "zzzzzz") (by decide +kernel))).mono (by decide),?_⟩;have hp:1≤p.length:=by
  unfold J1 at h;rw [Bool.and_eq_true,Bool.and_eq_true,decide_eq_true_eq] at h;exact h.1.1
 unfold J1;rw [strLen_append];have:¬ p.length + (Str.ofString "zzzzzz").length≤6:=by
  have:(Str.ofString "zzzzzz").length=6:=by decide +kernel
  omega
 rw [decide_eq_false this];simp
theorem Jmw {zs:List (Str×Str)} {gs:List Str} {p:Str} {m:Nat} {n c:Int} {r:Bool}:Jkl c (Jai zs gs p m n r)=[.str p,.int (m:Int),.int n,.int (c - n),.str (hs r),.non,.str ""]:=by
 unfold Jkl;rw [Jiu.2.1,Jiu.2.2]; rfl
theorem JgR {X:Cx} {K:PySem.W.Frag} (h:X.K=K):IxR X (JnY K):=by
 subst h;exact Yq
def JnD (K:PySem.W.Frag):Sp:=fun vs H Q _=>∃ (t:Addr) (c:Int) (ps:List Str) (zs:List (V×(Str×Str))) (gs:List Str),vs=[.ref t,.int c]∧Ground K H t ps zs gs∧∀ z H',Yo z→Ji H H'→Q (.str z) H'
theorem Jn9 (T:Txt K mg):JL P w K mg base YR 1 T.Jgt T.Jfl ["_law_ground_here", "_law_cell"] (JnD K):=by
 refine T.Jgx.F.ok JnM (fun vs H Q E h=>?_) (fun cdv A outer s H vs Q E hr h=>?_)
 ·obtain ⟨_,_,_,_,_,rfl,_⟩:=h;rfl
 ·obtain ⟨t,c,ps,zs,gs,rfl,G,q⟩:=h;have szl:sizeLine=16777216:=sizeLine_eq;refine ⟨_,(@Jf _ _ _ _ _ (@JM _ _ _ _ _ _ _ _ (@Jx _ _ _ _ _ _ _ _ (@YU _) (@Jm _ _ _ _ _ _ _ _ (@JZ _) (@pv _ 1 _ _ rfl (.inl rfl) rfl rfl) (@Je _ _ _ _)) (@Je _ _ _ _) (JH _)) (@Jj _ _ _ (@Jq _ _ _ _ (@JD _ _ _ _ _ _ _ (@JU _) (@Yv _ _ _ _ (@Ja _ _ _ _ _ (@Jm _ _ _ _ _ _ _ _ (@Jhi _) (@JD _ _ _ _ _ _ _ (@JU _) (@JD _ _ _ _ _ _ _ (@Yq _) (@pv _ 0 _ _ rfl (.inl rfl) rfl rfl) (@Je _ _ _ _) (fun _ _=>rfl)) (@Je _ _ _ _) (fun _ _=>rfl)) (@Jp _ _ _ _)) (@Ja _ _ _ _ _ (@Jp _ _ _ _) (@Ja _ _ _ _ _ (@Jp _ _ _ _) (@Jd _) rfl) rfl) rfl)) (@Jm _ _ _ _ _ _ _ _ (@JZ _) (@Jm _ _ _ _ _ _ _ _ (@Yx _) (@pv _ 1 _ _ rfl (.inl rfl) rfl rfl) (@Je _ _ _ _)) (@Je _ _ _ _)) (fun _ _=>rfl)))) (@Jy _)) (@Jj _ _ _ (@Jq _ _ _ _ (@JD _ _ _ _ _ _ _ (@JU _) (@JD _ _ _ _ _ _ _ (@Yq _) (@pv _ 0 _ _ rfl (.inl rfl) rfl rfl) (@Je _ _ _ _) (fun _ _=>rfl)) (@Jm _ _ _ _ _ _ _ _ (@JZ _) (@Jm _ _ _ _ _ _ _ _ (@Yx _) (@pv _ 1 _ _ rfl (.inl rfl) rfl rfl) (@Je _ _ _ _)) (@JA _ _ _ _ _ _ _ _ _ (@Yl _) rfl T.Zv PySem.boot_len (@Ja _ _ _ _ _ (@JD _ _ _ _ _ _ _ (@Yq _) (@pv _ 0 _ _ rfl (.inl rfl) rfl rfl) (@Je _ _ _ _) (fun _ _=>rfl)) (@Jd _) rfl) (by decide) (by decide) rfl rfl)) (fun _ _=>rfl))))),?_⟩;obtain ⟨pn,pl,pg,h1,h2,h3,h4,h5⟩:=G.at_;have p1:=G.good.p1;obtain ⟨p0,hp0⟩:∃ p0,ps[0]?=some p0:=⟨_,List.getElem?_eq_getElem (by omega)⟩
  have gp0:=G.good.p3 p0 (List.mem_of_getElem? hp0);have l0:p0.length≤6:=(Jhl gp0).1;have z6:(Str.ofString "zzzzzz").length=6:=by decide +kernel
  refine ⟨_,rfl,_,_,rfl,rfl,(by show (0:Int) < 5; decide),rfl,_,rfl,YM (fun _=>?_) (fun _=>?_)⟩
  ·refine ⟨_,rfl,t,_,_,.ref pn,rfl,rfl,JQ.of h1,rfl,pn,_,_,.str p0,rfl,rfl,Jz.of h2,Y0 (j:=0) (by rw [List.getElem?_map,hp0]; rfl),_,_,rfl,rfl,by omega,by show 3≤sizeLine; decide,fun l hl=>?_⟩;obtain ⟨z,hz,ht⟩:∃ z:Str,Z8 [V.str (p0 ++ "zzzzzz"),V.str "",V.str "A"] (c / 5 % 3)=some (.str z)∧Yo z:=by
    have h:c / 5 % 3=0∨c / 5 % 3=1∨c / 5 % 3=2:=by omega
    rcases h with h | h | h <;> rw [h]
    ·exact ⟨_,rfl,(JqQ gp0).1⟩
    ·exact ⟨_,rfl,JeA (by decide +kernel)⟩
    ·exact ⟨_,rfl,JeA (by decide +kernel)⟩
   exact ⟨_,rfl,_,_,rfl,rfl,⟨by decide,by decide⟩,_,_,rfl,rfl,(by show (0:Int) < 3; decide),l,_,_,.str z,rfl,rfl,Jz.of Jg,hz,q z _ ht (Ji.upd hl)⟩
  ·obtain ⟨p2,hp2,hpm2⟩:=Ji8 p1 (c / 5);exact ⟨_,rfl,t,_,_,.ref pn,rfl,rfl,JQ.of h1,rfl,_,rfl,_,_,rfl,rfl,⟨by decide,by decide⟩,_,rfl,t,_,_,.ref pn,rfl,rfl,JQ.of h1,rfl,pn,_,rfl,.inl (Jz.of h2),_,_,rfl,rfl,(by show (0:Int) < _; rw [List.length_map]; omega),pn,_,_,.str p2,rfl,rfl,Jz.of h2,hp2,q p2 H (YH (G.good.p3 p2 hpm2)) (Ji.refl _)⟩
theorem Jg1 {x y:Str}:decide (V.str x=V.str y)=(x == y):=by
 rw [Bool.eq_iff_iff,decide_eq_true_eq,beq_iff_eq];exact ⟨fun h=>V.str.inj h,fun h=>by rw [h]⟩
theorem Jme {x y:Int}:decide (V.int x=V.int y)=decide (x=y):=by
 rw [Bool.eq_iff_iff,decide_eq_true_eq,decide_eq_true_eq];exact ⟨fun h=>V.int.inj h,fun h=>by rw [h]⟩
end
section
variable {P:Program} {w:World} {K:PySem.W.Frag} {mg:Str→Option Value} {base:Heap}
def Ja5:List Str:=["", "letters", "Sea", "s a", "sea7"]
def Ze (ps plays:List Str) (z bz p:Str) (m n s:Int) (x:Str):Str :=
 if J1 z=false then "BadName" else if z∈plays then "Taken" else if 20≤plays.length then "Full" else if bz ≠ "hill" then "Missing" else if p∉ps then "NoPlace" else if ¬ ((0≤m∧m≤30)∧0≤n∧0≤s∧n + s≤20) then "OutOfRange" else if Zr x=false then "BadHand" else ""
section
variable {ps plays:List Str} {z bz p:Str} {m n s:Int} {x:Str}
theorem rb0 (h0:J1 z=false):Ze ps plays z bz p m n s x = "BadName":=if_pos h0
theorem rb1 (h0:J1 z=true) (h:z∈plays):Ze ps plays z bz p m n s x = "Taken":=by unfold Ze; rw [if_neg (by rw [h0]; decide),if_pos h]
theorem rb2 (h0:J1 z=true) (h:z∉plays) (h2:20≤plays.length):Ze ps plays z bz p m n s x = "Full":=by unfold Ze; rw [if_neg (by rw [h0]; decide),if_neg h,if_pos h2]
theorem rb3 (h0:J1 z=true) (h:z∉plays) (h2:plays.length < 20) (h3:bz ≠ "hill"):Ze ps plays z bz p m n s x = "Missing":=by unfold Ze; rw [if_neg (by rw [h0]; decide),if_neg h,if_neg (by omega),if_pos h3]
theorem rb4 (h0:J1 z=true) (h:z∉plays) (h2:plays.length < 20) (h3:bz = "hill") (h4:p∉ps):Ze ps plays z bz p m n s x = "NoPlace":=by unfold Ze; rw [if_neg (by rw [h0]; decide),if_neg h,if_neg (by omega),if_neg (fun f=>f h3),if_pos h4]
theorem rb5 (h0:J1 z=true) (h:z∉plays) (h2:plays.length < 20) (h3:bz = "hill") (h4:p∈ps) (h5:¬ ((0≤m∧m≤30)∧0≤n∧0≤s∧n + s≤20)):Ze ps plays z bz p m n s x = "OutOfRange":=by unfold Ze; rw [if_neg (by rw [h0]; decide),if_neg h,if_neg (by omega),if_neg (fun f=>f h3),if_neg (fun f=>f h4),if_pos h5]
theorem rb6 (h0:J1 z=true) (h:z∉plays) (h2:plays.length < 20) (h3:bz = "hill") (h4:p∈ps) (h5:(0≤m∧m≤30)∧0≤n∧0≤s∧n + s≤20) (h6:Zr x=false):Ze ps plays z bz p m n s x = "BadHand":=by unfold Ze; rw [if_neg (by rw [h0]; decide),if_neg h,if_neg (by omega),if_neg (fun f=>f h3),if_neg (fun f=>f h4),if_neg (fun f=>f h5),if_pos h6]
theorem rb7 (h0:J1 z=true) (h:z∉plays) (h2:plays.length < 20) (h3:bz = "hill") (h4:p∈ps) (h5:(0≤m∧m≤30)∧0≤n∧0≤s∧n + s≤20) (h6:Zr x=true):Ze ps plays z bz p m n s x = "":=by unfold Ze; rw [if_neg (by rw [h0]; decide),if_neg h,if_neg (by omega),if_neg (fun f=>f h3),if_neg (fun f=>f h4),if_neg (fun f=>f h5),if_neg (by rw [h6]; decide)]
theorem Jvl (h0:Ze ps plays z bz p m n s x ≠ "BadName") (h1:Ze ps plays z bz p m n s x ≠ "Taken") (h2:Ze ps plays z bz p m n s x ≠ "Full"):J1 z=true∧z∉plays∧plays.length < 20:=by
 cases hg:J1 z with
 | false=>exact absurd (rb0 hg) h0
 | true =>
  by_cases hp:z∈plays
  ·exact absurd (rb1 hg hp) h1
  ·exact ⟨rfl,hp,Nat.not_le.mp fun f=>h2 (rb2 hg hp f)⟩
theorem Jrd {ps':List Str} (q:ps'.Perm ps):Ze ps' plays z bz p m n s x=Ze ps plays z bz p m n s x:=by
 unfold Ze;have:(p∉ps')=(p∉ps):=by rw [q.mem_iff]
 simp only [this]
end
theorem Jol {gm:List (JK×V)} {ss:List Str} {z:Str} (h:gm.map (·.1)=ss.map Sum.inr):(Yi gm (.inr z)).isSome=decide (z∈ss):=by
 rw [← JcN,Bool.eq_iff_iff,List.any_eq_true,decide_eq_true_eq];constructor
 ·rintro ⟨kv,h1,h2⟩;have:kv.1∈ss.map Sum.inr:=by rw [← h]; exact List.mem_map.mpr ⟨kv,h1,rfl⟩
  obtain ⟨y,hy,e⟩:=List.mem_map.mp this;rw [of_decide_eq_true h2] at e;cases e;exact hy
 ·intro hz;have:(Sum.inr z:JK)∈gm.map (·.1):=by rw [h]; exact List.mem_map.mpr ⟨z,hz,rfl⟩
  obtain ⟨kv,h1,h2⟩:=List.mem_map.mp this;exact ⟨kv,h1,decide_eq_true h2⟩
theorem JiD {gm:List (JK×V)} {ss:List Str} {z:Str} (h:gm.map (·.1)=ss.map Sum.inr):Yi gm (.inr z)=none↔z∉ss:=by
 have k:=Jol (z:=z) h;cases hv:Yi gm (.inr z) with
 | none=>rw [hv] at k; exact ⟨fun _=>of_decide_eq_false k.symm,fun _=>rfl⟩
 | some v=>rw [hv] at k; exact ⟨(fun z=>nomatch z),fun f=>absurd (of_decide_eq_true k.symm) f⟩
structure HB1 (T:Txt K mg) (H:Hp) (h d1 d2 b:Addr) (bs gm:List (JK×V)) (plays ps':List Str) (zs':List (V×(Str×Str))) (gs':List Str):Prop where
 A:Zl T H h d1 d2 bs gm
 kb:Yi bs (.inr (Str.ofString "hill"))=some (.ref b)
 ko:∀ y:Str,y ≠ "hill"→Yi bs (.inr y)=none
 B:Bd K T.JT H b ps' zs' gs'
 kg:gm.map (·.1)=plays.map Sum.inr
 lg:plays.length≤20
theorem HB1.same {T:Txt K mg} {H H':Hp} {h d1 d2 b:Addr} {bs gm:List (JK×V)} {plays ps':List Str} {zs':List (V×(Str×Str))} {gs':List Str} (h0:HB1 T H h d1 d2 b bs gm plays ps' zs' gs') (e:Ji H H'):HB1 T H' h d1 d2 b bs gm plays ps' zs' gs':=⟨h0.A.same e,h0.kb,h0.ko,h0.B.same e,h0.kg,h0.lg⟩
theorem HB1.len {T:Txt K mg} {H:Hp} {h d1 d2 b:Addr} {bs gm:List (JK×V)} {plays ps':List Str} {zs':List (V×(Str×Str))} {gs':List Str} (h0:HB1 T H h d1 d2 b bs gm plays ps' zs' gs'):gm.length=plays.length:=by
 have:=congrArg List.length h0.kg;rwa [List.length_map,List.length_map] at this
def Jug (T:Txt K mg):Sp:=fun vs H Q _=>∃ (h d1 d2 b tn:Addr) (z bz p x:Str) (m n s:Int) (bs gm:List (JK×V)) (plays ps:List Str) (zs:List (V×(Str×Str))) (gs:List Str),vs=[.ref h,.str z,.str bz,.ref tn]∧HB1 T H h d1 d2 b bs gm plays ps zs gs∧H tn=some (.tup [.str p,.int m,.int n,.int s,.str x,.non,.str ""])∧Yo z∧Yo bz∧Yo p∧Yo x ∧
 (Ze ps plays z bz p m n s x ≠ ""→∀ a H',Ji H H'→H' a=some (.tup (rf (Ze ps plays z bz p m n s x)))→Q (.ref a) H') ∧
 (Ze ps plays z bz p m n s x = ""→0≤m→∀ r,x=hs r→∀ (G:Gm) (a:Addr) (H':Hp),G.ps=ps→G.zs=zs→G.gs=gs→G.c=n + s→G.S d1=none→G.S d2=none→Yc d2 H H'→Zl T H' h d1 d2 bs (gm ++ [(.inr z,.ref G.g)])→Yr T G H' [] ([] ++ [(a,Jai (zs.map (·.2)) gs p m.toNat n r)])→Q .non H')
theorem Jro (T:Txt K mg):JL P w K mg base YR 13 T.Jqs T.Joq ["_law_hall", "_law_name", "_law_base", "_law_now"] (Jug T):=by
 refine T.Jnr.F.ok JkQ (fun vs H Q E h=>?_) (fun cdv A outer s H vs Q E hr h=>?_)
 ·obtain ⟨_,_,_,_,_,_,_,_,_,_,_,_,_,_,_,_,_,_,rfl,_⟩:=h;rfl
 ·obtain ⟨h,d1,d2,b,tn,z,bz,p,x,m,n,s,bs,gm,plays,ps,zs,gs,rfl,J,htn,tz,tb,tp,tx,q1,q2⟩:=h;obtain ⟨bq,hbq⟩:∃ w,Ze ps plays z bz p m n s x=w:=⟨_,rfl⟩
  rw [hbq] at q1 q2;refine ⟨_,(@Jf _ _ _ _ _ (@JE _ _ 4 _ _ _ _ JkQ.nd rfl (Or.inl rfl) (@Yv _ _ _ _ (@Jd _)) rfl (.inl rfl)) (@Jf _ _ _ _ _ (@JvB _ _ _ _ 5 _ _ _ _ _ _ _ _ (fun c _ H2=>Ji H H2∧((c=.ref T.J9∧bq = "BadName")∨(c=.ref T.J5∧bq = "BadHand")∨(c=.ref T.JB∧bq = "OutOfRange")∨(c=.ref T.JW∧bq = "NoPlace")∨(c=.ref T.Yp∧bq = "Taken")∨(c=.ref T.YD∧bq = "Full")∨(c=.ref T.JY∧bq = "Missing"))) JkQ.nd T.Jf7 rfl (fun pn xe hx=>(@Jj _ _ _ (@Jq _ _ _ _ (@Ys _ _ _ _ _ _ _ _ _ _ _ _ _ _ _ _ _ _ _ _ (@pv _ 0 _ _ rfl (.inl rfl) rfl rfl) T.Yu T.Jap.m (JhH T) (hr.mono (by decide)) T.Jap.b .nil hx (@Ja _ _ _ _ _ (@pv _ 1 _ _ rfl (.inl rfl) rfl rfl) (@Ja _ _ _ _ _ (@pv _ 2 _ _ rfl (.inl rfl) rfl rfl) (@Ja _ _ _ _ _ (@JD _ _ _ _ _ _ _ (JgR (K:=K) rfl) (@pv _ 3 _ _ rfl (.inl rfl) rfl rfl) (@Je _ _ _ _) (fun _ _=>rfl)) (@Ja _ _ _ _ _ (@JD _ _ _ _ _ _ _ (JgR (K:=K) rfl) (@pv _ 3 _ _ rfl (.inl rfl) rfl rfl) (@Je _ _ _ _) (fun _ _=>rfl)) (@Ja _ _ _ _ _ (@JD _ _ _ _ _ _ _ (JgR (K:=K) rfl) (@pv _ 3 _ _ rfl (.inl rfl) rfl rfl) (@Je _ _ _ _) (fun _ _=>rfl)) (@Ja _ _ _ _ _ (@JD _ _ _ _ _ _ _ (JgR (K:=K) rfl) (@pv _ 3 _ _ rfl (.inl rfl) rfl rfl) (@Je _ _ _ _) (fun _ _=>rfl)) (@Ja _ _ _ _ _ (@JD _ _ _ _ _ _ _ (JgR (K:=K) rfl) (@pv _ 3 _ _ rfl (.inl rfl) rfl rfl) (@Je _ _ _ _) (fun _ _=>rfl)) (@Jd _) rfl) rfl) rfl) rfl) rfl) rfl) rfl) rfl rfl rfl)))) (fun ea C oe A pn hp hc=>(@Jj _ _ _ (@JE _ _ 4 _ _ _ _ JkQ.nd rfl (Or.inl rfl) (@Yv _ _ _ _ (@Ja _ _ _ _ _ (@JA _ _ _ _ _ _ _ _ _ (show Yn _ _ (Jca K ea C) from YZ hp hc) rfl T.J8 PyProof.Rows.boot_isinstance (@Ja _ _ _ _ _ (@pv _ 5 _ _ rfl (.inl rfl) rfl rfl) (@Ja _ _ _ _ _ (@ZA _ _ _ _ rfl T.Ji6 (by decide)) (@Jd _) rfl) rfl) (by decide) (by decide) rfl rfl) (@Ja _ _ _ _ _ (@JA _ _ _ _ _ _ _ _ _ (show Yn _ _ (Jca K ea C) from YZ hp hc) rfl T.J8 PyProof.Rows.boot_isinstance (@Ja _ _ _ _ _ (@pv _ 5 _ _ rfl (.inl rfl) rfl rfl) (@Ja _ _ _ _ _ (@ZA _ _ _ _ rfl T.Ji7 (by decide)) (@Jd _) rfl) rfl) (by decide) (by decide) rfl rfl) (@Ja _ _ _ _ _ (@JA _ _ _ _ _ _ _ _ _ (show Yn _ _ (Jca K ea C) from YZ hp hc) rfl T.J8 PyProof.Rows.boot_isinstance (@Ja _ _ _ _ _ (@pv _ 5 _ _ rfl (.inl rfl) rfl rfl) (@Ja _ _ _ _ _ (@ZA _ _ _ _ rfl T.Jcy (by decide)) (@Jd _) rfl) rfl) (by decide) (by decide) rfl rfl) (@Ja _ _ _ _ _ (@JA _ _ _ _ _ _ _ _ _ (show Yn _ _ (Jca K ea C) from YZ hp hc) rfl T.J8 PyProof.Rows.boot_isinstance (@Ja _ _ _ _ _ (@pv _ 5 _ _ rfl (.inl rfl) rfl rfl) (@Ja _ _ _ _ _ (@ZA _ _ _ _ rfl T.JpL (by decide)) (@Jd _) rfl) rfl) (by decide) (by decide) rfl rfl) (@Ja _ _ _ _ _ (@JA _ _ _ _ _ _ _ _ _ (show Yn _ _ (Jca K ea C) from YZ hp hc) rfl T.J8 PyProof.Rows.boot_isinstance (@Ja _ _ _ _ _ (@pv _ 5 _ _ rfl (.inl rfl) rfl rfl) (@Ja _ _ _ _ _ (@ZA _ _ _ _ rfl T.Ji4 (by decide)) (@Jd _) rfl) rfl) (by decide) (by decide) rfl rfl) (@Ja _ _ _ _ _ (@JA _ _ _ _ _ _ _ _ _ (show Yn _ _ (Jca K ea C) from YZ hp hc) rfl T.J8 PyProof.Rows.boot_isinstance (@Ja _ _ _ _ _ (@pv _ 5 _ _ rfl (.inl rfl) rfl rfl) (@Ja _ _ _ _ _ (@ZA _ _ _ _ rfl T.JoH (by decide)) (@Jd _) rfl) rfl) (by decide) (by decide) rfl rfl) (@Ja _ _ _ _ _ (@JA _ _ _ _ _ _ _ _ _ (show Yn _ _ (Jca K ea C) from YZ hp hc) rfl T.J8 PyProof.Rows.boot_isinstance (@Ja _ _ _ _ _ (@pv _ 5 _ _ rfl (.inl rfl) rfl rfl) (@Ja _ _ _ _ _ (@ZA _ _ _ _ rfl T.JoF (by decide)) (@Jd _) rfl) rfl) (by decide) (by decide) rfl rfl) (@Ja _ _ _ _ _ (@JA _ _ _ _ _ _ _ _ _ (show Yn _ _ (Jca K ea C) from YZ hp hc) rfl T.J8 PyProof.Rows.boot_isinstance (@Ja _ _ _ _ _ (@pv _ 5 _ _ rfl (.inl rfl) rfl rfl) (@Ja _ _ _ _ _ (@ZA _ _ _ _ rfl T.JoE (by decide)) (@Jd _) rfl) rfl) (by decide) (by decide) rfl rfl) (@Ja _ _ _ _ _ (@JA _ _ _ _ _ _ _ _ _ (show Yn _ _ (Jca K ea C) from YZ hp hc) rfl T.J8 PyProof.Rows.boot_isinstance (@Ja _ _ _ _ _ (@pv _ 5 _ _ rfl (.inl rfl) rfl rfl) (@Ja _ _ _ _ _ (@ZA _ _ _ _ rfl T.Jh0 (by decide)) (@Jd _) rfl) rfl) (by decide) (by decide) rfl rfl) (@Ja _ _ _ _ _ (@JA _ _ _ _ _ _ _ _ _ (show Yn _ _ (Jca K ea C) from YZ hp hc) rfl T.J8 PyProof.Rows.boot_isinstance (@Ja _ _ _ _ _ (@pv _ 5 _ _ rfl (.inl rfl) rfl rfl) (@Ja _ _ _ _ _ (@ZA _ _ _ _ rfl T.Jmg (by decide)) (@Jd _) rfl) rfl) (by decide) (by decide) rfl rfl) (@Ja _ _ _ _ _ (@JA _ _ _ _ _ _ _ _ _ (show Yn _ _ (Jca K ea C) from YZ hp hc) rfl T.J8 PyProof.Rows.boot_isinstance (@Ja _ _ _ _ _ (@pv _ 5 _ _ rfl (.inl rfl) rfl rfl) (@Ja _ _ _ _ _ (@ZA _ _ _ _ rfl T.JoG (by decide)) (@Jd _) rfl) rfl) (by decide) (by decide) rfl rfl) (@Ja _ _ _ _ _ (@JA _ _ _ _ _ _ _ _ _ (show Yn _ _ (Jca K ea C) from YZ hp hc) rfl T.J8 PyProof.Rows.boot_isinstance (@Ja _ _ _ _ _ (@pv _ 5 _ _ rfl (.inl rfl) rfl rfl) (@Ja _ _ _ _ _ (@ZA _ _ _ _ rfl T.Ji5 (by decide)) (@Jd _) rfl) rfl) (by decide) (by decide) rfl rfl) (@Ja _ _ _ _ _ (@JA _ _ _ _ _ _ _ _ _ (show Yn _ _ (Jca K ea C) from YZ hp hc) rfl T.J8 PyProof.Rows.boot_isinstance (@Ja _ _ _ _ _ (@pv _ 5 _ _ rfl (.inl rfl) rfl rfl) (@Ja _ _ _ _ _ (@Je2 _ _ _ _ rfl T.Jit Jlt (by decide) (by decide)) (@Jd _) rfl) rfl) (by decide) (by decide) rfl rfl) (@Jd _) rfl) rfl) rfl) rfl) rfl) rfl) rfl) rfl) rfl) rfl) rfl) rfl) rfl)) rfl (.inl rfl)))) rfl rfl rfl rfl (by decide)) (@Jj _ _ _ (@Jq _ _ _ _ (@Jo _ _ _ _ _ _ _ _ _ _ _ _ _ _ _ T.Jmk (Js4 T) (hr.mono (by decide)) JG (@Ja _ _ _ _ _ (@pv _ 4 _ _ rfl (.inl rfl) rfl rfl) (@Jd _) rfl) rfl (by decide) rfl rfl))))),?_⟩
  try dsimp only [cxK,Ji0]
  refine ⟨by show 0≤sizeLine; decide,fun p0 hp0=>?_⟩;have s0:Ji H (upd H p0 (.lst [])):=Ji.upd hp0;have J0:=J.same s0;have ht0:=s0 _ _ htn;generalize upd H p0 (.lst [])=H0 at s0 J0 ht0;obtain ⟨dh,hh⟩:=J0.A.hi;have hlen:=J.len;have hkn:=JiD (z:=z) J.kg;refine ⟨?_,fun ea C H' hE=>?_⟩
  ·refine ⟨_,rfl,h,dh,_,rfl,hh,rfl,_,rfl,_,rfl,_,rfl,tn,_,_,.str p,rfl,rfl,JQ.of ht0,rfl,_,rfl,tn,_,_,.int m,rfl,rfl,JQ.of ht0,rfl,_,rfl,tn,_,_,.int n,rfl,rfl,JQ.of ht0,rfl,_,rfl,tn,_,_,.int s,rfl,rfl,JQ.of ht0,rfl,_,rfl,tn,_,_,.str x,rfl,rfl,JQ.of ht0,rfl,h,d1,d2,z,bz,p,x,m,n,s,bs,gm,rfl,tz,tb,tp,tx,J0.A,fun H1 e1=>⟨fun h0=>⟨s0.trans e1,.inl ⟨rfl,by rw [← hbq,rb0 h0]⟩⟩,fun h0 h1=>⟨s0.trans e1,.inr (.inr (.inr (.inr (.inl ⟨rfl,by rw [← hbq,rb1 h0 (of_decide_eq_true (by rw [← Jol J.kg]; exact h1))]⟩))))⟩,fun h0 h1 h2=>⟨s0.trans e1,.inr (.inr (.inr (.inr (.inr (.inl ⟨rfl,by rw [← hbq,rb2 h0 (hkn.mp h1) (by omega)]⟩)))))⟩⟩,fun hn hb H1 e1=>⟨s0.trans e1,.inr (.inr (.inr (.inr (.inr (.inr (⟨rfl,by rw [← hbq,rb3 hn.1 (hkn.mp hn.2.1) (by have:=hn.2.2; omega) (fun f=>by rw [f,J.kb] at hb; cases hb)]⟩))))))⟩,fun hn v hv=>?_⟩;have hhill:bz = "hill":=by
    by_cases hz:bz = "hill"
    ·exact hz
    ·rw [J.ko bz hz] at hv; cases hv
   have hvb:v=.ref b:=by rw [hhill,J.kb] at hv; exact (Option.some.inj hv).symm
   have hz:=hkn.mp hn.2.1;have hl:plays.length < 20:=by have:=hn.2.2; omega
   refine ⟨b,ps,zs,gs,hvb,J0.B,fun H1 e1=>⟨fun h4=>⟨s0.trans e1,.inr (.inr (.inr (.inl ⟨rfl,by rw [← hbq,rb4 hn.1 hz hl hhill h4]⟩)))⟩,fun h4 h5=>⟨s0.trans e1,.inr (.inr (.inl ⟨rfl,by rw [← hbq,rb5 hn.1 hz hl hhill h4 (fun f=>h5 f.1)]⟩))⟩,fun h4 h5 h6=>⟨s0.trans e1,.inr (.inr (.inl ⟨rfl,by rw [← hbq,rb5 hn.1 hz hl hhill h4 (fun f=>h6 f.2)]⟩))⟩,fun h4 h5 h6 h7=>⟨s0.trans e1,.inr (.inl ⟨rfl,by rw [← hbq,rb6 hn.1 hz hl hhill h4 ⟨h5,h6⟩ h7]⟩)⟩⟩,fun h4 h5 h6 r hr' G a H1 g1 g2 g3 g4 g5 g6 bt A1 A2=>?_⟩;exact q2 (by rw [← hbq,rb7 hn.1 hz hl hhill h4 ⟨h5,h6⟩ (by rw [hr',JiG])]) h5.1 r hr' G a H1 g1 g2 g3 g4 g5 g6 ((Yc.of s0).trans bt) A1 A2
  ·obtain ⟨s1,⟨e,h1⟩ | ⟨e,h1⟩ | ⟨e,h1⟩ | ⟨e,h1⟩ | ⟨e,h1⟩ | ⟨e,h1⟩ | ⟨e,h1⟩⟩:=hE
   ·obtain rfl:C=T.J9:=Value.ref.inj e;refine ⟨T.Jll,_,rfl,_,_,rfl,⟨"",.inr ⟨_,rfl⟩⟩,T.YK,T.Jdz,_,rfl,_,_,rfl,⟨"",.inr ⟨_,rfl⟩⟩,T.YK,T.JdA,_,rfl,_,_,rfl,⟨"",.inr ⟨_,rfl⟩⟩,T.YK,T.JbZ,_,rfl,_,_,rfl,⟨"",.inr ⟨_,rfl⟩⟩,T.YK,T.Jfe,_,rfl,_,_,rfl,⟨"",.inr ⟨_,rfl⟩⟩,T.YK,T.Jdx,_,rfl,_,_,rfl,⟨"",.inr ⟨_,rfl⟩⟩,T.YK,T.Jek,_,rfl,_,_,rfl,⟨"",.inr ⟨_,rfl⟩⟩,T.YK,T.Jej,_,rfl,_,_,rfl,⟨"",.inr ⟨_,rfl⟩⟩,T.YK,T.Jei,_,rfl,_,_,rfl,⟨"",.inr ⟨_,rfl⟩⟩,T.YK,T.Jbt,_,rfl,_,_,rfl,⟨"",.inr ⟨_,rfl⟩⟩,T.YK,T.Jff,_,rfl,_,_,rfl,⟨"",.inr ⟨_,rfl⟩⟩,T.YK,T.Jf1,_,rfl,_,_,rfl,⟨"",.inr ⟨_,rfl⟩⟩,T.YK,T.Jdy,_,rfl,_,_,rfl,⟨_,.inl rfl⟩,T.YK,T.Jk6,by show 13≤sizeLine; decide,fun l hl=>?_⟩;exact ⟨_,rfl,l,0, "BadName",rfl,by rw [Jg]; rfl,rfl,fun p H2 e2 hp=>q1 (by rw [h1]; decide +kernel) p H2 ((s1.trans (Ji.upd hl)).trans e2) (by rw [h1]; exact hp)⟩
   ·obtain rfl:C=T.J5:=Value.ref.inj e;refine ⟨T.Jlm,_,rfl,_,_,rfl,⟨"",.inr ⟨_,rfl⟩⟩,T.YL,T.JdD,_,rfl,_,_,rfl,⟨"",.inr ⟨_,rfl⟩⟩,T.YL,T.JdE,_,rfl,_,_,rfl,⟨"",.inr ⟨_,rfl⟩⟩,T.YL,T.Jb0,_,rfl,_,_,rfl,⟨"",.inr ⟨_,rfl⟩⟩,T.YL,T.Jfg,_,rfl,_,_,rfl,⟨"",.inr ⟨_,rfl⟩⟩,T.YL,T.JdB,_,rfl,_,_,rfl,⟨"",.inr ⟨_,rfl⟩⟩,T.YL,T.Jen,_,rfl,_,_,rfl,⟨"",.inr ⟨_,rfl⟩⟩,T.YL,T.Jem,_,rfl,_,_,rfl,⟨"",.inr ⟨_,rfl⟩⟩,T.YL,T.Jel,_,rfl,_,_,rfl,⟨"",.inr ⟨_,rfl⟩⟩,T.YL,T.Jbu,_,rfl,_,_,rfl,⟨"",.inr ⟨_,rfl⟩⟩,T.YL,T.Jfh,_,rfl,_,_,rfl,⟨"",.inr ⟨_,rfl⟩⟩,T.YL,T.Jf2,_,rfl,_,_,rfl,⟨"",.inr ⟨_,rfl⟩⟩,T.YL,T.JdC,_,rfl,_,_,rfl,⟨_,.inl rfl⟩,T.YL,T.Jk7,by show 13≤sizeLine; decide,fun l hl=>?_⟩;exact ⟨_,rfl,l,1, "BadHand",rfl,by rw [Jg]; rfl,rfl,fun p H2 e2 hp=>q1 (by rw [h1]; decide +kernel) p H2 ((s1.trans (Ji.upd hl)).trans e2) (by rw [h1]; exact hp)⟩
   ·obtain rfl:C=T.JB:=Value.ref.inj e;refine ⟨T.JhZ,_,rfl,_,_,rfl,⟨"",.inr ⟨_,rfl⟩⟩,T.Yg,T.JbV,_,rfl,_,_,rfl,⟨"",.inr ⟨_,rfl⟩⟩,T.Yg,T.JbW,_,rfl,_,_,rfl,⟨"",.inr ⟨_,rfl⟩⟩,T.Yg,T.Ja1,_,rfl,_,_,rfl,⟨"",.inr ⟨_,rfl⟩⟩,T.Yg,T.JcG,_,rfl,_,_,rfl,⟨"",.inr ⟨_,rfl⟩⟩,T.Yg,T.JbT,_,rfl,_,_,rfl,⟨"",.inr ⟨_,rfl⟩⟩,T.Yg,T.Jcl,_,rfl,_,_,rfl,⟨"",.inr ⟨_,rfl⟩⟩,T.Yg,T.Jck,_,rfl,_,_,rfl,⟨"",.inr ⟨_,rfl⟩⟩,T.Yg,T.Jcj,_,rfl,_,_,rfl,⟨"",.inr ⟨_,rfl⟩⟩,T.Yg,T.JaK,_,rfl,_,_,rfl,⟨"",.inr ⟨_,rfl⟩⟩,T.Yg,T.JcH,_,rfl,_,_,rfl,⟨"",.inr ⟨_,rfl⟩⟩,T.Yg,T.Jdn,_,rfl,_,_,rfl,⟨"",.inr ⟨_,rfl⟩⟩,T.Yg,T.JbU,_,rfl,_,_,rfl,⟨_,.inl rfl⟩,T.Yg,T.JhJ,by show 13≤sizeLine; decide,fun l hl=>?_⟩;exact ⟨_,rfl,l,2, "OutOfRange",rfl,by rw [Jg]; rfl,rfl,fun p H2 e2 hp=>q1 (by rw [h1]; decide +kernel) p H2 ((s1.trans (Ji.upd hl)).trans e2) (by rw [h1]; exact hp)⟩
   ·obtain rfl:C=T.JW:=Value.ref.inj e;refine ⟨T.Jlj,_,rfl,_,_,rfl,⟨"",.inr ⟨_,rfl⟩⟩,T.YI,T.Jdq,_,rfl,_,_,rfl,⟨"",.inr ⟨_,rfl⟩⟩,T.YI,T.Jdr,_,rfl,_,_,rfl,⟨"",.inr ⟨_,rfl⟩⟩,T.YI,T.JbX,_,rfl,_,_,rfl,⟨"",.inr ⟨_,rfl⟩⟩,T.YI,T.Jfa,_,rfl,_,_,rfl,⟨"",.inr ⟨_,rfl⟩⟩,T.YI,T.Jdo,_,rfl,_,_,rfl,⟨"",.inr ⟨_,rfl⟩⟩,T.YI,T.Jee,_,rfl,_,_,rfl,⟨"",.inr ⟨_,rfl⟩⟩,T.YI,T.Jed,_,rfl,_,_,rfl,⟨"",.inr ⟨_,rfl⟩⟩,T.YI,T.Jec,_,rfl,_,_,rfl,⟨"",.inr ⟨_,rfl⟩⟩,T.YI,T.Jbr,_,rfl,_,_,rfl,⟨"",.inr ⟨_,rfl⟩⟩,T.YI,T.Jfb,_,rfl,_,_,rfl,⟨"",.inr ⟨_,rfl⟩⟩,T.YI,T.JfV,_,rfl,_,_,rfl,⟨"",.inr ⟨_,rfl⟩⟩,T.YI,T.Jdp,_,rfl,_,_,rfl,⟨_,.inl rfl⟩,T.YI,T.Jk4,by show 13≤sizeLine; decide,fun l hl=>?_⟩;exact ⟨_,rfl,l,4, "NoPlace",rfl,by rw [Jg]; rfl,rfl,fun p H2 e2 hp=>q1 (by rw [h1]; decide +kernel) p H2 ((s1.trans (Ji.upd hl)).trans e2) (by rw [h1]; exact hp)⟩
   ·obtain rfl:C=T.Yp:=Value.ref.inj e;refine ⟨T.JoB,_,rfl,_,_,rfl,⟨"",.inr ⟨_,rfl⟩⟩,T.Za,T.Je8,_,rfl,_,_,rfl,⟨"",.inr ⟨_,rfl⟩⟩,T.Za,T.Je9,_,rfl,_,_,rfl,⟨"",.inr ⟨_,rfl⟩⟩,T.Za,T.JcF,_,rfl,_,_,rfl,⟨"",.inr ⟨_,rfl⟩⟩,T.Za,T.JgM,_,rfl,_,_,rfl,⟨"",.inr ⟨_,rfl⟩⟩,T.Za,T.Je6,_,rfl,_,_,rfl,⟨"",.inr ⟨_,rfl⟩⟩,T.Za,T.JfU,_,rfl,_,_,rfl,⟨"",.inr ⟨_,rfl⟩⟩,T.Za,T.JfT,_,rfl,_,_,rfl,⟨"",.inr ⟨_,rfl⟩⟩,T.Za,T.JfS,_,rfl,_,_,rfl,⟨"",.inr ⟨_,rfl⟩⟩,T.Za,T.Jci,_,rfl,_,_,rfl,⟨"",.inr ⟨_,rfl⟩⟩,T.Za,T.JgN,_,rfl,_,_,rfl,⟨"",.inr ⟨_,rfl⟩⟩,T.Za,T.JhK,_,rfl,_,_,rfl,⟨"",.inr ⟨_,rfl⟩⟩,T.Za,T.Je7,_,rfl,_,_,rfl,⟨_,.inl rfl⟩,T.Za,T.Jok,by show 13≤sizeLine; decide,fun l hl=>?_⟩;exact ⟨_,rfl,l,9, "Taken",rfl,by rw [Jg]; rfl,rfl,fun p H2 e2 hp=>q1 (by rw [h1]; decide +kernel) p H2 ((s1.trans (Ji.upd hl)).trans e2) (by rw [h1]; exact hp)⟩
   ·obtain rfl:C=T.YD:=Value.ref.inj e;refine ⟨T.JpE,_,rfl,_,_,rfl,⟨"",.inr ⟨_,rfl⟩⟩,T.Zt,T.JfZ,_,rfl,_,_,rfl,⟨"",.inr ⟨_,rfl⟩⟩,T.Zt,T.Jf0,_,rfl,_,_,rfl,⟨"",.inr ⟨_,rfl⟩⟩,T.Zt,T.Jdw,_,rfl,_,_,rfl,⟨"",.inr ⟨_,rfl⟩⟩,T.Zt,T.JhL,_,rfl,_,_,rfl,⟨"",.inr ⟨_,rfl⟩⟩,T.Zt,T.JfX,_,rfl,_,_,rfl,⟨"",.inr ⟨_,rfl⟩⟩,T.Zt,T.JgQ,_,rfl,_,_,rfl,⟨"",.inr ⟨_,rfl⟩⟩,T.Zt,T.JgP,_,rfl,_,_,rfl,⟨"",.inr ⟨_,rfl⟩⟩,T.Zt,T.JgO,_,rfl,_,_,rfl,⟨"",.inr ⟨_,rfl⟩⟩,T.Zt,T.JcI,_,rfl,_,_,rfl,⟨"",.inr ⟨_,rfl⟩⟩,T.Zt,T.JhM,_,rfl,_,_,rfl,⟨"",.inr ⟨_,rfl⟩⟩,T.Zt,T.JiA,_,rfl,_,_,rfl,⟨"",.inr ⟨_,rfl⟩⟩,T.Zt,T.JfY,_,rfl,_,_,rfl,⟨_,.inl rfl⟩,T.Zt,T.Jpw,by show 13≤sizeLine; decide,fun l hl=>?_⟩;exact ⟨_,rfl,l,10, "Full",rfl,by rw [Jg]; rfl,rfl,fun p H2 e2 hp=>q1 (by rw [h1]; decide +kernel) p H2 ((s1.trans (Ji.upd hl)).trans e2) (by rw [h1]; exact hp)⟩
   ·obtain rfl:C=T.JY:=Value.ref.inj e;refine ⟨T.Jlk,_,rfl,_,_,rfl,⟨"",.inr ⟨_,rfl⟩⟩,T.YJ,T.Jdu,_,rfl,_,_,rfl,⟨"",.inr ⟨_,rfl⟩⟩,T.YJ,T.Jdv,_,rfl,_,_,rfl,⟨"",.inr ⟨_,rfl⟩⟩,T.YJ,T.JbY,_,rfl,_,_,rfl,⟨"",.inr ⟨_,rfl⟩⟩,T.YJ,T.Jfc,_,rfl,_,_,rfl,⟨"",.inr ⟨_,rfl⟩⟩,T.YJ,T.Jds,_,rfl,_,_,rfl,⟨"",.inr ⟨_,rfl⟩⟩,T.YJ,T.Jeh,_,rfl,_,_,rfl,⟨"",.inr ⟨_,rfl⟩⟩,T.YJ,T.Jeg,_,rfl,_,_,rfl,⟨"",.inr ⟨_,rfl⟩⟩,T.YJ,T.Jef,_,rfl,_,_,rfl,⟨"",.inr ⟨_,rfl⟩⟩,T.YJ,T.Jbs,_,rfl,_,_,rfl,⟨"",.inr ⟨_,rfl⟩⟩,T.YJ,T.Jfd,_,rfl,_,_,rfl,⟨"",.inr ⟨_,rfl⟩⟩,T.YJ,T.JfW,_,rfl,_,_,rfl,⟨"",.inr ⟨_,rfl⟩⟩,T.YJ,T.Jdt,_,rfl,_,_,rfl,⟨_,.inl rfl⟩,T.YJ,T.Jk5,by show 13≤sizeLine; decide,fun l hl=>?_⟩;exact ⟨_,rfl,l,11, "Missing",rfl,by rw [Jg]; rfl,rfl,fun p H2 e2 hp=>q1 (by rw [h1]; decide +kernel) p H2 ((s1.trans (Ji.upd hl)).trans e2) (by rw [h1]; exact hp)⟩
end
section
variable {P:Program} {w:World} {K:PySem.W.Frag} {mg:Str→Option Value} {base:Heap}
def JoV (K:PySem.W.Frag):Sp:=fun vs H Q _=>∃ (t lp tn:Addr) (z bz p x:Str) (m n s:Int) (plays ps:List Str) (zs:List (V×(Str×Str))) (gs:List Str),vs=[.ref t,.ref lp,.str z,.str bz,.ref tn]∧Ground K H t ps zs gs∧Jz K H lp (plays.map V.str)∧plays.length≤20∧H tn=some (.tup [.str p,.int m,.int n,.int s,.str x,.non,.str ""])∧(z∈Ja5↔J1 z=false)∧∀ H',Ji H H'→Q (.str (Ze ps plays z bz p m n s x)) H'
theorem Jqe (T:Txt K mg):JL P w K mg base YR 1 T.JiU T.Jho ["_law_ground_here", "_law_plays", "_law_name", "_law_base", "_law_now"] (JoV K):=by
 refine T.Jjb.F.ok Jp5 (fun vs H Q E h=>?_) (fun cdv A outer s H vs Q E hr h=>?_)
 ·obtain ⟨_,_,_,_,_,_,_,_,_,_,_,_,_,_,rfl,_⟩:=h;rfl
 ·obtain ⟨t,lp,tn,z,bz,p,x,m,n,s,plays,ps,zs,gs,rfl,G,hlp,hll,htn,hz,q⟩:=h;refine ⟨_,(@Jf _ _ _ _ _ (@JM _ _ _ _ _ _ _ _ (@Jx _ _ _ _ _ _ _ _ (@Jdm _) (@pv _ 2 _ _ rfl (.inl rfl) rfl rfl) (@Yv _ _ _ _ (@Ja _ _ _ _ _ (@Jp _ _ _ _) (@Ja _ _ _ _ _ (@Jp _ _ _ _) (@Ja _ _ _ _ _ (@Jp _ _ _ _) (@Ja _ _ _ _ _ (@Jp _ _ _ _) (@Ja _ _ _ _ _ (@Jp _ _ _ _) (@Jd _) rfl) rfl) rfl) rfl) rfl)) (by with_unfolding_all rfl)) (@Jj _ _ _ (@Jq _ _ _ _ (@Jp _ _ _ _))) (@Jy _)) (@Jf _ _ _ _ _ (@JM _ _ _ _ _ _ _ _ (@Jx _ _ _ _ _ _ _ _ (@Jdm _) (@pv _ 2 _ _ rfl (.inl rfl) rfl rfl) (@pv _ 1 _ _ rfl (.inl rfl) rfl rfl) (by with_unfolding_all rfl)) (@Jj _ _ _ (@Jq _ _ _ _ (@Jp _ _ _ _))) (@Jy _)) (@Jf _ _ _ _ _ (@JM _ _ _ _ _ _ _ _ (@Jx _ _ _ _ _ _ _ _ (@JtT _) (@JA _ _ _ _ _ _ _ _ _ (@Yl _) rfl T.Zv PySem.boot_len (@Ja _ _ _ _ _ (@pv _ 1 _ _ rfl (.inl rfl) rfl rfl) (@Jd _) rfl) (by decide) (by decide) rfl rfl) (@Je _ _ _ _) (JH _)) (@Jj _ _ _ (@Jq _ _ _ _ (@Jp _ _ _ _))) (@Jy _)) (@Jf _ _ _ _ _ (@JM _ _ _ _ _ _ _ _ (@Jx _ _ _ _ _ _ _ _ (@Jc9 _) (@pv _ 3 _ _ rfl (.inl rfl) rfl rfl) (@Jp _ _ _ _) (JH _)) (@Jj _ _ _ (@Jq _ _ _ _ (@Jp _ _ _ _))) (@Jy _)) (@Jf _ _ _ _ _ (@JM _ _ _ _ _ _ _ _ (@Jx _ _ _ _ _ _ _ _ (@Jcb _) (@JD _ _ _ _ _ _ _ (@Yq _) (@pv _ 4 _ _ rfl (.inl rfl) rfl rfl) (@Je _ _ _ _) (fun _ _=>rfl)) (@JD _ _ _ _ _ _ _ (@Yq _) (@pv _ 0 _ _ rfl (.inl rfl) rfl rfl) (@Je _ _ _ _) (fun _ _=>rfl)) (by with_unfolding_all rfl)) (@Jj _ _ _ (@Jq _ _ _ _ (@Jp _ _ _ _))) (@Jy _)) (@Jf _ _ _ _ _ (@JM _ _ _ _ _ _ _ _ (@PW.pt _ _ _ (@Jac _ _ _ _ _ _ _ (@Jx _ _ _ _ _ _ _ _ (@Jcc _) (@JD _ _ _ _ _ _ _ (@Yq _) (@pv _ 4 _ _ rfl (.inl rfl) rfl rfl) (@Je _ _ _ _) (fun _ _=>rfl)) (@Je _ _ _ _) (JH _)) (@Jac _ _ _ _ _ _ _ (@Jx _ _ _ _ _ _ _ _ (@Jhh _) (@JD _ _ _ _ _ _ _ (@Yq _) (@pv _ 4 _ _ rfl (.inl rfl) rfl rfl) (@Je _ _ _ _) (fun _ _=>rfl)) (@Je _ _ _ _) (JH _)) (@Jac _ _ _ _ _ _ _ (@Jx _ _ _ _ _ _ _ _ (@Jcc _) (@JD _ _ _ _ _ _ _ (@Yq _) (@pv _ 4 _ _ rfl (.inl rfl) rfl rfl) (@Je _ _ _ _) (fun _ _=>rfl)) (@Je _ _ _ _) (JH _)) (@Jac _ _ _ _ _ _ _ (@Jx _ _ _ _ _ _ _ _ (@Jcc _) (@JD _ _ _ _ _ _ _ (@Yq _) (@pv _ 4 _ _ rfl (.inl rfl) rfl rfl) (@Je _ _ _ _) (fun _ _=>rfl)) (@Je _ _ _ _) (JH _)) (@Jax _ _ _ _ (@Jx _ _ _ _ _ _ _ _ (@Jhh _) (@Jm _ _ _ _ _ _ _ _ (@Yj _) (@JD _ _ _ _ _ _ _ (@Yq _) (@pv _ 4 _ _ rfl (.inl rfl) rfl rfl) (@Je _ _ _ _) (fun _ _=>rfl)) (@JD _ _ _ _ _ _ _ (@Yq _) (@pv _ 4 _ _ rfl (.inl rfl) rfl rfl) (@Je _ _ _ _) (fun _ _=>rfl))) (@Je _ _ _ _) (JH _)))))))) (@Jj _ _ _ (@Jq _ _ _ _ (@Jp _ _ _ _))) (@Jy _)) (@Jf _ _ _ _ _ (@Yb _ _ _ (@JM _ _ _ _ _ _ _ _ (@PW.pt _ _ _ (@Jif _ _ _ _ _ _ _ (@Jx _ _ _ _ _ _ _ _ (@Jc9 _) (@JD _ _ _ _ _ _ _ (@Yq _) (@pv _ 4 _ _ rfl (.inl rfl) rfl rfl) (@Je _ _ _ _) (fun _ _=>rfl)) (@Jp _ _ _ _) (JH _)) (@JgF _ _ _ _ (@Jx _ _ _ _ _ _ _ _ (@Jc9 _) (@JD _ _ _ _ _ _ _ (@Yq _) (@pv _ 4 _ _ rfl (.inl rfl) rfl rfl) (@Je _ _ _ _) (fun _ _=>rfl)) (@Jp _ _ _ _) (JH _))))) (@Jj _ _ _ (@Jq _ _ _ _ (@Jp _ _ _ _))) (@Jy _))) (@Jj _ _ _ (@Jq _ _ _ _ (@Jp _ _ _ _)))))))))),?_⟩
  try dsimp only [cxK,Ji0]
  obtain ⟨pn,pl,pg,h1,h2,h3,h4,h5⟩:=G.at_;have nh:∀ {w:Str},Zr w=false↔w ≠ "north"∧w ≠ "south":=by
   intro w;unfold Zr;rw [Bool.or_eq_false_iff,beq_eq_false_iff_ne,beq_eq_false_iff_ne]
  have tB:∀ {w u:Str},(!decide (V.str w=V.str u))=true↔w≠u:=by
   intro w u;rw [Jg1,Bool.not_eq_true',beq_eq_false_iff_ne]
  refine ⟨_,rfl,by show 5≤sizeLine; decide,fun l nl=>⟨l,Ja5.map V.str,rfl,.inl (Jz.of Jg),rfl,Jaq _,?_⟩⟩;rw [if_neg (by decide),Ja2];have s1:=Ji.upd (o:=.lst [.str "",.str "letters",.str "Sea",.str "s a",.str "sea7"]) nl;have q:=q _ s1;have hlp1:=s1.seq hlp;have htn1:=s1 _ _ htn;have h11:=s1 _ _ h1;have h21:=s1 _ _ h2;generalize upd H l (.lst [.str "",.str "letters",.str "Sea",.str "s a",.str "sea7"])=H1 at q hlp1 htn1 h11 h21;cases hg:J1 z with
  | false =>
   rw [decide_eq_true (hz.mpr hg)];rw [rb0 hg] at q;exact ⟨_,rfl,Y1 q⟩
  | true =>
   rw [decide_eq_false (fun f=>by have:=hz.mp f; rw [hg] at this; cases this)];refine ⟨_,rfl,YG ⟨_,rfl,_,rfl,lp,_,rfl,.inl hlp1,rfl,Jaq _,?_⟩⟩;rw [if_neg (by decide),Ja2];by_cases hp:z∈plays
   ·rw [decide_eq_true hp];rw [rb1 hg hp] at q;exact ⟨_,rfl,Y1 q⟩
   rw [decide_eq_false hp];refine ⟨_,rfl,YG ⟨_,rfl,lp,_,rfl,.inl hlp1,_,_,rfl,rfl,_,rfl,YM (fun hf=>?_) (fun hf=>?_)⟩⟩
   ·have hf:=of_decide_eq_true hf;rw [List.length_map] at hf;rw [rb2 hg hp (by omega)] at q;exact q
   have hf:plays.length < 20:=by
    have h2:¬ ((20:Int)≤((plays.map V.str).length:Int)):=fun z=>hf (decide_eq_true z)
    rw [List.length_map] at h2;omega
   refine ⟨_,rfl,rfl,_,rfl,YM (fun hb=>?_) (fun hb=>?_)⟩
   ·rw [rb3 hg hp hf (tB.mp hb)] at q;exact q
   have hb:bz = "hill":=Classical.byContradiction fun f=>hb (tB.mpr f)
   refine ⟨_,rfl,tn,_,_,.str p,rfl,rfl,JQ.of htn1,rfl,_,rfl,t,_,_,.ref pn,rfl,rfl,JQ.of h11,rfl,pn,_,rfl,.inl (Jz.of h21),rfl,Jaq _,?_⟩;rw [if_pos rfl,Ja2];by_cases h4':p∈ps
   ·rw [decide_eq_true h4'];refine ⟨_,rfl,YG ?_⟩;have c5:¬ ((0≤m∧m≤30)∧0≤n∧0≤s∧n + s≤20)→Q (.str "OutOfRange") H1:=fun f=>by rw [rb5 hg hp hf hb h4' f] at q; exact q
    refine ⟨_,rfl,tn,_,_,.int m,rfl,rfl,JQ.of htn1,rfl,_,_,rfl,rfl,_,rfl,YM (fun m0=>Y1 (c5 fun h=>by have:=of_decide_eq_true m0; omega)) (fun m0=>⟨_,rfl,tn,_,_,.int m,rfl,rfl,JQ.of htn1,rfl,_,_,rfl,rfl,_,rfl,YM (fun m1=>Y1 (c5 fun h=>by have:=of_decide_eq_true m1; omega)) (fun m1=>⟨_,rfl,tn,_,_,.int n,rfl,rfl,JQ.of htn1,rfl,_,_,rfl,rfl,_,rfl,YM (fun m2=>Y1 (c5 fun h=>by have:=of_decide_eq_true m2; omega)) (fun m2=>⟨_,rfl,tn,_,_,.int s,rfl,rfl,JQ.of htn1,rfl,_,_,rfl,rfl,_,rfl,YM (fun m3=>Y1 (c5 fun h=>by have:=of_decide_eq_true m3; omega)) (fun m3=>⟨_,rfl,tn,_,_,.int n,rfl,rfl,JQ.of htn1,rfl,_,rfl,tn,_,_,.int s,rfl,rfl,JQ.of htn1,rfl,_,_,rfl,rfl,_,_,rfl,rfl,_,rfl,YM (fun m4=>c5 fun h=>by have:=of_decide_eq_true m4; omega) (fun m4=>?_)⟩)⟩)⟩)⟩)⟩;simp only [decide_eq_true_eq] at m0 m1 m2 m3 m4;have h5':(0≤m∧m≤30)∧0≤n∧0≤s∧n + s≤20:=⟨⟨by omega,by omega⟩,by omega,by omega,by omega⟩
    refine ⟨fun σ1 H3=>H3=H1∧Zr x=true,?_,?_⟩
    ·refine ⟨_,rfl,tn,_,_,.str x,rfl,rfl,JQ.of htn1,rfl,rfl,_,rfl,YM (fun x1=>⟨_,rfl,tn,_,_,.str x,rfl,rfl,JQ.of htn1,rfl,rfl,_,rfl,YM (fun x2=>?_) (fun x2=>⟨rfl,?_⟩)⟩) (fun x1=>YG ⟨rfl,?_⟩)⟩
     ·rw [rb6 hg hp hf hb h4' h5' (nh.mpr ⟨tB.mp x1,tB.mp x2⟩)] at q; exact q
     ·cases hh:Zr x with
      | true=>rfl
      | false=>exact absurd (tB.mpr (nh.mp hh).2) x2
     ·cases hh:Zr x with
      | true=>rfl
      | false=>exact absurd (tB.mpr (nh.mp hh).1) x1
    rintro σ1 H3 ⟨rfl,hx⟩;rw [rb7 hg hp hf hb h4' h5' hx] at q;exact q
   ·rw [decide_eq_false h4'];rw [rb4 hg hp hf hb h4'] at q;exact ⟨_,rfl,Y1 q⟩
def JpY (K:PySem.W.Frag):Sp:=fun vs H Q _=>∃ (c:Int) (lp:Addr) (plays:List Str),vs=[.int c,.ref lp]∧Jz K H lp (plays.map V.str)∧(∀ y∈plays,J1 y=true)∧∀ z H',Ji H H'→Yo z→(z∈Ja5↔J1 z=false)→Q (.str z) H'
theorem Jo1 (T:Txt K mg):JL P w K mg base YR 4 T.Jhp T.Jgm ["_law_cell", "_law_plays"] (JpY K):=by
 refine T.Jhu.F.ok JoX (fun vs H Q E h=>?_) (fun cdv A outer s H vs Q E hr h=>?_)
 ·obtain ⟨_,_,_,rfl,_⟩:=h;rfl
 ·obtain ⟨c,lp,plays,rfl,hlp,hg,q⟩:=h;refine ⟨_,(@Jf _ _ _ _ _ (@JM _ _ _ _ _ _ _ _ (@Jx _ _ _ _ _ _ _ _ (@YU _) (@Jm _ _ _ _ _ _ _ _ (@JZ _) (@pv _ 0 _ _ rfl (.inl rfl) rfl rfl) (@Je _ _ _ _)) (@Je _ _ _ _) (JH _)) (@Jj _ _ _ (@Jq _ _ _ _ (@JD _ _ _ _ _ _ _ (@JU _) (@Yv _ _ _ _ (@Ja _ _ _ _ _ (@Jp _ _ _ _) (@Ja _ _ _ _ _ (@Jp _ _ _ _) (@Ja _ _ _ _ _ (@Jp _ _ _ _) (@Ja _ _ _ _ _ (@Jp _ _ _ _) (@Ja _ _ _ _ _ (@Jp _ _ _ _) (@Jd _) rfl) rfl) rfl) rfl) rfl)) (@Jm _ _ _ _ _ _ _ _ (@JZ _) (@Jm _ _ _ _ _ _ _ _ (@Yx _) (@pv _ 0 _ _ rfl (.inl rfl) rfl rfl) (@Je _ _ _ _)) (@Je _ _ _ _)) (fun _ _=>rfl)))) (@Jy _)) (@Jf _ _ _ _ _ (@Yb _ _ _ (@JM _ _ _ _ _ _ _ _ (@PW.pt _ _ _ (@Jif _ _ _ _ _ _ _ (@Jx _ _ _ _ _ _ _ _ (@YU _) (@Jm _ _ _ _ _ _ _ _ (@JZ _) (@pv _ 0 _ _ rfl (.inl rfl) rfl rfl) (@Je _ _ _ _)) (@Je _ _ _ _) (JH _)) (@JgF _ _ _ _ (@Jx _ _ _ _ _ _ _ _ (@Js1 _ hr.units0) (@pv _ 1 _ _ rfl (.inl rfl) rfl rfl) (@Yv _ _ _ _ (@Jd _)) (JH _))))) (@Jj _ _ _ (@Jq _ _ _ _ (@JD _ _ _ _ _ _ _ (@JU _) (@pv _ 1 _ _ rfl (.inl rfl) rfl rfl) (@Jm _ _ _ _ _ _ _ _ (@JZ _) (@Jm _ _ _ _ _ _ _ _ (@Yx _) (@pv _ 0 _ _ rfl (.inl rfl) rfl rfl) (@Je _ _ _ _)) (@JA _ _ _ _ _ _ _ _ _ (@Yl _) rfl T.Zv PySem.boot_len (@Ja _ _ _ _ _ (@pv _ 1 _ _ rfl (.inl rfl) rfl rfl) (@Jd _) rfl) (by decide) (by decide) rfl rfl)) (fun _ _=>rfl)))) (@Jy _))) (@Jj _ _ _ (@Jq _ _ _ _ (@JD _ _ _ _ _ _ _ (@JU _) (@Jo _ _ _ _ _ _ _ _ _ _ _ _ _ _ _ T.Jjt (Jn8 T) (hr.mono (by decide)) JG (@Ja _ _ _ _ _ (@Jm _ _ _ _ _ _ _ _ (@Yx _) (@pv _ 0 _ _ rfl (.inl rfl) rfl rfl) (@Je _ _ _ _)) (@Ja _ _ _ _ _ (@Je _ _ _ _) (@Jd _) rfl) rfl) rfl (by decide) rfl rfl) (@Je _ _ _ _) (fun _ _=>rfl)))))),?_⟩;have bads:∀ y∈Ja5,J1 y=false∧Yo y:=by
   intro y hy;have h:Ja5.all (fun y=>!J1 y && Jnj y)=true:=by decide +kernel
   have h:=List.all_eq_true.mp h y hy;rw [Bool.and_eq_true,Bool.not_eq_true'] at h;exact ⟨h.1,JeA h.2⟩
  have good:∀ y,J1 y=true→(y∈Ja5↔J1 y=false):=fun y hy=>⟨fun h=>(bads y h).1,fun h=>by rw [hy] at h; cases h⟩
  refine ⟨_,rfl,_,_,rfl,rfl,(by show (0:Int) < 6; decide),rfl,_,rfl,YM (fun _=>?_) (fun _=>?_)⟩
  ·refine ⟨by show 5≤sizeLine; decide,fun l nl=>?_⟩;obtain ⟨y,hy,hm⟩:=Ji8 (ps:=Ja5) (by decide) (c / 6);have hb:=bads y hm;exact ⟨_,rfl,_,_,rfl,rfl,⟨by decide,by decide⟩,_,_,rfl,rfl,(by show (0:Int) < 5; decide),l,_,_,.str y,rfl,rfl,Jz.of Jg,hy,q y _ (Ji.upd nl) hb.2 ⟨fun _=>hb.1,fun _=>hm⟩⟩
  refine ⟨fun σ1 H1=>Ji H H1∧σ1=[some (.int c),some (.ref lp)],?_,?_⟩
  ·refine ⟨_,rfl,_,_,rfl,rfl,(by show (0:Int) < 6; decide),rfl,_,rfl,YM (fun _=>⟨_,rfl,by show 0≤sizeLine; decide,fun l nl=>?_⟩) (fun _=>YG ⟨Ji.refl _,rfl⟩)⟩;have s1:=Ji.upd (o:=.lst []) nl;refine ⟨lp,l,_,rfl,rfl,s1.seq hlp,Jz.of Jg,_,rfl,?_⟩;cases hpl:plays with
   | nil=>exact YG ⟨s1,rfl⟩
   | cons y0 r =>
    obtain ⟨y,hy,hm⟩:=Ji8 (ps:=plays) (by rw [hpl]; simp) (c / 6);rw [← hpl];have gy:=hg y hm;exact Zw (by rw [hpl]; rfl) ⟨_,rfl,_,rfl,_,_,rfl,rfl,⟨by decide,by decide⟩,_,rfl,lp,_,rfl,.inl (s1.seq hlp),_,_,rfl,rfl,(by show (0:Int) < _; rw [List.length_map,hpl,List.length_cons]; omega),lp,_,_,.str y,rfl,rfl,s1.seq hlp,hy,q y _ s1 (YH gy) (good y gy)⟩
  rintro σ1 H1 ⟨e1,rfl⟩;refine ⟨_,rfl,_,_,rfl,rfl,⟨by decide,by decide⟩,_,1,rfl,by decide,by decide,fun pn ss H2 _ e2 hpn hl1 hg1 _=>?_⟩;obtain ⟨y,hy⟩:∃ y,ss[0]?=some y:=⟨_,List.getElem?_eq_getElem (by omega)⟩
  have gy:=hg1 y (List.mem_of_getElem? hy);exact ⟨pn,_,_,.str y,rfl,rfl,Jz.of hpn,Y0 (j:=0) (by rw [List.getElem?_map,hy]; rfl),q y _ (e1.trans e2) (YH gy) (good y gy)⟩
end
section
variable {P:Program} {w:World} {K:PySem.W.Frag} {mg:Str→Option Value} {base:Heap}
theorem Jle (xs:List Str):(xs.map V.str).all Jbd=true:=List.all_eq_true.mpr fun v hv=>by
 obtain ⟨x,_,rfl⟩:=List.mem_map.mp hv;rfl
structure LG (T:Txt K mg) (H0 H:Hp) (h d1 d2 b t lp:Addr) (bs gm:List (JK×V)) (plays done ps:List Str) (zs:List (V×(Str×Str))) (gs ps':List Str) (zs':List (V×(Str×Str))) (gs':List Str):Prop where
 sm:Ji H0 H
 J:HB1 T H h d1 d2 b bs gm done ps' zs' gs'
 g:GG K H t ps zs gs ps' zs' gs'
 lp:H lp=some (.lst (plays.map V.str))
 ll:plays.length≤20
 lgd:∀ y∈plays,J1 y=true
 lnd:plays.Nodup
section
variable {T:Txt K mg} {H0 H H':Hp} {h d1 d2 b t lp:Addr} {bs gm gm':List (JK×V)} {plays done done' ps:List Str} {zs:List (V×(Str×Str))} {gs ps':List Str} {zs':List (V×(Str×Str))} {gs':List Str}
theorem LG.same (L:LG T H0 H h d1 d2 b t lp bs gm plays done ps zs gs ps' zs' gs') (e:Ji H H'):LG T H0 H' h d1 d2 b t lp bs gm plays done ps zs gs ps' zs' gs':=⟨L.sm.trans e,L.J.same e,L.g.same e,e _ _ L.lp,L.ll,L.lgd,L.lnd⟩
theorem LG.dict (L:LG T H0 H h d1 d2 b t lp bs gm plays done ps zs gs ps' zs' gs') (n2:H0 d2=none) (bt:Yc d2 H H') (A:Zl T H' h d1 d2 bs gm') (kg:gm'.map (·.1)=done'.map Sum.inr) (hl:done'.length≤20):LG T H0 H' h d1 d2 b t lp bs gm' plays done' ps zs gs ps' zs' gs' :=
 ⟨fun x u q=>bt _ _ (Jw q n2) (L.sm _ _ q),⟨A,L.J.kb,L.J.ko,bt.bdD L.J.A.h2 L.J.B,kg,hl⟩,⟨bt.grD L.J.A.h2 L.g.G,L.g.pp,L.g.zp,L.g.gp,L.g.zo,L.g.B⟩,bt.dict L.J.A.h2 L.lp (fun _ z=>nomatch z),L.ll,L.lgd,L.lnd⟩
end
def Jt9 (T:Txt K mg) (H:Hp) (h d1 d2 tn:Addr) (bs gm:List (JK×V)) (z:Str) (ps':List Str) (zs':List (V×(Str×Str))) (gs':List Str):Prop:=∃ (G:Gm) (a:Addr) (x:Mo),Zl T H h d1 d2 bs (gm ++ [(.inr z,.ref G.g)])∧Yr T G H [] ([] ++ [(a,x)])∧H tn=some (.tup (Jkl G.c x))∧G.ps=ps'∧G.zs=zs'∧G.gs=gs'
def JlE (j:Nat):Str:=Str.ofString "sea" ++ ⟨#[(Str.ofString "abcdefghijklmnopqrst").cps.toList.getD j 0]⟩
theorem Jpn:(∀ j,j < 20→J1 (JlE j)=true)∧((List.range 20).map JlE).Nodup:=by
 constructor
 ·have h:(List.range 20).all (fun j=>J1 (JlE j))=true:=by decide +kernel
  exact fun j hj=>List.all_eq_true.mp h j (List.mem_range.mpr hj)
 ·decide +kernel
theorem JvJ (T:Txt K mg):JL P w K mg base YR 15 T.Jqu T.Jos ["_law_script"] (Jp1 K):=by
 refine T.Jt8.F.ok Zh (fun vs H Q E h=>?_) (fun cdv A outer s H vs Q E hr h=>?_)
 ·obtain ⟨_,_,rfl,_⟩:=h;rfl
 ·obtain ⟨a,ns,rfl,hS,hl,q⟩:=h;have szl:sizeLine=16777216:=sizeLine_eq;refine ⟨_,(@Jf _ _ _ _ _ (@JE _ _ 1 _ _ _ _ Zh.nd rfl (Or.inl rfl) (@Jo _ _ _ _ _ _ _ _ _ _ _ _ _ _ _ T.JkE (Jrp T) (hr.mono (by decide)) JG (@Ja _ _ _ _ _ (@pv _ 0 _ _ rfl (.inl rfl) rfl rfl) (@Ja _ _ _ _ _ (@Je _ _ _ _) (@Jd _) rfl) rfl) rfl (by decide) rfl rfl) rfl (.inl rfl)) (@Jf _ _ _ _ _ (@JE _ _ 2 _ _ _ _ Zh.nd rfl (Or.inl rfl) (@JsY _ _ _ _ _ _ _ _ _ _ _ _ _ _ T.Jpt (Job T) (hr.mono (by decide)) rfl T.Jr9 T.Jgy.b .nil JG (by decide)) rfl (.inl rfl)) (@Jf _ _ _ _ _ (@J7 _ _ _ _ (@Ys _ _ _ _ _ _ _ _ _ _ _ _ _ _ _ _ _ _ _ _ (@pv _ 2 _ _ rfl (.inl rfl) rfl rfl) T.Yu T.Jau.m (Jjx T) (hr.mono (by decide)) T.Jau.b .nil Z5 (@Ja _ _ _ _ _ (@Jp _ _ _ _) (@Ja _ _ _ _ _ (@JgH _ _ _ _ _ _ _ _ _ _ _ _ _ _ _ _ _ T.Jog (Jna T) (hr.mono (by decide)) rfl T.JpM T.JfM.b .nil JG (@Ja _ _ _ _ _ (@ZI _ _ _ _ _ _ _ _ _ (@JfE _) rfl T.Jk2 PyProof.Rows.boot_list (@Ja _ _ _ _ _ (@JD _ _ _ _ _ _ _ (@Yq _) (@pv _ 1 _ _ rfl (.inl rfl) rfl rfl) (@Je _ _ _ _) (fun _ _=>rfl)) (@Jd _) rfl) (by decide) (by decide) rfl rfl) (@Ja _ _ _ _ _ (@ZI _ _ _ _ _ _ _ _ _ (@JfE _) rfl T.Jk2 PyProof.Rows.boot_list (@Ja _ _ _ _ _ (@JD _ _ _ _ _ _ _ (@Yq _) (@pv _ 1 _ _ rfl (.inl rfl) rfl rfl) (@Je _ _ _ _) (fun _ _=>rfl)) (@Jd _) rfl) (by decide) (by decide) rfl rfl) (@Ja _ _ _ _ _ (@ZI _ _ _ _ _ _ _ _ _ (@JfE _) rfl T.Jk2 PyProof.Rows.boot_list (@Ja _ _ _ _ _ (@JD _ _ _ _ _ _ _ (@Yq _) (@pv _ 1 _ _ rfl (.inl rfl) rfl rfl) (@Je _ _ _ _) (fun _ _=>rfl)) (@Jd _) rfl) (by decide) (by decide) rfl rfl) (@Jd _) rfl) rfl) rfl) (by decide) rfl rfl) (@Jd _) rfl) rfl) rfl rfl rfl) rfl) (@Jf _ _ _ _ _ (@Yb _ _ _ (@JE _ _ 3 _ _ _ _ Zh.nd rfl (Or.inl rfl) (@JD _ _ _ _ _ _ _ (@JU _) (@Yv _ _ _ _ (@Ja _ _ _ _ _ (@Je _ _ _ _) (@Ja _ _ _ _ _ (@Je _ _ _ _) (@Ja _ _ _ _ _ (@Je _ _ _ _) (@Ja _ _ _ _ _ (@Je _ _ _ _) (@Jd _) rfl) rfl) rfl) rfl)) (@Jm _ _ _ _ _ _ _ _ (@JZ _) (@Jo _ _ _ _ _ _ _ _ _ _ _ _ _ _ _ T.JbP (Ja9 T) (hr.mono (by decide)) JG (@Ja _ _ _ _ _ (@pv _ 0 _ _ rfl (.inl rfl) rfl rfl) (@Ja _ _ _ _ _ (@Je _ _ _ _) (@Jd _) rfl) rfl) rfl (by decide) rfl rfl) (@Je _ _ _ _)) (fun _ _=>rfl)) rfl (.inl rfl))) (@Jf _ _ _ _ _ (@Yb _ _ _ (@Jnk _ _ _ _ _ _ _ _ _ _ 4 1 ["_law_k"] [] _ _ _ _ ["_law_script", "_law_ground_here", "_law_hall", "_law_many", "_law_plays", "_law_play", "_law_name", "_law_cell", "_law_base", "_law_north", "_law_south", "_law_place", "_law_now", "_law_due_here", "_law_found"] ((Jl JfR).names) (by decide +kernel) Zh.nd rfl (@Zy _ _ _ _ _ _ rfl T.ZL (@Ja _ _ _ _ _ (@pv _ 3 _ _ rfl (.inl rfl) rfl rfl) (@Jd _) rfl) rfl) (fun _ _ _ _=>(@Jah _ _ _ _ _ _ _ _ _ 0 (by decide +kernel) rfl rfl)) (fun _ _ _ _=>(@JcS _)) (fun _ _ _ _=>(@Jm _ _ _ _ _ _ _ _ (@Jhi _) (@Jp _ _ _ _) (@JD _ _ _ _ _ _ _ (@Jk9 _) (@Jp _ _ _ _) (@ZE _ _ _ _ _ _ _ _ _ 0 rfl rfl (by decide) (by decide)) (fun _ _=>rfl)))) rfl rfl rfl rfl rfl (by intro _; rfl))) (@Jf _ _ _ _ _ (@Yb _ _ _ (@JM _ _ _ _ _ _ _ _ (@Jx _ _ _ _ _ _ _ _ (@YU _) (@pv _ 3 _ _ rfl (.inl rfl) rfl rfl) (@Je _ _ _ _) (JH _)) (@Jj _ _ _ (@JE _ _ 4 _ _ _ _ Zh.nd rfl (Or.inl rfl) (@Yv _ _ _ _ (@Ja _ _ _ _ _ (@Jp _ _ _ _) (@Jd _) rfl)) rfl (.inl rfl))) (@Jy _))) (@Jf _ _ _ _ _ (@ZN _ _ _ _ _ _ _ _ PassesOwn.never rfl (@JbR _ _ _ _ (@pv _ 4 _ _ rfl (.inl rfl) rfl rfl)) (@YC _ _ 5 _ Zh.nd rfl (Or.inl rfl) (.inl rfl)) (@Jj _ _ _ (@J7 _ _ _ _ (@Ys _ _ _ _ _ _ _ _ _ _ _ _ _ _ _ _ _ _ _ _ (@pv _ 2 _ _ rfl (.inl rfl) rfl rfl) T.Yu T.Jap.m (JhH T) (hr.mono (by decide)) T.Jap.b .nil Z5 (@Ja _ _ _ _ _ (@pv _ 5 _ _ rfl (.inl rfl) rfl rfl) (@Ja _ _ _ _ _ (@Jp _ _ _ _) (@Ja _ _ _ _ _ (@JD _ _ _ _ _ _ _ (@JU _) (@JD _ _ _ _ _ _ _ (@Yq _) (@pv _ 1 _ _ rfl (.inl rfl) rfl rfl) (@Je _ _ _ _) (fun _ _=>rfl)) (@Je _ _ _ _) (fun _ _=>rfl)) (@Ja _ _ _ _ _ (@Je _ _ _ _) (@Ja _ _ _ _ _ (@Je _ _ _ _) (@Ja _ _ _ _ _ (@Je _ _ _ _) (@Ja _ _ _ _ _ (@Jp _ _ _ _) (@Jd _) rfl) rfl) rfl) rfl) rfl) rfl) rfl) rfl rfl rfl) rfl)) (by intro _; rfl)) (@Jf _ _ _ _ _ (@Yb _ _ _ (@JE _ _ 6 _ _ _ _ Zh.nd rfl (Or.inl rfl) (@Jo _ _ _ _ _ _ _ _ _ _ _ _ _ _ _ T.Jhu (Jo1 T) (hr.mono (by decide)) JG (@Ja _ _ _ _ _ (@Jo _ _ _ _ _ _ _ _ _ _ _ _ _ _ _ T.JbP (Ja9 T) (hr.mono (by decide)) JG (@Ja _ _ _ _ _ (@pv _ 0 _ _ rfl (.inl rfl) rfl rfl) (@Ja _ _ _ _ _ (@Je _ _ _ _) (@Jd _) rfl) rfl) rfl (by decide) rfl rfl) (@Ja _ _ _ _ _ (@pv _ 4 _ _ rfl (.inl rfl) rfl rfl) (@Jd _) rfl) rfl) rfl (by decide) rfl rfl) rfl (.inl rfl))) (@Jf _ _ _ _ _ (@JE _ _ 7 _ _ _ _ Zh.nd rfl (Or.inl rfl) (@Jo _ _ _ _ _ _ _ _ _ _ _ _ _ _ _ T.JbP (Ja9 T) (hr.mono (by decide)) JG (@Ja _ _ _ _ _ (@pv _ 0 _ _ rfl (.inl rfl) rfl rfl) (@Ja _ _ _ _ _ (@Je _ _ _ _) (@Jd _) rfl) rfl) rfl (by decide) rfl rfl) rfl (.inl rfl)) (@Jf _ _ _ _ _ (@Yb _ _ _ (@JE _ _ 8 _ _ _ _ Zh.nd rfl (Or.inl rfl) (@JD _ _ _ _ _ _ _ (@JU _) (@Yv _ _ _ _ (@Ja _ _ _ _ _ (@Jp _ _ _ _) (@Ja _ _ _ _ _ (@Jp _ _ _ _) (@Ja _ _ _ _ _ (@Jp _ _ _ _) (@Ja _ _ _ _ _ (@Jp _ _ _ _) (@Ja _ _ _ _ _ (@Jp _ _ _ _) (@Ja _ _ _ _ _ (@JD _ _ _ _ _ _ _ (@JU _) (@Yv _ _ _ _ (@Ja _ _ _ _ _ (@Jp _ _ _ _) (@Ja _ _ _ _ _ (@Jp _ _ _ _) (@Ja _ _ _ _ _ (@Jp _ _ _ _) (@Ja _ _ _ _ _ (@Jp _ _ _ _) (@Jd _) rfl) rfl) rfl) rfl)) (@Jm _ _ _ _ _ _ _ _ (@JZ _) (@Jm _ _ _ _ _ _ _ _ (@Yx _) (@pv _ 7 _ _ rfl (.inl rfl) rfl rfl) (@Je _ _ _ _)) (@Je _ _ _ _)) (fun _ _=>rfl)) (@Jd _) rfl) rfl) rfl) rfl) rfl) rfl)) (@Jm _ _ _ _ _ _ _ _ (@JZ _) (@pv _ 7 _ _ rfl (.inl rfl) rfl rfl) (@Je _ _ _ _)) (fun _ _=>rfl)) rfl (.inl rfl))) (@Jf _ _ _ _ _ (@JE _ _ 9 _ _ _ _ Zh.nd rfl (Or.inl rfl) (@Jo _ _ _ _ _ _ _ _ _ _ _ _ _ _ _ T.JfK (Jik T) (hr.mono (by decide)) JG (@Ja _ _ _ _ _ (@Jo _ _ _ _ _ _ _ _ _ _ _ _ _ _ _ T.JbP (Ja9 T) (hr.mono (by decide)) JG (@Ja _ _ _ _ _ (@pv _ 0 _ _ rfl (.inl rfl) rfl rfl) (@Ja _ _ _ _ _ (@Je _ _ _ _) (@Jd _) rfl) rfl) rfl (by decide) rfl rfl) (@Ja _ _ _ _ _ (@Je _ _ _ _) (@Jd _) rfl) rfl) rfl (by decide) rfl rfl) rfl (.inl rfl)) (@Jf _ _ _ _ _ (@JE _ _ 10 _ _ _ _ Zh.nd rfl (Or.inl rfl) (@Jo _ _ _ _ _ _ _ _ _ _ _ _ _ _ _ T.JfK (Jik T) (hr.mono (by decide)) JG (@Ja _ _ _ _ _ (@Jo _ _ _ _ _ _ _ _ _ _ _ _ _ _ _ T.JbP (Ja9 T) (hr.mono (by decide)) JG (@Ja _ _ _ _ _ (@pv _ 0 _ _ rfl (.inl rfl) rfl rfl) (@Ja _ _ _ _ _ (@Je _ _ _ _) (@Jd _) rfl) rfl) rfl (by decide) rfl rfl) (@Ja _ _ _ _ _ (@JA _ _ _ _ _ _ _ _ _ (@Jf6 _ rfl) rfl T.Jjm PyProof.Rows.boot_max (@Ja _ _ _ _ _ (@Je _ _ _ _) (@Ja _ _ _ _ _ (@JA _ _ _ _ _ _ _ _ _ (@JmK _ rfl) rfl T.Jnn PyProof.Rows.boot_min (@Ja _ _ _ _ _ (@Je _ _ _ _) (@Ja _ _ _ _ _ (@Jm _ _ _ _ _ _ _ _ (@Jay _) (@Je _ _ _ _) (@pv _ 9 _ _ rfl (.inl rfl) rfl rfl)) (@Jd _) rfl) rfl) (by decide) (by decide) rfl rfl) (@Jd _) rfl) rfl) (by decide) (by decide) rfl rfl) (@Jd _) rfl) rfl) rfl (by decide) rfl rfl) rfl (.inl rfl)) (@Jf _ _ _ _ _ (@Yb _ _ _ (@JE _ _ 11 _ _ _ _ Zh.nd rfl (Or.inl rfl) (@Jo _ _ _ _ _ _ _ _ _ _ _ _ _ _ _ T.Jgx (Jn9 T) (hr.mono (by decide)) JG (@Ja _ _ _ _ _ (@pv _ 1 _ _ rfl (.inl rfl) rfl rfl) (@Ja _ _ _ _ _ (@Jo _ _ _ _ _ _ _ _ _ _ _ _ _ _ _ T.JbP (Ja9 T) (hr.mono (by decide)) JG (@Ja _ _ _ _ _ (@pv _ 0 _ _ rfl (.inl rfl) rfl rfl) (@Ja _ _ _ _ _ (@Je _ _ _ _) (@Jd _) rfl) rfl) rfl (by decide) rfl rfl) (@Jd _) rfl) rfl) rfl (by decide) rfl rfl) rfl (.inl rfl))) (@Jf _ _ _ _ _ (@Yb _ _ _ (@JE _ _ 12 _ _ _ _ Zh.nd rfl (Or.inl rfl) (@YX _ _ _ _ _ (@Ja _ _ _ _ _ (@pv _ 11 _ _ rfl (.inl rfl) rfl rfl) (@Ja _ _ _ _ _ (@Jo _ _ _ _ _ _ _ _ _ _ _ _ _ _ _ T.JfK (Jik T) (hr.mono (by decide)) JG (@Ja _ _ _ _ _ (@Jo _ _ _ _ _ _ _ _ _ _ _ _ _ _ _ T.JbP (Ja9 T) (hr.mono (by decide)) JG (@Ja _ _ _ _ _ (@pv _ 0 _ _ rfl (.inl rfl) rfl rfl) (@Ja _ _ _ _ _ (@Je _ _ _ _) (@Jd _) rfl) rfl) rfl (by decide) rfl rfl) (@Ja _ _ _ _ _ (@Je _ _ _ _) (@Jd _) rfl) rfl) rfl (by decide) rfl rfl) (@Ja _ _ _ _ _ (@pv _ 9 _ _ rfl (.inl rfl) rfl rfl) (@Ja _ _ _ _ _ (@pv _ 10 _ _ rfl (.inl rfl) rfl rfl) (@Jd _) rfl) rfl) rfl) rfl)) rfl (.inl rfl))) (@Jf _ _ _ _ _ (@Yb _ _ _ (@JE _ _ 12 _ _ _ _ Zh.nd rfl (Or.inl rfl) (@Jm _ _ _ _ _ _ _ _ (@Juz _) (@pv _ 12 _ _ rfl (.inl rfl) rfl rfl) (@YX _ _ _ _ _ (@Ja _ _ _ _ _ (@Jo _ _ _ _ _ _ _ _ _ _ _ _ _ _ _ T.Jhv (Jo2 T) (hr.mono (by decide)) JG (@Ja _ _ _ _ _ (@Jo _ _ _ _ _ _ _ _ _ _ _ _ _ _ _ T.JbP (Ja9 T) (hr.mono (by decide)) JG (@Ja _ _ _ _ _ (@pv _ 0 _ _ rfl (.inl rfl) rfl rfl) (@Ja _ _ _ _ _ (@Je _ _ _ _) (@Jd _) rfl) rfl) rfl (by decide) rfl rfl) (@Jd _) rfl) rfl (by decide) rfl rfl) (@Ja _ _ _ _ _ (@Jbp _ _ _) (@Ja _ _ _ _ _ (@Jp _ _ _ _) (@Jd _) rfl) rfl) rfl))) rfl (.inl rfl))) (@Jf _ _ _ _ _ (@JE _ _ 13 _ _ _ _ Zh.nd rfl (Or.inl rfl) (@Jo _ _ _ _ _ _ _ _ _ _ _ _ _ _ _ T.Jjb (Jqe T) (hr.mono (by decide)) JG (@Ja _ _ _ _ _ (@pv _ 1 _ _ rfl (.inl rfl) rfl rfl) (@Ja _ _ _ _ _ (@pv _ 4 _ _ rfl (.inl rfl) rfl rfl) (@Ja _ _ _ _ _ (@pv _ 6 _ _ rfl (.inl rfl) rfl rfl) (@Ja _ _ _ _ _ (@pv _ 8 _ _ rfl (.inl rfl) rfl rfl) (@Ja _ _ _ _ _ (@pv _ 12 _ _ rfl (.inl rfl) rfl rfl) (@Jd _) rfl) rfl) rfl) rfl) rfl) rfl (by decide) rfl rfl) rfl (.inl rfl)) (@Jf _ _ _ _ _ (@Yb _ _ _ (@JE _ _ 14 _ _ _ _ Zh.nd rfl (Or.inl rfl) (@Jo _ _ _ _ _ _ _ _ _ _ _ _ _ _ _ T.Jnr (Jro T) (hr.mono (by decide)) JG (@Ja _ _ _ _ _ (@pv _ 2 _ _ rfl (.inl rfl) rfl rfl) (@Ja _ _ _ _ _ (@pv _ 6 _ _ rfl (.inl rfl) rfl rfl) (@Ja _ _ _ _ _ (@pv _ 8 _ _ rfl (.inl rfl) rfl rfl) (@Ja _ _ _ _ _ (@pv _ 12 _ _ rfl (.inl rfl) rfl rfl) (@Jd _) rfl) rfl) rfl) rfl) rfl (by decide) rfl rfl) rfl (.inl rfl))) (@Jf _ _ _ _ _ (@Yb _ _ _ (@JM _ _ _ _ _ _ _ _ (@Jx _ _ _ _ _ _ _ _ (@Jc9 _) (@pv _ 13 _ _ rfl (.inl rfl) rfl rfl) (@Jp _ _ _ _) (JH _)) (@Jf _ _ _ _ _ (@JM _ _ _ _ _ _ _ _ (@PW.pt _ _ _ (@Jac _ _ _ _ _ _ _ (@Jag _ _ _ _ (@Zx _ _ _ (@Jo _ _ _ _ _ _ _ _ _ _ _ _ _ _ _ T.JdH (JeB T) (hr.mono (by decide)) JG (@Ja _ _ _ _ _ (@pv _ 14 _ _ rfl (.inl rfl) rfl rfl) (@Ja _ _ _ _ _ (@YX _ _ _ _ _ (@Ja _ _ _ _ _ (@Jp _ _ _ _) (@Ja _ _ _ _ _ (@pv _ 13 _ _ rfl (.inl rfl) rfl rfl) (@Jd _) rfl) rfl)) (@Jd _) rfl) rfl) rfl (by decide) rfl rfl) (by intro _; rfl))) (@Jax _ _ _ _ (@Jag _ _ _ _ (@Zx _ _ _ (@Jo _ _ _ _ _ _ _ _ _ _ _ _ _ _ _ T.JdH (JeB T) (hr.mono (by decide)) JG (@Ja _ _ _ _ _ (@JbG _ _ _ _ _ _ _ _ _ _ _ _ _ _ _ _ _ (@pv _ 2 _ _ rfl (.inl rfl) rfl rfl) T.Yu T.Jao.m (JhG T) (hr.mono (by decide)) T.Jao.b .nil JG rfl) (@Ja _ _ _ _ _ (@JA _ _ _ _ _ _ _ _ _ (@Jcx _) rfl T.JaY PyProof.Rows.boot_sorted (@Ja _ _ _ _ _ (@pv _ 4 _ _ rfl (.inl rfl) rfl rfl) (@Jd _) rfl) (by decide) (by decide) rfl rfl) (@Jd _) rfl) rfl) rfl (by decide) rfl rfl) (by intro _; rfl)))))) (@Jj _ _ _ (@Jq _ _ _ _ (@Ja6 _ _ _ _))) (@Jy _)) (@Jf _ _ _ _ _ (@JM _ _ _ _ _ _ _ _ (@Jx _ _ _ _ _ _ _ _ (@Jdm _) (@pv _ 13 _ _ rfl (.inl rfl) rfl rfl) (@Yv _ _ _ _ (@Ja _ _ _ _ _ (@Jp _ _ _ _) (@Ja _ _ _ _ _ (@Jp _ _ _ _) (@Ja _ _ _ _ _ (@Jp _ _ _ _) (@Jd _) rfl) rfl) rfl)) (by with_unfolding_all rfl)) (@Jj _ _ _ (@Jq _ _ _ _ (@Ja6 _ _ _ _))) (@Jy _)) (@Jf _ _ _ _ _ (@JE _ _ 12 _ _ _ _ Zh.nd rfl (Or.inl rfl) (@YX _ _ _ _ _ (@Ja _ _ _ _ _ (@JD _ _ _ _ _ _ _ (@JU _) (@JD _ _ _ _ _ _ _ (@Yq _) (@pv _ 1 _ _ rfl (.inl rfl) rfl rfl) (@Je _ _ _ _) (fun _ _=>rfl)) (@Je _ _ _ _) (fun _ _=>rfl)) (@Ja _ _ _ _ _ (@Je _ _ _ _) (@Ja _ _ _ _ _ (@Je _ _ _ _) (@Ja _ _ _ _ _ (@Je _ _ _ _) (@Ja _ _ _ _ _ (@Jp _ _ _ _) (@Ja _ _ _ _ _ (@Jbp _ _ _) (@Ja _ _ _ _ _ (@Jp _ _ _ _) (@Jd _) rfl) rfl) rfl) rfl) rfl) rfl) rfl)) rfl (.inl rfl)) (@Jj _ _ _ (@JE _ _ 14 _ _ _ _ Zh.nd rfl (Or.inl rfl) (@Jo _ _ _ _ _ _ _ _ _ _ _ _ _ _ _ T.Jnr (Jro T) (hr.mono (by decide)) JG (@Ja _ _ _ _ _ (@pv _ 2 _ _ rfl (.inl rfl) rfl rfl) (@Ja _ _ _ _ _ (@pv _ 6 _ _ rfl (.inl rfl) rfl rfl) (@Ja _ _ _ _ _ (@Jp _ _ _ _) (@Ja _ _ _ _ _ (@pv _ 12 _ _ rfl (.inl rfl) rfl rfl) (@Jd _) rfl) rfl) rfl) rfl) rfl (by decide) rfl rfl) rfl (.inl rfl)))))) (@Jy _))) (@Jf _ _ _ _ _ (@JM _ _ _ _ _ _ _ _ (@PW.pt _ _ _ (@Jac _ _ _ _ _ _ _ (@Jbo _ _ _ _ _ _ (@Jjl _ _ _ _ _ (@pv _ 14 _ _ rfl (.inl rfl) rfl rfl)) (by first | exact Zi _ (by decide) (by decide) | rfl)) (@Jax _ _ _ _ (@Jag _ _ _ _ (@Zx _ _ _ (@Jo _ _ _ _ _ _ _ _ _ _ _ _ _ _ _ T.JdH (JeB T) (hr.mono (by decide)) JG (@Ja _ _ _ _ _ (@JbG _ _ _ _ _ _ _ _ _ _ _ _ _ _ _ _ _ (@pv _ 2 _ _ rfl (.inl rfl) rfl rfl) T.Yu T.Jao.m (JhG T) (hr.mono (by decide)) T.Jao.b .nil JG rfl) (@Ja _ _ _ _ _ (@JA _ _ _ _ _ _ _ _ _ (@Jcx _) rfl T.JaY PyProof.Rows.boot_sorted (@Ja _ _ _ _ _ (@Jm _ _ _ _ _ _ _ _ (@Jrm _) (@pv _ 4 _ _ rfl (.inl rfl) rfl rfl) (@Yv _ _ _ _ (@Ja _ _ _ _ _ (@pv _ 6 _ _ rfl (.inl rfl) rfl rfl) (@Jd _) rfl))) (@Jd _) rfl) (by decide) (by decide) rfl rfl) (@Jd _) rfl) rfl) rfl (by decide) rfl rfl) (by intro _; rfl)))))) (@Jj _ _ _ (@Jq _ _ _ _ (@Ja6 _ _ _ _))) (@Jy _)) (@Jj _ _ _ (@Jq _ _ _ _ (@Jo _ _ _ _ _ _ _ _ _ _ _ _ _ _ _ T.JfL (Jm5 T) (hr.mono (by decide)) JG (@Ja _ _ _ _ _ (@pv _ 2 _ _ rfl (.inl rfl) rfl rfl) (@Ja _ _ _ _ _ (@pv _ 6 _ _ rfl (.inl rfl) rfl rfl) (@Ja _ _ _ _ _ (@pv _ 1 _ _ rfl (.inl rfl) rfl rfl) (@Ja _ _ _ _ _ (@pv _ 12 _ _ rfl (.inl rfl) rfl rfl) (@Ja _ _ _ _ _ (@YX _ _ _ _ _ (@Jd _)) (@Jd _) rfl) rfl) rfl) rfl) rfl) rfl (by decide) rfl rfl)))))))))))))))))))))),?_⟩
  try dsimp only [cxK,Ji0]
  refine ⟨_,rfl,a,ns,0,rfl,hS,by decide,fun t ps zs gs H1 e1 G=>?_⟩;refine fun h dx nx ndx hne=>Jry nx ndx fun d1 d2 H2 e2 n1 n2 A2=>⟨rfl,?_⟩
  have nd1:H d1=none:=e1.free n1;have nd2:H d2=none:=e1.free n2;obtain ⟨dh,hh⟩:=A2.hi;refine ⟨_,rfl,h,dh,_,rfl,hh,rfl,?_⟩;have G2:=G.same e2;obtain ⟨pn,pl,pg,g1,g2,g3,g4,g5⟩:=(G2).at_;refine ⟨_,rfl,t,_,_,.ref pn,rfl,rfl,JQ.of g1,rfl,pn,_,rfl,.inl (Jz.of g2),fun l1 n1=>?_⟩;have f2:=Ji.upd (o:=.lst (ps.map V.str)) n1;refine ⟨_,rfl,t,_,_,.ref pl,rfl,rfl,JQ.of (f2 _ _ g1),rfl,pl,_,rfl,.inl (Jz.of (f2 _ _ g3)),fun l2 n2=>?_⟩;have f3:=f2.trans (Ji.upd (o:=.lst (zs.map (·.1))) n2);refine ⟨_,rfl,t,_,_,.ref pg,rfl,rfl,JQ.of (f3 _ _ g1),rfl,pg,_,rfl,.inl (Jz.of (f3 _ _ g5)),fun l3 n3=>?_⟩;have f4:=f3.trans (Ji.upd (o:=.lst (gs.map V.str)) n3);refine fun b dx nx ndx hne=>Jqm f4 (((Ji.upd n2).trans (Ji.upd n3)) _ _ Jg) ((Ji.upd n3) _ _ Jg) Jg (Jar g4 f4) (G2).good nx ndx fun ps' zs' gs' H3 e3 B pp ps3 zp zs3 gp gs3=>⟨rfl,?_⟩
  clear hne f4 f3 f2 g1 g2 g3 g4 g5 n1 n2 n3 nx ndx pn pl pg l1 l2 l3 dx;have hill:J1 "hill" = true:=by decide +kernel
  have A3:=A2.same e3;refine ⟨h,d1,d2, "hill",.ref b,[],[],rfl,YH hill,A3,fun H' _=>⟨(fun h=>by rw [hill] at h; cases h),(fun _ h=>nomatch h),fun _ _ h=>absurd h (by decide)⟩,fun _ _ _ H4 bt A4=>?_⟩;have A4:Zl T H4 h d1 d2 [(.inr "hill",.ref b)] []:=A4;have e04:Ji H H4:=fun x u q=>bt _ _ (Jw q nd1) (((e1.trans e2).trans e3) _ _ q)
  have B4:=bt.bdD A3.h1 B;have gg4:GG K H4 t ps zs gs ps' zs' gs':=⟨bt.grD A3.h1 (G2.same e3),pp,zp,gp,zs3,B.G⟩
  have J4:HB1 T H4 h d1 d2 b [(.inr "hill",.ref b)] [] [] ps' zs' gs':=⟨A4,ZC rfl,fun y hy=>by rw [ZD (fun z=>hy (Sum.inr.inj z).symm)]; rfl,B4,rfl,Nat.zero_le _⟩
  clear A4 A3 A2 bt;refine ⟨fun σ1 H5=>∃ k:Nat,(k=0∨k=1∨k=20)∧Ji H4 H5∧σ1=[some (.ref a),some (.ref t),some (.ref h),some (.int (k:Int)),none,none,none,none,none,none,none,none,none,none,none],?_,?_⟩
  ·refine ⟨by show 4≤sizeLine; decide,fun l nl=>?_⟩;obtain ⟨k,hk,hk2⟩:∃ k:Nat,Z8 [V.int 0,V.int 1,V.int 1,V.int 20] (ZS ns 5 % 4)=some (.int (k:Int))∧(k=0∨k=1∨k=20):=by
    have h4:ZS ns 5 % 4=0∨ZS ns 5 % 4=1∨ZS ns 5 % 4=2∨ZS ns 5 % 4=3:=by omega
    rcases h4 with h4 | h4 | h4 | h4 <;> rw [h4]
    ·exact ⟨0,rfl,.inl rfl⟩
    ·exact ⟨1,rfl,.inr (.inl rfl)⟩
    ·exact ⟨1,rfl,.inr (.inl rfl)⟩
    ·exact ⟨20,rfl,.inr (.inr rfl)⟩
   exact ⟨_,rfl,a,ns,5,rfl,(e04.trans (Ji.upd nl)).seq hS,by decide,_,_,rfl,rfl,(by show (0:Int) < 4; decide),l,_,_,.int (k:Int),rfl,rfl,Jz.of Jg,hk,k,hk2,Ji.upd nl,rfl⟩
  rintro σ1 H5 ⟨k,hk,e5,rfl⟩;refine ⟨fun σ1 H6=>∃ (lp:Addr) (plays:List Str),Ji H5 H6∧H6 lp=some (.lst (plays.map V.str))∧plays.length≤20∧(∀ y∈plays,J1 y=true)∧plays.Nodup∧σ1=[some (.ref a),some (.ref t),some (.ref h),some (.int (k:Int)),some (.ref lp),none,none,none,none,none,none,none,none,none,none],?_,?_⟩
  ·refine ⟨_,rfl,(k:Int),rfl,by omega,by omega,fun D hD=>?_⟩;rw [Int.toNat_natCast];refine Jht (n:=k) (fun i ys H6=>Ji H5 H6∧H6 D=some (.lst ys)∧ys=((List.range i).map JlE).map V.str) rfl ⟨Ji.upd hD,Jg,rfl⟩ (fun i ys H6 z=>z.2.1) ?_ ?_
   ·rintro i ys H6 hi ⟨e6,hy,rfl⟩;have ei:(0:Int) + (i:Int)=(i:Int):=by omega
    refine tcT ?_;have hat:Z8 (Str.ofString "abcdefghijklmnopqrst").cps.toList (0 + (i:Int))=some ((Str.ofString "abcdefghijklmnopqrst").cps.toList.getD i 0):=by
     rw [ei];have hlen:(Str.ofString "abcdefghijklmnopqrst").cps.toList.length=20:=by decide +kernel
     refine Y0 ?_;rw [List.getD_eq_getElem?_getD,List.getElem?_eq_getElem (by omega)];rfl
    refine ⟨_,rfl,_,_,_,rfl,rfl,by decide +kernel,hat,_,_,rfl,rfl,by show 3 + 1≤sizeLine; decide,hy,?_,fun x u q=>?_,Jg,?_⟩
    ·rw [List.length_map,List.length_map,List.length_range]; omega
    ·rw [Jt (Jw q hD)]; exact e6 _ _ q
    ·rw [List.range_succ,List.map_append,List.map_append]; rfl
   ·rintro ys H6 ⟨e6,hy,rfl⟩;refine ⟨D,(List.range k).map JlE,e6,hy,by rw [List.length_map,List.length_range]; omega,fun y hy=>?_,?_,rfl⟩
    ·obtain ⟨j,hj,rfl⟩:=List.mem_map.mp hy;exact Jpn.1 j (by have:=List.mem_range.mp hj; omega)
    ·have hsub:(List.range k).Sublist (List.range 20):=List.range_sublist.mpr (by omega);exact (hsub.map JlE).nodup Jpn.2
  rintro σ1 H6 ⟨lp0,plays0,e6,hlp0,hll0,hgd0,hnd0,rfl⟩;refine ⟨fun σ1 H7=>∃ (lp:Addr) (plays:List Str),LG T H H7 h d1 d2 b t lp [(.inr "hill",.ref b)] [] plays [] ps zs gs ps' zs' gs'∧σ1=[some (.ref a),some (.ref t),some (.ref h),some (.int (k:Int)),some (.ref lp),none,none,none,none,none,none,none,none,none,none],?_,?_⟩
  ·have e46:=e5.trans e6;refine ⟨_,rfl,rfl,_,rfl,YM (fun _=>⟨by show 1≤sizeLine; decide,fun l nl=>?_⟩) (fun _=>⟨lp0,plays0,⟨e04.trans e46,J4.same e46,gg4.same e46,hlp0,hll0,hgd0,hnd0⟩,rfl⟩)⟩;have e47:=e46.trans (Ji.upd (o:=.lst [.str "sea"]) nl);exact ⟨l,["sea"],⟨e04.trans e47,J4.same e47,gg4.same e47,Jg,by decide,fun y hy=>by rw [List.mem_singleton.mp hy]; decide +kernel,by simp⟩,rfl⟩
  clear e6 hlp0 hll0 hgd0 hnd0 lp0 plays0 e5;rintro σ1 H7 ⟨lp,plays,L7,rfl⟩;have p1:=L7.g.G.good.p1;obtain ⟨p0,hp0⟩:∃ p0,ps[0]?=some p0:=⟨_,List.getElem?_eq_getElem (by omega)⟩
  have hpm:=List.mem_of_getElem? hp0;have hpm':p0∈ps':=L7.g.pp.mem_iff.mpr hpm;have tp0:=YH (L7.g.G.good.p3 p0 hpm);refine ⟨_,rfl,lp,rfl,⟨_,Jz.of L7.lp⟩,?_⟩;refine Jhm (xs:=plays.map V.str) (fun i σ H8=>∃ (gm:List (JK×V)) (v5:Option V),LG T H H8 h d1 d2 b t lp [(.inr "hill",.ref b)] gm plays (plays.take i) ps zs gs ps' zs' gs'∧σ=[some (.ref a),some (.ref t),some (.ref h),some (.int (k:Int)),some (.ref lp),v5,none,none,none,none,none,none,none,none,none]) ⟨[],none,L7,rfl⟩ (fun i σ H8 _ h=>by obtain ⟨_,_,h,_⟩:=h; exact Jz.of h.lp) ?_ ?_
  ·rintro i xv σ H8 hx ⟨gm,v5,L8,rfl⟩;rw [List.getElem?_map] at hx;obtain ⟨y,hy,rfl⟩:=Option.map_eq_some_iff.mp hx;have hi:i < plays.length:=(List.getElem?_eq_some_iff.mp hy).1;have gy:=L8.lgd y (List.mem_of_getElem? hy);obtain ⟨pn,pl,pg,g1,g2,g3,g4,g5⟩:=L8.g.G.at_;obtain ⟨dh,hh⟩:=L8.J.A.hi;have hlen:=L8.J.len;have ll:=L8.ll;rw [List.length_take] at hlen;have hyn:y∉plays.take i:=by
    intro hm;have nd:(plays.take i ++ plays.drop i).Nodup:=by rw [List.take_append_drop]; exact L8.lnd
    exact (List.nodup_append.mp nd).2.2 y hm y (List.mem_of_getElem? (i:=0) (by rw [List.getElem?_drop]; exact hy)) rfl
   have hvn:=(JiD (z:=y) L8.J.kg).mpr hyn;refine ⟨_,rfl,h,dh,_,rfl,hh,rfl,_,rfl,_,rfl,t,_,_,.ref pn,rfl,rfl,JQ.of g1,rfl,pn,_,_,.str p0,rfl,rfl,Jz.of g2,Y0 (j:=0) (by rw [List.getElem?_map,hp0]; rfl),h,d1,d2,y, "hill",p0, "south",3,2,1,_,gm,rfl,YH gy,YH hill,tp0,Jje false,L8.J.A,fun H' _=>⟨(fun h=>by rw [gy] at h; cases h),(fun _ h=>by rw [hvn] at h; cases h),fun _ _ h=>by omega⟩,(fun _ hb=>by rw [L8.J.kb] at hb; cases hb),fun _ v hv=>⟨b,ps',zs',gs',by rw [L8.J.kb] at hv; exact (Option.some.inj hv).symm,L8.J.B,fun H' _=>JqT T ⟨hpm',⟨by decide,by decide⟩,⟨by decide,by decide,by decide⟩,JiG false⟩,fun _ _ _ r hr' G a' H9 _ _ _ _ _ _ bt A9 _=>?_⟩⟩;refine ⟨_,_,L8.dict nd2 bt A9 ?_ ?_,rfl⟩
   ·rw [List.map_append,L8.J.kg,List.take_succ,hy,List.map_append]; rfl
   ·rw [List.length_take]; omega
  ·rintro σ H8 ⟨gm,v5,L8,rfl⟩;rw [List.length_map,List.take_length] at L8;have S8:=L8.sm;refine ⟨fun σ1 H9=>∃ z,Ji H8 H9∧Yo z∧(z∈Ja5↔J1 z=false)∧σ1=[some (.ref a),some (.ref t),some (.ref h),some (.int (k:Int)),some (.ref lp),v5,some (.str z),none,none,none,none,none,none,none,none],⟨_,rfl,a,ns,6,rfl,S8.seq hS,by decide,_,rfl,_,lp,plays,rfl,Jz.of L8.lp,L8.lgd,fun z H9 e9 tz hz=>⟨z,e9,tz,hz,rfl⟩⟩,?_⟩;rintro σ1 H9 ⟨z,e9,tz,hz,rfl⟩;refine ⟨_,rfl,a,ns,7,rfl,(S8.trans e9).seq hS,by decide,?_⟩;refine ⟨fun σ1 H10=>∃ bz,Ji H8 H10∧Yo bz∧σ1=[some (.ref a),some (.ref t),some (.ref h),some (.int (k:Int)),some (.ref lp),v5,some (.str z),some (.int (ZS ns 7)),some (.str bz),none,none,none,none,none,none],?_,?_⟩
   ·refine ⟨by show 4≤sizeLine; decide,fun l1 n1=>?_⟩;obtain ⟨y,hy,hm⟩:=Ji8 (ps:=["hil", "sea", "", "Hill"]) (by decide) (ZS ns 7 / 6);have ty:Yo y:=by
     have h:(["hil", "sea", "", "Hill"]:List Str).all Jnj=true:=by decide +kernel
     exact JeA (List.all_eq_true.mp h y hm)
    refine ⟨_,rfl,_,_,rfl,rfl,⟨by decide,by decide⟩,_,_,rfl,rfl,(by show (0:Int) < 4; decide),l1,_,_,.str y,rfl,rfl,Jz.of Jg,hy,by show 6≤sizeLine; decide,fun l2 n2=>?_⟩;obtain ⟨bz,hbz,hm2⟩:=Ji8 (ps:=["hill", "hill", "hill", "hill", "hill",y]) (by show 1≤6; decide) (ZS ns 7);have tb:Yo bz:=by
     simp only [List.mem_cons,List.not_mem_nil,or_false] at hm2;rcases hm2 with rfl | rfl | rfl | rfl | rfl | rfl
     all_goals first | exact YH hill | exact ty
    exact ⟨_,rfl,_,_,rfl,rfl,(by show (0:Int) < 6; decide),l2,_,_,.str bz,rfl,rfl,Jz.of Jg,hbz,bz,(e9.trans (Ji.upd n1)).trans (Ji.upd n2),tb,rfl⟩
   rintro σ1 H10 ⟨bz,e10,tb,rfl⟩;refine ⟨_,rfl,a,ns,10,rfl,(S8.trans e10).seq hS,by decide,_,20,rfl,by decide,by decide,fun n H11 e11=>?_⟩;have e11:=e10.trans e11;refine ⟨_,rfl,a,ns,11,rfl,(S8.trans e11).seq hS,by decide,_,rfl,_,_,rfl,rfl,_,_,rfl,_,_,rfl,_,_,rfl,Jt4.1,Jt4.2,fun so H12 e12=>?_⟩;have e12:=e11.trans e12;refine ⟨fun σ1 H13=>∃ p,Ji H8 H13∧Yo p∧σ1=[some (.ref a),some (.ref t),some (.ref h),some (.int (k:Int)),some (.ref lp),v5,some (.str z),some (.int (ZS ns 7)),some (.str bz),some (.int n),some (.int so),some (.str p),none,none,none],⟨_,rfl,_,rfl,a,ns,8,rfl,(S8.trans e12).seq hS,by decide,t,_,ps,zs,gs,rfl,L8.g.G.same e12,fun p H13 tp e13=>⟨p,e12.trans e13,tp,rfl⟩⟩,?_⟩;rintro σ1 H13 ⟨p,e13,tp,rfl⟩;refine ⟨fun σ1 H14=>∃ (tn1:Addr) (m:Int),Ji H8 H14∧H14 tn1=some (.tup [.str p,.int m,.int n,.int so])∧σ1=[some (.ref a),some (.ref t),some (.ref h),some (.int (k:Int)),some (.ref lp),v5,some (.str z),some (.int (ZS ns 7)),some (.str bz),some (.int n),some (.int so),some (.str p),some (.ref tn1),none,none],⟨_,rfl,_,rfl,a,ns,9,rfl,(S8.trans e13).seq hS,by decide,_,30,rfl,by decide,by decide,fun m H14 e14=>⟨_,rfl,_,rfl,by show 4≤sizeLine; decide,fun tn ntn=>⟨tn,m,(e13.trans e14).trans (Ji.upd ntn),Jg,rfl⟩⟩⟩,?_⟩;rintro σ1 H14 ⟨tn1,m,e14,htn1,rfl⟩;refine ⟨fun σ1 H15=>∃ (tn:Addr) (x:Str),Ji H8 H15∧Yo x∧H15 tn=some (.tup [.str p,.int m,.int n,.int so,.str x,.non,.str ""])∧σ1=[some (.ref a),some (.ref t),some (.ref h),some (.int (k:Int)),some (.ref lp),v5,some (.str z),some (.int (ZS ns 7)),some (.str bz),some (.int n),some (.int so),some (.str p),some (.ref tn),none,none],?_,?_⟩
   ·refine ⟨_,rfl,_,rfl,a,ns,12,rfl,(S8.trans e14).seq hS,by decide,_,rfl,fun x H15 tx e15=>⟨by show 3≤sizeLine; decide,fun t3 n3=>?_⟩⟩;have s3:=e15.trans (Ji.upd (o:=.tup [.str x,.non,.str ""]) n3);exact ⟨tn1,t3,_,_,rfl,rfl,JQ.of (s3 _ _ htn1),JQ.of Jg,(by simp),(by show 4 + 3≤sizeLine; decide),(fun h=>by simp at h),fun _ tn ntn=>⟨tn,x,(e14.trans s3).trans (Ji.upd ntn),tx,Jg,rfl⟩⟩
   rintro σ1 H15 ⟨tn,x,e15,tx,htn,rfl⟩;have L15:=L8.same e15;refine ⟨_,rfl,_,rfl,_,rfl,_,rfl,_,rfl,t,lp,tn,z,bz,p,x,m,n,so,plays,ps,zs,gs,rfl,L15.g.G,Jz.of L15.lp,L15.ll,htn,hz,fun H17 e17=>?_⟩;have L17:=L15.same e17;have htn17:=e17 _ _ htn;have bp:Ze ps' plays z bz p m n so x=Ze ps plays z bz p m n so x:=Jrd L17.g.pp;have kz:∀ {G:Gm},(gm ++ [(Sum.inr z,V.ref G.g)]:List (JK×V)).map (·.1)=(plays ++ [z]).map Sum.inr:=by
    intro G;rw [List.map_append,L17.J.kg,List.map_append]; rfl
   have rbn:=Jvl (ps:=ps) (plays:=plays) (z:=z) (bz:=bz) (p:=p) (m:=m) (n:=n) (s:=so) (x:=x);generalize hbq:Ze ps plays z bz p m n so x=bq at bp rbn;refine ⟨fun σ1 H18=>∃ f,σ1=[some (.ref a),some (.ref t),some (.ref h),some (.int (k:Int)),some (.ref lp),v5,some (.str z),some (.int (ZS ns 7)),some (.str bz),some (.int n),some (.int so),some (.str p),some (.ref tn),some (.str bq),some f]∧((bq ≠ ""∧LG T H H18 h d1 d2 b t lp [(.inr "hill",.ref b)] gm plays plays ps zs gs ps' zs' gs'∧∃ a',f=.ref a'∧H18 a'=some (.tup (rf bq)))∨(bq = ""∧f=.non∧∃ gm',LG T H H18 h d1 d2 b t lp [(.inr "hill",.ref b)] gm' plays (plays ++ [z]) ps zs gs ps' zs' gs'∧Jt9 T H18 h d1 d2 tn [(.inr "hill",.ref b)] gm z ps' zs' gs')),?_,?_⟩
   ·refine ⟨_,rfl,_,rfl,_,rfl,_,rfl,h,d1,d2,b,tn,z,bz,p,x,m,n,so,_,gm,plays,ps',zs',gs',rfl,L17.J,htn17,tz,tb,tp,tx,fun hne a' H18 e18 ha=>?_,fun hgd m0 r hr' G a' H18 g1 g2 g3 g4 g5 g6 bt A18 B18=>?_⟩
    ·rw [bp] at hne ha;exact ⟨.ref a',rfl,.inl ⟨hne,L17.same e18,a',rfl,ha⟩⟩
    ·rw [bp] at hgd;obtain ⟨_,_,hl20⟩:=rbn (by rw [hgd]; decide +kernel) (by rw [hgd]; decide +kernel) (by rw [hgd]; decide +kernel);refine ⟨.non,rfl,.inr ⟨hgd,rfl,_,L17.dict nd2 bt A18 kz (by rw [List.length_append]; show _ + 1≤_; omega),G,a',_,A18,B18,?_,g1,g2,g3⟩⟩;rw [Jmw,g4,show n + so - n=so by omega,Int.toNat_of_nonneg m0,← hr'];exact bt.dict L17.J.A.h2 htn17 (fun _ z=>nomatch z)
   rintro σ1 H18 ⟨f,rfl,hf⟩;refine ⟨fun σ1 H19=>∃ (tn2:Addr) (gm':List (JK×V)),σ1=[some (.ref a),some (.ref t),some (.ref h),some (.int (k:Int)),some (.ref lp),v5,some (.str z),some (.int (ZS ns 7)),some (.str bz),some (.int n),some (.int so),some (.str p),some (.ref tn2),some (.str bq),some .non]∧LG T H H19 h d1 d2 b t lp [(.inr "hill",.ref b)] gm' plays (plays ++ [z]) ps zs gs ps' zs' gs'∧z∉plays∧Jt9 T H19 h d1 d2 tn2 [(.inr "hill",.ref b)] gm z ps' zs' gs',?_,?_⟩
   ·rcases hf with ⟨hne,L18,a',rfl,ha⟩ | ⟨hgd,rfl,gm',L18,hB⟩
    ·have hh18:=L18.J.A.hi;obtain ⟨dh,hh⟩:=hh18;refine ⟨_,rfl,rfl,_,rfl,Zw (by rw [Jg1,Bool.not_eq_true',beq_eq_false_iff_ne]; exact hne) ?_⟩;refine ⟨_,rfl,_,rfl,by show 2≤sizeLine; decide,fun t1 n1=>?_⟩;have s1:=Ji.upd (o:=.tup [.str "refused",.str bq]) n1;refine ⟨.ref a',.ref t1,rfl,⟨_,rfl,YG ?_⟩,.inr ⟨a',t1,_,rfl,rfl,JQ.of (s1 _ _ ha),.inr (JQ.of Jg),by show 2≤1000; decide,rfl⟩⟩;generalize upd H18 t1 (.tup [.str "refused",.str bq])=H19 at s1;have L19:=L18.same s1;have ll:=L19.ll;refine ⟨_,rfl,h,dh,_,rfl,s1 _ _ hh,rfl,h,d1,d2,_,gm,plays,rfl,L19.J.A,L19.J.kg,by omega,fun t2 ss2 H20 e20 sp2 so2 ht2=>?_⟩;have L20:=L19.same e20;refine ⟨_,rfl,lp,plays,rfl,Jz.of L20.lp,by omega,fun p3 ss3 n3 sp3 so3=>?_⟩;obtain rfl:ss3=ss2:=Jg7 (fun _ _=>JnH) (sp3.trans sp2.symm) so3 so2;have s3:=Ji.upd (o:=.lst (ss3.map V.str)) n3;refine ⟨.ref t2,.ref p3,rfl,⟨_,rfl,YG ?_⟩,.inr ⟨t2,p3,_,rfl,rfl,JQ.of (s3 _ _ ht2),.inl (Jz.of Jg),by rw [List.length_map,sp3.length_eq]; omega,Jle _⟩⟩;have L21:=L20.same s3;generalize upd H20 p3 (.lst (ss3.map V.str))=H21 at L21;refine ⟨_,rfl,by show 3≤sizeLine; decide,fun l4 n4=>⟨l4,(["BadName", "Taken", "Full"]:List Str).map V.str,rfl,.inl (Jz.of Jg),rfl,Jaq _,?_⟩⟩;rw [if_neg (by decide),Ja2];have L22:=L21.same (Ji.upd (o:=.lst [.str "BadName",.str "Taken",.str "Full"]) n4);generalize upd H21 l4 (.lst [.str "BadName",.str "Taken",.str "Full"])=H22 at L22;by_cases hin:bq∈(["BadName", "Taken", "Full"]:List Str)
     ·rw [decide_eq_true hin];exact ⟨_,rfl,Y1 (q _)⟩
     ·rw [decide_eq_false hin];refine ⟨_,rfl,YG ?_⟩;obtain ⟨gz,zn,hl20⟩:=rbn (fun e=>hin (by rw [e]; decide +kernel)) (fun e=>hin (by rw [e]; decide +kernel)) (fun e=>hin (by rw [e]; decide +kernel));obtain ⟨pn,pl,pg,g1,g2,g3,g4,g5⟩:=L22.g.G.at_;refine ⟨_,rfl,t,_,_,.ref pn,rfl,rfl,JQ.of g1,rfl,pn,_,_,.str p0,rfl,rfl,Jz.of g2,Y0 (j:=0) (by rw [List.getElem?_map,hp0]; rfl),by show 7≤sizeLine; decide,fun tn2 ntn2=>?_⟩;have s23:=Ji.upd (o:=.tup [.str p0,.int 2,.int 1,.int 2,.str "north",.non,.str ""]) ntn2;have htn2:upd H22 tn2 (.tup [.str p0,.int 2,.int 1,.int 2,.str "north",.non,.str ""]) tn2=some (.tup [.str p0,.int 2,.int 1,.int 2,.str "north",.non,.str ""]):=Jg;generalize upd H22 tn2 (.tup [.str p0,.int 2,.int 1,.int 2,.str "north",.non,.str ""])=H23 at s23 htn2;have L23:=L22.same s23;have gd:Ze ps' plays z "hill" p0 2 1 2 "north" = "":=rb7 gz zn hl20 rfl hpm' ⟨⟨by decide,by decide⟩,by decide,by decide,by decide⟩ (by decide +kernel);refine ⟨_,rfl,_,rfl,_,rfl,h,d1,d2,b,tn2,z, "hill",p0, "north",2,1,2,_,gm,plays,ps',zs',gs',rfl,L23.J,htn2,tz,YH hill,tp0,Jje true,fun hne=>absurd gd hne,fun _ m0 r hr' G a' H24 g1 g2 g3 g4 g5 g6 bt A24 B24=>?_⟩;refine ⟨tn2,_,rfl,L23.dict nd2 bt A24 kz (by rw [List.length_append]; show _ + 1≤_; omega),zn,G,a',_,A24,B24,?_,g1,g2,g3⟩;rw [Jmw,g4,← hr'];exact bt.dict L23.J.A.h2 htn2 (fun _ z=>nomatch z)
    ·obtain ⟨_,zn,_⟩:=rbn (by rw [hgd]; decide +kernel) (by rw [hgd]; decide +kernel) (by rw [hgd]; decide +kernel);exact ⟨_,rfl,rfl,_,rfl,YQ (by rw [hgd]; decide +kernel) ⟨tn,gm',rfl,L18,zn,hB⟩⟩
   rintro σ1 H19 ⟨tn2,gm',rfl,L19,zn,G,a',y,A19,B19,htn2,g1,g2,g3⟩;obtain ⟨dh,hh⟩:=A19.hi;have ll:=L19.ll;have hvn:=(JiD (z:=z) L8.J.kg).mpr zn;refine ⟨_,rfl,_,rfl,YG ?_⟩;refine ⟨_,rfl,h,dh,_,rfl,hh,rfl,h,d1,d2,_,_,plays ++ [z],rfl,A19,kz,by rw [List.length_append]; show _ + 1 < _; omega,fun t1 ss1 H20 e20 sp1 so1 ht1=>?_⟩;refine ⟨_,rfl,_,rfl,by show 1≤sizeLine; decide,fun l nl=>?_⟩;have s21:=Ji.upd (o:=.lst [.str z]) nl;refine ⟨lp,l,_,_,rfl,rfl,s21 _ _ (e20 _ _ L19.lp),Jg,by rw [List.length_map]; show _ + 1≤_; omega,fun l2 nl2=>?_⟩;have s22:=Ji.upd (o:=.lst (plays.map V.str ++ [.str z])) nl2;refine ⟨l2,plays ++ [z],rfl,Jz.of (by rw [Jg,List.map_append]; rfl),by rw [List.length_append]; show _ + 1 < _; omega,fun p3 ss3 n3 sp3 so3=>?_⟩;obtain rfl:ss3=ss1:=Jg7 (fun _ _=>JnH) (sp3.trans sp1.symm) so3 so1;have s23:=Ji.upd (o:=.lst (ss3.map V.str)) n3;have e1923:=((e20.trans s21).trans s22).trans s23;refine ⟨.ref t1,.ref p3,rfl,⟨_,rfl,YG ?_⟩,.inr ⟨t1,p3,_,rfl,rfl,JQ.of (((s21.trans s22).trans s23) _ _ ht1),.inl (Jz.of Jg),by rw [List.length_map,sp3.length_eq,List.length_append]; show _ + 1≤_; omega,Jle _⟩⟩;refine ⟨_,rfl,_,rfl,_,rfl,_,rfl,by show 0≤sizeLine; decide,fun te nte=>?_⟩;have e24:=e1923.trans (Ji.upd (o:=.tup []) nte);have gg24:=L19.g.same e24;rw [← g1,← g2,← g3] at gg24;exact ⟨G,h,d1,d2,t,tn2,te,a',z,_,_,y,[],[],[],ps,zs,gs,rfl,tz,A19.same e24,by rw [Jh2 _ _ _ _ hvn,if_pos rfl],B19.same e24,e24 _ _ htn2,gg24,.inr (JQ.of Jg),⟨rfl,fun i a d h=>by simp at h⟩,Nat.zero_le _,(fun d hd=>nomatch hd),fun H' e'=>q _⟩
end
def JqF (K:PySem.W.Frag):Prop:=(JsN K,JsM K,JsK K,JsL K,JsI K,JsJ K)=Jno
theorem Jb {α:Type} {a b:α} (h:some a=some b):a=b:=Option.some.inj h
theorem Jv0 {w:World} {K:PySem.W.Frag} {h:Heap} {mg:Str→Option Value} {fa:Addr} {P:Program} (hS:JqF K) (X:K.In h) (G:h.Ns mainGlobals mg) (hfa:mg "law" = some (.ref fa)) :
  ∃ fd:FuncData,(∀ (s:Shared) (v:Value),BindsTo s fd ⟨[v],[]⟩ [("_law_script",v)])∧∀ base:Heap,K.In base→base.Ns mainGlobals mg→JL P w K mg base YR 15 fa fd ["_law_script"] (Jp1 K):=by
 have hB:JsN K=isB:=congrArg (fun x=>x.1) hS;have hF:JsM K=isF:=congrArg (fun x=>x.2.1) hS;have hN:JsK K=isN:=congrArg (fun x=>x.2.2.1) hS;have hK:JsL K=isK:=congrArg (fun x=>x.2.2.2.1) hS;have hV:JsI K=isV:=congrArg (fun x=>x.2.2.2.2.1) hS;have hT:JsJ K=isT:=congrArg (fun x=>x.2.2.2.2.2) hS;obtain ⟨JaQ,Jcm,Jb7⟩:=mgV X G (Jb (at_ hV 0));obtain ⟨JaP,Jaj,Jae⟩:=mgV X G (Jb (at_ hV 1));obtain ⟨JaT,Jak,Jaf⟩:=mgV X G (Jb (at_ hV 2));obtain ⟨Jaw,Jbz,Jbx⟩:=mgV X G (Jb (at_ hV 3));obtain ⟨JaS,Jco,Jb9⟩:=mgV X G (Jb (at_ hV 4));obtain ⟨Jav,Jby,Jbw⟩:=mgV X G (Jb (at_ hV 5));obtain ⟨JaR,Jcn,Jb8⟩:=mgV X G (Jb (at_ hV 6));have e:=hfa.symm.trans (PySem.W.mg_of X G (Js (Option.some.inj (at_ hB 147))));cases e;let T:Txt K mg:={
  JpC:=Jc K "_wall"
  Jov:=JC K (Jc K "_wall")
  JuX:=⟨Jh (Jb (at_ hF 0)),(Jh (Jb (at_ hF 0))).binds (ps:=["k"]) (fun | _,_,_,_,_,_,[_],_=>rfl),PySem.W.mg_of X G (Js (Jb (at_ hB 0)))⟩
  Jgq:=Jc K "good_name"
  Jfi:=JC K (Jc K "good_name")
  Jdd:=⟨Jh (Jb (at_ hF 1)),(Jh (Jb (at_ hF 1))).binds (ps:=["text"]) (fun | _,_,_,_,_,_,[_],_=>rfl),PySem.W.mg_of X G (Js (Jb (at_ hB 1)))⟩
  Jft:=Jc K "check_hand"
  JdU:=JC K (Jc K "check_hand")
  JcA:=⟨Jh (Jb (at_ hF 2)),(Jh (Jb (at_ hF 2))).binds (ps:=["hand"]) (fun | _,_,_,_,_,_,[_],_=>rfl),PySem.W.mg_of X G (Js (Jb (at_ hB 2)))⟩
  Jl8:=Jc K "other"
  Jkq:=JC K (Jc K "other")
  Jmm:=⟨Jh (Jb (at_ hF 3)),(Jh (Jb (at_ hF 3))).binds (ps:=["hand"]) (fun | _,_,_,_,_,_,[_],_=>rfl),PySem.W.mg_of X G (Js (Jb (at_ hB 3)))⟩
  Jd3:=Jc K "check_up_to"
  JcW:=JC K (Jc K "check_up_to")
  ZY:=⟨Jh (Jb (at_ hF 4)),(Jh (Jb (at_ hF 4))).binds (ps:=["number", "most"]) (fun | _,_,_,_,_,_,[_,_],_=>rfl),PySem.W.mg_of X G (Js (Jb (at_ hB 4)))⟩
  Jd6:=Jc K "check_coins"
  JcZ:=JC K (Jc K "check_coins")
  Jeb:=⟨Jh (Jb (at_ hF 5)),(Jh (Jb (at_ hF 5))).binds (ps:=["north", "south"]) (fun | _,_,_,_,_,_,[_,_],_=>rfl),PySem.W.mg_of X G (Js (Jb (at_ hB 5)))⟩
  JjS:=Jc K "check_bid"
  JiM:=JC K (Jc K "check_bid")
  Jpc:=⟨Jh (Jb (at_ hF 6)),(Jh (Jb (at_ hF 6))).binds (ps:=["named", "coins"]) (fun | _,_,_,_,_,_,[_,_],_=>rfl),PySem.W.mg_of X G (Js (Jb (at_ hB 6)))⟩
  JbM:=Jc K "check_standing"
  Jbi:=JC K (Jc K "check_standing")
  JbO:=⟨Jh (Jb (at_ hF 7)),(Jh (Jb (at_ hF 7))).binds (ps:=["board", "place", "turns", "north", "south", "ribbon"]) (fun | _,_,_,_,_,_,[_,_,_,_,_,_],_=>rfl),PySem.W.mg_of X G (Js (Jb (at_ hB 7)))⟩
  Jmc:=Jc K "ended"
  Jku:=JC K (Jc K "ended")
  Jg6:=⟨Jh (Jb (at_ hF 8)),(Jh (Jb (at_ hF 8))).binds (ps:=["board", "place", "turns"]) (fun | _,_,_,_,_,_,[_,_,_],_=>rfl),PySem.W.mg_of X G (Js (Jb (at_ hB 8)))⟩
  Jlg:=Jc K "coins_of"
  JjP:=JC K (Jc K "coins_of")
  JqJ:=⟨Jh (Jb (at_ hF 9)),(Jh (Jb (at_ hF 9))).binds (ps:=["hand", "north", "south"]) (fun | _,_,_,_,_,_,[_,_,_],_=>rfl),PySem.W.mg_of X G (Js (Jb (at_ hB 9)))⟩
  Jt1:=Jc K "pay"
  JrU:=JC K (Jc K "pay")
  Jwz:=⟨Jh (Jb (at_ hF 10)),(Jh (Jb (at_ hF 10))).binds (ps:=["hand", "price", "north", "south", "ribbon"]) (fun | _,_,_,_,_,_,[_,_,_,_,_],_=>rfl),PySem.W.mg_of X G (Js (Jb (at_ hB 10)))⟩
  Jox:=Jc K "settle"
  JmF:=JC K (Jc K "settle")
  JtG:=⟨Jh (Jb (at_ hF 11)),(Jh (Jb (at_ hF 11))).binds (ps:=["north", "south", "ribbon", "bid", "answer"]) (fun | _,_,_,_,_,_,[_,_,_,_,_],_=>rfl),PySem.W.mg_of X G (Js (Jb (at_ hB 11)))⟩
  Jfr:=Jc K "turn_begin"
  JdS:=JC K (Jc K "turn_begin")
  JfJ:=⟨Jh (Jb (at_ hF 25)),(Jh (Jb (at_ hF 25))).binds (ps:=["board", "place", "turns", "north", "south", "ribbon"]) (fun | _,_,_,_,_,_,[_,_,_,_,_,_],_=>rfl),PySem.W.mg_of X G (Js (Jb (at_ hB 38)))⟩
  Jgs:=Jc K "check_new"
  Jfk:=JC K (Jc K "check_new")
  Jdf:=⟨Jh (Jb (at_ hF 40)),(Jh (Jb (at_ hF 40))).binds (ps:=["name", "kept", "most"]) (fun | _,_,_,_,_,_,[_,_,_],_=>rfl),PySem.W.mg_of X G (Js (Jb (at_ hB 67)))⟩
  Jgr:=Jc K "find_kept"
  Jfj:=JC K (Jc K "find_kept")
  Jde:=⟨Jh (Jb (at_ hF 41)),(Jh (Jb (at_ hF 41))).binds (ps:=["name", "kept"]) (fun | _,_,_,_,_,_,[_,_],_=>rfl),PySem.W.mg_of X G (Js (Jb (at_ hB 68)))⟩
  Jbk:=Jc K "check_each_once"
  Ja3:=JC K (Jc K "check_each_once")
  ZG:=⟨Jh (Jb (at_ hF 63)),(Jh (Jb (at_ hF 63))).binds (ps:=["things"]) (fun | _,_,_,_,_,_,[_],_=>rfl),PySem.W.mg_of X G (Js (Jb (at_ hB 111)))⟩
  Jd7:=Jc K "check_among"
  Jc0:=JC K (Jc K "check_among")
  ZZ:=⟨Jh (Jb (at_ hF 64)),(Jh (Jb (at_ hF 64))).binds (ps:=["place", "places"]) (fun | _,_,_,_,_,_,[_,_],_=>rfl),PySem.W.mg_of X G (Js (Jb (at_ hB 112)))⟩
  Jc2:=Jc K "check_places"
  Jcp:=JC K (Jc K "check_places")
  Jc6:=⟨Jh (Jb (at_ hF 65)),(Jh (Jb (at_ hF 65))).binds (ps:=["places"]) (fun | _,_,_,_,_,_,[_],_=>rfl),PySem.W.mg_of X G (Js (Jb (at_ hB 113)))⟩
  Jd4:=Jc K "check_lanes"
  JcX:=JC K (Jc K "check_lanes")
  Jd9:=⟨Jh (Jb (at_ hF 66)),(Jh (Jb (at_ hF 66))).binds (ps:=["lanes", "places"]) (fun | _,_,_,_,_,_,[_,_],_=>rfl),PySem.W.mg_of X G (Js (Jb (at_ hB 114)))⟩
  Jd5:=Jc K "check_goals"
  JcY:=JC K (Jc K "check_goals")
  Jea:=⟨Jh (Jb (at_ hF 67)),(Jh (Jb (at_ hF 67))).binds (ps:=["goals", "places"]) (fun | _,_,_,_,_,_,[_,_],_=>rfl),PySem.W.mg_of X G (Js (Jb (at_ hB 115)))⟩
  Jts:=Jc K "_law_at"
  Jqq:=JC K (Jc K "_law_at")
  JbP:=⟨Jh (Jb (at_ hF 72)),(Jh (Jb (at_ hF 72))).binds (ps:=["_law_script", "_law_k"]) (fun | _,_,_,_,_,_,[_,_],_=>rfl),PySem.W.mg_of X G (Js (Jb (at_ hB 124)))⟩
  Jqt:=Jc K "_law_row"
  Jor:=JC K (Jc K "_law_row")
  Jly:=⟨Jh (Jb (at_ hF 73)),(Jh (Jb (at_ hF 73))).binds (ps:=["_law_cell", "_law_many", "_law_base"]) (fun | _,_,_,_,_,_,[_,_,_],_=>rfl),PySem.W.mg_of X G (Js (Jb (at_ hB 125)))⟩
  Jl5:=Jc K "_law_whole"
  Jkn:=JC K (Jc K "_law_whole")
  Jmj:=⟨Jh (Jb (at_ hF 74)),(Jh (Jb (at_ hF 74))).binds (ps:=["_law_found"]) (fun | _,_,_,_,_,_,[_],_=>rfl),PySem.W.mg_of X G (Js (Jb (at_ hB 126)))⟩
  Jl9:=Jc K "_law_names"
  Jkr:=JC K (Jc K "_law_names")
  Jjt:=⟨Jh (Jb (at_ hF 75)),(Jh (Jb (at_ hF 75))).binds (ps:=["_law_cell", "_law_many"]) (fun | _,_,_,_,_,_,[_,_],_=>rfl),PySem.W.mg_of X G (Js (Jb (at_ hB 127)))⟩
  Jl7:=Jc K "_law_pairs"
  Jkp:=JC K (Jc K "_law_pairs")
  Jml:=⟨Jh (Jb (at_ hF 76)),(Jh (Jb (at_ hF 76))).binds (ps:=["_law_cell", "_law_draw", "_law_size"]) (fun | _,_,_,_,_,_,[_,_,_],_=>rfl),PySem.W.mg_of X G (Js (Jb (at_ hB 128)))⟩
  Jmb:=Jc K "_law_goals"
  Jkt:=JC K (Jc K "_law_goals")
  Jmn:=⟨Jh (Jb (at_ hF 77)),(Jh (Jb (at_ hF 77))).binds (ps:=["_law_cell", "_law_kind", "_law_size"]) (fun | _,_,_,_,_,_,[_,_,_],_=>rfl),PySem.W.mg_of X G (Js (Jb (at_ hB 129)))⟩
  Jkx:=Jc K "_law_ground"
  JiL:=JC K (Jc K "_law_ground")
  JkE:=⟨Jh (Jb (at_ hF 78)),(Jh (Jb (at_ hF 78))).binds (ps:=["_law_script", "_law_at_here"]) (fun | _,_,_,_,_,_,[_,_],_=>rfl),PySem.W.mg_of X G (Js (Jb (at_ hB 130)))⟩
  Jow:=Jc K "_law_ways"
  Jl2:=JC K (Jc K "_law_ways")
  JoP:=⟨Jh (Jb (at_ hF 79)),(Jh (Jb (at_ hF 79))).binds (ps:=["_law_ground_here", "_law_place"]) (fun | _,_,_,_,_,_,[_,_],_=>rfl),PySem.W.mg_of X G (Js (Jb (at_ hB 131)))⟩
  Jqv:=Jc K "_law_foe"
  Jot:=JC K (Jc K "_law_foe")
  JqI:=⟨Jh (Jb (at_ hF 80)),(Jh (Jb (at_ hF 80))).binds (ps:=["_law_hand_here"]) (fun | _,_,_,_,_,_,[_],_=>rfl),PySem.W.mg_of X G (Js (Jb (at_ hB 132)))⟩
  Joy:=Jc K "_law_hand"
  Jl3:=JC K (Jc K "_law_hand")
  JoQ:=⟨Jh (Jb (at_ hF 81)),(Jh (Jb (at_ hF 81))).binds (ps:=["_law_cell"]) (fun | _,_,_,_,_,_,[_],_=>rfl),PySem.W.mg_of X G (Js (Jb (at_ hB 133)))⟩
  Jqr:=Jc K "_law_won"
  Jop:=JC K (Jc K "_law_won")
  Jnq:=⟨Jh (Jb (at_ hF 82)),(Jh (Jb (at_ hF 82))).binds (ps:=["_law_ground_here", "_law_place", "_law_left"]) (fun | _,_,_,_,_,_,[_,_,_],_=>rfl),PySem.W.mg_of X G (Js (Jb (at_ hB 134)))⟩
  Jl6:=Jc K "_law_which"
  Jko:=JC K (Jc K "_law_which")
  Jmk:=⟨Jh (Jb (at_ hF 83)),(Jh (Jb (at_ hF 83))).binds (ps:=["_law_marks"]) (fun | _,_,_,_,_,_,[_],_=>rfl),PySem.W.mg_of X G (Js (Jb (at_ hB 135)))⟩
  Jma:=Jc K "_law_holds"
  Jks:=JC K (Jc K "_law_holds")
  Jg5:=⟨Jh (Jb (at_ hF 84)),(Jh (Jb (at_ hF 84))).binds (ps:=["_law_found", "_law_due_here"]) (fun | _,_,_,_,_,_,[_,_],_=>rfl),PySem.W.mg_of X G (Js (Jb (at_ hB 136)))⟩
  Joz:=Jc K "_law_flat"
  Jl4:=JC K (Jc K "_law_flat")
  JdH:=⟨Jh (Jb (at_ hF 85)),(Jh (Jb (at_ hF 85))).binds (ps:=["_law_found", "_law_due_here"]) (fun | _,_,_,_,_,_,[_,_],_=>rfl),PySem.W.mg_of X G (Js (Jb (at_ hB 137)))⟩
  Jmd:=Jc K "_law_deeds"
  Jkv:=JC K (Jc K "_law_deeds")
  Jmo:=⟨Jh (Jb (at_ hF 86)),(Jh (Jb (at_ hF 86))).binds (ps:=["_law_found", "_law_due_here"]) (fun | _,_,_,_,_,_,[_,_],_=>rfl),PySem.W.mg_of X G (Js (Jb (at_ hB 138)))⟩
  Jqw:=Jc K "_law_due"
  Jou:=JC K (Jc K "_law_due")
  Jns:=⟨Jh (Jb (at_ hF 87)),(Jh (Jb (at_ hF 87))).binds (ps:=["_law_ground_here", "_law_now"]) (fun | _,_,_,_,_,_,[_,_],_=>rfl),PySem.W.mg_of X G (Js (Jb (at_ hB 139)))⟩
  Jfs:=Jc K "_law_hall_shows"
  JdT:=JC K (Jc K "_law_hall_shows")
  JfL:=⟨Jh (Jb (at_ hF 88)),(Jh (Jb (at_ hF 88))).binds (ps:=["_law_hall", "_law_name", "_law_ground_here", "_law_now", "_law_log"]) (fun | _,_,_,_,_,_,[_,_,_,_,_],_=>rfl),PySem.W.mg_of X G (Js (Jb (at_ hB 140)))⟩
  Jkw:=Jc K "_law_number"
  JiK:=JC K (Jc K "_law_number")
  JfK:=⟨Jh (Jb (at_ hF 89)),(Jh (Jb (at_ hF 89))).binds (ps:=["_law_cell", "_law_most"]) (fun | _,_,_,_,_,_,[_,_],_=>rfl),PySem.W.mg_of X G (Js (Jb (at_ hB 141)))⟩
  Jhq:=Jc K "_law_any_hand"
  Jgn:=JC K (Jc K "_law_any_hand")
  Jhv:=⟨Jh (Jb (at_ hF 90)),(Jh (Jb (at_ hF 90))).binds (ps:=["_law_cell"]) (fun | _,_,_,_,_,_,[_],_=>rfl),PySem.W.mg_of X G (Js (Jb (at_ hB 142)))⟩
  Jgt:=Jc K "_law_any_place"
  Jfl:=JC K (Jc K "_law_any_place")
  Jgx:=⟨Jh (Jb (at_ hF 91)),(Jh (Jb (at_ hF 91))).binds (ps:=["_law_ground_here", "_law_cell"]) (fun | _,_,_,_,_,_,[_,_],_=>rfl),PySem.W.mg_of X G (Js (Jb (at_ hB 143)))⟩
  Jqs:=Jc K "_law_try"
  Joq:=JC K (Jc K "_law_try")
  Jnr:=⟨Jh (Jb (at_ hF 92)),(Jh (Jb (at_ hF 92))).binds (ps:=["_law_hall", "_law_name", "_law_base", "_law_now"]) (fun | _,_,_,_,_,_,[_,_,_,_],_=>rfl),PySem.W.mg_of X G (Js (Jb (at_ hB 144)))⟩
  JiU:=Jc K "_law_refusal"
  Jho:=JC K (Jc K "_law_refusal")
  Jjb:=⟨Jh (Jb (at_ hF 93)),(Jh (Jb (at_ hF 93))).binds (ps:=["_law_ground_here", "_law_plays", "_law_name", "_law_base", "_law_now"]) (fun | _,_,_,_,_,_,[_,_,_,_,_],_=>rfl),PySem.W.mg_of X G (Js (Jb (at_ hB 145)))⟩
  Jhp:=Jc K "_law_new_name"
  Jgm:=JC K (Jc K "_law_new_name")
  Jhu:=⟨Jh (Jb (at_ hF 94)),(Jh (Jb (at_ hF 94))).binds (ps:=["_law_cell", "_law_plays"]) (fun | _,_,_,_,_,_,[_,_],_=>rfl),PySem.W.mg_of X G (Js (Jb (at_ hB 146)))⟩
  Jqu:=Jc K "law"
  Jos:=JC K (Jc K "law")
  Jt8:=⟨Jh (Jb (at_ hF 95)),(Jh (Jb (at_ hF 95))).binds (ps:=["_law_script"]) (fun | _,_,_,_,_,_,[_],_=>rfl),PySem.W.mg_of X G (Js (Jb (at_ hB 147)))⟩
  Jg3:=Jc K "HANDS"
  Jl1:=PySem.W.mg_of X G (Js (Jb (at_ hB 148)))
  Jjf:=fun H=>JvL (xs:=[.inr "north",.inr "south"]) (Jb (at_ hT 0)) H
  JaQ:=JaQ
  Jcm:=Jcm
  Jb7:=Jb7
  JaP:=JaP
  Jaj:=Jaj
  Jae:=Jae
  JaT:=JaT
  Jak:=Jak
  Jaf:=Jaf
  Jaw:=Jaw
  Jbz:=Jbz
  Jbx:=Jbx
  JaS:=JaS
  Jco:=Jco
  Jb9:=Jb9
  Jav:=Jav
  Jby:=Jby
  Jbw:=Jbw
  JaR:=JaR
  Jcn:=Jcn
  Jb8:=Jb8
  JtZ:=PySem.W.mg_none_of X G (Jb (at_ hN 0))
  Zv:=PySem.W.mg_none_of X G (Jb (at_ hN 1))
  ZL:=PySem.W.mg_none_of X G (Jb (at_ hN 2))
  Jnn:=PySem.W.mg_none_of X G (Jb (at_ hN 3))
  Jjm:=PySem.W.mg_none_of X G (Jb (at_ hN 4))
  Jbb:=PySem.W.mg_none_of X G (Jb (at_ hN 5))
  JaY:=PySem.W.mg_none_of X G (Jb (at_ hN 6))
  JtX:=PySem.W.mg_none_of X G (Jb (at_ hN 7))
  J8:=PySem.W.mg_none_of X G (Jb (at_ hN 8))
  JtY:=PySem.W.mg_none_of X G (Jb (at_ hN 9))
  Jrx:=PySem.W.mg_none_of X G (Jb (at_ hN 10))
  Jqg:=PySem.W.mg_none_of X G (Jb (at_ hN 11))
  Jit:=PySem.W.mg_none_of X G (Jb (at_ hN 12))
  Jk2:=PySem.W.mg_none_of X G (Jb (at_ hN 13))
  YO:=Jc K "BidmoverError"
  Jf7:=PySem.W.mg_of X G (Js (Jb (at_ hB 149)))
  J9:=Jc K "BadName"
  Ji6:=PySem.W.mg_of X G (Js (Jb (at_ hB 150)))
  J5:=Jc K "BadHand"
  Ji7:=PySem.W.mg_of X G (Js (Jb (at_ hB 151)))
  JB:=Jc K "OutOfRange"
  Jcy:=PySem.W.mg_of X G (Js (Jb (at_ hB 152)))
  JaB:=Jc K "Twice"
  JpL:=PySem.W.mg_of X G (Js (Jb (at_ hB 153)))
  JW:=Jc K "NoPlace"
  Ji4:=PySem.W.mg_of X G (Js (Jb (at_ hB 154)))
  Jab:=Jc K "BadBid"
  JoH:=PySem.W.mg_of X G (Js (Jb (at_ hB 155)))
  Jaa:=Jc K "NoLane"
  JoF:=PySem.W.mg_of X G (Js (Jb (at_ hB 156)))
  Z9:=Jc K "NotDue"
  JoE:=PySem.W.mg_of X G (Js (Jb (at_ hB 157)))
  Y9:=Jc K "NothingDone"
  Jh0:=PySem.W.mg_of X G (Js (Jb (at_ hB 158)))
  Yp:=Jc K "Taken"
  Jmg:=PySem.W.mg_of X G (Js (Jb (at_ hB 159)))
  YD:=Jc K "Full"
  JoG:=PySem.W.mg_of X G (Js (Jb (at_ hB 160)))
  JY:=Jc K "Missing"
  Ji5:=PySem.W.mg_of X G (Js (Jb (at_ hB 161)))
  J3:=Jc K "Book"
  Jsb:=PySem.W.mg_of X G (Js (Jb (at_ hB 162)))
  Zd:=⟨(Jb (at_ hB 167)),(Jb (at_ hB 168)),(Jb (at_ hB 169)),(Jb (at_ hN 14))⟩
  Jdc:=Jk K "Book" "__init__"
  Jfq:=JC K (Jk K "Book" "__init__")
  JgA:=⟨Jh (Jb (at_ hF 12)),(Jh (Jb (at_ hF 12))).binds (ps:=["self", "board", "coins", "turns"]) (fun | _,_,_,_,_,_,[_,_,_,_],_=>rfl),⟨Jr (Jb (at_ hB 12)),(Jb (at_ hB 13)),JI (Jb (at_ hF 12))⟩⟩
  Jbl:=Jk K "Book" "needs_with"
  Ja4:=JC K (Jk K "Book" "needs_with")
  Jad:=⟨Jh (Jb (at_ hF 13)),(Jh (Jb (at_ hF 13))).binds (ps:=["self", "turns"]) (fun | _,_,_,_,_,_,[_,_],_=>rfl),⟨Jr (Jb (at_ hB 14)),(Jb (at_ hB 15)),JI (Jb (at_ hF 13))⟩⟩
  Jc4:=Jk K "Book" "need_at"
  Jcr:=JC K (Jk K "Book" "need_at")
  Jbe:=⟨Jh (Jb (at_ hF 14)),(Jh (Jb (at_ hF 14))).binds (ps:=["self", "place", "turns", "ribbon"]) (fun | _,_,_,_,_,_,[_,_,_,_],_=>rfl),⟨Jr (Jb (at_ hB 16)),(Jb (at_ hB 17)),JI (Jb (at_ hF 14))⟩⟩
  Zo:=Jk K "Book" "need_where_north_leads"
  Zk:=JC K (Jk K "Book" "need_where_north_leads")
  YW:=⟨Jh (Jb (at_ hF 15)),(Jh (Jb (at_ hF 15))).binds (ps:=["self", "place", "turns"]) (fun | _,_,_,_,_,_,[_,_,_],_=>rfl),⟨Jr (Jb (at_ hB 18)),(Jb (at_ hB 19)),JI (Jb (at_ hF 15))⟩⟩
  Zn:=Jk K "Book" "need_where_south_leads"
  Zj:=JC K (Jk K "Book" "need_where_south_leads")
  YV:=⟨Jh (Jb (at_ hF 16)),(Jh (Jb (at_ hF 16))).binds (ps:=["self", "place", "turns"]) (fun | _,_,_,_,_,_,[_,_,_],_=>rfl),⟨Jr (Jb (at_ hB 20)),(Jb (at_ hB 21)),JI (Jb (at_ hF 16))⟩⟩
  JdF:=Jk K "Book" "check_share"
  JcJ:=JC K (Jk K "Book" "check_share")
  Jjc:=⟨Jh (Jb (at_ hF 17)),(Jh (Jb (at_ hF 17))).binds (ps:=["self", "place", "turns", "north", "ribbon"]) (fun | _,_,_,_,_,_,[_,_,_,_,_],_=>rfl),⟨Jr (Jb (at_ hB 22)),(Jb (at_ hB 23)),JI (Jb (at_ hF 17))⟩⟩
  JhX:=Jk K "Book" "winner"
  JgY:=JC K (Jk K "Book" "winner")
  Jnh:=⟨Jh (Jb (at_ hF 18)),(Jh (Jb (at_ hF 18))).binds (ps:=["self", "place", "turns", "north", "ribbon"]) (fun | _,_,_,_,_,_,[_,_,_,_,_],_=>rfl),⟨Jr (Jb (at_ hB 24)),(Jb (at_ hB 25)),JI (Jb (at_ hF 18))⟩⟩
  JiY:=Jk K "Book" "least"
  JhR:=JC K (Jk K "Book" "least")
  JoU:=⟨Jh (Jb (at_ hF 19)),(Jh (Jb (at_ hF 19))).binds (ps:=["self", "place", "turns", "ribbon"]) (fun | _,_,_,_,_,_,[_,_,_,_],_=>rfl),⟨Jr (Jb (at_ hB 26)),(Jb (at_ hB 27)),JI (Jb (at_ hF 19))⟩⟩
  JhY:=Jk K "Book" "bid_of"
  JgZ:=JC K (Jk K "Book" "bid_of")
  Jni:=⟨Jh (Jb (at_ hF 20)),(Jh (Jb (at_ hF 20))).binds (ps:=["self", "place", "turns", "north", "ribbon"]) (fun | _,_,_,_,_,_,[_,_,_,_,_],_=>rfl),⟨Jr (Jb (at_ hB 28)),(Jb (at_ hB 29)),JI (Jb (at_ hF 20))⟩⟩
  JfB:=Jk K "Book" "answer_of"
  Jep:=JC K (Jk K "Book" "answer_of")
  JkG:=⟨Jh (Jb (at_ hF 21)),(Jh (Jb (at_ hF 21))).binds (ps:=["self", "place", "turns", "north", "ribbon", "bid"]) (fun | _,_,_,_,_,_,[_,_,_,_,_,_],_=>rfl),⟨Jr (Jb (at_ hB 30)),(Jb (at_ hB 31)),JI (Jb (at_ hF 21))⟩⟩
  JdG:=Jk K "Book" "answer_wins"
  JcK:=JC K (Jk K "Book" "answer_wins")
  Jjd:=⟨Jh (Jb (at_ hF 22)),(Jh (Jb (at_ hF 22))).binds (ps:=["self", "place", "turns", "settled", "holder"]) (fun | _,_,_,_,_,_,[_,_,_,_,_],_=>rfl),⟨Jr (Jb (at_ hB 32)),(Jb (at_ hB 33)),JI (Jb (at_ hF 22))⟩⟩
  Jg0:=Jk K "Book" "step_of"
  Jf5:=JC K (Jk K "Book" "step_of")
  Jmp:=⟨Jh (Jb (at_ hF 23)),(Jh (Jb (at_ hF 23))).binds (ps:=["self", "place", "turns", "north", "ribbon", "hand"]) (fun | _,_,_,_,_,_,[_,_,_,_,_,_],_=>rfl),⟨Jr (Jb (at_ hB 34)),(Jb (at_ hB 35)),JI (Jb (at_ hF 23))⟩⟩
  Jpv:=⟨(Jb (at_ hB 170)),Jr (Jb (at_ hB 12)),(Jb (at_ hB 13)),(Jb (at_ hB 171))⟩
  ZW:=(Jb (at_ hN 15))
  JdR:=(Jb (at_ hN 16))
  JhI:=(Jb (at_ hN 17))
  JaA:=(Jb (at_ hN 18))
  Ym:=Jc K "Moment"
  Jkz:=PySem.W.mg_of X G (Js (Jb (at_ hB 163)))
  Yt:=⟨(Jb (at_ hB 172)),(Jb (at_ hB 173)),(Jb (at_ hB 174)),(Jb (at_ hN 19))⟩
  JbA:=Jk K "Moment" "__init__"
  Jc1:=JC K (Jk K "Moment" "__init__")
  JbB:=⟨Jh (Jb (at_ hF 24)),(Jh (Jb (at_ hF 24))).binds (ps:=["self", "place", "turns", "north", "south", "ribbon", "hand", "word", "heard"]) (fun | _,_,_,_,_,_,[_,_,_,_,_,_,_,_,_],_=>rfl),⟨Jr (Jb (at_ hB 36)),(Jb (at_ hB 37)),JI (Jb (at_ hF 24))⟩⟩
  Jiv:=⟨(Jb (at_ hB 175)),Jr (Jb (at_ hB 36)),(Jb (at_ hB 37)),(Jb (at_ hB 176))⟩
  JaI:=(Jb (at_ hN 20))
  JaH:=(Jb (at_ hN 21))
  Jcg:=(Jb (at_ hN 22))
  Jcf:=(Jb (at_ hN 23))
  JbH:=(Jb (at_ hN 24))
  JcT:=(Jb (at_ hN 25))
  Jba:=(Jb (at_ hN 26))
  Jch:=(Jb (at_ hN 27))
  J6:=Jc K "Game"
  Jsa:=PySem.W.mg_of X G (Js (Jb (at_ hB 164)))
  Zm:=⟨(Jb (at_ hB 177)),(Jb (at_ hB 178)),(Jb (at_ hB 179)),(Jb (at_ hN 28))⟩
  Jdb:=Jk K "Game" "__init__"
  Jfp:=JC K (Jk K "Game" "__init__")
  Jgz:=⟨Jh (Jb (at_ hF 26)),(Jh (Jb (at_ hF 26))).binds (ps:=["self", "board", "place", "turns", "north", "south", "ribbon"]) (fun | _,_,_,_,_,_,[_,_,_,_,_,_,_],_=>rfl),⟨Jr (Jb (at_ hB 39)),(Jb (at_ hB 40)),JI (Jb (at_ hF 26))⟩⟩
  Jcu:=Jk K "Game" "standing"
  JbK:=JC K (Jk K "Game" "standing")
  JaN:=⟨Jh (Jb (at_ hF 27)),(Jh (Jb (at_ hF 27))).binds (ps:=["self"]) (fun | _,_,_,_,_,_,[_],_=>rfl),⟨Jr (Jb (at_ hB 41)),(Jb (at_ hB 42)),JI (Jb (at_ hF 27))⟩⟩
  Jhs:=Jk K "Game" "due"
  Jgp:=JC K (Jk K "Game" "due")
  Jex:=⟨Jh (Jb (at_ hF 28)),(Jh (Jb (at_ hF 28))).binds (ps:=["self"]) (fun | _,_,_,_,_,_,[_],_=>rfl),⟨Jr (Jb (at_ hB 43)),(Jb (at_ hB 44)),JI (Jb (at_ hF 28))⟩⟩
  Jfy:=Jk K "Game" "named"
  JdZ:=JC K (Jk K "Game" "named")
  JcD:=⟨Jh (Jb (at_ hF 29)),(Jh (Jb (at_ hF 29))).binds (ps:=["self"]) (fun | _,_,_,_,_,_,[_],_=>rfl),⟨Jr (Jb (at_ hB 45)),(Jb (at_ hB 46)),JI (Jb (at_ hF 29))⟩⟩
  Jfz:=Jk K "Game" "deeds"
  Jd0:=JC K (Jk K "Game" "deeds")
  JcE:=⟨Jh (Jb (at_ hF 30)),(Jh (Jb (at_ hF 30))).binds (ps:=["self"]) (fun | _,_,_,_,_,_,[_],_=>rfl),⟨Jr (Jb (at_ hB 47)),(Jb (at_ hB 48)),JI (Jb (at_ hF 30))⟩⟩
  Jgv:=Jk K "Game" "over"
  Jfo:=JC K (Jk K "Game" "over")
  Jdh:=⟨Jh (Jb (at_ hF 31)),(Jh (Jb (at_ hF 31))).binds (ps:=["self"]) (fun | _,_,_,_,_,_,[_],_=>rfl),⟨Jr (Jb (at_ hB 49)),(Jb (at_ hB 50)),JI (Jb (at_ hF 31))⟩⟩
  JhV:=Jk K "Game" "winner"
  JgW:=JC K (Jk K "Game" "winner")
  Jnf:=⟨Jh (Jb (at_ hF 32)),(Jh (Jb (at_ hF 32))).binds (ps:=["self"]) (fun | _,_,_,_,_,_,[_],_=>rfl),⟨Jr (Jb (at_ hB 51)),(Jb (at_ hB 52)),JI (Jb (at_ hF 32))⟩⟩
  JjX:=Jk K "Game" "told"
  JiR:=JC K (Jk K "Game" "told")
  Jph:=⟨Jh (Jb (at_ hF 33)),(Jh (Jb (at_ hF 33))).binds (ps:=["self"]) (fun | _,_,_,_,_,_,[_],_=>rfl),⟨Jr (Jb (at_ hB 53)),(Jb (at_ hB 54)),JI (Jb (at_ hF 33))⟩⟩
  JfA:=Jk K "Game" "check_due"
  Jeo:=JC K (Jk K "Game" "check_due")
  JkF:=⟨Jh (Jb (at_ hF 34)),(Jh (Jb (at_ hF 34))).binds (ps:=["self", "hand", "word"]) (fun | _,_,_,_,_,_,[_,_,_],_=>rfl),⟨Jr (Jb (at_ hB 55)),(Jb (at_ hB 56)),JI (Jb (at_ hF 34))⟩⟩
  JiX:=Jk K "Game" "go_on"
  JhQ:=JC K (Jk K "Game" "go_on")
  JoT:=⟨Jh (Jb (at_ hF 35)),(Jh (Jb (at_ hF 35))).binds (ps:=["self", "deed", "moment"]) (fun | _,_,_,_,_,_,[_,_,_],_=>rfl),⟨Jr (Jb (at_ hB 57)),(Jb (at_ hB 58)),JI (Jb (at_ hF 35))⟩⟩
  Jli:=Jk K "Game" "bid"
  JjR:=JC K (Jk K "Game" "bid")
  JqL:=⟨Jh (Jb (at_ hF 36)),(Jh (Jb (at_ hF 36))).binds (ps:=["self", "hand", "coins"]) (fun | _,_,_,_,_,_,[_,_,_],_=>rfl),⟨Jr (Jb (at_ hB 59)),(Jb (at_ hB 60)),JI (Jb (at_ hF 36))⟩⟩
  JhW:=Jk K "Game" "answer"
  JgX:=JC K (Jk K "Game" "answer")
  Jng:=⟨Jh (Jb (at_ hF 37)),(Jh (Jb (at_ hF 37))).binds (ps:=["self", "hand", "coins"]) (fun | _,_,_,_,_,_,[_,_,_],_=>rfl),⟨Jr (Jb (at_ hB 61)),(Jb (at_ hB 62)),JI (Jb (at_ hF 37))⟩⟩
  JjY:=Jk K "Game" "step"
  JiS:=JC K (Jk K "Game" "step")
  Jpi:=⟨Jh (Jb (at_ hF 38)),(Jh (Jb (at_ hF 38))).binds (ps:=["self", "hand", "place"]) (fun | _,_,_,_,_,_,[_,_,_],_=>rfl),⟨Jr (Jb (at_ hB 63)),(Jb (at_ hB 64)),JI (Jb (at_ hF 38))⟩⟩
  JjZ:=Jk K "Game" "back"
  JiT:=JC K (Jk K "Game" "back")
  Jpj:=⟨Jh (Jb (at_ hF 39)),(Jh (Jb (at_ hF 39))).binds (ps:=["self"]) (fun | _,_,_,_,_,_,[_],_=>rfl),⟨Jr (Jb (at_ hB 65)),(Jb (at_ hB 66)),JI (Jb (at_ hF 39))⟩⟩
  Jpu:=⟨(Jb (at_ hB 180)),Jr (Jb (at_ hB 39)),(Jb (at_ hB 40)),(Jb (at_ hB 181))⟩
  JdQ:=(Jb (at_ hN 29))
  Jis:=(Jb (at_ hN 30))
  Je4:=(Jb (at_ hN 31))
  ZB:=(Jb (at_ hN 32))
  Ye:=Jc K "Hall"
  Jr9:=PySem.W.mg_of X G (Js (Jb (at_ hB 165)))
  Yu:=⟨(Jb (at_ hB 182)),(Jb (at_ hB 183)),(Jb (at_ hB 184)),(Jb (at_ hN 33))⟩
  Jda:=Jk K "Hall" "__init__"
  Jfn:=JC K (Jk K "Hall" "__init__")
  Jgy:=⟨Jh (Jb (at_ hF 42)),(Jh (Jb (at_ hF 42))).binds (ps:=["self"]) (fun | _,_,_,_,_,_,[_],_=>rfl),⟨Jr (Jb (at_ hB 69)),(Jb (at_ hB 70)),JI (Jb (at_ hF 42))⟩⟩
  JbN:=Jk K "Hall" "add_board"
  Jbj:=JC K (Jk K "Hall" "add_board")
  Jau:=⟨Jh (Jb (at_ hF 43)),(Jh (Jb (at_ hF 43))).binds (ps:=["self", "name", "board"]) (fun | _,_,_,_,_,_,[_,_,_],_=>rfl),⟨Jr (Jb (at_ hB 71)),(Jb (at_ hB 72)),JI (Jb (at_ hF 43))⟩⟩
  Jct:=Jk K "Hall" "board_of"
  JbJ:=JC K (Jk K "Hall" "board_of")
  JaM:=⟨Jh (Jb (at_ hF 44)),(Jh (Jb (at_ hF 44))).binds (ps:=["self", "name"]) (fun | _,_,_,_,_,_,[_,_],_=>rfl),⟨Jr (Jb (at_ hB 73)),(Jb (at_ hB 74)),JI (Jb (at_ hF 44))⟩⟩
  Jfx:=Jk K "Hall" "begin"
  JdY:=JC K (Jk K "Hall" "begin")
  Jap:=⟨Jh (Jb (at_ hF 45)),(Jh (Jb (at_ hF 45))).binds (ps:=["self", "name", "board_name", "place", "turns", "north", "south", "ribbon"]) (fun | _,_,_,_,_,_,[_,_,_,_,_,_,_,_],_=>rfl),⟨Jr (Jb (at_ hB 75)),(Jb (at_ hB 76)),JI (Jb (at_ hF 45))⟩⟩
  Jc3:=Jk K "Hall" "game_of"
  Jcq:=JC K (Jk K "Hall" "game_of")
  Yz:=⟨Jh (Jb (at_ hF 46)),(Jh (Jb (at_ hF 46))).binds (ps:=["self", "name"]) (fun | _,_,_,_,_,_,[_,_],_=>rfl),⟨Jr (Jb (at_ hB 77)),(Jb (at_ hB 78)),JI (Jb (at_ hF 46))⟩⟩
  JjV:=Jk K "Hall" "drop"
  JiP:=JC K (Jk K "Hall" "drop")
  Jpf:=⟨Jh (Jb (at_ hF 47)),(Jh (Jb (at_ hF 47))).binds (ps:=["self", "name"]) (fun | _,_,_,_,_,_,[_,_],_=>rfl),⟨Jr (Jb (at_ hB 79)),(Jb (at_ hB 80)),JI (Jb (at_ hF 47))⟩⟩
  JhT:=Jk K "Hall" "boards"
  JgU:=JC K (Jk K "Hall" "boards")
  Jnd:=⟨Jh (Jb (at_ hF 48)),(Jh (Jb (at_ hF 48))).binds (ps:=["self"]) (fun | _,_,_,_,_,_,[_],_=>rfl),⟨Jr (Jb (at_ hB 81)),(Jb (at_ hB 82)),JI (Jb (at_ hF 48))⟩⟩
  Jfv:=Jk K "Hall" "games"
  JdW:=JC K (Jk K "Hall" "games")
  Jao:=⟨Jh (Jb (at_ hF 49)),(Jh (Jb (at_ hF 49))).binds (ps:=["self"]) (fun | _,_,_,_,_,_,[_],_=>rfl),⟨Jr (Jb (at_ hB 83)),(Jb (at_ hB 84)),JI (Jb (at_ hF 49))⟩⟩
  Jcs:=Jk K "Hall" "standing"
  JbI:=JC K (Jk K "Hall" "standing")
  JaL:=⟨Jh (Jb (at_ hF 50)),(Jh (Jb (at_ hF 50))).binds (ps:=["self", "name"]) (fun | _,_,_,_,_,_,[_,_],_=>rfl),⟨Jr (Jb (at_ hB 85)),(Jb (at_ hB 86)),JI (Jb (at_ hF 50))⟩⟩
  Jhr:=Jk K "Hall" "due"
  Jgo:=JC K (Jk K "Hall" "due")
  Jew:=⟨Jh (Jb (at_ hF 51)),(Jh (Jb (at_ hF 51))).binds (ps:=["self", "name"]) (fun | _,_,_,_,_,_,[_,_],_=>rfl),⟨Jr (Jb (at_ hB 87)),(Jb (at_ hB 88)),JI (Jb (at_ hF 51))⟩⟩
  Jfu:=Jk K "Hall" "named"
  JdV:=JC K (Jk K "Hall" "named")
  JcB:=⟨Jh (Jb (at_ hF 52)),(Jh (Jb (at_ hF 52))).binds (ps:=["self", "name"]) (fun | _,_,_,_,_,_,[_,_],_=>rfl),⟨Jr (Jb (at_ hB 89)),(Jb (at_ hB 90)),JI (Jb (at_ hF 52))⟩⟩
  Jfw:=Jk K "Hall" "deeds"
  JdX:=JC K (Jk K "Hall" "deeds")
  JcC:=⟨Jh (Jb (at_ hF 53)),(Jh (Jb (at_ hF 53))).binds (ps:=["self", "name"]) (fun | _,_,_,_,_,_,[_,_],_=>rfl),⟨Jr (Jb (at_ hB 91)),(Jb (at_ hB 92)),JI (Jb (at_ hF 53))⟩⟩
  Jgu:=Jk K "Hall" "over"
  Jfm:=JC K (Jk K "Hall" "over")
  Jdg:=⟨Jh (Jb (at_ hF 54)),(Jh (Jb (at_ hF 54))).binds (ps:=["self", "name"]) (fun | _,_,_,_,_,_,[_,_],_=>rfl),⟨Jr (Jb (at_ hB 93)),(Jb (at_ hB 94)),JI (Jb (at_ hF 54))⟩⟩
  JhS:=Jk K "Hall" "winner"
  JgT:=JC K (Jk K "Hall" "winner")
  Jnc:=⟨Jh (Jb (at_ hF 55)),(Jh (Jb (at_ hF 55))).binds (ps:=["self", "name"]) (fun | _,_,_,_,_,_,[_,_],_=>rfl),⟨Jr (Jb (at_ hB 95)),(Jb (at_ hB 96)),JI (Jb (at_ hF 55))⟩⟩
  JjT:=Jk K "Hall" "told"
  JiN:=JC K (Jk K "Hall" "told")
  Jpd:=⟨Jh (Jb (at_ hF 56)),(Jh (Jb (at_ hF 56))).binds (ps:=["self", "name"]) (fun | _,_,_,_,_,_,[_,_],_=>rfl),⟨Jr (Jb (at_ hB 97)),(Jb (at_ hB 98)),JI (Jb (at_ hF 56))⟩⟩
  Jlh:=Jk K "Hall" "bid"
  JjQ:=JC K (Jk K "Hall" "bid")
  JqK:=⟨Jh (Jb (at_ hF 57)),(Jh (Jb (at_ hF 57))).binds (ps:=["self", "name", "hand", "coins"]) (fun | _,_,_,_,_,_,[_,_,_,_],_=>rfl),⟨Jr (Jb (at_ hB 99)),(Jb (at_ hB 100)),JI (Jb (at_ hF 57))⟩⟩
  JhU:=Jk K "Hall" "answer"
  JgV:=JC K (Jk K "Hall" "answer")
  Jne:=⟨Jh (Jb (at_ hF 58)),(Jh (Jb (at_ hF 58))).binds (ps:=["self", "name", "hand", "coins"]) (fun | _,_,_,_,_,_,[_,_,_,_],_=>rfl),⟨Jr (Jb (at_ hB 101)),(Jb (at_ hB 102)),JI (Jb (at_ hF 58))⟩⟩
  JjU:=Jk K "Hall" "step"
  JiO:=JC K (Jk K "Hall" "step")
  Jpe:=⟨Jh (Jb (at_ hF 59)),(Jh (Jb (at_ hF 59))).binds (ps:=["self", "name", "hand", "place"]) (fun | _,_,_,_,_,_,[_,_,_,_],_=>rfl),⟨Jr (Jb (at_ hB 103)),(Jb (at_ hB 104)),JI (Jb (at_ hF 59))⟩⟩
  JjW:=Jk K "Hall" "back"
  JiQ:=JC K (Jk K "Hall" "back")
  Jpg:=⟨Jh (Jb (at_ hF 60)),(Jh (Jb (at_ hF 60))).binds (ps:=["self", "name"]) (fun | _,_,_,_,_,_,[_,_],_=>rfl),⟨Jr (Jb (at_ hB 105)),(Jb (at_ hB 106)),JI (Jb (at_ hF 60))⟩⟩
  JiW:=Jk K "Hall" "judge"
  JhP:=JC K (Jk K "Hall" "judge")
  JoS:=⟨Jh (Jb (at_ hF 61)),(Jh (Jb (at_ hF 61))).binds (ps:=["self", "board_name", "place", "turns", "north", "south", "ribbon"]) (fun | _,_,_,_,_,_,[_,_,_,_,_,_,_],_=>rfl),⟨Jr (Jb (at_ hB 107)),(Jb (at_ hB 108)),JI (Jb (at_ hF 61))⟩⟩
  JiV:=Jk K "Hall" "least"
  JhO:=JC K (Jk K "Hall" "least")
  JoR:=⟨Jh (Jb (at_ hF 62)),(Jh (Jb (at_ hF 62))).binds (ps:=["self", "board_name", "coins", "place", "turns", "ribbon"]) (fun | _,_,_,_,_,_,[_,_,_,_,_,_],_=>rfl),⟨Jr (Jb (at_ hB 109)),(Jb (at_ hB 110)),JI (Jb (at_ hF 62))⟩⟩
  Jpt:=⟨(Jb (at_ hB 185)),Jr (Jb (at_ hB 69)),(Jb (at_ hB 70)),(Jb (at_ hB 186))⟩
  Zq:=(Jb (at_ hN 34))
  Zb:=(Jb (at_ hN 35))
  JT:=Jc K "Board"
  JpM:=PySem.W.mg_of X G (Js (Jb (at_ hB 166)))
  Y2:=⟨(Jb (at_ hB 187)),(Jb (at_ hB 188)),(Jb (at_ hB 189)),(Jb (at_ hN 36))⟩
  Jcw:=Jk K "Board" "__init__"
  Jd2:=JC K (Jk K "Board" "__init__")
  JfM:=⟨Jh (Jb (at_ hF 68)),(Jh (Jb (at_ hF 68))).binds (ps:=["self", "places", "lanes", "goals"]) (fun | _,_,_,_,_,_,[_,_,_,_],_=>rfl),⟨Jr (Jb (at_ hB 116)),(Jb (at_ hB 117)),JI (Jb (at_ hF 68))⟩⟩
  JaD:=Jk K "Board" "check_place"
  Jat:=JC K (Jk K "Board" "check_place")
  Yk:=⟨Jh (Jb (at_ hF 69)),(Jh (Jb (at_ hF 69))).binds (ps:=["self", "place"]) (fun | _,_,_,_,_,_,[_,_],_=>rfl),⟨Jr (Jb (at_ hB 118)),(Jb (at_ hB 119)),JI (Jb (at_ hF 69))⟩⟩
  JfC:=Jk K "Board" "ways"
  Jd1:=JC K (Jk K "Board" "ways")
  Zz:=⟨Jh (Jb (at_ hF 70)),(Jh (Jb (at_ hF 70))).binds (ps:=["self", "place"]) (fun | _,_,_,_,_,_,[_,_],_=>rfl),⟨Jr (Jb (at_ hB 120)),(Jb (at_ hB 121)),JI (Jb (at_ hF 70))⟩⟩
  Jcv:=Jk K "Board" "is_goal"
  JbL:=JC K (Jk K "Board" "is_goal")
  JaO:=⟨Jh (Jb (at_ hF 71)),(Jh (Jb (at_ hF 71))).binds (ps:=["self", "place"]) (fun | _,_,_,_,_,_,[_,_],_=>rfl),⟨Jr (Jb (at_ hB 122)),(Jb (at_ hB 123)),JI (Jb (at_ hF 71))⟩⟩
  Jog:=⟨(Jb (at_ hB 190)),Jr (Jb (at_ hB 116)),(Jb (at_ hB 117)),(Jb (at_ hB 191))⟩
  JaJ:=(Jb (at_ hN 37))
  JcU:=(Jb (at_ hN 38))
  JcV:=(Jb (at_ hN 39))
  YL:=⟨(Jb (at_ hB 192)),(Jb (at_ hN 41)),(Jb (at_ hN 42)),(Jb (at_ hN 43)),(Jb (at_ hN 40)),(Jb (at_ hK 0)),(Jb (at_ hK 1)),(Jb (at_ hK 2)),(Jb (at_ hB 193))⟩
  Jlm:=(Jb (at_ hK 3))
  Jk7:=(Jb (at_ hK 4))
  JdD:=(Jb (at_ hK 5))
  JdE:=(Jb (at_ hK 6))
  Jb0:=(Jb (at_ hK 7))
  Jfg:=(Jb (at_ hK 8))
  JdB:=(Jb (at_ hK 9))
  Jen:=(Jb (at_ hK 10))
  Jem:=(Jb (at_ hK 11))
  Jel:=(Jb (at_ hK 12))
  Jbu:=(Jb (at_ hK 13))
  Jfh:=(Jb (at_ hK 14))
  Jf2:=(Jb (at_ hK 15))
  JdC:=(Jb (at_ hK 16))
  Yg:=⟨(Jb (at_ hB 194)),(Jb (at_ hN 44)),(Jb (at_ hN 45)),(Jb (at_ hN 46)),(Jb (at_ hN 40)),(Jb (at_ hK 0)),(Jb (at_ hK 17)),(Jb (at_ hK 18)),(Jb (at_ hB 195))⟩
  JhZ:=(Jb (at_ hK 19))
  JhJ:=(Jb (at_ hK 20))
  JbV:=(Jb (at_ hK 21))
  JbW:=(Jb (at_ hK 22))
  Ja1:=(Jb (at_ hK 23))
  JcG:=(Jb (at_ hK 24))
  JbT:=(Jb (at_ hK 25))
  Jcl:=(Jb (at_ hK 26))
  Jck:=(Jb (at_ hK 27))
  Jcj:=(Jb (at_ hK 28))
  JaK:=(Jb (at_ hK 29))
  JcH:=(Jb (at_ hK 30))
  Jdn:=(Jb (at_ hK 31))
  JbU:=(Jb (at_ hK 32))
  Jsi:=⟨(Jb (at_ hB 196)),(Jb (at_ hN 47)),(Jb (at_ hN 48)),(Jb (at_ hN 49)),(Jb (at_ hN 40)),(Jb (at_ hK 0)),(Jb (at_ hK 33)),(Jb (at_ hK 34)),(Jb (at_ hB 197))⟩
  Jsg:=⟨(Jb (at_ hB 198)),(Jb (at_ hN 50)),(Jb (at_ hN 51)),(Jb (at_ hN 52)),(Jb (at_ hN 40)),(Jb (at_ hK 0)),(Jb (at_ hK 35)),(Jb (at_ hK 36)),(Jb (at_ hB 199))⟩
  Jsh:=⟨(Jb (at_ hB 200)),(Jb (at_ hN 53)),(Jb (at_ hN 54)),(Jb (at_ hN 55)),(Jb (at_ hN 40)),(Jb (at_ hK 0)),(Jb (at_ hK 37)),(Jb (at_ hK 38)),(Jb (at_ hB 201))⟩
  YK:=⟨(Jb (at_ hB 202)),(Jb (at_ hN 56)),(Jb (at_ hN 57)),(Jb (at_ hN 58)),(Jb (at_ hN 40)),(Jb (at_ hK 0)),(Jb (at_ hK 39)),(Jb (at_ hK 40)),(Jb (at_ hB 203))⟩
  Jll:=(Jb (at_ hK 41))
  Jk6:=(Jb (at_ hK 42))
  Jdz:=(Jb (at_ hK 43))
  JdA:=(Jb (at_ hK 44))
  JbZ:=(Jb (at_ hK 45))
  Jfe:=(Jb (at_ hK 46))
  Jdx:=(Jb (at_ hK 47))
  Jek:=(Jb (at_ hK 48))
  Jej:=(Jb (at_ hK 49))
  Jei:=(Jb (at_ hK 50))
  Jbt:=(Jb (at_ hK 51))
  Jff:=(Jb (at_ hK 52))
  Jf1:=(Jb (at_ hK 53))
  Jdy:=(Jb (at_ hK 54))
  Za:=⟨(Jb (at_ hB 204)),(Jb (at_ hN 59)),(Jb (at_ hN 60)),(Jb (at_ hN 61)),(Jb (at_ hN 40)),(Jb (at_ hK 0)),(Jb (at_ hK 55)),(Jb (at_ hK 56)),(Jb (at_ hB 205))⟩
  JoB:=(Jb (at_ hK 57))
  Jok:=(Jb (at_ hK 58))
  Je8:=(Jb (at_ hK 59))
  Je9:=(Jb (at_ hK 60))
  JcF:=(Jb (at_ hK 61))
  JgM:=(Jb (at_ hK 62))
  Je6:=(Jb (at_ hK 63))
  JfU:=(Jb (at_ hK 64))
  JfT:=(Jb (at_ hK 65))
  JfS:=(Jb (at_ hK 66))
  Jci:=(Jb (at_ hK 67))
  JgN:=(Jb (at_ hK 68))
  JhK:=(Jb (at_ hK 69))
  Je7:=(Jb (at_ hK 70))
  Zt:=⟨(Jb (at_ hB 206)),(Jb (at_ hN 62)),(Jb (at_ hN 63)),(Jb (at_ hN 64)),(Jb (at_ hN 40)),(Jb (at_ hK 0)),(Jb (at_ hK 71)),(Jb (at_ hK 72)),(Jb (at_ hB 207))⟩
  JpE:=(Jb (at_ hK 73))
  Jpw:=(Jb (at_ hK 74))
  JfZ:=(Jb (at_ hK 75))
  Jf0:=(Jb (at_ hK 76))
  Jdw:=(Jb (at_ hK 77))
  JhL:=(Jb (at_ hK 78))
  JfX:=(Jb (at_ hK 79))
  JgQ:=(Jb (at_ hK 80))
  JgP:=(Jb (at_ hK 81))
  JgO:=(Jb (at_ hK 82))
  JcI:=(Jb (at_ hK 83))
  JhM:=(Jb (at_ hK 84))
  JiA:=(Jb (at_ hK 85))
  JfY:=(Jb (at_ hK 86))
  YJ:=⟨(Jb (at_ hB 208)),(Jb (at_ hN 65)),(Jb (at_ hN 66)),(Jb (at_ hN 67)),(Jb (at_ hN 40)),(Jb (at_ hK 0)),(Jb (at_ hK 87)),(Jb (at_ hK 88)),(Jb (at_ hB 209))⟩
  Jlk:=(Jb (at_ hK 89))
  Jk5:=(Jb (at_ hK 90))
  Jdu:=(Jb (at_ hK 91))
  Jdv:=(Jb (at_ hK 92))
  JbY:=(Jb (at_ hK 93))
  Jfc:=(Jb (at_ hK 94))
  Jds:=(Jb (at_ hK 95))
  Jeh:=(Jb (at_ hK 96))
  Jeg:=(Jb (at_ hK 97))
  Jef:=(Jb (at_ hK 98))
  Jbs:=(Jb (at_ hK 99))
  Jfd:=(Jb (at_ hK 100))
  JfW:=(Jb (at_ hK 101))
  Jdt:=(Jb (at_ hK 102))
  JtD:=⟨(Jb (at_ hB 210)),(Jb (at_ hN 68)),(Jb (at_ hN 69)),(Jb (at_ hN 70)),(Jb (at_ hN 40)),(Jb (at_ hK 0)),(Jb (at_ hK 103)),(Jb (at_ hK 104)),(Jb (at_ hB 211))⟩
  YI:=⟨(Jb (at_ hB 212)),(Jb (at_ hN 71)),(Jb (at_ hN 72)),(Jb (at_ hN 73)),(Jb (at_ hN 40)),(Jb (at_ hK 0)),(Jb (at_ hK 105)),(Jb (at_ hK 106)),(Jb (at_ hB 213))⟩
  Jlj:=(Jb (at_ hK 107))
  Jk4:=(Jb (at_ hK 108))
  Jdq:=(Jb (at_ hK 109))
  Jdr:=(Jb (at_ hK 110))
  JbX:=(Jb (at_ hK 111))
  Jfa:=(Jb (at_ hK 112))
  Jdo:=(Jb (at_ hK 113))
  Jee:=(Jb (at_ hK 114))
  Jed:=(Jb (at_ hK 115))
  Jec:=(Jb (at_ hK 116))
  Jbr:=(Jb (at_ hK 117))
  Jfb:=(Jb (at_ hK 118))
  JfV:=(Jb (at_ hK 119))
  Jdp:=(Jb (at_ hK 120)) }
 obtain ⟨oc,od,kV,doc,pm,an,cdv,ct,osl,z1,z2,z3,z4⟩:=Jrs (Option.some.inj (at_ hF 95));exact ⟨_,fun s v=>by show BindsTo s (JC K (Jc K "law")) _ _; rw [z1]; exact .of_eq rfl,fun base _ _=>JvJ T⟩
def JvY:DefRec:=⟨"law",JeG JfR,Jb1 JfR,Jl JfR,JvX JfR⟩
theorem JwP:PySem.W.WalkO qv lo0 (PySem.W.XL qv []) (fun _ h=>∃ K:PySem.W.Frag,K.In h∧JqF K) PySem.Challenge.rw_bidmover_k30_hall_begins.row.toRowW JvY [] (fun f vs=>PySem.call f vs) :=
 L2.Jso (l:=PySem.Challenge.rw_bidmover_k30_hall_begins) (n:=63) (k:=15) (x := "_law_script") (CX:=YR) (sp:=Jp1) (C:=JqF) rfl (by decide) rfl ⟨rfl,by decide,by decide⟩ (fun _ _ y=>y) (fun w K mg fa h hS X G hfa=>Jv0 hS X G hfa) (fun _ _ a ns hl _ hS=>⟨a,ns,rfl,hS,hl,fun _=>rfl⟩) fun _ _ _ _ z=>z
end Pf
open PySem PySem.W PyProof.Rows
set_option maxRecDepth 100000 in
set_option maxHeartbeats 0 in
theorem PySem.Challenge.cw_bidmover_k30_hall_begins_holds : PySem.Challenge.rw_bidmover_k30_hall_begins.Holds := by
 refine holds_law Pf.JsS fun JsS=>?_
 refine holds_open (q:=Pf.qv) (loose:=Pf.lo0) (Xt:=Pf.xt) (XP:=XL Pf.qv []) (Yf:=Pf.see) (Ya:=fun _=>Pf.Jno) (YP:=fun _ h=>∃ K:Frag,K.In h∧Pf.JqF K) (d:=Pf.JvY) (kwd:=[]) Pf.left (fun w s e=>⟨_,L2.JrR _,e⟩) (fun w h h' y hk=>y.elim fun K z=>⟨K,z.1.keeps hk,z.2⟩) (fun s e=>xl_of s (Bool.and_eq_true_iff.mp e).1) XL.keeps ?h1 ?h2 ?h3 (fun s e=>recFacts_of (Bool.and_eq_true_iff.mp e).2) ?h4 JsS ?h5 ⟨rfl,rfl,rfl,rfl,rfl,by decide +kernel⟩ ?hw Pf.JwP
 case h1=>kernel_rfl
 case h2=>kernel_rfl
 case h3=>kernel_rfl
 case h4=>kernel_rfl
 case h5=>kernel_rfl
 case hw=>w_witness2
