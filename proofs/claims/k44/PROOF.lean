import PyProof.Rows.All
import Wide.All
import OpenK.AllK
import Wide.FinOn
import Lean
import PyProof.EqAt
import PyProof.EqKinds
import PyProof.TupleCall
import PyProof.ExcAttrAll.ValueError
import PyProof.FString4
import PyProof.FString5
import PyProof.StrLawsRepr
import PyProof.Rows.SetFrom
import KE.KSortTup
import PyProof.NeKinds
import PyProof.Rows.MinMaxN
import PySem.Challenge.RW_bidmover_k44_whole_end
set_option Elab.async false
set_option linter.all false
set_option maxRecDepth 100000
namespace L2
open PySem PySem.W
def Ym (s:Stmt) (j:Nat):Stmt:=match s with
 | .ClassDef _ _ _ body _ _ _ _ _ _ _=>body.getD j (.Pass ⟨0,0,0,0⟩)
 | _=>.Pass ⟨0,0,0,0⟩
def JeF (s:Stmt):Arguments:=match s with
 | .FunctionDef _ a _ _ _ _ _ _ _ _=>a
 | _=>{ posonlyargs:=[],args:=[],vararg:=none,kwonlyargs:=[],kw_defaults:=[],kwarg:=none,defaults:=[] }
def Jcp (s:Stmt):List Stmt:=match s with
 | .FunctionDef _ _ b _ _ _ _ _ _ _=>b
 | _=>[]
def Jl (s:Stmt):Scope:=match s with
 | .FunctionDef _ _ _ _ _ _ sc _ _ _=>sc
 | _=>{ kind:=.function,names:=[],isGenerator:=false,isCoroutine:=false }
def JuE (s:Stmt):Pos:=match s with
 | .FunctionDef _ _ _ _ _ _ _ _ _ p=>p
 | _=>⟨0,0,0,0⟩
def Jqy (h:Heap):Frag:=h.objs.toList.zipIdx.filterMap fun x=>(alive x.1).map fun o=>(x.2,o)
theorem Jqx (h:Heap):(Jqy h).In h:=by
 intro a o e;have key:∀ (l:List Obj) (k:Nat),((l.zipIdx k).filterMap fun x=>(alive x.1).map fun o=>(x.2,o)).lookup a=some o→k≤a∧∃ u,l[a - k]?=some u∧alive u=some o:=by
  intro l
  induction l with
  | nil=>intro k e; cases e
  | cons b l ih =>
   intro k e;rw [List.zipIdx_cons,List.filterMap_cons] at e;have next:((l.zipIdx (k + 1)).filterMap fun x=>(alive x.1).map fun o=>(x.2,o)).lookup a=some o→k≤a∧∃ u,(b :: l)[a - k]?=some u∧alive u=some o:=fun e=>by
    obtain ⟨h1,u,h2,h3⟩:=ih (k + 1) e;refine ⟨by omega,u,?_,h3⟩;have e:a - k=(a - (k + 1)) + 1:=(Nat.succ_pred_eq_of_pos (Nat.sub_pos_of_lt h1)).symm;rw [e,List.getElem?_cons_succ];exact h2
   cases hb:alive b with
   | none =>
    have e:((l.zipIdx (k + 1)).filterMap fun x=>(alive x.1).map fun o=>(x.2,o)).lookup a=some o:=by
     simp only [hb,Option.map_none] at e;exact e
    exact next e
   | some u =>
    have e:List.lookup a ((k,u) :: ((l.zipIdx (k + 1)).filterMap fun x=>(alive x.1).map fun o=>(x.2,o)))=some o:=by
     simp only [hb,Option.map_some] at e;exact e
    rw [List.lookup_cons] at e;cases hab:a == k with
    | true =>
     rw [hab] at e;have ak:=beq_iff_eq.mp hab;subst ak;refine ⟨Nat.le_refl _,b,by rw [Nat.sub_self]; rfl,?_⟩;rw [hb]; exact e
    | false=>rw [hab] at e; exact next e
 obtain ⟨_,u,h2,h3⟩:=key _ 0 e;rw [Nat.sub_zero,Array.getElem?_toList] at h2;unfold Heap.get?;rw [h2];obtain ⟨c,d,dt,sl⟩:=u;cases dt <;> exact h3
def Jf (K:Frag) (n:Str):Addr:=match nsIn K mainGlobals n with
 | some (some (.ref k))=>k
 | _=>0
def JN (K:Frag) (n:Str):Bool:=match nsIn K mainGlobals n with
 | some (some (.ref _))=>true
 | _=>false
theorem Jx {K:Frag} {n:Str} (h:JN K n=true):nsIn K mainGlobals n=some (some (.ref (Jf K n))):=by
 unfold JN at h;unfold Jf;split at h
 ·rename_i k e; rw [e]
 ·cases h
def JA (K:Frag) (n m:Str):Addr:=match findIn K (.ref (Jf K n)) m with
 | some (some (.ref k))=>k
 | _=>0
def Ys (K:Frag) (n m:Str):Bool:=match findIn K (.ref (Jf K n)) m with
 | some (some (.ref _))=>true
 | _=>false
theorem JR {K:Frag} {n m:Str} (h:Ys K n m=true):findIn K (.ref (Jf K n)) m=some (some (.ref (JA K n m))):=by
 unfold Ys at h;unfold JA;split at h
 ·rename_i k e; rw [e]
 ·cases h
def JO (K:Frag) (f:Addr):FuncData:=match K.lookup f with
 | some ⟨_,_,.func fd,_⟩=>fd
 | _=>default
def Jpm (fd:FuncData):FuncData:={ fd with kwdefaults:=.none,doc:=.none,pyModule:=.none,annotations:=none,code:=.none,closureTuple:=.none }
def J6 (K:Frag) (f:Addr) (q:Str):Option (FuncData×Bool):=match K.lookup f with
 | some ⟨_,_,.func fd,_⟩=>some (Jpm fd,codeIn K fd.code q && keepIn K (.ref f))
 | _=>none
abbrev J9 (x q:Str) (st:Stmt):Option (FuncData×Bool):=some (fnOf x q (JeF st) (Jcp st) (Jl st) .none .none .none .none none .none .none,true)
theorem Jp7 {K:Frag} {f:Addr} {x q:Str} {st:Stmt} (h:J6 K f q=J9 x q st):∃ (oc:Value) (od:Option Addr) (kV doc pm:Value) (an:Option Addr) (cdv ct:Value) (osl:Array (Option Value)),
  JO K f=fnOf x q (JeF st) (Jcp st) (Jl st) .none kV doc pm an cdv ct∧K.lookup f=some ⟨oc,od,.func (JO K f),osl⟩∧codeIn K cdv q=true∧keepIn K (.ref f)=true:=by
 unfold J6 at h;unfold JO;split at h
 ·rename_i oc od fd sl e;rw [e];have h:=Option.some.inj h;have h1:=congrArg Prod.fst h;have h2:(codeIn K fd.code q && keepIn K (.ref f))=true:=congrArg Prod.snd h;rw [Bool.and_eq_true] at h2;obtain ⟨n,qn,ps,b,sc,gl,cl,df,kd,dc,pm,an,cd,ct,bu⟩:=fd;have h1:Jpm ⟨n,qn,ps,b,sc,gl,cl,df,kd,dc,pm,an,cd,ct,bu⟩=fnOf x q (JeF st) (Jcp st) (Jl st) .none .none .none .none none .none .none:=h1;unfold Jpm fnOf at h1;simp only [FuncData.mk.injEq] at h1;obtain ⟨rfl,rfl,rfl,rfl,rfl,rfl,rfl,rfl,_,_,_,_,_,_,rfl⟩:=h1;exact ⟨oc,od,kd,dc,pm,an,cd,ct,sl,rfl,rfl,h2.1,h2.2⟩
 ·cases h
def JgY:Value→Option (Sum Int Str)
 | .int i _=>some (.inl i)
 | .str x _=>some (.inr x)
 | _=>none
def obV (K:Frag) (n:Str):Option (Sum Int Str):=match nsIn K mainGlobals n with
 | some (some v)=>JgY v
 | _=>none
theorem Jtv {K:Frag} {n:Str} {i:Int} (h:obV K n=some (.inl i)):∃ t,nsIn K mainGlobals n=some (some (.int i t)):=by
 unfold obV at h;split at h
 ·rename_i v e;unfold JgY at h;split at h
  ·cases h; exact ⟨_,e⟩
  ·cases h
  ·cases h
 ·cases h
def obT (K:Frag) (n:Str):Option (Bool×List (Option (Sum Int Str))):=match K.lookup (Jf K n) with
 | some ⟨.type "tuple",_,.seq its _,_⟩=>some (decide (its.size≤1000),its.toList.map JgY)
 | _=>none
theorem at_ {α:Type} {l l':List α} (h:l=l') (i:Nat):l[i]?=l'[i]?:=by rw [h]
def Jgl (okf:Thread→Bool) (stf:SharedT→Thread→Option (SharedT×Thread)):Nat→SharedT→Thread→Option SharedT
 | 0,_,_=>none
 | n + 1,s,t=>match through t with
  | true=>some s
  | false=>match okf t with
   | false=>none
   | true=>match stf s t with
    | some (s',t')=>Jgl okf stf n s' t'
    | none=>none
theorem JjA {tb:String→Option Builtin} {p:Program} {w:World} {n₀:Nat} {ann:Option Value}:∀ {n:Nat} {s s':SharedT} {t:Thread},Jgl (stepOk n₀ ann) (stepT (denote tb) p w) n s t=some s'→topRun tb p w n₀ ann n s.abs t=some s'.abs
 | 0,_,_,_,h=>nomatch h
 | n + 1,s,s',t,h=>by
  unfold Jgl at h;unfold topRun;split at h
  ·rename_i e; rw [e]; cases h; rfl
  ·rename_i e; rw [e];split at h
   ·cases h
   ·rename_i e2; rw [e2];split at h
    ·rename_i s2 t2 e3;rw [stepT_spec e3];exact JjA h
    ·cases h
noncomputable def Jkn (p:Program) (w:World) (N:Nat) (s:SharedT):Option SharedT :=
 Jgl (Fast.tw6613529449190102663 ((boot_heap w.params).objs.size) ((boot_heap w.params).nsMap mainGlobals "__annotations__")) (Fast.tw10156331382660048174 (Fast.tw11892475500146522536 Fast.tw14364793385576792824) p w) N s (topStub p)
theorem Jos {p:Program} {w:World} {N:Nat} {s:SharedT}:Jkn p w N s=Jgl (stepOk ((boot_heap w.params).objs.size) ((boot_heap w.params).nsMap mainGlobals "__annotations__")) (stepT (denote treeTable) p w) N s (topStub p):=by
 rw [Fast.te6613529449190102663,Fast.te10156331382660048174,Fast.te11892475500146522536,Fast.te14364793385576792824];rfl
noncomputable def Jjp (P:Params):BT:=(boot_heap P).objs.toList.zipIdx.foldl (fun t x=>t.ins x.2 x.1) .nil
noncomputable def Jpl (P:Params) (os:OsState):SharedT:=⟨Jjp P,(boot_heap P).objs.size,(boot_heap P).life,Array.mk [],boot_drawn,boot_toks,os⟩
theorem JqV (P:Params) (os:OsState):(Jpl P os).abs=⟨boot_heap P,Array.mk [],boot_drawn,boot_toks,os⟩:=by
 show (⟨absHeap (Jjp P) (boot_heap P).objs.size (boot_heap P).life,_,_,_,_⟩:Shared)=_;have e:absHeap (Jjp P) (boot_heap P).objs.size (boot_heap P).life=boot_heap P:=by kernel_rfl
 rw [e]; rfl
noncomputable def JoE {α:Type} (p q:Program) (loose:List Str) (Xt:Shared→Bool) (Yf:Shared→α) (P:Params) (s:Shared) :=
 (staticsOk (importedModules p.main.body) (boot_heap P) s.heap && namesBound p s.heap && gensDone s && laidKept (boot_heap P) s.heap,Fast.tw4187177175401517315 q loose (importedModules p.main.body) Xt true s,Yf s)
theorem JtD {p q:Program} {loose:List Str} {Xt:Shared→Bool} {α:Type} {Yf:Shared→α} {Ya:World→α} {N:Nat} (e:opening p=plainProg p.main.scope.names) (hN:Nat.ble 600 N=true) (f:∀ s,fenceModules? p s=some s)
  (h:∀ (w:World) (os:OsState),(Jkn p w N (Jpl w.params os)).map (fun s=>JoE p q loose Xt Yf w.params s.abs)=some (true,openGood q loose,Ya w))
  (hb:∀ P:Params,((boot_heap P).isNs mainGlobals && (Array.mk ([]:List GenState)).size == 0)=true):LeftO p q loose Xt Yf Ya N:=by
 intro w;have o:=boot_open e hN f w;obtain ⟨s0,e0,e1⟩:=Option.map_eq_some_iff.mp o;obtain ⟨h0,g0,d0,k0,os⟩:=s0;obtain ⟨rfl,rfl,rfl,rfl⟩:h0=boot_heap w.params∧g0=Array.mk []∧d0=boot_drawn∧k0=boot_toks:=by simpa using e1
 obtain ⟨s1,r1,l1⟩:=Option.map_eq_some_iff.mp (h w os);rw [Jos] at r1;have r:=JjA r1;rw [JqV] at r;have l:(staticsOk (importedModules p.main.body) (boot_heap w.params) s1.abs.heap && namesBound p s1.abs.heap && gensDone s1.abs && laidKept (boot_heap w.params) s1.abs.heap)=true∧openSeen q loose (importedModules p.main.body) Xt true s1.abs=openGood q loose∧Yf s1.abs=Ya w:=by
  have z:=l1;unfold JoE at z;rw [← Fast.te4187177175401517315] at z;exact ⟨congrArg Prod.fst z,congrArg (fun x=>x.2.1) z,congrArg (fun x=>x.2.2) z⟩
 have t:topFrom treeTable p w N ⟨boot_heap w.params,Array.mk [],boot_drawn,boot_toks,os⟩=some s1.abs:=by
  unfold topFrom;dsimp only;rw [hb w.params,r];show (match staticsOk (importedModules p.main.body) (boot_heap w.params) s1.abs.heap && namesBound p s1.abs.heap && gensDone s1.abs && laidKept (boot_heap w.params) s1.abs.heap with | true=>_ | false=>_)=_;rw [l.1]
 unfold openEnds;rw [e0];show (topFrom treeTable p w N _).map _=_;rw [t];exact congrArg some (Prod.ext l.2.1 l.2.2)
end L2
namespace Pf
open PySem PySem.W L2
abbrev pg:Program:=PySem.Challenge.pw_bidmover_k44_whole_end
def Yd (i:Nat):Stmt:=pg.main.body.getD i (.Pass ⟨0,0,0,0⟩)
def qv:Program:={ pg with main:={ pg.main with body:=[Yd 78] } }
def lo0:List Str:=(["_wall", "good_name", "check_hand", "other", "check_up_to", "check_coins", "check_bid", "check_standing", "ended", "coins_of", "pay", "settle", "turn_begin", "told_by", "check_each_once", "check_among", "check_places", "check_lanes", "check_goals", "_law_at", "_law_row", "_law_whole", "_law_names", "_law_pairs", "_law_goals", "_law_ground", "_law_total", "_law_left", "_law_ways", "_law_foe", "_law_hand", "_law_won", "_law_turned", "_law_which", "_law_holds", "_law_flat", "_law_deeds", "_law_due", "_law_next", "_law_bid_pick", "_law_reply_pick", "_law_pick", "_law_opening", "_law_shows", "_law_does", "_law_open", "_law_try", "_law_at_end", "BidmoverError", "BadName", "BadHand", "OutOfRange", "Twice", "NoPlace", "BadBid", "NoLane", "NotDue", "NothingDone", "Taken", "Full", "Missing", "Book", "Moment", "Game", "Board", "HANDS", "MOST_SIGNS", "MOST_TURNS", "MOST_COINS", "MOST_PLACES", "MOST_LANES"]:List String).map Str.ofString
abbrev JnW:Stmt:=Yd 0
abbrev Jdj:Stmt:=Yd 18
abbrev JeR:Stmt:=Yd 19
abbrev JkB:Stmt:=Yd 20
abbrev Jdz:Stmt:=Yd 24
abbrev JdC:Stmt:=Yd 25
abbrev JfZ:Stmt:=Yd 26
abbrev Jb6:Stmt:=Yd 27
abbrev JkD:Stmt:=Yd 28
abbrev JgO:Stmt:=Yd 29
abbrev JoK:Stmt:=Yd 30
abbrev JiV:Stmt:=Yd 31
abbrev Jf5:Stmt:=Ym (Yd 33) 0
abbrev JbM:Stmt:=Ym (Yd 33) 1
abbrev JcT:Stmt:=Ym (Yd 33) 2
abbrev Y0:Stmt:=Ym (Yd 33) 3
abbrev YZ:Stmt:=Ym (Yd 33) 4
abbrev Jbq:Stmt:=Ym (Yd 33) 5
abbrev JdH:Stmt:=Ym (Yd 33) 6
abbrev Jhq:Stmt:=Ym (Yd 33) 7
abbrev JdI:Stmt:=Ym (Yd 33) 8
abbrev Jb8:Stmt:=Ym (Yd 33) 9
abbrev Jbr:Stmt:=Ym (Yd 33) 10
abbrev JcS:Stmt:=Ym (Yd 33) 11
abbrev JdE:Stmt:=Ym (Yd 35) 0
abbrev JeO:Stmt:=Yd 36
abbrev Jho:Stmt:=Yd 37
abbrev Jf3:Stmt:=Ym (Yd 38) 0
abbrev Jcr:Stmt:=Ym (Yd 38) 1
abbrev JgQ:Stmt:=Ym (Yd 38) 2
abbrev JeS:Stmt:=Ym (Yd 38) 3
abbrev JeU:Stmt:=Ym (Yd 38) 4
abbrev Jf2:Stmt:=Ym (Yd 38) 5
abbrev JdF:Stmt:=Ym (Yd 38) 6
abbrev Jf0:Stmt:=Ym (Yd 38) 7
abbrev Jb7:Stmt:=Ym (Yd 38) 8
abbrev JeT:Stmt:=Ym (Yd 38) 9
abbrev JgR:Stmt:=Ym (Yd 38) 10
abbrev JdG:Stmt:=Ym (Yd 38) 11
abbrev Jf1:Stmt:=Ym (Yd 38) 12
abbrev Jf4:Stmt:=Ym (Yd 38) 13
abbrev JbL:Stmt:=Yd 42
abbrev JdD:Stmt:=Yd 43
abbrev JcR:Stmt:=Yd 44
abbrev JdA:Stmt:=Yd 45
abbrev JdB:Stmt:=Yd 46
abbrev JeV:Stmt:=Ym (Yd 47) 0
abbrev Ja7:Stmt:=Ym (Yd 47) 1
abbrev Jcs:Stmt:=Ym (Yd 47) 2
abbrev Jct:Stmt:=Ym (Yd 47) 3
abbrev JrH:Stmt:=Yd 49
abbrev JoJ:Stmt:=Yd 50
abbrev Jkx:Stmt:=Yd 51
abbrev Jih:Stmt:=Yd 52
abbrev JkA:Stmt:=Yd 53
abbrev Jii:Stmt:=Yd 54
abbrev JeQ:Stmt:=Yd 55
abbrev Jky:Stmt:=Yd 56
abbrev JmE:Stmt:=Yd 57
abbrev JjH:Stmt:=Yd 58
abbrev JoL:Stmt:=Yd 59
abbrev JmF:Stmt:=Yd 60
abbrev JoH:Stmt:=Yd 61
abbrev JiU:Stmt:=Yd 62
abbrev Jig:Stmt:=Yd 63
abbrev JkC:Stmt:=Yd 64
abbrev JmG:Stmt:=Yd 65
abbrev JkE:Stmt:=Yd 66
abbrev JoM:Stmt:=Yd 67
abbrev JmD:Stmt:=Yd 68
abbrev JgP:Stmt:=Yd 69
abbrev JeP:Stmt:=Yd 70
abbrev JmB:Stmt:=Yd 71
abbrev Jhp:Stmt:=Yd 72
abbrev Jkz:Stmt:=Yd 73
abbrev JmH:Stmt:=Yd 74
abbrev JmC:Stmt:=Yd 75
abbrev JoI:Stmt:=Yd 76
abbrev JiW:Stmt:=Yd 77
abbrev JgN:Stmt:=Yd 78
def JrA (K:Frag):List (Bool):=[JN K "_wall",
 JN K "good_name",
 JN K "check_hand",
 JN K "other",
 JN K "check_up_to",
 JN K "check_coins",
 JN K "check_bid",
 JN K "check_standing",
 JN K "ended",
 JN K "coins_of",
 JN K "pay",
 JN K "settle",
 Ys K "Book" "__init__",
 PySem.W.isFn K (.ref (JA K "Book" "__init__")),
 Ys K "Book" "needs_with",
 PySem.W.isFn K (.ref (JA K "Book" "needs_with")),
 Ys K "Book" "need_at",
 PySem.W.isFn K (.ref (JA K "Book" "need_at")),
 Ys K "Book" "need_where_north_leads",
 PySem.W.isFn K (.ref (JA K "Book" "need_where_north_leads")),
 Ys K "Book" "need_where_south_leads",
 PySem.W.isFn K (.ref (JA K "Book" "need_where_south_leads")),
 Ys K "Book" "check_share",
 PySem.W.isFn K (.ref (JA K "Book" "check_share")),
 Ys K "Book" "winner",
 PySem.W.isFn K (.ref (JA K "Book" "winner")),
 Ys K "Book" "least",
 PySem.W.isFn K (.ref (JA K "Book" "least")),
 Ys K "Book" "bid_of",
 PySem.W.isFn K (.ref (JA K "Book" "bid_of")),
 Ys K "Book" "answer_of",
 PySem.W.isFn K (.ref (JA K "Book" "answer_of")),
 Ys K "Book" "answer_wins",
 PySem.W.isFn K (.ref (JA K "Book" "answer_wins")),
 Ys K "Book" "step_of",
 PySem.W.isFn K (.ref (JA K "Book" "step_of")),
 Ys K "Moment" "__init__",
 PySem.W.isFn K (.ref (JA K "Moment" "__init__")),
 JN K "turn_begin",
 JN K "told_by",
 Ys K "Game" "__init__",
 PySem.W.isFn K (.ref (JA K "Game" "__init__")),
 Ys K "Game" "standing",
 PySem.W.isFn K (.ref (JA K "Game" "standing")),
 Ys K "Game" "due",
 PySem.W.isFn K (.ref (JA K "Game" "due")),
 Ys K "Game" "named",
 PySem.W.isFn K (.ref (JA K "Game" "named")),
 Ys K "Game" "deeds",
 PySem.W.isFn K (.ref (JA K "Game" "deeds")),
 Ys K "Game" "over",
 PySem.W.isFn K (.ref (JA K "Game" "over")),
 Ys K "Game" "winner",
 PySem.W.isFn K (.ref (JA K "Game" "winner")),
 Ys K "Game" "told",
 PySem.W.isFn K (.ref (JA K "Game" "told")),
 Ys K "Game" "check_due",
 PySem.W.isFn K (.ref (JA K "Game" "check_due")),
 Ys K "Game" "go_on",
 PySem.W.isFn K (.ref (JA K "Game" "go_on")),
 Ys K "Game" "bid",
 PySem.W.isFn K (.ref (JA K "Game" "bid")),
 Ys K "Game" "answer",
 PySem.W.isFn K (.ref (JA K "Game" "answer")),
 Ys K "Game" "step",
 PySem.W.isFn K (.ref (JA K "Game" "step")),
 Ys K "Game" "back",
 PySem.W.isFn K (.ref (JA K "Game" "back")),
 JN K "check_each_once",
 JN K "check_among",
 JN K "check_places",
 JN K "check_lanes",
 JN K "check_goals",
 Ys K "Board" "__init__",
 PySem.W.isFn K (.ref (JA K "Board" "__init__")),
 Ys K "Board" "check_place",
 PySem.W.isFn K (.ref (JA K "Board" "check_place")),
 Ys K "Board" "ways",
 PySem.W.isFn K (.ref (JA K "Board" "ways")),
 Ys K "Board" "is_goal",
 PySem.W.isFn K (.ref (JA K "Board" "is_goal")),
 JN K "_law_at",
 JN K "_law_row",
 JN K "_law_whole",
 JN K "_law_names",
 JN K "_law_pairs",
 JN K "_law_goals",
 JN K "_law_ground",
 JN K "_law_total",
 JN K "_law_left",
 JN K "_law_ways",
 JN K "_law_foe",
 JN K "_law_hand",
 JN K "_law_won",
 JN K "_law_turned",
 JN K "_law_which",
 JN K "_law_holds",
 JN K "_law_flat",
 JN K "_law_deeds",
 JN K "_law_due",
 JN K "_law_next",
 JN K "_law_bid_pick",
 JN K "_law_reply_pick",
 JN K "_law_pick",
 JN K "_law_opening",
 JN K "_law_shows",
 JN K "_law_does",
 JN K "_law_open",
 JN K "_law_try",
 JN K "_law_at_end",
 JN K "law",
 JN K "HANDS",
 JN K "BidmoverError",
 JN K "BadName",
 JN K "BadHand",
 JN K "OutOfRange",
 JN K "Twice",
 JN K "NoPlace",
 JN K "BadBid",
 JN K "NoLane",
 JN K "NotDue",
 JN K "NothingDone",
 JN K "Taken",
 JN K "Full",
 JN K "Missing",
 JN K "Book",
 JN K "Moment",
 JN K "Game",
 JN K "Board",
 PySem.W.plainGet K (Jf K "Book") Str.empty,
 PySem.W.hasDictIn K (Jf K "Book"),
 PySem.W.plainOver K (Jf K "Book"),
 PySem.W.makesIn K (Jf K "Book"),
 PySem.W.keepIn K (.ref (Jf K "Book")),
 PySem.W.plainGet K (Jf K "Moment") Str.empty,
 PySem.W.hasDictIn K (Jf K "Moment"),
 PySem.W.plainOver K (Jf K "Moment"),
 PySem.W.makesIn K (Jf K "Moment"),
 PySem.W.keepIn K (.ref (Jf K "Moment")),
 PySem.W.plainGet K (Jf K "Game") Str.empty,
 PySem.W.hasDictIn K (Jf K "Game"),
 PySem.W.plainOver K (Jf K "Game"),
 PySem.W.makesIn K (Jf K "Game"),
 PySem.W.keepIn K (.ref (Jf K "Game")),
 PySem.W.plainGet K (Jf K "Board") Str.empty,
 PySem.W.hasDictIn K (Jf K "Board"),
 PySem.W.plainOver K (Jf K "Board"),
 PySem.W.makesIn K (Jf K "Board"),
 PySem.W.keepIn K (.ref (Jf K "Board")),
 PySem.W.excIn K (Jf K "BadHand") [.type "ValueError",.type "Exception",.type "BaseException",.type "object"] "ValueError.__new__",
 (PySem.W.clsIn K (Jf K "BadHand")).isSome,
 PySem.W.excIn K (Jf K "OutOfRange") [.type "ValueError",.type "Exception",.type "BaseException",.type "object"] "ValueError.__new__",
 (PySem.W.clsIn K (Jf K "OutOfRange")).isSome,
 PySem.W.excIn K (Jf K "BadBid") [.type "ValueError",.type "Exception",.type "BaseException",.type "object"] "ValueError.__new__",
 (PySem.W.clsIn K (Jf K "BadBid")).isSome,
 PySem.W.excIn K (Jf K "NotDue") [.type "ValueError",.type "Exception",.type "BaseException",.type "object"] "ValueError.__new__",
 (PySem.W.clsIn K (Jf K "NotDue")).isSome,
 PySem.W.excIn K (Jf K "NoLane") [.type "ValueError",.type "Exception",.type "BaseException",.type "object"] "ValueError.__new__",
 (PySem.W.clsIn K (Jf K "NoLane")).isSome,
 PySem.W.excIn K (Jf K "NothingDone") [.type "ValueError",.type "Exception",.type "BaseException",.type "object"] "ValueError.__new__",
 (PySem.W.clsIn K (Jf K "NothingDone")).isSome,
 PySem.W.excIn K (Jf K "Twice") [.type "ValueError",.type "Exception",.type "BaseException",.type "object"] "ValueError.__new__",
 (PySem.W.clsIn K (Jf K "Twice")).isSome,
 PySem.W.excIn K (Jf K "NoPlace") [.type "ValueError",.type "Exception",.type "BaseException",.type "object"] "ValueError.__new__",
 (PySem.W.clsIn K (Jf K "NoPlace")).isSome,
 PySem.W.excIn K (Jf K "BadName") [.type "ValueError",.type "Exception",.type "BaseException",.type "object"] "ValueError.__new__",
 (PySem.W.clsIn K (Jf K "BadName")).isSome]
def isB:List (Bool):=List.replicate 167 true
def Jrz (K:Frag):List (Option (FuncData×Bool)):=[J6 K (Jf K "_wall") "_wall",
 J6 K (Jf K "good_name") "good_name",
 J6 K (Jf K "check_hand") "check_hand",
 J6 K (Jf K "other") "other",
 J6 K (Jf K "check_up_to") "check_up_to",
 J6 K (Jf K "check_coins") "check_coins",
 J6 K (Jf K "check_bid") "check_bid",
 J6 K (Jf K "check_standing") "check_standing",
 J6 K (Jf K "ended") "ended",
 J6 K (Jf K "coins_of") "coins_of",
 J6 K (Jf K "pay") "pay",
 J6 K (Jf K "settle") "settle",
 J6 K (JA K "Book" "__init__") "Book.__init__",
 J6 K (JA K "Book" "needs_with") "Book.needs_with",
 J6 K (JA K "Book" "need_at") "Book.need_at",
 J6 K (JA K "Book" "need_where_north_leads") "Book.need_where_north_leads",
 J6 K (JA K "Book" "need_where_south_leads") "Book.need_where_south_leads",
 J6 K (JA K "Book" "check_share") "Book.check_share",
 J6 K (JA K "Book" "winner") "Book.winner",
 J6 K (JA K "Book" "least") "Book.least",
 J6 K (JA K "Book" "bid_of") "Book.bid_of",
 J6 K (JA K "Book" "answer_of") "Book.answer_of",
 J6 K (JA K "Book" "answer_wins") "Book.answer_wins",
 J6 K (JA K "Book" "step_of") "Book.step_of",
 J6 K (JA K "Moment" "__init__") "Moment.__init__",
 J6 K (Jf K "turn_begin") "turn_begin",
 J6 K (Jf K "told_by") "told_by",
 J6 K (JA K "Game" "__init__") "Game.__init__",
 J6 K (JA K "Game" "standing") "Game.standing",
 J6 K (JA K "Game" "due") "Game.due",
 J6 K (JA K "Game" "named") "Game.named",
 J6 K (JA K "Game" "deeds") "Game.deeds",
 J6 K (JA K "Game" "over") "Game.over",
 J6 K (JA K "Game" "winner") "Game.winner",
 J6 K (JA K "Game" "told") "Game.told",
 J6 K (JA K "Game" "check_due") "Game.check_due",
 J6 K (JA K "Game" "go_on") "Game.go_on",
 J6 K (JA K "Game" "bid") "Game.bid",
 J6 K (JA K "Game" "answer") "Game.answer",
 J6 K (JA K "Game" "step") "Game.step",
 J6 K (JA K "Game" "back") "Game.back",
 J6 K (Jf K "check_each_once") "check_each_once",
 J6 K (Jf K "check_among") "check_among",
 J6 K (Jf K "check_places") "check_places",
 J6 K (Jf K "check_lanes") "check_lanes",
 J6 K (Jf K "check_goals") "check_goals",
 J6 K (JA K "Board" "__init__") "Board.__init__",
 J6 K (JA K "Board" "check_place") "Board.check_place",
 J6 K (JA K "Board" "ways") "Board.ways",
 J6 K (JA K "Board" "is_goal") "Board.is_goal",
 J6 K (Jf K "_law_at") "_law_at",
 J6 K (Jf K "_law_row") "_law_row",
 J6 K (Jf K "_law_whole") "_law_whole",
 J6 K (Jf K "_law_names") "_law_names",
 J6 K (Jf K "_law_pairs") "_law_pairs",
 J6 K (Jf K "_law_goals") "_law_goals",
 J6 K (Jf K "_law_ground") "_law_ground",
 J6 K (Jf K "_law_total") "_law_total",
 J6 K (Jf K "_law_left") "_law_left",
 J6 K (Jf K "_law_ways") "_law_ways",
 J6 K (Jf K "_law_foe") "_law_foe",
 J6 K (Jf K "_law_hand") "_law_hand",
 J6 K (Jf K "_law_won") "_law_won",
 J6 K (Jf K "_law_turned") "_law_turned",
 J6 K (Jf K "_law_which") "_law_which",
 J6 K (Jf K "_law_holds") "_law_holds",
 J6 K (Jf K "_law_flat") "_law_flat",
 J6 K (Jf K "_law_deeds") "_law_deeds",
 J6 K (Jf K "_law_due") "_law_due",
 J6 K (Jf K "_law_next") "_law_next",
 J6 K (Jf K "_law_bid_pick") "_law_bid_pick",
 J6 K (Jf K "_law_reply_pick") "_law_reply_pick",
 J6 K (Jf K "_law_pick") "_law_pick",
 J6 K (Jf K "_law_opening") "_law_opening",
 J6 K (Jf K "_law_shows") "_law_shows",
 J6 K (Jf K "_law_does") "_law_does",
 J6 K (Jf K "_law_open") "_law_open",
 J6 K (Jf K "_law_try") "_law_try",
 J6 K (Jf K "_law_at_end") "_law_at_end",
 J6 K (Jf K "law") "law"]
def isF:List (Option (FuncData×Bool)):=[J9 "_wall" "_wall" JnW,
 J9 "good_name" "good_name" Jdj,
 J9 "check_hand" "check_hand" JeR,
 J9 "other" "other" JkB,
 J9 "check_up_to" "check_up_to" Jdz,
 J9 "check_coins" "check_coins" JdC,
 J9 "check_bid" "check_bid" JfZ,
 J9 "check_standing" "check_standing" Jb6,
 J9 "ended" "ended" JkD,
 J9 "coins_of" "coins_of" JgO,
 J9 "pay" "pay" JoK,
 J9 "settle" "settle" JiV,
 J9 "__init__" "Book.__init__" Jf5,
 J9 "needs_with" "Book.needs_with" JbM,
 J9 "need_at" "Book.need_at" JcT,
 J9 "need_where_north_leads" "Book.need_where_north_leads" Y0,
 J9 "need_where_south_leads" "Book.need_where_south_leads" YZ,
 J9 "check_share" "Book.check_share" Jbq,
 J9 "winner" "Book.winner" JdH,
 J9 "least" "Book.least" Jhq,
 J9 "bid_of" "Book.bid_of" JdI,
 J9 "answer_of" "Book.answer_of" Jb8,
 J9 "answer_wins" "Book.answer_wins" Jbr,
 J9 "step_of" "Book.step_of" JcS,
 J9 "__init__" "Moment.__init__" JdE,
 J9 "turn_begin" "turn_begin" JeO,
 J9 "told_by" "told_by" Jho,
 J9 "__init__" "Game.__init__" Jf3,
 J9 "standing" "Game.standing" Jcr,
 J9 "due" "Game.due" JgQ,
 J9 "named" "Game.named" JeS,
 J9 "deeds" "Game.deeds" JeU,
 J9 "over" "Game.over" Jf2,
 J9 "winner" "Game.winner" JdF,
 J9 "told" "Game.told" Jf0,
 J9 "check_due" "Game.check_due" Jb7,
 J9 "go_on" "Game.go_on" JeT,
 J9 "bid" "Game.bid" JgR,
 J9 "answer" "Game.answer" JdG,
 J9 "step" "Game.step" Jf1,
 J9 "back" "Game.back" Jf4,
 J9 "check_each_once" "check_each_once" JbL,
 J9 "check_among" "check_among" JdD,
 J9 "check_places" "check_places" JcR,
 J9 "check_lanes" "check_lanes" JdA,
 J9 "check_goals" "check_goals" JdB,
 J9 "__init__" "Board.__init__" JeV,
 J9 "check_place" "Board.check_place" Ja7,
 J9 "ways" "Board.ways" Jcs,
 J9 "is_goal" "Board.is_goal" Jct,
 J9 "_law_at" "_law_at" JrH,
 J9 "_law_row" "_law_row" JoJ,
 J9 "_law_whole" "_law_whole" Jkx,
 J9 "_law_names" "_law_names" Jih,
 J9 "_law_pairs" "_law_pairs" JkA,
 J9 "_law_goals" "_law_goals" Jii,
 J9 "_law_ground" "_law_ground" JeQ,
 J9 "_law_total" "_law_total" Jky,
 J9 "_law_left" "_law_left" JmE,
 J9 "_law_ways" "_law_ways" JjH,
 J9 "_law_foe" "_law_foe" JoL,
 J9 "_law_hand" "_law_hand" JmF,
 J9 "_law_won" "_law_won" JoH,
 J9 "_law_turned" "_law_turned" JiU,
 J9 "_law_which" "_law_which" Jig,
 J9 "_law_holds" "_law_holds" JkC,
 J9 "_law_flat" "_law_flat" JmG,
 J9 "_law_deeds" "_law_deeds" JkE,
 J9 "_law_due" "_law_due" JoM,
 J9 "_law_next" "_law_next" JmD,
 J9 "_law_bid_pick" "_law_bid_pick" JgP,
 J9 "_law_reply_pick" "_law_reply_pick" JeP,
 J9 "_law_pick" "_law_pick" JmB,
 J9 "_law_opening" "_law_opening" Jhp,
 J9 "_law_shows" "_law_shows" Jkz,
 J9 "_law_does" "_law_does" JmH,
 J9 "_law_open" "_law_open" JmC,
 J9 "_law_try" "_law_try" JoI,
 J9 "_law_at_end" "_law_at_end" JiW,
 J9 "law" "law" JgN]
def Jrx (K:Frag):List (Option (Option Value)):=[PySem.W.nsIn K mainGlobals "all",
 PySem.W.nsIn K mainGlobals "len",
 PySem.W.nsIn K mainGlobals "range",
 PySem.W.nsIn K mainGlobals "min",
 PySem.W.nsIn K mainGlobals "max",
 PySem.W.nsIn K mainGlobals "tuple",
 PySem.W.nsIn K mainGlobals "set",
 PySem.W.nsIn K mainGlobals "sorted",
 PySem.W.nsIn K mainGlobals "isinstance",
 PySem.W.nsIn K mainGlobals "int",
 PySem.W.nsIn K mainGlobals "bool",
 PySem.W.nsIn K mainGlobals "str",
 PySem.W.nsIn K mainGlobals "ValueError",
 PySem.W.nsIn K mainGlobals "list",
 PySem.W.findIn K (.ref (Jf K "Book")) "__setattr__",
 PySem.W.findIn K (.ref (Jf K "Book")) "board",
 PySem.W.findIn K (.ref (Jf K "Book")) "coins",
 PySem.W.findIn K (.ref (Jf K "Book")) "turns",
 PySem.W.findIn K (.ref (Jf K "Book")) "needs",
 PySem.W.findIn K (.ref (Jf K "Moment")) "__setattr__",
 PySem.W.findIn K (.ref (Jf K "Moment")) "place",
 PySem.W.findIn K (.ref (Jf K "Moment")) "turns",
 PySem.W.findIn K (.ref (Jf K "Moment")) "north",
 PySem.W.findIn K (.ref (Jf K "Moment")) "south",
 PySem.W.findIn K (.ref (Jf K "Moment")) "ribbon",
 PySem.W.findIn K (.ref (Jf K "Moment")) "hand",
 PySem.W.findIn K (.ref (Jf K "Moment")) "word",
 PySem.W.findIn K (.ref (Jf K "Moment")) "heard",
 PySem.W.findIn K (.ref (Jf K "Game")) "__setattr__",
 PySem.W.findIn K (.ref (Jf K "Game")) "board",
 PySem.W.findIn K (.ref (Jf K "Game")) "book",
 PySem.W.findIn K (.ref (Jf K "Game")) "done",
 PySem.W.findIn K (.ref (Jf K "Game")) "moments",
 PySem.W.findIn K (.ref (Jf K "Board")) "__setattr__",
 PySem.W.findIn K (.ref (Jf K "Board")) "places",
 PySem.W.findIn K (.ref (Jf K "Board")) "lanes",
 PySem.W.findIn K (.ref (Jf K "Board")) "goals",
 PySem.W.specialIn K (.builtin "object.__class__") "__get__",
 PySem.W.findIn K (.ref (Jf K "BadHand")) "__getattribute__",
 PySem.W.findIn K (.ref (Jf K "BadHand")) "__getattr__",
 PySem.W.findIn K (.ref (Jf K "BadHand")) "__class__",
 PySem.W.findIn K (.ref (Jf K "OutOfRange")) "__getattribute__",
 PySem.W.findIn K (.ref (Jf K "OutOfRange")) "__getattr__",
 PySem.W.findIn K (.ref (Jf K "OutOfRange")) "__class__",
 PySem.W.findIn K (.ref (Jf K "BadBid")) "__getattribute__",
 PySem.W.findIn K (.ref (Jf K "BadBid")) "__getattr__",
 PySem.W.findIn K (.ref (Jf K "BadBid")) "__class__",
 PySem.W.findIn K (.ref (Jf K "NotDue")) "__getattribute__",
 PySem.W.findIn K (.ref (Jf K "NotDue")) "__getattr__",
 PySem.W.findIn K (.ref (Jf K "NotDue")) "__class__",
 PySem.W.findIn K (.ref (Jf K "NoLane")) "__getattribute__",
 PySem.W.findIn K (.ref (Jf K "NoLane")) "__getattr__",
 PySem.W.findIn K (.ref (Jf K "NoLane")) "__class__",
 PySem.W.findIn K (.ref (Jf K "NothingDone")) "__getattribute__",
 PySem.W.findIn K (.ref (Jf K "NothingDone")) "__getattr__",
 PySem.W.findIn K (.ref (Jf K "NothingDone")) "__class__",
 PySem.W.findIn K (.ref (Jf K "Twice")) "__getattribute__",
 PySem.W.findIn K (.ref (Jf K "Twice")) "__getattr__",
 PySem.W.findIn K (.ref (Jf K "Twice")) "__class__",
 PySem.W.findIn K (.ref (Jf K "NoPlace")) "__getattribute__",
 PySem.W.findIn K (.ref (Jf K "NoPlace")) "__getattr__",
 PySem.W.findIn K (.ref (Jf K "NoPlace")) "__class__",
 PySem.W.findIn K (.ref (Jf K "BadName")) "__getattribute__",
 PySem.W.findIn K (.ref (Jf K "BadName")) "__getattr__",
 PySem.W.findIn K (.ref (Jf K "BadName")) "__class__"]
def isN:List (Option (Option Value)):=[some none,
 some none,
 some none,
 some none,
 some none,
 some none,
 some none,
 some none,
 some none,
 some none,
 some none,
 some none,
 some none,
 some none,
 some (some (.builtin "object.__setattr__")),
 some none,
 some none,
 some none,
 some none,
 some (some (.builtin "object.__setattr__")),
 some none,
 some none,
 some none,
 some none,
 some none,
 some none,
 some none,
 some none,
 some (some (.builtin "object.__setattr__")),
 some none,
 some none,
 some none,
 some none,
 some (some (.builtin "object.__setattr__")),
 some none,
 some none,
 some none,
 some (some (.builtin "getset_descriptor.__get__")),
 some (some (.builtin "BaseException.__getattribute__")),
 some none,
 some (some (.builtin "object.__class__")),
 some (some (.builtin "BaseException.__getattribute__")),
 some none,
 some (some (.builtin "object.__class__")),
 some (some (.builtin "BaseException.__getattribute__")),
 some none,
 some (some (.builtin "object.__class__")),
 some (some (.builtin "BaseException.__getattribute__")),
 some none,
 some (some (.builtin "object.__class__")),
 some (some (.builtin "BaseException.__getattribute__")),
 some none,
 some (some (.builtin "object.__class__")),
 some (some (.builtin "BaseException.__getattribute__")),
 some none,
 some (some (.builtin "object.__class__")),
 some (some (.builtin "BaseException.__getattribute__")),
 some none,
 some (some (.builtin "object.__class__")),
 some (some (.builtin "BaseException.__getattribute__")),
 some none,
 some (some (.builtin "object.__class__")),
 some (some (.builtin "BaseException.__getattribute__")),
 some none,
 some (some (.builtin "object.__class__"))]
def Jry (K:Frag):List (Option Bool):=[PySem.W.takesIn K (.builtin "object.__class__"),
 PySem.W.mroIn K (Jf K "BadHand") (.type "object"),
 PySem.W.mroIn K (Jf K "BadHand") (.type "BaseException"),
 PySem.W.mroIn K (Jf K "OutOfRange") (.type "object"),
 PySem.W.mroIn K (Jf K "OutOfRange") (.type "BaseException"),
 PySem.W.mroIn K (Jf K "BadBid") (.type "object"),
 PySem.W.mroIn K (Jf K "BadBid") (.type "BaseException"),
 PySem.W.exmOne K (.ref (Jf K "BadBid")) (.ref (Jf K "BidmoverError")),
 PySem.W.kitOne K (.ref (Jf K "BadBid")) (.type "ValueError"),
 PySem.W.kitOne K (.ref (Jf K "BadBid")) (.ref (Jf K "BadName")),
 PySem.W.kitOne K (.ref (Jf K "BadBid")) (.ref (Jf K "BadHand")),
 PySem.W.kitOne K (.ref (Jf K "BadBid")) (.ref (Jf K "OutOfRange")),
 PySem.W.kitOne K (.ref (Jf K "BadBid")) (.ref (Jf K "Twice")),
 PySem.W.kitOne K (.ref (Jf K "BadBid")) (.ref (Jf K "NoPlace")),
 PySem.W.kitOne K (.ref (Jf K "BadBid")) (.ref (Jf K "BadBid")),
 PySem.W.kitOne K (.ref (Jf K "BadBid")) (.ref (Jf K "NoLane")),
 PySem.W.kitOne K (.ref (Jf K "BadBid")) (.ref (Jf K "NotDue")),
 PySem.W.kitOne K (.ref (Jf K "BadBid")) (.ref (Jf K "NothingDone")),
 PySem.W.kitOne K (.ref (Jf K "BadBid")) (.ref (Jf K "Taken")),
 PySem.W.kitOne K (.ref (Jf K "BadBid")) (.ref (Jf K "Full")),
 PySem.W.kitOne K (.ref (Jf K "BadBid")) (.ref (Jf K "Missing")),
 PySem.W.mroIn K (Jf K "NotDue") (.type "object"),
 PySem.W.mroIn K (Jf K "NotDue") (.type "BaseException"),
 PySem.W.exmOne K (.ref (Jf K "NotDue")) (.ref (Jf K "BidmoverError")),
 PySem.W.kitOne K (.ref (Jf K "NotDue")) (.type "ValueError"),
 PySem.W.kitOne K (.ref (Jf K "NotDue")) (.ref (Jf K "BadName")),
 PySem.W.kitOne K (.ref (Jf K "NotDue")) (.ref (Jf K "BadHand")),
 PySem.W.kitOne K (.ref (Jf K "NotDue")) (.ref (Jf K "OutOfRange")),
 PySem.W.kitOne K (.ref (Jf K "NotDue")) (.ref (Jf K "Twice")),
 PySem.W.kitOne K (.ref (Jf K "NotDue")) (.ref (Jf K "NoPlace")),
 PySem.W.kitOne K (.ref (Jf K "NotDue")) (.ref (Jf K "BadBid")),
 PySem.W.kitOne K (.ref (Jf K "NotDue")) (.ref (Jf K "NoLane")),
 PySem.W.kitOne K (.ref (Jf K "NotDue")) (.ref (Jf K "NotDue")),
 PySem.W.kitOne K (.ref (Jf K "NotDue")) (.ref (Jf K "NothingDone")),
 PySem.W.kitOne K (.ref (Jf K "NotDue")) (.ref (Jf K "Taken")),
 PySem.W.kitOne K (.ref (Jf K "NotDue")) (.ref (Jf K "Full")),
 PySem.W.kitOne K (.ref (Jf K "NotDue")) (.ref (Jf K "Missing")),
 PySem.W.mroIn K (Jf K "NoLane") (.type "object"),
 PySem.W.mroIn K (Jf K "NoLane") (.type "BaseException"),
 PySem.W.exmOne K (.ref (Jf K "NoLane")) (.ref (Jf K "BidmoverError")),
 PySem.W.kitOne K (.ref (Jf K "NoLane")) (.type "ValueError"),
 PySem.W.kitOne K (.ref (Jf K "NoLane")) (.ref (Jf K "BadName")),
 PySem.W.kitOne K (.ref (Jf K "NoLane")) (.ref (Jf K "BadHand")),
 PySem.W.kitOne K (.ref (Jf K "NoLane")) (.ref (Jf K "OutOfRange")),
 PySem.W.kitOne K (.ref (Jf K "NoLane")) (.ref (Jf K "Twice")),
 PySem.W.kitOne K (.ref (Jf K "NoLane")) (.ref (Jf K "NoPlace")),
 PySem.W.kitOne K (.ref (Jf K "NoLane")) (.ref (Jf K "BadBid")),
 PySem.W.kitOne K (.ref (Jf K "NoLane")) (.ref (Jf K "NoLane")),
 PySem.W.kitOne K (.ref (Jf K "NoLane")) (.ref (Jf K "NotDue")),
 PySem.W.kitOne K (.ref (Jf K "NoLane")) (.ref (Jf K "NothingDone")),
 PySem.W.kitOne K (.ref (Jf K "NoLane")) (.ref (Jf K "Taken")),
 PySem.W.kitOne K (.ref (Jf K "NoLane")) (.ref (Jf K "Full")),
 PySem.W.kitOne K (.ref (Jf K "NoLane")) (.ref (Jf K "Missing")),
 PySem.W.mroIn K (Jf K "NothingDone") (.type "object"),
 PySem.W.mroIn K (Jf K "NothingDone") (.type "BaseException"),
 PySem.W.mroIn K (Jf K "Twice") (.type "object"),
 PySem.W.mroIn K (Jf K "Twice") (.type "BaseException"),
 PySem.W.mroIn K (Jf K "NoPlace") (.type "object"),
 PySem.W.mroIn K (Jf K "NoPlace") (.type "BaseException"),
 PySem.W.mroIn K (Jf K "BadName") (.type "object"),
 PySem.W.mroIn K (Jf K "BadName") (.type "BaseException")]
def isK:List (Option Bool):=[some true,
 some true,
 some true,
 some true,
 some true,
 some true,
 some true,
 some true,
 some true,
 some false,
 some false,
 some false,
 some false,
 some false,
 some true,
 some false,
 some false,
 some false,
 some false,
 some false,
 some false,
 some true,
 some true,
 some true,
 some true,
 some false,
 some false,
 some false,
 some false,
 some false,
 some false,
 some false,
 some true,
 some false,
 some false,
 some false,
 some false,
 some true,
 some true,
 some true,
 some true,
 some false,
 some false,
 some false,
 some false,
 some false,
 some false,
 some true,
 some false,
 some false,
 some false,
 some false,
 some false,
 some true,
 some true,
 some true,
 some true,
 some true,
 some true,
 some true,
 some true]
def Jrv (K:Frag):List (Option (Sum Int Str)):=[obV K "MOST_SIGNS",
 obV K "MOST_TURNS",
 obV K "MOST_COINS",
 obV K "MOST_PLACES",
 obV K "MOST_LANES"]
def isV:List (Option (Sum Int Str)):=[some (.inl 6),
 some (.inl 30),
 some (.inl 20),
 some (.inl 12),
 some (.inl 40)]
def Jrw (K:Frag):List (Option (Bool×List (Option (Sum Int Str)))):=[obT K "HANDS"]
def isT:List (Option (Bool×List (Option (Sum Int Str)))):=[some (true,([.inr "north",.inr "south"]:List (Sum Int Str)).map some)]
def see (s:Shared):=(fun K=>(JrA K,Jrz K,Jrx K,Jry K,Jrv K,Jrw K)) (Jqy s.heap)
def Jmd:=(isB,isF,isN,isK,isV,isT)
def xt (s:Shared):Bool:=xlAt qv [] s && recOk [] s
set_option maxHeartbeats 0 in
theorem Jt9 (w:World) (os:OsState):(Jkn pg w 12560 (Jpl w.params os)).map (fun s=>JoE pg qv lo0 xt see w.params s.abs)=some (true,openGood qv lo0,Jmd):=by
 kernel_rfl
theorem JtH (P:Params):((boot_heap P).isNs mainGlobals && (Array.mk ([]:List GenState)).size == 0)=true:=by kernel_rfl
theorem JrG:PySem.W.OpenLaw.wellSaid PySem.Challenge.rw_bidmover_k44_whole_end=true:=by kernel_rfl
theorem left:LeftO pg qv lo0 xt see (fun _=>Jmd) 12560:=JtD (by kernel_rfl) (by decide) (fun s=>by kernel_rfl) Jt9 JtH
end Pf
namespace L2
open PySem PySem.Spec PyProof.Rows
abbrev J0:=Sum Int Str
def Jim:J0→Value→Bool
 | .inl k,v=>Value.isInt k v
 | .inr x,v=>Value.isStrOf x v
def JvV (w:World):J0→Int
 | .inl k=>hashInt k
 | .inr x=>hashStr w x
theorem ZJ:∀ {k:J0} {v:Value},Jim k v=true→(∃ i t,k=Sum.inl i∧v=Value.int i t)∨(∃ x t,k=Sum.inr x∧v=Value.str x t)
 | .inl i,v,h=>by
  obtain ⟨t,e⟩:=Value.isInt_shape (k:=i) (v:=v) h;exact .inl ⟨i,t,rfl,e⟩
 | .inr x,v,h=>by
  obtain ⟨t,e⟩:=Value.isStrOf_shape (x:=x) (v:=v) h;exact .inr ⟨x,t,rfl,e⟩
theorem Jqp (i:Int) (t:Tok):Jim (.inl i) (.int i t)=true:=by simp [Jim,Value.isInt]
theorem Jqo (x:Str) (t:Tok):Jim (.inr x) (.str x t)=true:=by simp [Jim,Value.isStrOf]
theorem JuB (a b:Int):decide ((Sum.inl a:J0)=Sum.inl b)=(a == b):=by
 by_cases e:a=b
 ·subst e; simp
 ·have h:¬ (Sum.inl a:J0)=Sum.inl b:=fun q=>e (Sum.inl.inj q)
  rw [decide_eq_false h];exact (beq_eq_false_iff_ne.mpr e).symm
theorem Jqn (a b:Str):decide ((Sum.inr a:J0)=Sum.inr b)=decide (a=b):=by
 by_cases e:a=b
 ·subst e; simp
 ·have h:¬ (Sum.inr a:J0)=Sum.inr b:=fun q=>e (Sum.inr.inj q)
  rw [decide_eq_false h,decide_eq_false e]
theorem JuA (a:Int) (b:Str):decide ((Sum.inl a:J0)=Sum.inr b)=false:=decide_eq_false (fun q=>nomatch q)
theorem Juz (a:Str) (b:Int):decide ((Sum.inr a:J0)=Sum.inl b)=false:=decide_eq_false (fun q=>nomatch q)
def YE (prog:Program) (w:World):PySem.KeyKind prog w J0 where
 is:=Jim
 hash:=JvV w
 inj:=fun v a b ha hb=>by
  rcases ZJ ha with ⟨i,t,rfl,rfl⟩ | ⟨x,t,rfl,rfl⟩
  ·rcases ZJ hb with ⟨j,u,rfl,e⟩ | ⟨y,u,rfl,e⟩
   ·injection e with e1 _; rw [e1]
   ·exact nomatch e
  ·rcases ZJ hb with ⟨j,u,rfl,e⟩ | ⟨y,u,rfl,e⟩
   ·exact nomatch e
   ·injection e with e1 _; rw [e1]
 byValue:=fun k v h=>by
  rcases ZJ h with ⟨i,t,rfl,rfl⟩ | ⟨x,t,rfl,rfl⟩ <;> rfl
 pyHash:=fun hv h=>by
  rcases ZJ hv with ⟨i,t,rfl,rfl⟩ | ⟨x,t,rfl,rfl⟩
  ·exact wpAny_pyHash_int h
  ·exact wpAny_pyHash_str h
 eqBool:=fun hu hv h=>by
  rcases ZJ hu with ⟨i,t,rfl,rfl⟩ | ⟨x,t,rfl,rfl⟩
  ·rcases ZJ hv with ⟨j,u,rfl,rfl⟩ | ⟨y,u,rfl,rfl⟩
   ·rw [JuB] at h; exact wpAny_eqBool_int h
   ·rw [JuA] at h; exact SeqAt.EqAt.int_str i t y u _ _ _ _ h
  ·rcases ZJ hv with ⟨j,u,rfl,rfl⟩ | ⟨y,u,rfl,rfl⟩
   ·rw [Juz] at h; exact SeqAt.EqAt.str_int x t j u _ _ _ _ h
   ·rw [Jqn] at h; exact wpAny_eqBool_str h
 «strs»:=fun k x t v h=>by
  rcases ZJ h with ⟨i,u,rfl,e⟩ | ⟨y,u,rfl,e⟩
  ·exact nomatch e
  ·injection e with e1 _;subst e1;cases v <;> rfl
theorem JnN (prog:Program) (w:World) (i:Int) (t:Tok):(YE prog w).is (.inl i) (.int i t)=true:=Jqp i t
theorem JbW (prog:Program) (w:World) (x:Str) (t:Tok):(YE prog w).is (.inr x) (.str x t)=true:=Jqo x t
end L2
namespace L2
open PySem PySem.Spec PyProof.Rows
inductive V where
 | non | bl (b:Bool) | int (i:Int) | str (x:Str) | byt (b:Array UInt8) | flt (b:UInt64) | ref (a:Addr) | ty (n:String)
 deriving DecidableEq
def JT:V→Value→Prop
 | .non,u=>u=Value.none
 | .bl b,u=>u=Value.bool b
 | .int i,u=>∃ t,u=Value.int i t
 | .str x,u=>∃ t,u=Value.str x t
 | .byt b,u=>∃ t,u=Value.bytes b t
 | .flt b,u=>∃ t,u=Value.float b t
 | .ref a,u=>u=Value.ref a
 | .ty n,u=>u=Value.type n
abbrev JI:List V→List Value→Prop:=Paired JT
theorem JI.length {xs:List V} {us:List Value} (r:JI xs us):xs.length=us.length:=Paired.length r
theorem JI.get:∀ {xs:List V} {us:List Value} {i:Nat} {x:V},JI xs us→xs[i]?=some x→∃ u,us[i]?=some u∧JT x u
 | _,_,_,_,.nil,e=>by simp at e
 | _,_,0,_,.cons r _,e=>by simp at e; subst e; exact ⟨_,rfl,r⟩
 | _,_,i + 1,x,.cons _ t,e=>by
  obtain ⟨u,h1,h2⟩:=JI.get (i:=i) (x:=x) t (by simpa using e);exact ⟨u,by simpa using h1,h2⟩
theorem JI.set {x:V} {u:Value} (r:JT x u):∀ {xs:List V} {us:List Value} (i:Nat),JI xs us→JI (xs.set i x) (us.set i u)
 | _,_,_,.nil=>.nil
 | _,_,0,.cons _ t=>.cons r t
 | _,_,i + 1,.cons q t=>.cons q (JI.set r i t)
theorem JI.append:∀ {xs ys:List V} {us ws:List Value},JI xs us→JI ys ws→JI (xs ++ ys) (us ++ ws)
 | _,_,_,_,.nil,s=>s
 | _,_,_,_,.cons r t,s=>.cons r (JI.append t s)
theorem JI.take:∀ {xs:List V} {us:List Value} (n:Nat),JI xs us→JI (xs.take n) (us.take n)
 | _,_,0,_=>.nil
 | _,_,_ + 1,.nil=>.nil
 | _,_,n + 1,.cons r t=>.cons r (JI.take n t)
theorem JI.drop:∀ {xs:List V} {us:List Value} (n:Nat),JI xs us→JI (xs.drop n) (us.drop n)
 | _,_,0,r=>r
 | _,_,_ + 1,.nil=>.nil
 | _,_,n + 1,.cons _ t=>JI.drop n t
theorem JI.none_of:∀ {xs:List V} {us:List Value} {i:Nat},JI xs us→xs[i]?=none→us[i]?=none:=fun {xs us i} r e=>by
 have h1:=r.length;have h2:xs.length≤i:=List.getElem?_eq_none_iff.mp e;exact List.getElem?_eq_none_iff.mpr (by omega)
def Jbd:Option V→Option Value→Prop
 | some v,some u=>JT v u
 | none,none=>True
 | _,_=>False
def KV {κ:Type}:List (κ×V)→List (κ×Value)→Prop:=Paired fun (p:κ×V) (q:κ×Value)=>p.1=q.1∧JT p.2 q.2
def kV:J0→V
 | .inl i=>.int i
 | .inr x=>.str x
inductive HO where
 | lst (xs:List V)
 | tup (xs:List V)
 | dK (kvs:List (J0×V)) | dT (kvs:List (List J0×V))
 | set (S:Int→Bool) (n:Nat)
 | ins (C dx:Addr) (fs:List (Str×V))
 | own (x:Addr)
 | xd (fs:List (Str×V))
 | met (f x:Addr)
 | rng (lo hi:Int)
 | frz (o:Obj) (u:HO)
 | tbl (ps:Array Value)
 | ext (φ:Heap→Prop)
abbrev Hp:=Addr→Option HO
def upd (H:Hp) (a:Addr) (o:HO):Hp:=fun b=>if b=a then some o else H b
theorem Ji {H:Hp} {a:Addr} {o:HO}:upd H a o a=some o:=by unfold upd; rw [if_pos rfl]
theorem JB {H:Hp} {a b:Addr} {o:HO} (h:b≠a):upd H a o b=H b:=by unfold upd; rw [if_neg h]
theorem Jci {H:Hp} {a:Addr} {o u:HO}:upd (upd H a o) a u=upd H a u:=by
 funext b; unfold upd; split <;> rfl
theorem Jat {H:Hp} {a b:Addr} {o u:HO} (h:H a=some o) (h':H b=some u) (d:o≠u):a≠b:=by
 intro e; subst e; rw [h] at h'; exact d (Option.some.inj h')
theorem JD {H:Hp} {a b:Addr} {o:HO} (h:H a=some o) (h':H b=none):a≠b:=by
 intro e; subst e; rw [h] at h'; cases h'
section
variable (P:Program) (w:World)
def YL (H:Hp) (h:Heap) (a:Addr):HO→Prop
 | .lst xs=>xs.length≤sizeLine∧∃ (its:List Value) (n:Nat),JI xs its∧h.get? a=some { cls:=.type "list",data:=.seq its.toArray n }
 | .tup xs=>xs.length≤sizeLine∧∃ its:List Value,JI xs its∧IsTup h a its.toArray
 | .dK kvs=>kvs.length≤sizeLine∧(a == sysModules)=false∧∃ vs,KV kvs vs∧h.DictOf (YE P w) a vs
 | .dT kvs=>kvs.length≤sizeLine∧(a == sysModules)=false∧∃ xs:List (List J0×Addr×Value),
   Paired (fun (p:List J0×V) (q:List J0×Addr×Value)=>p.1=q.1∧H q.2.1=some (.tup (p.1.map kV))∧JT p.2 q.2.2) kvs xs ∧
   ∃ o es ep,h.get? a=some o∧o.ExactDict∧o.data=.dict es ep∧es.toList=xs.map (entryOfKey (tupleKind (YE P w)))∧(xs.map (·.1)).Nodup
 | .set S n=>h.SetOf (intKind P w) a S n
 | .ins C dx fs=>H dx=some (.own a)∧fs.length≤1000∧dx≠a∧h.get? a=some (PySem.W.instObj C dx) ∧
   ∃ mA,h.Ns1 dx mA∧(∀ f,Jbd (fs.lookup f) (mA f))∧PySem.Within mA (fs.map (·.1))
 | .own _=>∃ o,h.get? a=some o
 | .xd fs=>∃ mA,h.Ns1 a mA∧∀ f,Jbd (fs.lookup f) (mA f)
 | .rng lo hi=>∃ t u v,h.get? a=some { cls:=.type "range",data:=.fields #[.int lo t,.int hi u,.int 1 v] }
 | .frz o u=>h.get? a=some o∧YL H h a u
 | .tbl ps=>h.get? a=some { cls:=.none,data:=.fields ps }
 | .met f x=>h.get? a=some (PySem.W.methodObj (.ref f) (.ref x))
 | .ext φ=>φ h∧(∃ o,h.get? a=some o)∧∀ h1 h2:Heap,φ h1→(∀ o,h1.get? a=some o→h2.get? a=some o)→φ h2
def ZZ (H:Hp) (h:Heap):Prop:=∀ a o,H a=some o→YL P w H h a o
end
section
variable {P:Program} {w:World} {H H':Hp} {h h':Heap} {a:Addr} {o:HO}
theorem YL.lt (x:YL P w H h a o):a < h.objs.size:=by
 cases o with
 | lst xs=>obtain ⟨_,_,_,_,e⟩:=x; exact Heap.lt_size e
 | tup xs=>obtain ⟨_,_,_,p⟩:=x; exact p.lt
 | dK kvs=>obtain ⟨_,_,_,_,o,_,_,e,_⟩:=x; exact Heap.lt_size e
 | dT kvs=>obtain ⟨_,_,_,_,o,_,_,e,_⟩:=x; exact Heap.lt_size e
 | set S n=>obtain ⟨o,_,_,_,e,_⟩:=x; exact Heap.lt_size e
 | ins C dx fs=>obtain ⟨_,_,_,e,_⟩:=x; exact Heap.lt_size e
 | own y=>obtain ⟨_,e⟩:=x; exact Heap.lt_size e
 | xd fs=>obtain ⟨_,⟨_,_,_,e,_⟩,_⟩:=x; exact Heap.lt_size e
 | rng lo hi=>obtain ⟨_,_,_,e⟩:=x; exact Heap.lt_size e
 | frz ob u=>obtain ⟨e,_⟩:=x; exact Heap.lt_size e
 | tbl ps=>exact Heap.lt_size (show h.get? a=some _ from x)
 | met f y=>exact Heap.lt_size (show h.get? a=some _ from x)
 | ext φ=>obtain ⟨_,⟨_,e⟩,_⟩:=x; exact Heap.lt_size e
theorem Paired.mapP {α β:Type} {F G:α→β→Prop}:∀ {l₁:List α} {l₂:List β},Paired F l₁ l₂→(∀ a b,F a b→G a b)→Paired G l₁ l₂
 | _,_,.nil,_=>.nil
 | _,_,.cons r t,f=>.cons (f _ _ r) (Paired.mapP t f)
theorem YL.stay (x:YL P w H h a o) (k:∀ b u,(b=a∨H b=some (.own a))→h.get? b=some u→h'.get? b=some u)
  (ho:∀ b,H b=some (.own a)→H' b=some (.own a)) (ht:∀ b xs,H b=some (.tup xs)→H' b=some (.tup xs)):YL P w H' h' a o:=by
 induction o with
 | lst xs=>obtain ⟨z,its,n,r,e⟩:=x; exact ⟨z,its,n,r,k _ _ (.inl rfl) e⟩
 | tup xs=>obtain ⟨z,its,r,ob,e,c⟩:=x; exact ⟨z,its,r,ob,k _ _ (.inl rfl) e,c⟩
 | dK kvs=>obtain ⟨z,y,vs,r,ob,es,ep,e,c⟩:=x; exact ⟨z,y,vs,r,ob,es,ep,k _ _ (.inl rfl) e,c⟩
 | dT kvs =>
  obtain ⟨z,y,xs,r,ob,es,ep,e,c⟩:=x;exact ⟨z,y,xs,Paired.mapP r fun p q z=>⟨z.1,ht _ _ z.2.1,z.2.2⟩,ob,es,ep,k _ _ (.inl rfl) e,c⟩
 | set S n=>obtain ⟨ob,es,ep,t,e,c⟩:=x; exact ⟨ob,es,ep,t,k _ _ (.inl rfl) e,c⟩
 | ins C dx fs =>
  obtain ⟨d,z,ne,e,mA,⟨od,es,ep,e2,c⟩,r⟩:=x;exact ⟨ho _ d,z,ne,k _ _ (.inl rfl) e,mA,⟨od,es,ep,k _ _ (.inr d) e2,c⟩,r⟩
 | own y=>obtain ⟨ob,e⟩:=x; exact ⟨ob,k _ _ (.inl rfl) e⟩
 | xd fs=>obtain ⟨mA,⟨od,es,ep,e,c⟩,r⟩:=x; exact ⟨mA,⟨od,es,ep,k _ _ (.inl rfl) e,c⟩,r⟩
 | rng lo hi=>obtain ⟨t,u,v,e⟩:=x; exact ⟨t,u,v,k _ _ (.inl rfl) e⟩
 | frz ob u ih=>obtain ⟨e,q⟩:=x; exact ⟨k _ _ (.inl rfl) e,ih q⟩
 | tbl ps =>
  have e:h.get? a=some { cls:=.none,data:=.fields ps }:=x;show h'.get? a=some { cls:=.none,data:=.fields ps };exact k a _ (.inl rfl) e
 | met f y =>
  have e:h.get? a=some (PySem.W.methodObj (.ref f) (.ref y)):=x;show h'.get? a=some (PySem.W.methodObj (.ref f) (.ref y));exact k a _ (.inl rfl) e
 | ext φ=>obtain ⟨p,⟨o,e⟩,st⟩:=x; exact ⟨st _ _ p fun o q=>k _ _ (.inl rfl) q,⟨o,k _ _ (.inl rfl) e⟩,st⟩
theorem ZZ.lt (x:ZZ P w H h) (e:H a=some o):a < h.objs.size:=(x a o e).lt
theorem ZZ.fresh (x:ZZ P w H h) (e:h.objs.size≤a):H a=none:=by
 cases q:H a with
 | none=>rfl
 | some u=>exact absurd (Nat.lt_of_lt_of_le (x.lt q) e) (Nat.lt_irrefl _)
theorem ZZ.kept (x:ZZ P w H h) (k:∀ b u,h.get? b=some u→h'.get? b=some u):ZZ P w H h':=fun a o e =>
 (x a o e).stay (fun b u _ q=>k b u q) (fun _ q=>q) fun _ _ q=>q
theorem ZZ.laid (x:ZZ P w H h) (k:∀ b u,h.get? b=some u→h'.get? b=some u) (hp:h.objs.size≤a) (new:YL P w (upd H a o) h' a o):ZZ P w (upd H a o) h':=fun b u e=>by
 have hn:=x.fresh hp;by_cases hb:b=a
 ·subst hb; rw [Ji] at e; cases e; exact new
 ·rw [JB hb] at e;exact (x b u e).stay (fun c v _ q=>k c v q) (fun c q=>by rw [JB (JD q hn)]; exact q) fun c xs q=>by rw [JB (JD q hn)]; exact q
end
def Rd (H:Hp) (a:Addr) (u:HO):Prop:=H a=some u∨∃ o,H a=some (.frz o u)
theorem Rd.of {H:Hp} {a:Addr} {u:HO} (h:H a=some u):Rd H a u:=.inl h
theorem Rd.ok {P:Program} {w:World} {H:Hp} {h:Heap} {a:Addr} {u:HO} (r:Rd H a u) (x:ZZ P w H h):YL P w H h a u:=by
 rcases r with r | ⟨o,r⟩
 ·exact x a u r
 ·obtain ⟨_,q⟩:=x a _ r;exact q
def Mut:Option HO→Prop
 | some (.lst _)=>True
 | some (.dK _)=>True
 | some (.dT _)=>True
 | some (.set _ _)=>True
 | some (.ins _ _ _)=>True
 | some (.ext _)=>True
 | _=>False
section
variable {P:Program} {w:World} {H:Hp} {h h':Heap} {x e:Addr} {o':HO}
theorem ZZ.write (ok:ZZ P w H h) (mu:Mut (H x)) (he:e=x∨H e=some (.own x)) (k:∀ b u,b≠e→h.get? b=some u→h'.get? b=some u) (heo:∃ u,h'.get? e=some u)
  (new:YL P w (upd H x o') h' x o'):ZZ P w (upd H x o') h':=fun b u q=>by
 have nown:∀ c y,H c=some (.own y)→c≠x:=fun c y r z=>by subst z; rw [r] at mu; exact mu
 have ntup:∀ c xs,H c=some (.tup xs)→c≠x:=fun c xs r z=>by subst z; rw [r] at mu; exact mu
 by_cases hb:b=x
 ·subst hb; rw [Ji] at q; cases q; exact new
 ·rw [JB hb] at q;by_cases hbe:b=e
  ·have q':H b=some (.own x):=by
    rcases he with z | z
    ·exact absurd (hbe.trans z) hb
    ·rw [hbe]; exact z
   rw [q] at q'; cases q';obtain ⟨v,hv⟩:=heo;exact ⟨v,by rw [hbe]; exact hv⟩
  ·refine (ok b u q).stay (fun c v hc r=>k c v ?_ r) (fun c r=>by rw [JB (nown c b r)]; exact r) fun c xs r=>by rw [JB (ntup c xs r)]; exact r
   rcases hc with rfl | hc
   ·exact hbe
   ·rintro rfl;rcases he with z | z
    ·exact nown c b hc z
    ·rw [hc] at z; cases z; exact hb rfl
end
structure Un (fs ex:List Addr) (H H':Hp) (h h':Heap):Prop where
 keep:∀ b o,h.get? b=some o→H b=none→b∉fs→b∉ex→h'.get? b=some o
 slot:∀ b o,h.get? b=some o→H b=none→b∈fs→b∉ex→∃ sl,h'.get? b=some { o with slots:=sl }
 free:∀ b o,h.get? b=some o→H b=none→b∉ex→H' b=none
 there:∀ b o,h.get? b=some o→b∉ex→∃ o',h'.get? b=some o'
 tups:∀ b xs,H b=some (.tup xs)→H' b=some (.tup xs)
 frzs:∀ b o u,H b=some (.frz o u)→H' b=some (.frz o u)
 tbls:∀ b ps,H b=some (.tbl ps)→∃ more,H' b=some (.tbl (ps ++ more))
section
variable {fs fs' ex ex':List Addr} {H H1 H2:Hp} {h h1 h2 h':Heap} {a x e:Addr} {o:HO}
theorem Un.any (u:Un fs ex H H1 h h1) {b:Addr} {ob:Obj} (q:h.get? b=some ob) (n:H b=none) (hx:b∉ex):∃ sl,h1.get? b=some { ob with slots:=sl }:=by
 by_cases hb:b∈fs
 ·exact u.slot b ob q n hb hx
 ·exact ⟨ob.slots,u.keep b ob q n hb hx⟩
theorem Un.trans (a:Un fs ex H H1 h h1) (b:Un fs ex H1 H2 h1 h2):Un fs ex H H2 h h2 where
 keep:=fun c ob q n hc hx=>b.keep c ob (a.keep c ob q n hc hx) (a.free c ob q n hx) hc hx
 slot:=fun c ob q n hc hx=>by
  obtain ⟨sl,e1⟩:=a.slot c ob q n hc hx;obtain ⟨sl',e2⟩:=b.slot c _ e1 (a.free c ob q n hx) hc hx;exact ⟨sl',e2⟩
 free:=fun c ob q n hx=>by
  obtain ⟨o',e1⟩:=a.there c ob q hx;exact b.free c o' e1 (a.free c ob q n hx) hx
 there:=fun c ob q hx=>by
  obtain ⟨o',e1⟩:=a.there c ob q hx;exact b.there c o' e1 hx
 tups:=fun c xs q=>b.tups c xs (a.tups c xs q)
 frzs:=fun c ob xs q=>b.frzs c ob xs (a.frzs c ob xs q)
 tbls:=fun c ps q=>by
  obtain ⟨m1,e1⟩:=a.tbls c ps q;obtain ⟨m2,e2⟩:=b.tbls c _ e1;exact ⟨m1 ++ m2,by rw [e2,Array.append_assoc]⟩
theorem Un.kept (k:∀ b u,h.get? b=some u→h'.get? b=some u):Un fs ex H H h h' :=
 ⟨fun b ob q _ _ _=>k b ob q,fun b ob q _ _ _=>⟨ob.slots,k b ob q⟩,fun _ _ _ n _=>n,fun b ob q _=>⟨ob,k b ob q⟩,fun _ _ q=>q,fun _ _ _ q=>q,fun _ ps q=>⟨#[],by rw [q]; simp⟩⟩
theorem Un.refl:Un fs ex H H h h:=Un.kept fun _ _ q=>q
theorem Un.laid (k:∀ b u,h.get? b=some u→h'.get? b=some u) (hp:h.objs.size≤a) (hn:H a=none):Un fs ex H (upd H a o) h h' where
 keep:=fun b u q _ _ _=>k b u q
 slot:=fun b u q _ _ _=>⟨u.slots,k b u q⟩
 free:=fun b u q n _=>by rw [JB (Nat.ne_of_lt (Nat.lt_of_lt_of_le (Heap.lt_size q) hp))]; exact n
 there:=fun b u q _=>⟨u,k b u q⟩
 tups:=fun b xs q=>by rw [JB (JD q hn)]; exact q
 frzs:=fun b u xs q=>by rw [JB (JD q hn)]; exact q
 tbls:=fun b ps q=>⟨#[],by rw [JB (JD q hn),q]; simp⟩
theorem Un.write (mu:Mut (H x)) (he:e=x∨H e=some (.own x)) (k:∀ b u,b≠e→h.get? b=some u→h'.get? b=some u) (heo:∃ u,h'.get? e=some u):Un fs ex H (upd H x o) h h':=by
 have hx:∀ b,H b=none→b≠x:=fun b n z=>by subst z; rw [n] at mu; exact mu
 have hb:∀ b,H b=none→b≠e:=fun b n z=>by
  subst z;rcases he with r | r
  ·exact hx b n r
  ·rw [n] at r; cases r
 have hm:∀ b u,H b=some u→¬ Mut (some u)→b≠x:=fun b u q nm z=>by subst z; rw [q] at mu; exact nm mu
 refine ⟨fun b u q n _ _=>k b u (hb b n) q,fun b u q n _ _=>⟨u.slots,k b u (hb b n) q⟩,fun b u q n _=>by rw [JB (hx b n)]; exact n,fun b u q _=>?_,
  fun b xs q=>by rw [JB (hm b _ q fun z=>z)]; exact q,fun b u xs q=>by rw [JB (hm b _ q fun z=>z)]; exact q,fun b ps q=>⟨#[],by rw [JB (hm b _ q fun z=>z),q]; simp⟩⟩
 by_cases hbe:b=e
 ·subst hbe; exact heo
 ·exact ⟨u,k b u hbe q⟩
theorem Un.mono (u:Un fs ex H H1 h h1) (hs:∀ b∈fs,b∈fs') (hx:∀ b∈ex,b∈ex'):Un fs' ex' H H1 h h1 :=
 ⟨fun b ob q n hb he=>u.keep b ob q n (fun z=>hb (hs b z)) fun z=>he (hx b z),fun _ _ q n _ he=>u.any q n fun z=>he (hx _ z),fun b ob q n he=>u.free b ob q n fun z=>he (hx b z),fun b ob q he=>u.there b ob q fun z=>he (hx b z),u.tups,u.frzs,u.tbls⟩
end
def trk (h:Heap) (H:Hp):List Addr:=(List.range h.objs.size).filter fun a=>(H a).isSome
def JgX (h:Heap) (H:Hp):Heap:=PySem.W.hideAll h (trk h H)
theorem Jqv (h:Heap) (H:Hp):(JgX h H).objs.size=h.objs.size:=PySem.W.hideAll_size _ _
theorem Jr6 {h:Heap} {H:Hp} {b:Addr} {o:Obj} (e:h.get? b=some o) (n:H b=none):(JgX h H).get? b=some o :=
 PySem.W.hideAll_get _ e fun hm=>by
  have q:(H b).isSome=true:=(List.mem_filter.mp hm).2;rw [n] at q; simp at q
theorem Jtu {h:Heap} {H:Hp} {b:Addr} {o:Obj} (e:(JgX h H).get? b=some o):h.get? b=some o∧H b=none:=by
 have e':h.get? b=some o:=PySem.W.of_hideAll (trk h H) e;refine ⟨e',?_⟩;cases q:H b with
 | none=>rfl
 | some x =>
  have hm:b∈trk h H:=List.mem_filter.mpr ⟨List.mem_range.mpr (Heap.lt_size e'),by simp [q]⟩;have z:(JgX h H).get? b=none:=PySem.W.hideAll_none (trk h H) hm;rw [z] at e; cases e
def JtJ (g h:Heap) (L:Addr):List (Addr×Obj):=(List.range h.objs.size).filterMap fun a=>if a=L∨(g.get? a).isSome=true then none else (h.get? a).map fun o=>(a,o)
def rest (g h:Heap) (L d:Addr):List (Addr×Obj):=(JtJ g h L).filter fun p=>decide (p.1≠d)
end L2
namespace L2
open PySem PySem.Spec PyProof.Rows
structure Mod (K:PySem.W.Frag) (mg:Str→Option Value) (base:Heap):Prop where
 kin:K.In base
 glob:base.Ns mainGlobals mg
 blt:∃ mb,base.Ns builtinsNs mb∧∀ x:Str,x ≠ "__name__"→mb x=bootBuiltins x
 nolimit:base.NoLimit
structure Cx where
 prog:Program
 w:World
 K:PySem.W.Frag
 mg:Str→Option Value
 base:Heap
 A:Around
 N:List Str
 s₀:Shared
 H₀:Hp
 env:Env
 outer:List Env
 stack:List Env
 ex:List Addr
 fn:Str→Bool
 calm:Bool
 pn:List (Addr×Obj)
 xe:Value→Shared→Prop
def frs (l:List Env):List Addr:=l.filterMap (·.frame)
abbrev Cx.fs (X:Cx):List Addr:=frs X.outer
def Vis (sc:Scope) (x:Str):Prop:=sc.names.lookup x=some .local∨sc.names.lookup x=some .cell∨sc.names.lookup x=some .free
def Loc (sc:Scope) (x:Str):Prop:=sc.names.lookup x=some .local∨sc.names.lookup x=some .cell
def Jv0 (env:Env) (h:Heap) (m:Str→Option Value) (x:Str) (u:Value):Prop :=
 (env.kindOf x=some .local∧m x=some u)∨((env.kindOf x=some .cell∨env.kindOf x=some .free)∧∃ c,env.cells.lookup x=some c∧h.IsCell c (some u))
structure Cx.Ok (X:Cx):Prop where
 mod:Mod X.K X.mg X.base
 kind:X.env.scope.kind=.function
 glob:X.env.globals=mainGlobals
 blt:X.env.builtins=builtinsNs
 above:X.s₀.heap.objs.size≤X.env.locals
 inj:∀ x y c,X.env.cells.lookup x=some c→X.env.cells.lookup y=some c→x=y
 has:∀ x,(X.env.kindOf x=some .cell∨X.env.kindOf x=some .free)→∃ c,X.env.cells.lookup x=some c
 cab:∀ x c,X.fn x=true→X.env.cells.lookup x=some c→X.s₀.heap.objs.size≤c
 hd:X.calm=true→X.A.handled=none
 frames:X.A.frames=some X.stack
 stk:X.stack=X.outer∨(X.stack=X.env :: X.outer∧X.env.frame=some X.env.locals)
 exf:∀ b∈X.ex,b≠X.env.locals∧∀ x c,X.env.cells.lookup x=some c→c≠b
 bs:∀ b o,X.base.get? b=some o→X.s₀.heap.get? b=some o∧X.H₀ b=none
 bsz:X.base.objs.size≤X.s₀.heap.objs.size
 noex:∀ b o,X.base.get? b=some o→b∉X.ex
 exfs:∀ b∈X.ex,b∉X.fs
 funs:X.s₀.heap.FunFrames X.base X.outer
 frf:∀ b∈X.fs,X.H₀ b=none
structure Jo (X:Cx) (pins:List (Addr×Obj)) (σ:List (Option V)) (H:Hp) (s:Shared):Prop where
 ok:X.Ok
 os:s.os=X.s₀.os
 bare:AllBare s.gens
 base:Un X.fs X.ex X.H₀ H X.s₀.heap s.heap
 loc:∃ m,s.heap.Ns X.env.locals m∧∀ (i:Nat) (x:Str) (v:V),X.N[i]?=some x→σ[i]?=some (some v)→Vis X.env.scope x→∃ u,JT v u∧Jv0 X.env s.heap m x u
 cell:∀ x c,X.env.cells.lookup x=some c→∃ v,s.heap.IsCell c v
 free:H X.env.locals=none
 freeC:∀ x c,X.env.cells.lookup x=some c→H c=none
 pin:∀ p∈X.pn ++ pins,s.heap.get? p.1=some p.2∧H p.1=none∧p.1≠X.env.locals∧p.1∉X.fs∧∀ v,p.2.data≠.cell v
 hok:ZZ X.prog X.w H s.heap
 len:σ.length=X.N.length
section
variable {X:Cx} {pins:List (Addr×Obj)} {σ:List (Option V)} {H H':Hp} {s:Shared} {h':Heap}
theorem Cx.Ok.nofr (ok:X.Ok) {b:Addr} {o:Obj} (e:X.base.get? b=some o):b∉X.fs:=fun hb=>by
 have:=(ok.funs.mem hb).1;rw [e] at this; cases this
theorem Jo.bs (I:Jo X pins σ H s):∀ b o,X.base.get? b=some o→s.heap.get? b=some o∧H b=none:=fun b o e =>
 ⟨I.base.keep b o (I.ok.bs b o e).1 (I.ok.bs b o e).2 (I.ok.nofr e) (I.ok.noex b o e),I.base.free b o (I.ok.bs b o e).1 (I.ok.bs b o e).2 (I.ok.noex b o e)⟩
theorem Jo.bk (I:Jo X pins σ H s):∀ b o,X.base.get? b=some o→s.heap.get? b=some o:=fun b o e=>(I.bs b o e).1
theorem Jo.mod (I:Jo X pins σ H s):Mod X.K X.mg X.base:=I.ok.mod
theorem Jo.kIn (I:Jo X pins σ H s):X.K.In s.heap:=I.ok.mod.kin.keeps I.bk
theorem Jo.nolimit (I:Jo X pins σ H s):s.heap.NoLimit:=I.ok.mod.nolimit.keeps I.bk
theorem Jo.fr (I:Jo X pins σ H s):∃ m,Fr X.base X.env.locals s.heap m :=
 let ⟨m,hn,_⟩:=I.loc
 ⟨m,hn,I.bk,Nat.le_trans I.ok.bsz I.ok.above⟩
theorem Jo.lt (I:Jo X pins σ H s):X.env.locals < s.heap.objs.size:=let ⟨_,hn,_⟩:=I.loc; hn.lt
theorem Jo.sz (I:Jo X pins σ H s):X.s₀.heap.objs.size≤s.heap.objs.size:=Nat.le_trans I.ok.above (Nat.le_of_lt I.lt)
theorem Jo.nofs (I:Jo X pins σ H s) {a:Addr} (h:s.heap.objs.size≤a):a∉X.fs:=fun hb=>by
 obtain ⟨_,o,ho,_⟩:=I.ok.funs.mem hb;exact absurd (Nat.lt_of_lt_of_le (Heap.lt_size ho) (Nat.le_trans I.sz h)) (Nat.lt_irrefl _)
theorem Jo.cne (I:Jo X pins σ H s):∀ x c,X.env.cells.lookup x=some c→c≠X.env.locals:=fun x c e z=>by
 obtain ⟨v,o,ho,hd⟩:=I.cell x c e;obtain ⟨m,⟨o',es,ep,ho',hd',_⟩,_⟩:=I.loc;rw [z,ho'] at ho; cases ho; rw [hd'] at hd; cases hd
theorem Jo.funs (I:Jo X pins σ H s):s.heap.FunFrames X.base X.outer:=by
 have all:∀ (l:List Env),(∀ b∈frs l,b∈X.fs)→X.s₀.heap.FunFrames X.base l→s.heap.FunFrames X.base l:=by
  intro l
  induction l with
  | nil=>intro _ _; trivial
  | cons env r ih =>
   intro hs hl;obtain ⟨hk,⟨L,o,hf,hn,ho,hd⟩,hr⟩:=hl;have hL:L∈X.fs:=hs L (by unfold frs; rw [List.filterMap_cons,hf]; exact List.mem_cons_self);obtain ⟨sl,e⟩:=I.base.slot L o ho (I.ok.frf L hL) hL fun z=>I.ok.exfs L z hL
   exact ⟨hk,⟨L,_,hf,hn,e,hd⟩,ih (fun b hb=>hs b (by unfold frs; rw [List.filterMap_cons,hf]; exact List.mem_cons_of_mem _ hb)) hr⟩
 exact all X.outer (fun _ hb=>hb) I.ok.funs
theorem Jo.stack (I:Jo X pins σ H s):s.heap.FunFrames X.base X.stack:=by
 rcases I.ok.stk with e | ⟨e,hf⟩
 ·rw [e]; exact I.funs
 ·rw [e];obtain ⟨m,hn,_⟩:=I.loc;refine .cons (by rw [I.ok.kind]; decide) hf hn ?_ I.funs;exact Heap.get?_none_of_le (Nat.le_trans I.ok.bsz I.ok.above)
theorem Jo.stkSub (I:Jo X pins σ H s):∀ b∈frs X.stack,b∈X.env.locals :: X.fs:=fun b hb=>by
 rcases I.ok.stk with e | ⟨e,hf⟩
 ·rw [e] at hb; exact List.mem_cons_of_mem _ hb
 ·rw [e] at hb;unfold frs at hb;rw [List.filterMap_cons,hf] at hb;exact hb
theorem Jo.stkFree (I:Jo X pins σ H s):∀ b∈frs X.stack,H b=none:=fun b hb=>by
 rcases List.mem_cons.mp (I.stkSub b hb) with e | hb
 ·rw [e]; exact I.free
 ·obtain ⟨_,o,ho,_⟩:=I.ok.funs.mem hb;exact I.base.free b o ho (I.ok.frf b hb) fun z=>I.ok.exfs b z hb
theorem Jo.step {g':Array GenState} {t':Nat} {d':Drawn} {ch:List Addr} (I:Jo X pins σ H s)
  (hch:∀ b∈ch,(b∈X.ex∨X.s₀.heap.objs.size≤b)∧b≠X.env.locals∧(∀ x c,X.env.cells.lookup x=some c→c≠b)∧∀ p∈X.pn ++ pins,p.1≠b)
  (keep:∀ b o,b≠X.env.locals→b∉X.fs→b∉ch→s.heap.get? b=some o→H b=none→h'.get? b=some o)
  (slot:∀ b o,b≠X.env.locals→b∈X.fs→b∉ch→s.heap.get? b=some o→H b=none→∃ sl,h'.get? b=some { o with slots:=sl }) (free:∀ b o,b∉ch→s.heap.get? b=some o→H b=none→H' b=none)
  (there:∀ b o,b∉ch→s.heap.get? b=some o→∃ o',h'.get? b=some o')
  (tups:∀ b xs,H b=some (.tup xs)→H' b=some (.tup xs)) (frzs:∀ b o u,H b=some (.frz o u)→H' b=some (.frz o u)) (tbls:∀ b ps,H b=some (.tbl ps)→∃ more,H' b=some (.tbl (ps ++ more)))
  (ns:∀ m,s.heap.Ns X.env.locals m→h'.Ns X.env.locals m) (hok:ZZ X.prog X.w H' h') (hg:AllBare g') :
  Jo X pins σ H' { s with heap:=h',gens:=g',drawn:=d',toks:=t' }:=by
 have neL:∀ b o,X.s₀.heap.get? b=some o→b≠X.env.locals:=fun b o e=>Nat.ne_of_lt (Nat.lt_of_lt_of_le (Heap.lt_size e) I.ok.above)
 have neC:∀ b o,X.s₀.heap.get? b=some o→b∉X.ex→b∉ch:=fun b o e hx hb=>by
  rcases (hch b hb).1 with z | z
  ·exact hx z
  ·exact absurd (Nat.lt_of_lt_of_le (Heap.lt_size e) z) (Nat.lt_irrefl _)
 have cellK:∀ x c,X.env.cells.lookup x=some c→∀ v,s.heap.IsCell c v→h'.IsCell c v:=fun x c e v ⟨o,ho,hd⟩=>by
  have nch:c∉ch:=fun z=>(hch c z).2.2.1 x c e rfl
  by_cases hc:c∈X.fs
  ·obtain ⟨sl,q⟩:=slot c o (I.cne x c e) hc nch ho (I.freeC x c e);exact ⟨_,q,hd⟩
  ·exact ⟨o,keep c o (I.cne x c e) hc nch ho (I.freeC x c e),hd⟩
 refine ⟨I.ok,I.os,hg,⟨fun b o e n hb hx=>?_,fun b o e n hb hx=>?_,fun b o e n hx=>?_,fun b o e hx=>?_,fun b xs e=>tups b xs (I.base.tups b xs e),fun b o xs e=>frzs b o xs (I.base.frzs b o xs e),fun b ps e=>?_⟩,?_,fun x c e=>?_,?_,fun x c e=>?_,fun p hp=>?_,hok,I.len⟩
 ·exact keep b o (neL b o e) hb (neC b o e hx) (I.base.keep b o e n hb hx) (I.base.free b o e n hx)
 ·obtain ⟨sl,e1⟩:=I.base.slot b o e n hb hx;obtain ⟨sl',e2⟩:=slot b _ (neL b o e) hb (neC b o e hx) e1 (I.base.free b o e n hx);exact ⟨sl',e2⟩
 ·obtain ⟨o',e1⟩:=I.base.there b o e hx;exact free b o' (neC b o e hx) e1 (I.base.free b o e n hx)
 ·obtain ⟨o',e1⟩:=I.base.there b o e hx;exact there b o' (neC b o e hx) e1
 ·obtain ⟨m1,e1⟩:=I.base.tbls b ps e;obtain ⟨m2,e2⟩:=tbls b _ e1;exact ⟨m1 ++ m2,by rw [e2,Array.append_assoc]⟩
 ·obtain ⟨m,hn,hl⟩:=I.loc;refine ⟨m,ns m hn,fun i x v e1 e2 e3=>?_⟩;obtain ⟨u,r,l⟩:=hl i x v e1 e2 e3;refine ⟨u,r,?_⟩;rcases l with l | ⟨k,c,e,z⟩
  ·exact .inl l
  ·exact .inr ⟨k,c,e,cellK x c e _ z⟩
 ·obtain ⟨v,z⟩:=I.cell x c e;exact ⟨v,cellK x c e v z⟩
 ·obtain ⟨m,⟨o,_,_,ho,_⟩,_⟩:=I.loc;exact free _ o (fun z=>(hch _ z).2.1 rfl) ho I.free
 ·obtain ⟨v,o,ho,hd⟩:=I.cell x c e;exact free c o (fun z=>(hch c z).2.2.1 x c e rfl) ho (I.freeC x c e)
 ·obtain ⟨e,n,ne,nf,d⟩:=I.pin p hp;have nch:p.1∉ch:=fun z=>(hch p.1 z).2.2.2 p hp rfl
  exact ⟨keep p.1 p.2 ne nf nch e n,free p.1 p.2 nch e n,ne,nf,d⟩
theorem Jo.un {t':Nat} (I:Jo X pins σ H s) (u:Un X.fs [] H H' s.heap h') (hok:ZZ X.prog X.w H' h'):Jo X pins σ H' { s with heap:=h',toks:=t' }:=by
 obtain ⟨m,⟨o,es,ep,ho,r⟩,_⟩:=id I.loc;obtain ⟨sl,hL⟩:=u.any ho I.free (by simp);exact I.step (g':=s.gens) (d':=s.drawn) (ch:=[]) (fun _ z=>nomatch z) (fun b o _ hb _ e n=>u.keep b o e n hb (by simp)) (fun b o _ hb _ e n=>u.slot b o e n hb (by simp)) (fun b o _ e n=>u.free b o e n (by simp)) (fun b o _ e=>u.there b o e (by simp)) u.tups u.frzs u.tbls (fun m' hm=>by
  obtain ⟨o',es',ep',ho',r'⟩:=hm;rw [ho] at ho'; cases ho';exact ⟨_,es',ep',hL,r'⟩) hok I.bare
theorem Jo.call {g':Array GenState} {t':Nat} {d':Drawn} {ch:List Addr} (I:Jo X pins σ H s) (u:Un (frs X.stack) ch H H' s.heap h') (hok:ZZ X.prog X.w H' h') (hg:AllBare g')
  (hch:∀ b∈ch,(b∈X.ex∨X.s₀.heap.objs.size≤b)∧b≠X.env.locals∧(∀ x c,X.env.cells.lookup x=some c→c≠b)∧∀ p∈X.pn ++ pins,p.1≠b) :
  Jo X pins σ H' { s with heap:=h',gens:=g',drawn:=d',toks:=t' }:=by
 obtain ⟨m,⟨o,es,ep,ho,r⟩,_⟩:=id I.loc;obtain ⟨sl,hL⟩:=u.any ho I.free fun z=>(hch _ z).2.1 rfl
 exact I.step (ch:=ch) hch (fun b o hL hb hc e n=>u.keep b o e n (fun z=>(List.mem_cons.mp (I.stkSub b z)).elim hL hb) hc) (fun b o _ _ hc e n=>u.any e n hc) (fun b o hc e n=>u.free b o e n hc) (fun b o hc e=>u.there b o e hc) u.tups u.frzs u.tbls (fun m' hm=>by
  obtain ⟨o',es',ep',ho',r'⟩:=hm;rw [ho] at ho'; cases ho';exact ⟨_,es',ep',hL,r'⟩) hok hg
theorem Jo.turned {t':Nat} {it:Addr} (I:Jo X pins σ H s) (k:∀ b o,b≠it→s.heap.get? b=some o→h'.get? b=some o) (hn:H it=none) (hL:it≠X.env.locals)
  (h1:it∈X.ex∨X.s₀.heap.objs.size≤it) (h2:∀ x c,X.env.cells.lookup x=some c→c≠it) (h3:∀ p∈X.pn ++ pins,p.1≠it):Jo X pins σ H { s with heap:=h',toks:=t' }:=by
 have nit:∀ b u,H b=some u→b≠it:=fun b u e z=>by rw [z,hn] at e; cases e
 refine I.step (g':=s.gens) (d':=s.drawn) (ch:=[it]) (fun b hb=>?_) (fun b o _ _ hc e _=>k b o (fun z=>hc (by simp [z])) e) (fun b o _ _ hc e _=>⟨o.slots,k b o (fun z=>hc (by simp [z])) e⟩) (fun _ _ _ _ n=>n)
  (fun b o hc e=>⟨o,k b o (fun z=>hc (by simp [z])) e⟩) (fun _ _ e=>e) (fun _ _ _ e=>e) (fun b ps e=>⟨#[],by rw [e]; simp⟩) (fun m hm=>?_) (fun b u e=>?_) I.bare
 ·have e:b=it:=by simpa using hb
  subst e;exact ⟨h1,hL,h2,h3⟩
 ·obtain ⟨o,es,ep,ho,r⟩:=hm;exact ⟨o,es,ep,k _ o (Ne.symm hL) ho,r⟩
 ·refine (I.hok b u e).stay (fun c v hc q=>k c v ?_ q) (fun _ q=>q) fun _ _ q=>q
  rcases hc with z | z
  ·rw [z]; exact nit b u e
  ·exact nit c _ z
theorem Jo.tok (I:Jo X pins σ H s) (t:Nat):Jo X pins σ H { s with toks:=t }:=I.un (h':=s.heap) (t':=t) Un.refl I.hok
theorem Jo.kept {t':Nat} (I:Jo X pins σ H s) (k:∀ b u,s.heap.get? b=some u→h'.get? b=some u):Jo X pins σ H { s with heap:=h',toks:=t' }:=I.un (Un.kept k) (I.hok.kept k)
theorem Jo.laid {a:Addr} {o:HO} {t':Nat} (I:Jo X pins σ H s) (k:∀ b u,s.heap.get? b=some u→h'.get? b=some u) (hp:s.heap.objs.size≤a) (new:YL X.prog X.w (upd H a o) h' a o) :
  Jo X pins σ (upd H a o) { s with heap:=h',toks:=t' }:=I.un (Un.laid k hp (I.hok.fresh hp)) (I.hok.laid k hp new)
theorem Jo.write {x e:Addr} {o:HO} {t':Nat} (I:Jo X pins σ H s) (mu:Mut (H x)) (he:e=x∨H e=some (.own x)) (k:∀ b u,b≠e→s.heap.get? b=some u→h'.get? b=some u) (heo:∃ u,h'.get? e=some u)
  (new:YL X.prog X.w (upd H x o) h' x o):Jo X pins σ (upd H x o) { s with heap:=h',toks:=t' }:=I.un (Un.write mu he k heo) (I.hok.write mu he k heo new)
theorem Jo.weak {σ':List (Option V)} (I:Jo X pins σ H s) (hl:σ'.length=σ.length) (w:∀ (i:Nat) v,σ'[i]?=some (some v)→σ[i]?=some (some v)):Jo X pins σ' H s :=
 ⟨I.ok,I.os,I.bare,I.base,let ⟨m,hn,hl'⟩:=I.loc; ⟨m,hn,fun i x v e1 e2 e3=>hl' i x v e1 (w i v e2) e3⟩,I.cell,I.free,I.freeC,I.pin,I.hok,hl.trans I.len⟩
theorem Jo.pins_of {pins':List (Addr×Obj)} (I:Jo X pins σ H s) (h:∀ p∈pins',s.heap.get? p.1=some p.2∧H p.1=none∧p.1≠X.env.locals∧p.1∉X.fs∧∀ v,p.2.data≠.cell v):Jo X pins' σ H s :=
 ⟨I.ok,I.os,I.bare,I.base,I.loc,I.cell,I.free,I.freeC,fun p hp=>(List.mem_append.mp hp).elim (fun z=>I.pin p (List.mem_append_left _ z)) (h p),I.hok,I.len⟩
theorem Ji3 {N:List Str} (hN:N.Nodup) {i j:Nat} {x:Str} (a:N[i]?=some x) (b:N[j]?=some x):i=j:=by
 obtain ⟨h1,e1⟩:=List.getElem?_eq_some_iff.mp a;obtain ⟨h2,e2⟩:=List.getElem?_eq_some_iff.mp b;exact (List.getElem_inj hN).mp (e1.trans e2.symm)
theorem Jlo {M:Model} {A:Around} {E:Value→Shared→Prop} {i:Nat} {x:Str} {v:V} {u:Value} {Q:Unit→Shared→Prop} (I:Jo X pins σ H s) (hN:X.N.Nodup) (hi:X.N[i]?=some x) (hx:Loc X.env.scope x) (r:JT v u)
  (h:∀ s',Jo X pins (σ.set i (some v)) H s'→(∃ a,Heap.SameBut a s.heap s'.heap∧(a=X.env.locals∨X.env.cells.lookup x=some a))→Q () s') (hf:X.fn x=true∨X.env.scope.names.lookup x=some .local:=by first | exact .inl rfl | exact .inr rfl | assumption):wpAny M A (storeName X.env x u) Q E s:=by
 obtain ⟨m,hn,hl⟩:=id I.loc;have hcls:(X.env.scope.kind == .class || (X.env.scope.kind == .module && X.env.locals != X.env.globals))=false:=by rw [I.ok.kind]; rfl
 have hiσ:i < σ.length:=by rw [I.len]; exact (List.getElem?_eq_some_iff.mp hi).1
 have cne:=I.cne;have tracked:∀ {a:Addr} {h':Heap},(∃ o,s.heap.get? a=some o∧H a=none)→Heap.SameBut a s.heap h'→ZZ X.prog X.w H h':=fun {a h'} ha hs b ob e=>by
  obtain ⟨_,_,hfree⟩:=ha;refine (I.hok b ob e).stay (fun c w' hc q=>(hs.2 c ?_).trans q) (fun _ q=>q) fun _ _ q=>q
  rintro rfl;rcases hc with rfl | hc
  ·rw [hfree] at e; cases e
  ·rw [hfree] at hc; cases hc
 rcases hx with hk | hk
 ·refine wpAny_storeName_local hk hn (fun h' hn' hs=>?_) hcls;obtain ⟨oL,_,_,hoL,_⟩:=id hn;refine h _ ⟨I.ok,I.os,I.bare,⟨fun b o e n hb hx=>?_,fun b o e n hb hx=>?_,I.base.free,fun b o e hx=>?_,I.base.tups,I.base.frzs,I.base.tbls⟩,⟨_,hn',fun j y v' e1 e2 e3=>?_⟩,fun y c e=>?_,I.free,I.freeC,fun p hp=>?_,tracked ⟨oL,hoL,I.free⟩ hs,by simpa using I.len⟩ ⟨_,hs,.inl rfl⟩
  ·exact (hs.2 b (Nat.ne_of_lt (Nat.lt_of_lt_of_le (Heap.lt_size e) I.ok.above))).trans (I.base.keep b o e n hb hx)
  ·obtain ⟨sl,e1⟩:=I.base.slot b o e n hb hx;exact ⟨sl,(hs.2 b (Nat.ne_of_lt (Nat.lt_of_lt_of_le (Heap.lt_size e) I.ok.above))).trans e1⟩
  ·obtain ⟨o',e1⟩:=I.base.there b o e hx;exact ⟨o',(hs.2 b (Nat.ne_of_lt (Nat.lt_of_lt_of_le (Heap.lt_size e) I.ok.above))).trans e1⟩
  ·by_cases hj:j=i
   ·subst hj;rw [hi] at e1; cases e1;rw [List.getElem?_set_self hiσ] at e2;cases e2;exact ⟨u,r,.inl ⟨hk,by simp⟩⟩
   ·rw [List.getElem?_set_ne (Ne.symm hj)] at e2;obtain ⟨u',r',q⟩:=hl j y v' e1 e2 e3;refine ⟨u',r',?_⟩;rcases q with ⟨k,e⟩ | ⟨k,c,e,z⟩
    ·refine .inl ⟨k,?_⟩;have:y≠x:=fun e=>hj (Ji3 hN e1 (e ▸ hi))
     simp [this,e]
    ·exact .inr ⟨k,c,e,z.sameBut hs (cne y c e)⟩
  ·obtain ⟨w',z⟩:=I.cell y c e;exact ⟨w',z.sameBut hs (cne y c e)⟩
  ·obtain ⟨e,n,ne,nf,d⟩:=I.pin p hp;exact ⟨(hs.2 p.1 ne).trans e,n,ne,nf,d⟩
 ·have hfn:X.fn x=true:=by
   rcases hf with z | z
   ·exact z
   ·rw [z] at hk; cases hk
  obtain ⟨c,hc⟩:=I.ok.has x (.inl hk);obtain ⟨w',z⟩:=I.cell x c hc;refine wpAny_storeName_cell I.ok.kind hk hc z (fun h' hc' hs=>?_);obtain ⟨oc,hoc,hocd⟩:=id z;refine h { s with heap:=h' } ⟨I.ok,I.os,I.bare,⟨fun b o e n hb hx=>?_,fun b o e n hb hx=>?_,I.base.free,fun b o e hx=>?_,I.base.tups,I.base.frzs,I.base.tbls⟩,⟨m,hn.sameBut hs (Ne.symm (cne x c hc)),fun j y v' e1 e2 e3=>?_⟩,fun y c' e=>?_,I.free,I.freeC,fun p hp=>?_,tracked ⟨oc,hoc,I.freeC x c hc⟩ hs,by simpa using I.len⟩ ⟨c,hs,.inr hc⟩
  ·exact (hs.2 b (Nat.ne_of_lt (Nat.lt_of_lt_of_le (Heap.lt_size e) (I.ok.cab x c hfn hc)))).trans (I.base.keep b o e n hb hx)
  ·obtain ⟨sl,e1⟩:=I.base.slot b o e n hb hx;exact ⟨sl,(hs.2 b (Nat.ne_of_lt (Nat.lt_of_lt_of_le (Heap.lt_size e) (I.ok.cab x c hfn hc)))).trans e1⟩
  ·obtain ⟨o',e1⟩:=I.base.there b o e hx;exact ⟨o',(hs.2 b (Nat.ne_of_lt (Nat.lt_of_lt_of_le (Heap.lt_size e) (I.ok.cab x c hfn hc)))).trans e1⟩
  ·by_cases hj:j=i
   ·subst hj;rw [hi] at e1; cases e1;rw [List.getElem?_set_self hiσ] at e2;cases e2;exact ⟨u,r,.inr ⟨.inl hk,c,hc,hc'⟩⟩
   ·rw [List.getElem?_set_ne (Ne.symm hj)] at e2;obtain ⟨u',r',q⟩:=hl j y v' e1 e2 e3;refine ⟨u',r',?_⟩;rcases q with q | ⟨k,c',e,z'⟩
    ·exact .inl q
    ·refine .inr ⟨k,c',e,z'.sameBut hs ?_⟩;rintro rfl;exact hj (Ji3 hN e1 (I.ok.inj _ _ _ e hc ▸ hi))
  ·by_cases hcc:c'=c
   ·subst hcc; exact ⟨_,hc'⟩
   ·obtain ⟨w2,z2⟩:=I.cell y c' e;exact ⟨w2,z2.sameBut hs hcc⟩
  ·obtain ⟨e,n,ne,nf,d⟩:=I.pin p hp;refine ⟨(hs.2 p.1 ?_).trans e,n,ne,nf,d⟩;intro q;rw [q,hoc] at e;have q':oc=p.2:=Option.some.inj e;exact d w' (by rw [← q']; exact hocd)
theorem JiO {M:Model} {A:Around} {E:Value→Shared→Prop} {i:Nat} {x:Str} {v:V} {u:Value} {Q:Unit→Shared→Prop} (I:Jo X pins σ H s) (hN:X.N.Nodup) (hi:X.N[i]?=some x) (hx:Loc X.env.scope x) (r:JT v u)
  (h:∀ s',Jo X pins (σ.set i (some v)) H s'→Q () s') (hf:X.fn x=true∨X.env.scope.names.lookup x=some .local:=by first | exact .inl rfl | exact .inr rfl | assumption):wpAny M A (storeName X.env x u) Q E s :=
 Jlo I hN hi hx r (fun s' I' _=>h s' I') hf
theorem Jo.call' {s':Shared} {ch:List Addr} (I:Jo X pins σ H s) (ho:s'.os=s.os) (u:Un (frs X.stack) ch H H' s.heap s'.heap) (hok:ZZ X.prog X.w H' s'.heap) (hg:AllBare s'.gens)
  (hch:∀ b∈ch,(b∈X.ex∨X.s₀.heap.objs.size≤b)∧b≠X.env.locals∧(∀ x c,X.env.cells.lookup x=some c→c≠b)∧∀ p∈X.pn ++ pins,p.1≠b):Jo X pins σ H' s':=by
 obtain ⟨h',g',d',t',o'⟩:=s';have e:o'=s.os:=ho;subst e;exact I.call (g':=g') (t':=t') (d':=d') u hok hg hch
end
abbrev XK:=Value→Option Addr→Hp→Prop
abbrev St:=List (Option V)
abbrev VK:=V→Hp→Prop
abbrev TE:=St→Hp→VK→Prop
abbrev TT:=St→Hp→(Bool→Hp→Prop)→Prop
abbrev TA:=St→Hp→(List V→Hp→Prop)→Prop
structure Jh8 where
 nx:St→Hp→Prop
 rt:VK
 bk:St→Hp→Prop:=fun _ _=>False
 ct:St→Hp→Prop:=fun _ _=>False
abbrev TS:=Jh8→St→Hp→Prop
def EP (X:Cx) (pins:List (Addr×Obj)) (σ:St) (Q:VK) (u:Value) (s':Shared):Prop:=∃ v H',Jo X pins σ H' s'∧JT v u∧Q v H'
def TP (X:Cx) (pins:List (Addr×Obj)) (σ:St) (Q:Bool→Hp→Prop) (b:Bool) (s':Shared):Prop:=∃ H',Jo X pins σ H' s'∧Q b H'
def AP (X:Cx) (pins:List (Addr×Obj)) (σ:St) (Q:List V→Hp→Prop) (us:List Value) (s':Shared):Prop:=∃ vs H',Jo X pins σ H' s'∧JI vs us∧Q vs H'
def SP (X:Cx) (pins:List (Addr×Obj)) (D:Jh8) (f:Flow) (s':Shared):Prop :=
 match f with
 | .next=>∃ σ' H',Jo X pins σ' H' s'∧D.nx σ' H'
 | .brk=>∃ σ' H',Jo X pins σ' H' s'∧D.bk σ' H'
 | .cont=>∃ σ' H',Jo X pins σ' H' s'∧D.ct σ' H'
 | .ret u=>∃ v σ' H',Jo X pins σ' H' s'∧JT v u∧D.rt v H'
def PE (X:Cx) (e:Expr) (t:TE):Prop :=
 ∀ (pins:List (Addr×Obj)) (s:Shared) (σ:St) (H:Hp) (Q:VK),Jo X pins σ H s→t σ H Q→wpAny (model X.prog X.w) X.A (eval e X.env) (EP X pins σ Q) X.xe s
def PT (X:Cx) (e:Expr) (t:TT):Prop :=
 ∀ (pins:List (Addr×Obj)) (s:Shared) (σ:St) (H:Hp) (Q:Bool→Hp→Prop),Jo X pins σ H s→t σ H Q→wpAny (model X.prog X.w) X.A (isTrue e X.env (eval e X.env)) (TP X pins σ Q) X.xe s
def PW (X:Cx) (e:Expr) (t:TT):Prop :=
 ∀ (whole:Sem Value) (pins:List (Addr×Obj)) (s:Shared) (σ:St) (H:Hp) (Q:Bool→Hp→Prop),Jo X pins σ H s→t σ H Q→wpAny (model X.prog X.w) X.A (isTrue e X.env whole) (TP X pins σ Q) X.xe s
theorem PW.pt {X:Cx} {e:Expr} {t:TT} (h:PW X e t):PT X e t:=h _
def PA (X:Cx) (es:List Expr) (t:TA):Prop :=
 ∀ (pos:Pos) (pins:List (Addr×Obj)) (s:Shared) (σ:St) (H:Hp) (Q:List V→Hp→Prop),Jo X pins σ H s→t σ H Q→wpAny (model X.prog X.w) X.A (spliced (backTo pos (starEach es X.env))) (AP X pins σ Q) X.xe s
def PS (X:Cx) (st:Stmt) (t:TS):Prop :=
 ∀ (pins:List (Addr×Obj)) (s:Shared) (σ:St) (H:Hp) (D:Jh8),Jo X pins σ H s→t D σ H→wpAny (model X.prog X.w) X.A (exec st X.env) (SP X pins D) X.xe s
def PSs (X:Cx) (st:List Stmt) (t:TS):Prop :=
 ∀ (pins:List (Addr×Obj)) (s:Shared) (σ:St) (H:Hp) (D:Jh8),Jo X pins σ H s→t D σ H→wpAny (model X.prog X.w) X.A (execs st X.env) (SP X pins D) X.xe s
theorem JW {α:Type} {t:Sem α} {Q Q':α→Shared→Prop} {M:Model} {A:Around} {E:Value→Shared→Prop} {s:Shared} (h:wpAny M A t Q E s) (hQ:∀ a s,Q a s→Q' a s):wpAny M A t Q' E s:=wpAny_mono h hQ fun _ _ x=>x
end L2
namespace L2
open PySem PySem.Spec PyProof.Rows
section
variable {X:Cx}
def Jou (i:Nat):TE:=fun σ H Q=>∃ v,σ[i]?=some (some v)∧Q v H
def tC (v:V):TE:=fun _ H Q=>Q v H
theorem JmQ {i:Nat} {x:Str} {pos:Pos} (hN:X.N[i]?=some x) (hv:Vis X.env.scope x) (hd:(x == ("__debug__" : Str))=false:=by decide) (hcd:(x == ("__classdict__" : Str))=false:=by decide):PE X (.Name x pos) (Jou i):=by
 intro pins s σ H Q I h;obtain ⟨v,e,h⟩:=h;obtain ⟨m,hn,hl⟩:=I.loc;obtain ⟨u,r,l⟩:=hl i x v hN e hv;have fin:EP X pins σ Q u s:=⟨v,H,I,r,h⟩
 rcases l with ⟨hk,hm⟩ | ⟨hk,c,hc,hcell⟩
 ·exact wpAny_Name (wpAny_loadName_local I.ok.kind hk hn hm fin) hd
 ·rcases hk with hk | hk
  ·exact wpAny_Name (wpAny_loadName_cell I.ok.kind hk hc hcell fin) hd
  ·exact wpAny_Name (wpAny_loadName_free I.ok.kind hk hc hcell fin hcd) hd
theorem Je {i j pos}:PE X (.Constant (.int i) j pos) (tC (.int i)):=fun _ _ _ H _ I h=>wpAny_Constant_int ⟨.int i,H,I.tok _,⟨_,rfl⟩,h⟩
theorem Jay {b j pos}:PE X (.Constant (.bool b) j pos) (tC (.bl b)):=fun _ _ _ H _ I h=>Constant_bool ⟨.bl b,H,I,rfl,h⟩
theorem Zo {j pos}:PE X (.Constant .none j pos) (tC .non):=fun _ _ _ H _ I h=>Constant_none ⟨.non,H,I,rfl,h⟩
theorem Jz {x j pos}:PE X (.Constant (.str x) j pos) (tC (.str x)):=fun _ _ _ H _ I h=>Calls.Constant_str ⟨.str x,H,I.tok _,⟨_,rfl⟩,h⟩
def Gl (X:Cx) (x:Str):Prop:=X.env.kindOf x=some .globalImplicit
theorem Jgy {E:Value→Shared→Prop} {pins:List (Addr×Obj)} {s:Shared} {σ:St} {H:Hp} {x:Str} {u:Value} {pos:Pos} {Q:Value→Shared→Prop} (I:Jo X pins σ H s) (hg:Gl X x) (hm:X.mg x=some u) (h:Q u s)
  (hd:(x == ("__debug__" : Str))=false:=by decide):wpAny (model X.prog X.w) X.A (eval (.Name x pos) X.env) Q E s :=
 Calls.Name_function_global I.ok.kind hg (Calls.loadGlobal_global (by rw [I.ok.glob]; exact I.mod.glob.keeps I.bk) hm h) hd
theorem JhK {E:Value→Shared→Prop} {pins:List (Addr×Obj)} {s:Shared} {σ:St} {H:Hp} {x:Str} {u:Value} {pos:Pos} {Q:Value→Shared→Prop} (I:Jo X pins σ H s) (hg:Gl X x) (hm:X.mg x=none) (hv:bootBuiltins x=some u) (h:Q u s)
  (hn:x ≠ "__name__":=by decide) (hd:(x == ("__debug__" : Str))=false:=by decide):wpAny (model X.prog X.w) X.A (eval (.Name x pos) X.env) Q E s:=by
 obtain ⟨mb,h1,h2⟩:=I.mod.blt;exact Calls.Name_function_global I.ok.kind hg (Calls.loadGlobal_builtin (by rw [I.ok.glob]; exact I.mod.glob.keeps I.bk) hm (by rw [I.ok.blt]; exact h1.keeps I.bk) ((h2 x hn).trans hv) h) hd
theorem Ja1 {x:Str} {v:V} {u:Value} {pos:Pos} (hg:Gl X x) (hm:X.mg x=some u) (r:JT v u) (hd:(x == ("__debug__" : Str))=false:=by decide):PE X (.Name x pos) (tC v) :=
 fun _ _ _ H _ I h=>Jgy I hg hm ⟨v,H,I,r,h⟩ hd
theorem Jtn {x:Str} {v:V} {u:Value} {pos:Pos} (hg:Gl X x) (hm:X.mg x=none) (hv:bootBuiltins x=some u) (r:JT v u) (hn:x ≠ "__name__":=by decide) (hd:(x == ("__debug__" : Str))=false:=by decide):PE X (.Name x pos) (tC v) :=
 fun _ _ _ H _ I h=>JhK I hg hm hv ⟨v,H,I,r,h⟩ hn hd
variable {a b:Expr} {ta tb:TE} {pos:Pos}
def PC (X:Cx) (op:CmpOp) (a b:Expr) (t:TE):Prop :=
 ∀ (pins:List (Addr×Obj)) (s:Shared) (σ:St) (H:Hp) (Q:VK),Jo X pins σ H s→t σ H Q →
  wpAny (model X.prog X.w) X.A (eval a X.env) (fun v s₁=>wpAny (model X.prog X.w) X.A (eval b X.env) (fun u s₂=>wpAny (model X.prog X.w) X.A (compareOp op v u) (EP X pins σ Q) X.xe s₂) X.xe s₁) X.xe s
theorem Yj (b:Expr) {op:CmpOp} (h:op≠.In) (h2:op≠.NotIn):behindInMarks op b=false:=by
 have e1:(op == CmpOp.In)=false:=by cases op <;> first | rfl | exact absurd rfl h
 have e2:(op == CmpOp.NotIn)=false:=by cases op <;> first | rfl | exact absurd rfl h2
 cases b <;> simp [behindInMarks,e1,e2]
def JvH (ta:TE):TE:=fun σ H Q=>ta σ H fun x H1=>Q (.bl (decide (x=.non))) H1
def JuU (ta:TE):TE:=fun σ H Q=>ta σ H fun x H1=>Q (.bl (!decide (x=.non))) H1
theorem JT.none_iff {x:V} {v:Value} (r:JT x v):(v == Value.none)=decide (x=.non):=by
 cases x with
 | non=>cases r; rfl
 | bl _=>cases r; rfl
 | int _=>obtain ⟨t,rfl⟩:=r; rfl
 | str _=>obtain ⟨t,rfl⟩:=r; rfl
 | byt _=>obtain ⟨t,rfl⟩:=r; rfl
 | flt _=>obtain ⟨t,rfl⟩:=r; rfl
 | ref _=>cases r; rfl
 | ty _=>cases r; rfl
theorem JaD {j pos'} (ha:PE X a ta):PC X .Is a (.Constant .none j pos') (JvH ta):=by
 intro pins s σ H Q I h;refine JW (ha pins s σ H _ I h) fun v s1 ⟨x,H1,I1,r1,q1⟩=>?_
 exact Constant_none (is_none_gen ⟨.bl _,H1,I1,by rw [r1.none_iff]; rfl,q1⟩)
theorem Jag {j pos'} (ha:PE X a ta):PC X .IsNot a (.Constant .none j pos') (JuU ta):=by
 intro pins s σ H Q I h;refine JW (ha pins s σ H _ I h) fun v s1 ⟨x,H1,I1,r1,q1⟩=>?_
 exact Constant_none (isnot_none_gen ⟨.bl _,H1,I1,by rw [r1.none_iff]; rfl,q1⟩)
def tB (t:TE):TT:=fun σ H Q=>t σ H fun x H1=>∃ c,x=.bl c∧Q c H1
theorem Jhv {op:CmpOp} {t:TE} (h:PC X op a b t) (h1:behindInMarks op b=false:=by first | exact Yj _ (by decide) (by decide) | rfl):PE X (.Compare a [op] [b] pos) t:=fun pins s σ H Q I hw=>wpAny_Compare1 (h pins s σ H Q I hw) h1
theorem Zm {op:CmpOp} {t:TE} (h:PC X op a b t) (h1:behindInMarks op b=false:=by first | exact Yj _ (by decide) (by decide) | rfl):PT X (.Compare a [op] [b] pos) (tB t):=by
 intro pins s σ H Q I hw;refine wpAny_isTrue_Compare1 (JW (h pins s σ H _ I hw) fun v s1 h1=>JW h1 fun u s2 h2=>JW h2 fun c s3 ⟨x,H1,I1,r1,q1⟩=>?_) h1;obtain ⟨d,rfl,q⟩:=q1;cases r1;exact wpAny_truthy_bool ⟨H1,I1,q⟩
theorem Zf {e:Expr} {t:TE} (h:PE X e t) (he:∀ whole,isTrue e X.env whole=(do let v ← whole; standAt e.pos; holding [v] (truthy v)):=by intro _; rfl):PT X e (tB t):=by
 intro pins s σ H Q I hw;refine isTrue_plain (JW (h pins s σ H _ I hw) fun v s1 ⟨x,H1,I1,r1,q1⟩=>?_) (he _);obtain ⟨d,rfl,q⟩:=q1;cases r1;exact wpAny_truthy_bool ⟨H1,I1,q⟩
variable {tA tB':TT} {rest:List Expr}
def JvM (t u:TT):TT:=fun σ H Q=>t σ H fun c H1=>if c=true then u σ H1 Q else Q false H1
def tOr (t u:TT):TT:=fun σ H Q=>t σ H fun c H1=>if c=true then Q true H1 else u σ H1 Q
def JvE (t:TT):TT:=fun σ H Q=>t σ H fun c H1=>Q (!c) H1
theorem JkG (ha:PT X a tA):PW X (.BoolOp .And [a] pos) tA:=by
 intro wh pins s σ H Q I h;refine isTrue_and (JW (ha pins s σ H Q I h) fun c s1 e=>?_);cases c with
 | true=>exact isTrue_and_nil e
 | false=>exact e
theorem ZT (ha:PT X a tA):PW X (.BoolOp .Or [a] pos) tA:=by
 intro wh pins s σ H Q I h;refine isTrue_or (JW (ha pins s σ H Q I h) fun c s1 e=>?_);cases c with
 | false=>exact isTrue_or_nil e
 | true=>exact e
theorem JmN (ha:PT X a tA) (hb:PW X (.BoolOp .And (b :: rest) pos) tB'):PW X (.BoolOp .And (a :: b :: rest) pos) (JvM tA tB'):=by
 intro wh pins s σ H Q I h;refine isTrue_and (JW (ha pins s σ H _ I h) fun c s1 ⟨H1,I1,q1⟩=>?_);cases c with
 | true=>exact hb wh pins s1 σ H1 Q I1 q1
 | false=>exact ⟨H1,I1,q1⟩
theorem ZX (ha:PT X a tA) (hb:PW X (.BoolOp .Or (b :: rest) pos) tB'):PW X (.BoolOp .Or (a :: b :: rest) pos) (tOr tA tB'):=by
 intro wh pins s σ H Q I h;refine isTrue_or (JW (ha pins s σ H _ I h) fun c s1 ⟨H1,I1,q1⟩=>?_);cases c with
 | true=>exact ⟨H1,I1,q1⟩
 | false=>exact hb wh pins s1 σ H1 Q I1 q1
theorem ZU (ha:PT X a tA):PT X (.UnaryOp .Not a pos) (JvE tA):=by
 intro pins s σ H Q I h;exact isTrue_not (ha pins s σ H (fun c H1=>Q (!c) H1) I h)
def Ju2 (ta tb:TE):TE:=fun σ H Q=>ta σ H fun x H1=>∃ c,x=.bl c∧if c=true then tb σ H1 Q else Q (.bl false) H1
def JuT (ta:TE):TE:=fun σ H Q=>ta σ H fun x H1=>∃ c,x=.bl c∧Q (.bl (!c)) H1
theorem JjL {op} {t:TE} (h:PE X a t):PE X (.BoolOp op [a] pos) t:=fun pins s σ H Q I hw=>BoolOp_one (h pins s σ H Q I hw)
theorem JjM (ha:PE X a ta) (hb:PE X (.BoolOp .And (b :: rest) pos) tb):PE X (.BoolOp .And (a :: b :: rest) pos) (Ju2 ta tb):=by
 intro pins s σ H Q I h;refine BoolOp_and (JW (ha pins s σ H _ I h) fun v s1 ⟨x,H1,I1,r1,q1⟩=>?_);obtain ⟨c,rfl,q1⟩:=q1;cases r1;refine wpAny_truthy_bool ?_;cases c with
 | true=>exact hb pins s1 σ H1 Q I1 q1
 | false=>exact ⟨.bl false,H1,I1,rfl,q1⟩
theorem Juk (ha:PE X a ta):PE X (.UnaryOp .Not a pos) (JuT ta):=by
 intro pins s σ H Q I h;refine UnaryOp_ (JW (ha pins s σ H _ I h) fun v s1 ⟨x,H1,I1,r1,q1⟩=>?_);obtain ⟨c,rfl,q1⟩:=q1;cases r1;exact not_of (wpAny_truthy_bool ⟨.bl (!c),H1,I1,rfl,q1⟩)
def tIf (t:TT) (ta tb:TE):TE:=fun σ H Q=>t σ H fun c H1=>if c=true then ta σ H1 Q else tb σ H1 Q
theorem Jb9 {c:Expr} (hc:PT X c tA) (ha:PE X a ta) (hb:PE X b tb):PE X (.IfExp c a b pos) (tIf tA ta tb):=by
 intro pins s σ H Q I h;refine wpAny_IfExp (JW (hc pins s σ H _ I h) fun d s1 ⟨H1,I1,q1⟩=>?_);cases d with
 | true=>exact ha pins s1 σ H1 Q I1 q1
 | false=>exact hb pins s1 σ H1 Q I1 q1
end
end L2
namespace L2
open PySem PySem.Spec PyProof.Rows
def JC (K:PySem.W.Frag) (H:Hp) (a:Addr) (xs:List V):Prop :=
 Rd H a (.lst xs) ∨
  ∃ (o:Obj) (its:Array Value) (n:Nat),K.lookup a=some o∧o.cls=.type "list"∧o.dict=none∧o.data=.seq its n∧its.size≤sizeLine∧JI xs its.toList
def JL (K:PySem.W.Frag) (H:Hp) (a:Addr) (xs:List V):Prop :=
 Rd H a (.tup xs) ∨
  ∃ (o:Obj) (its:Array Value) (n:Nat),K.lookup a=some o∧o.cls=.type "tuple"∧o.data=.seq its n∧its.size≤sizeLine∧JI xs its.toList
def JvZ:Value→Option V
 | .none=>some .non
 | .bool b=>some (.bl b)
 | .int i _=>some (.int i)
 | .str x _=>some (.str x)
 | .bytes b _=>some (.byt b)
 | .float b _=>some (.flt b)
 | .ref a=>some (.ref a)
 | .type n=>some (.ty n)
 | _=>none
theorem JT.abs {x:V} {u:Value} (r:JT x u):JvZ u=some x:=by
 cases x with
 | non=>cases r; rfl
 | bl _=>cases r; rfl
 | int _=>obtain ⟨t,rfl⟩:=r; rfl
 | str _=>obtain ⟨t,rfl⟩:=r; rfl
 | byt _=>obtain ⟨t,rfl⟩:=r; rfl
 | flt _=>obtain ⟨t,rfl⟩:=r; rfl
 | ref _=>cases r; rfl
 | ty _=>cases r; rfl
theorem JT.inj {x y:V} {u:Value} (r:JT x u) (q:JT y u):x=y:=Option.some.inj (r.abs.symm.trans q.abs)
theorem JI.inj:∀ {xs ys:List V} {us:List Value},JI xs us→JI ys us→xs=ys
 | _,_,_,.nil,.nil=>rfl
 | _,_,_,.cons r t,.cons r' t'=>by rw [r.inj r',JI.inj t t']
section
variable {X:Cx} {pins:List (Addr×Obj)} {σ:St} {H:Hp} {s:Shared} {a:Addr} {xs ys:List V}
theorem JC.of {K:PySem.W.Frag} (h:H a=some (.lst xs)):JC K H a xs:=.inl (.inl h)
theorem JL.of {K:PySem.W.Frag} (h:H a=some (.tup xs)):JL K H a xs:=.inl (.inl h)
theorem Jo.list (I:Jo X pins σ H s) (h:JC X.K H a xs):∃ its:List Value,JI xs its∧PlainL s.heap a its.toArray∧xs.length≤sizeLine:=by
 rcases h with h | ⟨o,its,n,hk,hc,hd,hs,hz,r⟩
 ·obtain ⟨z,its,n,r,e⟩:=h.ok I.hok;exact ⟨its,r,⟨_,n,e,rfl,rfl,rfl⟩,z⟩
 ·refine ⟨its.toList,r,⟨o,n,I.kIn a o hk,hc,hd,by simpa using hs⟩,?_⟩;have e:=r.length;simp only [Array.length_toList] at e;omega
theorem Jo.tuple (I:Jo X pins σ H s) (h:JL X.K H a xs):∃ its:List Value,JI xs its∧IsTup s.heap a its.toArray∧xs.length≤sizeLine:=by
 rcases h with h | ⟨o,its,n,hk,hc,hs,hz,r⟩
 ·obtain ⟨z,its,r,p⟩:=h.ok I.hok;exact ⟨its,r,p,z⟩
 ·refine ⟨its.toList,r,⟨o,I.kIn a o hk,hc,n,by simpa using hs⟩,?_⟩;have e:=r.length;simp only [Array.length_toList] at e;omega
theorem Jo.list_inj (I:Jo X pins σ H s) (h:JC X.K H a xs) (h':JC X.K H a ys):xs=ys:=by
 obtain ⟨its,r,⟨o,n,e,_,_,d⟩,_⟩:=I.list h;obtain ⟨its',r',⟨o',n',e',_,_,d'⟩,_⟩:=I.list h';rw [e] at e'; cases e';rw [d] at d';injection d' with d1 _;have:its=its':=by simpa using congrArg Array.toList d1
 subst this;exact r.inj r'
theorem Jo.tuple_inj (I:Jo X pins σ H s) (h:JL X.K H a xs) (h':JL X.K H a ys):xs=ys:=by
 obtain ⟨its,r,⟨o,e,_,n,d⟩,_⟩:=I.tuple h;obtain ⟨its',r',⟨o',e',_,n',d'⟩,_⟩:=I.tuple h';rw [e] at e'; cases e';rw [d] at d';injection d' with d1 _;have:its=its':=by simpa using congrArg Array.toList d1
 subst this;exact r.inj r'
end
abbrev Cx.wish (X:Cx) (E:Value→Shared→Prop):Cx:={ X with xe:=E }
abbrev Cx.nox (X:Cx):Cx:=X.wish fun _ _=>False
theorem Cx.Ok.wish {X:Cx} (ok:X.Ok) (E:Value→Shared→Prop):(X.wish E).Ok :=
 ⟨ok.mod,ok.kind,ok.glob,ok.blt,ok.above,ok.inj,ok.has,ok.cab,ok.hd,ok.frames,ok.stk,ok.exf,ok.bs,ok.bsz,ok.noex,ok.exfs,ok.funs,ok.frf⟩
theorem Cx.Ok.unwish {X:Cx} {E:Value→Shared→Prop} (ok:(X.wish E).Ok):X.Ok :=
 ⟨ok.mod,ok.kind,ok.glob,ok.blt,ok.above,ok.inj,ok.has,ok.cab,ok.hd,ok.frames,ok.stk,ok.exf,ok.bs,ok.bsz,ok.noex,ok.exfs,ok.funs,ok.frf⟩
section
variable {X:Cx} {pins:List (Addr×Obj)} {σ:St} {H:Hp} {s:Shared} {E:Value→Shared→Prop}
theorem Jo.wish (I:Jo X pins σ H s) (E:Value→Shared→Prop):Jo (X.wish E) pins σ H s:=⟨I.ok.wish E,I.os,I.bare,I.base,I.loc,I.cell,I.free,I.freeC,I.pin,I.hok,I.len⟩
theorem Jo.unwish (I:Jo (X.wish E) pins σ H s):Jo X pins σ H s:=⟨I.ok.unwish,I.os,I.bare,I.base,I.loc,I.cell,I.free,I.freeC,I.pin,I.hok,I.len⟩
theorem SP.unwish {D:Jh8} {f:Flow} {s':Shared} (h:SP (X.wish E) pins D f s'):SP X pins D f s':=by
 cases f with
 | next=>obtain ⟨σ',H',I,q⟩:=h; exact ⟨σ',H',I.unwish,q⟩
 | brk=>obtain ⟨σ',H',I,q⟩:=h; exact ⟨σ',H',I.unwish,q⟩
 | cont=>obtain ⟨σ',H',I,q⟩:=h; exact ⟨σ',H',I.unwish,q⟩
 | ret u=>obtain ⟨v,σ',H',I,r,q⟩:=h; exact ⟨v,σ',H',I.unwish,r,q⟩
theorem PE.nox {e:Expr} {t:TE} (h:PE X.nox e t):PE X e t:=fun pins s σ H Q I hw =>
 wpAny_mono (h pins s σ H Q (I.wish _) hw) (fun _ _ ⟨v,H',I',r,q⟩=>⟨v,H',I'.unwish,r,q⟩) fun _ _ z=>False.elim z
theorem PT.nox {e:Expr} {t:TT} (h:PT X.nox e t):PT X e t:=fun pins s σ H Q I hw =>
 wpAny_mono (h pins s σ H Q (I.wish _) hw) (fun _ _ ⟨H',I',q⟩=>⟨H',I'.unwish,q⟩) fun _ _ z=>False.elim z
theorem PSs.nox {st:List Stmt} {t:TS} (h:PSs X.nox st t):PSs X st t:=fun pins s σ H D I hw =>
 wpAny_mono (h pins s σ H D (I.wish _) hw) (fun _ _ q=>q.unwish) fun _ _ z=>False.elim z
end
section
variable {X:Cx} {st:Stmt} {rest:List Stmt} {t u:TS} {e:Expr} {te:TE} {pos:Pos}
def JuV:TS:=fun D σ H=>D.nx σ H
def JvC (t u:TS):TS:=fun D σ H=>@Jh8.rec (fun _=>Prop) (fun nx rt bk ct=>t ⟨u ⟨nx,rt,bk,ct⟩,rt,bk,ct⟩ σ H) D
theorem Jp:PSs X [] JuV:=fun _ _ σ H _ I h=>wpAny_execs_nil ⟨σ,H,I,h⟩
theorem Jd (h1:PS X st t) (h2:PSs X rest u):PSs X (st :: rest) (JvC t u):=by
 intro pins s σ H D I h;refine wpAny_execs_cons (JW (h1 pins s σ H { D with nx:=u D } I h) fun f s1 q=>?_);cases f with
 | next =>
  obtain ⟨σ',H',I',q⟩:=q;exact h2 pins s1 σ' H' D I' q
 | ret v=>exact q
 | brk=>exact q
 | cont=>exact q
theorem Jg (h1:PS X st t):PSs X [st] t:=by
 intro pins s σ H D I h;refine wpAny_execs_cons (JW (h1 pins s σ H D I h) fun f s1 q=>?_);cases f with
 | next=>exact wpAny_execs_nil q
 | ret v=>exact q
 | brk=>exact q
 | cont=>exact q
def JtU:TS:=fun D σ H=>D.bk σ H
theorem JrK:PS X (.Break pos) JtU:=fun _ _ σ H _ I h=>wpAny_Break ⟨σ,H,I,h⟩
theorem Jo.quiet {pins:List (Addr×Obj)} {σ:St} {H:Hp} {s:Shared} (I:Jo X pins σ H s):interactive X.env=false:=by simp [interactive,I.ok.kind]
def JuY (te:TE):TS:=fun D σ H=>te σ H fun _ H1=>D.nx σ H1
theorem JJ (he:PE X e te) (hs:swapsWith e none pos.line X.env=pure false:=by rfl):PS X (.Expr e pos) (JuY te):=by
 intro pins s σ H D I h;exact wpAny_Expr_any (JW (he pins s σ H _ I h) fun v s1 ⟨x,H1,I1,r1,q1⟩=>⟨σ,H1,I1,q1⟩) I.quiet hs
def JvD (te:TE):TS:=fun D σ H=>te σ H D.rt
theorem Jn (he:PE X e te):PS X (.Return (some e) pos) (JvD te):=by
 intro pins s σ H D I h;exact wpAny_Return_some (JW (he pins s σ H _ I h) fun v s1 ⟨x,H1,I1,r1,q1⟩=>⟨x,σ,H1,I1,r1,q1⟩)
def JvI (c:TT) (t u:TS):TS:=fun D σ H=>c σ H fun b H1=>if b=true then t D σ H1 else u D σ H1
theorem JH {c:Expr} {a b:List Stmt} {tc:TT} (hc:PT X c tc) (ha:PSs X a t) (hb:PSs X b u):PS X (.If c a b pos) (JvI tc t u):=by
 intro pins s σ H D I h;refine wpAny_If (JW (hc pins s σ H _ I h) fun d s1 ⟨H1,I1,q1⟩=>?_);cases d with
 | true=>exact ha pins s1 σ H1 D I1 q1
 | false=>exact hb pins s1 σ H1 D I1 q1
def JtR:TS:=fun _ _ _=>False
theorem JgS:PS X st JtR:=fun _ _ _ _ _ _ h=>h.elim
end
abbrev TG:=V→St→Hp→(St→Hp→Prop)→Prop
abbrev TGs:=List V→St→Hp→(St→Hp→Prop)→Prop
def PG (X:Cx) (target:Expr) (t:TG):Prop :=
 ∀ (pins:List (Addr×Obj)) (s:Shared) (σ:St) (H:Hp) (v:V) (u:Value) (Q:St→Hp→Prop),Jo X pins σ H s→JT v u→t v σ H Q →
  wpAny (model X.prog X.w) X.A (assign target X.env u) (fun _ s'=>∃ σ' H',Jo X pins σ' H' s'∧Q σ' H') X.xe s
def PGs (X:Cx) (ts:List Expr) (t:TGs):Prop :=
 ∀ (pins:List (Addr×Obj)) (s:Shared) (σ:St) (H:Hp) (vs:List V) (us:List Value) (Q:St→Hp→Prop),Jo X pins σ H s→JI vs us→t vs σ H Q →
  wpAny (model X.prog X.w) X.A (assignInOrder ((assignEach ts X.env).map (·.2)) us) (fun _ s'=>∃ σ' H',Jo X pins σ' H' s'∧Q σ' H') X.xe s
abbrev Jsq:=V→V→V→Hp→(Hp→Prop)→Prop
def JuL (X:Cx) (t:Jsq):Prop :=
 ∀ (pins:List (Addr×Obj)) (s:Shared) (σ:St) (H:Hp) (o i v:V) (ov iv u:Value) (Q:Hp→Prop),Jo X pins σ H s→JT o ov→JT i iv→JT v u→t o i v H Q →
  wpAny (model X.prog X.w) X.A (setItem ov iv u) (fun _ s'=>∃ H',Jo X pins σ H' s'∧Q H') X.xe s
section
variable {X:Cx} {pos:Pos}
def JbF (i:Nat):TG:=fun v σ H Q=>Q (σ.set i (some v)) H
theorem JQ {i:Nat} {x:Str} (hN:X.N.Nodup) (hi:X.N[i]?=some x) (hx:Loc X.env.scope x) (hf:X.fn x=true∨X.env.scope.names.lookup x=some .local:=by first | exact .inl rfl | exact .inr rfl | assumption):PG X (.Name x pos) (JbF i):=by
 intro pins s σ H v u Q I r h;exact wpAny_assign_Name (JiO I hN hi hx r (fun s' I'=>⟨_,H,I',h⟩) hf)
def JuC:TGs:=fun vs σ H Q=>vs=[]∧Q σ H
def Jo5 (t:TG) (u:TGs):TGs:=fun vs σ H Q=>∃ v r,vs=v :: r∧t v σ H fun σ' H'=>u r σ' H' Q
theorem Jew:PGs X [] JuC:=by
 intro pins s σ H vs us Q I r h;obtain ⟨e,h⟩:=h;subst e;cases r;exact assignInOrder_nil ⟨σ,H,I,h⟩
theorem Ye {e:Expr} {es:List Expr} {t:TG} {u:TGs} (h1:PG X e t) (h2:PGs X es u)
  (hs:(assignEach (e :: es) X.env).map (·.2)=assign e X.env :: (assignEach es X.env).map (·.2):=by rfl):PGs X (e :: es) (Jo5 t u):=by
 intro pins s σ H vs us Q I r h;obtain ⟨v,vr,e1,h⟩:=h;subst e1;cases r with
 | cons r rr =>
  rw [hs];refine assignInOrder_cons (JW (h1 pins s σ H _ _ _ I r h) fun _ s1 ⟨σ1,H1,I1,q1⟩=>?_);exact h2 pins s1 σ1 H1 _ _ Q I1 rr q1
def Jo4 (K:PySem.W.Frag) (n:Nat) (t:TGs):TG:=fun v σ H Q=>∃ a xs,v=.ref a∧JL K H a xs∧xs.length=n∧t xs σ H Q
theorem Jgr {es:List Expr} {k:Nat} {t:TGs} {n:Nat} (hc:X.calm=true) (h:PGs X es t)
  (hn:(assignEach es X.env).length=n:=by rfl) (hst:(assignEach es X.env).findIdx? (·.1)=none:=by rfl):PG X (.Tuple es k pos) (Jo4 X.K n t):=by
 intro pins s σ H v u Q I r hw;obtain ⟨a,xs,e1,hq,hl,hw⟩:=hw;subst e1;cases r;obtain ⟨its,rv,ht,hz⟩:=I.tuple hq;refine assign_Tuple_tuple (I.ok.hd hc) ht (by simp [hn,← hl,rv.length]) hst fun h' hx=>?_
 have I1:Jo X pins σ H { s with heap:=h' }:=I.kept (t':=s.toks) fun b o e=>hx b o (Nat.ne_of_lt (Heap.lt_size e)) e
 exact h pins _ σ H xs _ Q I1 (by simpa using rv) hw
def JvY (to ti:TE) (t:Jsq):TG:=fun v σ H Q=>to σ H fun o H1=>ti σ H1 fun i H2=>t o i v H2 fun H3=>Q σ H3
theorem Juj {o i:Expr} {to ti:TE} {t:Jsq} (ho:PE X o to) (hi:PE X i ti) (hs:JuL X t)
  (ha:∀ v,assign (.Subscript o i pos) X.env v=(do
   let ov ← holding [v] (eval o X.env);let iv ← holding [v,ov] (eval i X.env)
   standAt pos
   holding [v,ov,iv] (setItem ov iv v)
   release [v,ov,iv] []):=by intro _; rfl):PG X (.Subscript o i pos) (JvY to ti t):=by
 intro pins s σ H v u Q I r h;rw [ha];refine wpAny_bind (wpAny_holding (JW (ho pins s σ H _ I h) fun ov s1 ⟨x,H1,I1,r1,q1⟩=>?_));refine wpAny_bind (wpAny_holding (JW (hi pins s1 σ H1 _ I1 q1) fun iv s2 ⟨y,H2,I2,r2,q2⟩=>?_));refine wpAny_bind (wpAny_standAt (wpAny_bind (wpAny_holding (JW (hs pins s2 σ H2 x y v ov iv u _ I2 r1 r2 r q2) fun _ s3 ⟨H3,I3,q3⟩=>?_))));exact wpAny_release ⟨σ,H3,I3,q3⟩
def Jq7 (te:TE) (g:TG):TS:=fun D σ H=>te σ H fun x H1=>g x σ H1 D.nx
theorem Jht {tg e:Expr} {te:TE} {g:TG} (he:PE X e te) (hg:PG X tg g) (hs:swapsWithSole [tg] e pos.line X.env=pure false:=by rfl) (hw:swappedStores [tg] e X.env=pure none:=by rfl)
  (h1:(assignEach [tg] X.env).map (·.2)=[assign tg X.env]:=by rfl):PS X (.Assign [tg] e pos) (Jq7 te g):=by
 intro pins s σ H D I h;refine wpAny_Assign_stores (JW (he pins s σ H _ I h) fun v s1 ⟨x,H1,I1,r1,q1⟩=>?_) hs hw;rw [h1];exact JW (hg pins s1 σ H1 x v _ I1 r1 q1) fun _ s2 q=>q
theorem Jr {i:Nat} {x:Str} {e:Expr} {te:TE} {pos':Pos} (hN:X.N.Nodup) (hi:X.N[i]?=some x) (hx:Loc X.env.scope x) (he:PE X e te) (hs:swapsWith e (some (.Name x pos')) pos.line X.env=pure false:=by rfl) (hf:X.fn x=true∨X.env.scope.names.lookup x=some .local:=by first | exact .inl rfl | exact .inr rfl | assumption) :
  PS X (.Assign [.Name x pos'] e pos) (Jq7 te (JbF i)):=by
 intro pins s σ H D I h;refine wpAny_Assign_Name (JW (he pins s σ H _ I h) fun v s1 ⟨y,H1,I1,r1,q1⟩=>?_) hs;exact JiO I1 hN hi hx r1 (fun s2 I2=>⟨_,H1,I2,q1⟩) hf
end
structure It where
 go:Nat→Hp→Prop
 yld:Nat→Hp→V→Hp→Prop
 stop:Nat→Hp→Prop
def JfC (X:Cx) (pins:List (Addr×Obj)) (H:Hp) (b:Addr):Prop :=
 H b=none∧b≠X.env.locals∧b∉X.fs∧(b∈X.ex∨X.s₀.heap.objs.size≤b)∧(∀ x c,X.env.cells.lookup x=some c→c≠b)∧∀ p∈X.pn ++ pins,p.1≠b
theorem Jo.fpOk {X:Cx} {pins:List (Addr×Obj)} {σ:St} {H H':Hp} {s:Shared} {b:Addr} (I:Jo X pins σ H s) (hb:s.heap.objs.size≤b) (hn:H' b=none):JfC X pins H' b:=by
 refine ⟨hn,Nat.ne_of_gt (Nat.lt_of_lt_of_le I.lt hb),I.nofs hb,.inr (Nat.le_trans I.sz hb),fun x c e z=>?_,fun p hp z=>?_⟩
 ·obtain ⟨v,q⟩:=I.cell x c e;exact absurd (Nat.lt_of_lt_of_le q.lt (by rw [z]; exact hb)) (Nat.lt_irrefl _)
 ·exact absurd (Nat.lt_of_lt_of_le (Heap.lt_size (I.pin p hp).1) (by rw [z]; exact hb)) (Nat.lt_irrefl _)
structure Jld (P:Program) (w:World) (K:PySem.W.Frag) (tg:Expr) (J:It) (fp:List Addr) (it:Addr) (tn:Nat→Heap→Prop):Prop where
 mem:it∈fp
 obj:∀ i h,tn i h→∀ b∈fp,∃ o,h.get? b=some o∧∀ v,o.data≠.cell v
 keep:∀ i h h',tn i h→(∀ b∈fp,∀ o,h.get? b=some o→h'.get? b=some o)→tn i h'
 item:∀ (X:Cx),X.prog=P→X.w=w→X.K=K→X.calm=true→∀ (i:Nat) (pins:List (Addr×Obj)) (s:Shared) (σ:St) (H:Hp) (E:Value→Shared→Prop),Jo X pins σ H s→(∀ b∈fp,JfC X pins H b)→tn i s.heap→J.go i H →
  wpAny (model P w) X.A (pyNext (.ref it)) (fun r s1=>∃ u,r=some u ∧
   wpAny (model P w) X.A (letOwnedTupleGo tg (.ref it) u) (fun _ s2=>∃ x H',Jo X pins σ H' s2∧JT x u∧J.yld i H x H'∧tn (i + 1) s2.heap∧∀ b∈fp,H' b=none) E s1) E s
 done:∀ (X:Cx),X.prog=P→X.w=w→X.K=K→X.calm=true→∀ (i:Nat) (pins:List (Addr×Obj)) (s:Shared) (σ:St) (H:Hp) (E:Value→Shared→Prop),Jo X pins σ H s→(∀ b∈fp,JfC X pins H b)→tn i s.heap→J.stop i H →
  wpAny (model P w) X.A (pyNext (.ref it)) (fun r s1=>r=none∧Jo X pins σ H s1) E s
 self:∀ (A:Around) (i:Nat) (s:Shared) (Q:Value→Shared→Prop) (E:Value→Shared→Prop),tn i s.heap→Q (.ref it) s→wpAny (model P w) A (pyIter (.ref it)) Q E s
abbrev TI:=St→Hp→(It→Hp→Prop)→Prop
def PIE (X:Cx) (pins:List (Addr×Obj)) (σ:St) (tg:Expr) (R:It→Hp→Prop) (itv:Value) (s2:Shared):Prop :=
 ∃ (it:Addr) (fp:List Addr) (tn:Nat→Heap→Prop) (J:It) (H':Hp),itv=.ref it∧Jo X pins σ H' s2∧Jld X.prog X.w X.K tg J fp it tn∧tn 0 s2.heap∧(∀ b∈fp,JfC X pins H' b)∧R J H'
def PI (X:Cx) (tg iter:Expr) (wi:TI):Prop :=
 ∀ (pins:List (Addr×Obj)) (s:Shared) (σ:St) (H:Hp) (R:It→Hp→Prop),Jo X pins σ H s→wi σ H R →
  wpAny (model X.prog X.w) X.A (eval iter X.env) (fun v s1=>wpAny (model X.prog X.w) X.A (pyIter v) (PIE X pins σ tg R) X.xe s1) X.xe s
theorem Jme {M:Model} {A:Around} {E:Value→Shared→Prop} {s:Shared} {tg:Expr} {it:Addr} {u:Value} {o:Obj} {n:String} {vs:Array Value} {Q:Unit→Shared→Prop} (ho:s.heap.get? it=some o) (hc:o.cls=.type n) (hd:o.data=.fields vs)
    (hn:["enumerate", "zip", "dict_itemiterator", "dict_reverseitemiterator", "odict_iterator", "itertools.zip_longest", "itertools.pairwise"].contains n=false) (hQ:Q () s):wpAny M A (letOwnedTupleGo tg (.ref it) u) Q E s:=by
  unfold letOwnedTupleGo;cases tg <;> first
    | exact wpAny_pure hQ
    | (cases u <;> first
        | exact wpAny_pure hQ
        | (refine wpAny_bind (wpAny_load ho ?_)
           rw [hc,hd];show wpAny M A (if (["enumerate", "zip", "dict_itemiterator", "dict_reverseitemiterator", "odict_iterator", "itertools.zip_longest", "itertools.pairwise"].contains n && vs[0]? == some (rawInt _))=true then _ else _) Q E s;rw [if_neg (by intro h; rw [hn,Bool.false_and] at h; cases h)];exact wpAny_pure hQ))
def Itl (K:PySem.W.Frag) (a:Addr):It :=
 ⟨fun i H=>∃ xs x,JC K H a xs∧xs[i]?=some x,fun i H x H'=>H'=H∧∀ xs,JC K H a xs→xs[i]?=some x,fun i H=>∃ xs,JC K H a xs∧xs.length≤i⟩
def Itt (K:PySem.W.Frag) (a:Addr):It :=
 ⟨fun i H=>∃ xs x,JL K H a xs∧xs[i]?=some x,fun i H x H'=>H'=H∧∀ xs,JL K H a xs→xs[i]?=some x,fun i H=>∃ xs,JL K H a xs∧xs.length≤i⟩
def Itr (lo:Int) (n:Nat):It:=⟨fun i _=>i < n,fun i H x H'=>H'=H∧x=.int (lo + i),fun i _=>n≤i⟩
theorem Jpw {P:Program} {w:World} {K:PySem.W.Frag} {tg:Expr} (a it:Addr):Jld P w K tg (Itl K a) [it] it (fun i h=>h.IsListIter it a i) where
 mem:=by simp
 obj:=fun i h st b hb=>by
  have e:b=it:=by simpa using hb
  subst e;obtain ⟨o,e,c,d⟩:=st;exact ⟨o,e,fun v z=>by rw [d] at z; cases z⟩
 keep:=fun i h h' st k=>st.at fun o e=>k it (by simp) o e
 item:=by
  intro X hP hw hK hc i pins s σ H E I hf st hg;subst hP hw hK;obtain ⟨xs,x,hq,hx⟩:=hg;obtain ⟨its,rv,p,hz⟩:=I.list hq;obtain ⟨u,hu,ru⟩:=rv.get hx;obtain ⟨f0,f1,f2,f3,f4,f5⟩:=hf it (by simp);refine wpAny_pyNext_list_item st p.isList (x:=u) (by simpa using hu) fun h' st' sb=>?_
  have I1:Jo X pins σ H { s with heap:=h' }:=I.turned (t':=s.toks) (fun b o hb e=>(sb.2 b hb).trans e) f0 f1 f3 f4 f5;obtain ⟨o,e,c,d⟩:=id st';exact ⟨u,rfl,Jme (s:={ s with heap:=h' }) e c d (by decide) ⟨x,H,I1,ru,⟨rfl,fun ys hy=>by rw [I.list_inj hy hq]; exact hx⟩,st',fun b hb=>(hf b hb).1⟩⟩
 done:=by
  intro X hP hw hK hc i pins s σ H E I hf st hg;subst hP hw hK;obtain ⟨xs,hq,hx⟩:=hg;obtain ⟨its,rv,p,hz⟩:=I.list hq;obtain ⟨f0,f1,f2,f3,f4,f5⟩:=hf it (by simp);have hl:=rv.length;exact wpAny_pyNext_list_end (I.ok.hd hc) st p.isList (by simp; omega) fun h' eb=>⟨rfl,I.turned (t':=s.toks) (fun b o hb e=>eb b o hb e) f0 f1 f3 f4 f5⟩
 self:=fun _ _ _ _ _ st h=>wpAny_pyIter_listiter st h
theorem Joq {P:Program} {w:World} {K:PySem.W.Frag} {tg:Expr} (a it:Addr):Jld P w K tg (Itt K a) [it] it (fun i h=>h.IsTupleIter it a i) where
 mem:=by simp
 obj:=fun i h st b hb=>by
  have e:b=it:=by simpa using hb
  subst e;obtain ⟨o,e,c,d⟩:=st;exact ⟨o,e,fun v z=>by rw [d] at z; cases z⟩
 keep:=fun i h h' st k=>st.at fun o e=>k it (by simp) o e
 item:=by
  intro X hP hw hK hc i pins s σ H E I hf st hg;subst hP hw hK;obtain ⟨xs,x,hq,hx⟩:=hg;obtain ⟨its,rv,p,hz⟩:=I.tuple hq;obtain ⟨u,hu,ru⟩:=rv.get hx;obtain ⟨f0,f1,f2,f3,f4,f5⟩:=hf it (by simp);refine wpAny_pyNext_tuple_item st (show s.heap.IsTuple a its.toArray from p) (x:=u) (by simpa using hu) fun h' st' sb=>?_
  have I1:Jo X pins σ H { s with heap:=h' }:=I.turned (t':=s.toks) (fun b o hb e=>(sb.2 b hb).trans e) f0 f1 f3 f4 f5;obtain ⟨o,e,c,d⟩:=id st';exact ⟨u,rfl,Jme (s:={ s with heap:=h' }) e c d (by decide) ⟨x,H,I1,ru,⟨rfl,fun ys hy=>by rw [I.tuple_inj hy hq]; exact hx⟩,st',fun b hb=>(hf b hb).1⟩⟩
 done:=by
  intro X hP hw hK hc i pins s σ H E I hf st hg;subst hP hw hK;obtain ⟨xs,hq,hx⟩:=hg;obtain ⟨its,rv,p,hz⟩:=I.tuple hq;obtain ⟨f0,f1,f2,f3,f4,f5⟩:=hf it (by simp);have hl:=rv.length;exact wpAny_pyNext_tuple_end (I.ok.hd hc) st (show s.heap.IsTuple a its.toArray from p) (by simp; omega) fun h' eb=>⟨rfl,I.turned (t':=s.toks) (fun b o hb e=>eb b o hb e) f0 f1 f3 f4 f5⟩
 self:=fun _ _ _ _ _ st h=>wpAny_pyIter_tupleiter st h
theorem Jor {P:Program} {w:World} {K:PySem.W.Frag} {tg:Expr} (it:Addr) (lo:Int) (n:Nat):Jld P w K tg (Itr lo n) [it] it (fun i h=>IsRangeIter h it (lo + (i:Nat) * 1) ((n:Int) - (i:Nat)) 1) where
 mem:=by simp
 obj:=fun i h st b hb=>by
  have e:b=it:=by simpa using hb
  subst e;exact ⟨_,st,fun v z=>by
   have z':Data.fields _=Data.cell v:=z;cases z'⟩
 keep:=fun i h h' st k=>k it (by simp) _ st
 item:=by
  intro X hP hw hK hc i pins s σ H E I hf st hg;subst hP hw hK;obtain ⟨f0,f1,f2,f3,f4,f5⟩:=hf it (by simp);have W:=Walks.range (prog:=X.prog) (w:=X.w) (I.ok.hd hc) it lo 1 n;refine W.item i s _ _ hg st fun v h' tk hv st' kk=>?_
  obtain ⟨t,rfl⟩:=hv;have I1:Jo X pins σ H { s with heap:=h',toks:=tk }:=I.turned (fun b o hb e=>kk b o (by simpa using hb) e) f0 f1 f3 f4 f5;refine ⟨_,rfl,Jme (s:={ s with heap:=h',toks:=tk }) (n := "range_iterator") st' rfl rfl (by decide) ⟨.int (lo + i),H,I1,⟨t,?_⟩,⟨rfl,rfl⟩,st',fun b hb=>(hf b hb).1⟩⟩;rw [Int.mul_one]
 done:=by
  intro X hP hw hK hc i pins s σ H E I hf st hg;subst hP hw hK;obtain ⟨f0,f1,f2,f3,f4,f5⟩:=hf it (by simp);exact wpAny_pyNext_range_end (I.ok.hd hc) st (by have:n≤i:=hg; omega) fun h' eb=>⟨rfl,I.turned (t':=s.toks) (fun b o hb e=>eb b o hb e) f0 f1 f3 f4 f5⟩
 self:=fun _ _ _ _ _ st h=>wpAny_pyIter_rangeiter st h
end L2
namespace L2
open PySem PySem.Spec PyProof.Rows
section
variable {X:Cx} {tg:Expr}
def Jvg (K:PySem.W.Frag) (tl:TE):TI:=fun σ H R=>tl σ H fun x H1=>∃ a,x=.ref a∧(∃ xs,JC K H1 a xs)∧R (Itl K a) H1
def JvW (K:PySem.W.Frag) (tl:TE):TI:=fun σ H R=>tl σ H fun x H1=>∃ a,x=.ref a∧(∃ xs,JL K H1 a xs)∧R (Itt K a) H1
theorem Ja0 {l:Expr} {tl:TE} (hl:PE X l tl):PI X tg l (Jvg X.K tl):=by
 intro pins s σ H R I h;refine JW (hl pins s σ H _ I h) fun v s1 ⟨x,H1,I1,r1,q1⟩=>?_
 obtain ⟨a,e,⟨xs,hq⟩,q⟩:=q1;subst e;cases r1;obtain ⟨its,rv,p,hz⟩:=I1.list hq;refine wpAny_pyIter_list p.isList ?_;refine ⟨s1.heap.objs.size,[s1.heap.objs.size],_,_,H1,rfl,I1.kept (t':=s1.toks) fun b o e=>Heap.get?_push_of_some _ e,Jpw a _,⟨_,Heap.get?_push_size _ rfl,rfl,rfl⟩,fun b hb=>?_,q⟩;have e:b=s1.heap.objs.size:=by simpa using hb
 subst e;exact I1.fpOk (Nat.le_refl _) (I1.hok.fresh (Nat.le_refl _))
theorem JeZ {l:Expr} {tl:TE} (hl:PE X l tl):PI X tg l (JvW X.K tl):=by
 intro pins s σ H R I h;refine JW (hl pins s σ H _ I h) fun v s1 ⟨x,H1,I1,r1,q1⟩=>?_
 obtain ⟨a,e,⟨xs,hq⟩,q⟩:=q1;subst e;cases r1;obtain ⟨its,rv,p,hz⟩:=I1.tuple hq;refine wpAny_pyIter_tuple (show s1.heap.IsTuple a its.toArray from p) ?_;refine ⟨s1.heap.objs.size,[s1.heap.objs.size],_,_,H1,rfl,I1.kept (t':=s1.toks) fun b o e=>Heap.get?_push_of_some _ e,Joq a _,⟨_,Heap.get?_push_size _ rfl,rfl,rfl⟩,fun b hb=>?_,q⟩;have e:b=s1.heap.objs.size:=by simpa using hb
 subst e;exact I1.fpOk (Nat.le_refl _) (I1.hok.fresh (Nat.le_refl _))
theorem JmM {pins:List (Addr×Obj)} {σ:St} {H:Hp} {s:Shared} {R:It→Hp→Prop} {E:Value→Shared→Prop} {lo hi:Int} {t u v:Tok} {tk:Nat} (I:Jo X pins σ H s) (h1:-(2 ^ 62)≤lo) (h2:lo < 2 ^ 62) (h3:-(2 ^ 62)≤hi) (h4:hi < 2 ^ 62)
  (q:R (Itr lo (hi - lo).toNat) H):wpAny (model X.prog X.w) X.A (pyIter (.ref s.heap.objs.size)) (PIE X pins σ tg R) E { s with heap:=s.heap.push { cls:=.type "range",data:=.fields #[.int lo t,.int hi u,.int 1 v] },toks:=tk }:=by
 refine wpAny_pyIter_range (IsRange.new ..) (small_one h1 h2 h3 h4) ?_;have I1:Jo X pins σ H { s with heap:=s.heap.push { cls:=.type "range",data:=.fields #[.int lo t,.int hi u,.int 1 v] },toks:=tk }:=I.kept fun b o e=>Heap.get?_push_of_some _ e
 refine ⟨(s.heap.push { cls:=.type "range",data:=.fields #[.int lo t,.int hi u,.int 1 v] }).objs.size,[(s.heap.push { cls:=.type "range",data:=.fields #[.int lo t,.int hi u,.int 1 v] }).objs.size],_,_,H,rfl,
  I1.kept (t':=tk) fun b o e=>Heap.get?_push_of_some _ e,Jor _ lo (hi - lo).toNat,?_,fun b hb=>?_,q⟩
 ·have e1:lo + ((0:Nat):Int) * 1=lo:=by simp
  have e2:(((hi - lo).toNat:Nat):Int) - ((0:Nat):Int)=Builtin.Range.rangeSize lo hi 1:=by rw [rangeSize_one]; split <;> omega
  show IsRangeIter _ _ (lo + ((0:Nat):Int) * 1) ((((hi - lo).toNat:Nat):Int) - ((0:Nat):Int)) 1;rw [e1,e2];exact Heap.get?_push_size _ rfl
 ·have e:b=(s.heap.push { cls:=.type "range",data:=.fields #[.int lo t,.int hi u,.int 1 v] }).objs.size:=by simpa using hb
  subst e;exact I1.fpOk (Nat.le_refl _) (I1.hok.fresh (Nat.le_refl _))
def Jvf (ta:TA):TI:=fun σ H R=>ta σ H fun vs H1=>∃ j:Int,vs=[.int j]∧-(2 ^ 62)≤j∧j < 2 ^ 62∧R (Itr 0 j.toNat) H1
def Jve (ta:TA):TI:=fun σ H R=>ta σ H fun vs H1=>∃ i j:Int,vs=[.int i,.int j]∧(-(2 ^ 62)≤i∧i < 2 ^ 62∧-(2 ^ 62)≤j∧j < 2 ^ 62)∧R (Itr i (j - i).toNat) H1
theorem ZL {a:Expr} {ta:TA} {p pos:Pos} (hg:Gl X "range") (hm:X.mg "range" = none) (ha:PA X [a] ta) (hs:starEach [a] X.env=[(false,eval a X.env)]:=by rfl):PI X tg (.Call (.Name "range" p) [a] [] pos) (Jvf ta):=by
 intro pins s σ H R I h;refine Call_ (JhK I hg hm boot_range (PyProof.Rows.callWith_type1 (JW (ha pos pins s σ H _ I h) fun us s1 ⟨vs,H1,I1,r1,q1⟩=>?_) hs rfl));obtain ⟨j,e,q1,q2,q⟩:=q1;subst e;cases r1 with
 | cons r rr =>
  cases rr;obtain ⟨t,rfl⟩:=r;exact call_range_1 (JmM I1 (by omega) (by omega) q1 q2 (by simpa using q))
theorem JpY {a b:Expr} {ta:TA} {p pos:Pos} (hg:Gl X "range") (hm:X.mg "range" = none) (ha:PA X [a,b] ta) (hs:starEach [a,b] X.env=[(false,eval a X.env),(false,eval b X.env)]:=by rfl) (hs2:starEach [b] X.env=[(false,eval b X.env)]:=by rfl) :
  PI X tg (.Call (.Name "range" p) [a,b] [] pos) (Jve ta):=by
 intro pins s σ H R I h;refine Call_ (JhK I hg hm boot_range (PyProof.Rows.callWith_type1 (JW (ha pos pins s σ H _ I h) fun us s1 ⟨vs,H1,I1,r1,q1⟩=>?_) (by rw [hs,hs2]) (by rw [hs2]; rfl)));obtain ⟨i,j,e,⟨q1,q2,q3,q4⟩,q⟩:=q1;subst e;cases r1 with
 | cons r rr =>
  cases rr with
  | cons r' rr =>
   cases rr;obtain ⟨t,rfl⟩:=r;obtain ⟨t',rfl⟩:=r';exact call_range_2 (JmM I1 q1 q2 q3 q4 q)
def JvJ (wi:TI) (g:TG) (tb:TS):TS:=fun D σ H=>@Jh8.rec (fun _=>Prop) (fun dn dr _ _=>wi σ H fun J H1=>∃ W:Nat→Nat→St→Hp→Prop,(∃ m,W 0 m σ H1)∧∀ i m σ H,W i m σ H →
 (J.stop i H∧dn σ H)∨(J.go i H∧∃ N:St→Hp→Prop,(∀ σ' H',N σ' H'→∃ m',m' < m∧W (i + 1) m' σ' H')∧∀ x H',J.yld i H x H'→g x σ H' fun σ2 H2=>tb ⟨N,dr,dn,N⟩ σ2 H2)) D
def Jhu (fp:List Addr) (h:Heap):List (Addr×Obj):=fp.filterMap fun b=>(h.get? b).map fun o=>(b,o)
theorem Jeq {fp:List Addr} {h:Heap} {b:Addr} {o:Obj} (hb:b∈fp) (e:h.get? b=some o):(b,o)∈Jhu fp h:=List.mem_filterMap.mpr ⟨b,hb,by rw [e]; rfl⟩
theorem Jp6 {fp:List Addr} {h:Heap} {p:Addr×Obj} (hp:p∈Jhu fp h):p.1∈fp∧h.get? p.1=some p.2:=by
 obtain ⟨b,hb,e⟩:=List.mem_filterMap.mp hp;cases q:h.get? b with
 | none=>rw [q] at e; cases e
 | some o =>
  rw [q] at e;have e':(b,o)=p:=Option.some.inj e;subst e';exact ⟨hb,q⟩
theorem Jo.pinned {pins:List (Addr×Obj)} {σ:St} {H:Hp} {s:Shared} {fp:List Addr} (I:Jo X pins σ H s) (hf:∀ b∈fp,JfC X pins H b) (ho:∀ b∈fp,∃ o,s.heap.get? b=some o∧∀ v,o.data≠.cell v):Jo X (pins ++ Jhu fp s.heap) σ H s :=
 I.pins_of fun p hp=>(List.mem_append.mp hp).elim (fun z=>I.pin p (List.mem_append_right _ z)) fun z=>by
  obtain ⟨hb,e⟩:=Jp6 z;obtain ⟨f0,f1,f2,_⟩:=hf p.1 hb;obtain ⟨o,e',d⟩:=ho p.1 hb;rw [e] at e'; cases e';exact ⟨e,f0,f1,f2,d⟩
theorem Jo.unpinned {pins pl:List (Addr×Obj)} {σ:St} {H:Hp} {s:Shared} (I:Jo X (pins ++ pl) σ H s):Jo X pins σ H s:=I.pins_of fun p hp=>I.pin p (List.mem_append_right _ (List.mem_append_left _ hp))
theorem Zn {iter:Expr} {body:List Stmt} {wi:TI} {g:TG} {tb:TS} {pos:Pos} (hp:PassesOwn (model X.prog X.w) X.A X.env X.xe) (hc:X.calm=true) (hi:PI X tg iter wi) (hg:PG X tg g) (hb:PSs X body tb)
  (hs:∀ x,foldedSetIterable iter X.env x=pure x:=by intro _; rfl):PS X (.For tg iter body [] pos) (JvJ wi g tb):=by
 intro pins s σ H D I h;refine wpAny_For (JW (hi pins s σ H _ I h) fun v s1 h1=>JW h1 fun itv s2 h2=>?_) hs;obtain ⟨it,fp,tn,J,H2,e,I2,T,st2,f2,W,⟨m0,w0⟩,turn⟩:=h2;subst e;have stat:∀ {H':Hp},(∀ b∈fp,H' b=none)→∀ b∈fp,JfC X pins H' b:=fun hn b hb=>⟨hn b hb,(f2 b hb).2⟩
 refine codeAny_forLoop_any (fun n s'=>∃ i σ' H',Jo X pins σ' H' s'∧tn i s'.heap∧(∀ b∈fp,H' b=none)∧W i n σ' H') ?_ m0 ⟨0,σ,H2,I2,st2,fun b hb=>(f2 b hb).1,w0⟩;rintro n s3 ⟨i,σ3,H3,I3,st3,fr3,w3⟩;rcases turn i n σ3 H3 w3 with ⟨stop,qn⟩ | ⟨go,N,hN,step⟩
 ·refine wpAny_passesOwn hp (JW (T.done X rfl rfl rfl hc i pins s3 σ3 H3 X.xe I3 (stat fr3) st3 stop) fun r s4 ⟨hr,I4⟩=>?_);subst hr;exact wpAny_execs_nil ⟨σ3,H3,I4,qn⟩
 ·refine wpAny_passesOwn hp (JW (T.item X rfl rfl rfl hc i pins s3 σ3 H3 X.xe I3 (stat fr3) st3 go) fun r s4 ⟨u,hr,h4⟩=>?_);subst hr;refine wpAny_passesOwn hp (JW h4 fun _ s5 ⟨x,H5,I5,r5,y5,st5,fr5⟩=>?_);have I5':=I5.pinned (stat fr5) (T.obj _ _ st5);refine wpAny_passesOwn hp (JW (hg _ s5 σ3 H5 x u _ I5' r5 (step x H5 y5)) fun _ s6 ⟨σ6,H6,I6,q6⟩=>?_);refine wpAny_passesOwn hp (JW (hb _ s6 σ6 H6 _ I6 q6) fun f s7 q7=>?_);have again:∀ {σ7:St} {H7:Hp},Jo X (pins ++ Jhu fp s5.heap) σ7 H7 s7→N σ7 H7→∃ m,m < n∧∃ i σ' H',Jo X pins σ' H' s7∧tn i s7.heap∧(∀ b∈fp,H' b=none)∧W i m σ' H':=fun {σ7 H7} I7 n7=>by
   obtain ⟨m',hm,w7⟩:=hN σ7 H7 n7;refine ⟨m',hm,i + 1,σ7,H7,I7.unpinned,T.keep _ _ _ st5 fun b hb o e=>(I7.pin (b,o) (List.mem_append_right _ (List.mem_append_right _ (Jeq hb e)))).1,fun b hb=>?_,w7⟩;obtain ⟨o,e,d⟩:=T.obj _ _ st5 b hb;exact (I7.pin (b,o) (List.mem_append_right _ (List.mem_append_right _ (Jeq hb e)))).2.1
  cases f with
  | next=>obtain ⟨σ7,H7,I7,n7⟩:=q7; exact again I7 n7
  | cont=>obtain ⟨σ7,H7,I7,n7⟩:=q7; exact again I7 n7
  | brk=>obtain ⟨σ7,H7,I7,q7⟩:=q7; exact ⟨σ7,H7,I7.unpinned,q7⟩
  | ret v=>obtain ⟨x7,σ7,H7,I7,r7,q7⟩:=q7; exact ⟨x7,σ7,H7,I7.unpinned,r7,q7⟩
end
theorem JcY {K:PySem.W.Frag} {a:Addr} {xs:List V} {g:TG} {tb:TS} {dn:St→Hp→Prop} {dr:VK} {σ:St} {H:Hp} (Pv:Nat→St→Hp→Prop) (h0:Pv 0 σ H) (hl:∀ i σ H,i≤xs.length→Pv i σ H→JC K H a xs)
  (hs:∀ i x σ H,xs[i]?=some x→Pv i σ H→g x σ H fun σ2 H2=>tb ⟨Pv (i + 1),dr,dn,Pv (i + 1)⟩ σ2 H2) (hd:∀ σ H,Pv xs.length σ H→dn σ H) :
  ∃ W:Nat→Nat→St→Hp→Prop,(∃ m,W 0 m σ H)∧∀ i m σ H,W i m σ H →
   ((Itl K a).stop i H∧dn σ H)∨((Itl K a).go i H∧∃ N:St→Hp→Prop,(∀ σ' H',N σ' H'→∃ m',m' < m∧W (i + 1) m' σ' H')∧∀ x H',(Itl K a).yld i H x H'→g x σ H' fun σ2 H2=>tb ⟨N,dr,dn,N⟩ σ2 H2):=by
 refine ⟨fun i m σ H=>m=xs.length - i∧i≤xs.length∧Pv i σ H,⟨xs.length,by simp,Nat.zero_le _,h0⟩,?_⟩;rintro i m σ H ⟨rfl,hi,p⟩;have q:=hl i σ H hi p;by_cases hlt:i < xs.length
 ·refine .inr ⟨⟨xs,xs[i],q,by simp [hlt]⟩,Pv (i + 1),fun σ' H' p'=>⟨xs.length - (i + 1),by omega,rfl,hlt,p'⟩,fun x H' y=>?_⟩;obtain ⟨e,y⟩:=y;subst e;exact hs i x σ _ (y xs q) p
 ·have e:i=xs.length:=by omega
  subst e;exact .inl ⟨⟨xs,q,Nat.le_refl _⟩,hd σ H p⟩
theorem Jip {K:PySem.W.Frag} {a:Addr} {xs:List V} {g:TG} {tb:TS} {dn:St→Hp→Prop} {dr:VK} {σ:St} {H:Hp} (Pv:Nat→St→Hp→Prop) (h0:Pv 0 σ H) (hl:∀ i σ H,i≤xs.length→Pv i σ H→JL K H a xs)
  (hs:∀ i x σ H,xs[i]?=some x→Pv i σ H→g x σ H fun σ2 H2=>tb ⟨Pv (i + 1),dr,dn,Pv (i + 1)⟩ σ2 H2) (hd:∀ σ H,Pv xs.length σ H→dn σ H) :
  ∃ W:Nat→Nat→St→Hp→Prop,(∃ m,W 0 m σ H)∧∀ i m σ H,W i m σ H →
   ((Itt K a).stop i H∧dn σ H)∨((Itt K a).go i H∧∃ N:St→Hp→Prop,(∀ σ' H',N σ' H'→∃ m',m' < m∧W (i + 1) m' σ' H')∧∀ x H',(Itt K a).yld i H x H'→g x σ H' fun σ2 H2=>tb ⟨N,dr,dn,N⟩ σ2 H2):=by
 refine ⟨fun i m σ H=>m=xs.length - i∧i≤xs.length∧Pv i σ H,⟨xs.length,by simp,Nat.zero_le _,h0⟩,?_⟩;rintro i m σ H ⟨rfl,hi,p⟩;have q:=hl i σ H hi p;by_cases hlt:i < xs.length
 ·refine .inr ⟨⟨xs,xs[i],q,by simp [hlt]⟩,Pv (i + 1),fun σ' H' p'=>⟨xs.length - (i + 1),by omega,rfl,hlt,p'⟩,fun x H' y=>?_⟩;obtain ⟨e,y⟩:=y;subst e;exact hs i x σ _ (y xs q) p
 ·have e:i=xs.length:=by omega
  subst e;exact .inl ⟨⟨xs,q,Nat.le_refl _⟩,hd σ H p⟩
theorem ZY {lo:Int} {n:Nat} {g:TG} {tb:TS} {dn:St→Hp→Prop} {dr:VK} {σ:St} {H:Hp} (Pv:Nat→St→Hp→Prop) (h0:Pv 0 σ H)
  (hs:∀ i σ H,i < n→Pv i σ H→g (.int (lo + i)) σ H fun σ2 H2=>tb ⟨Pv (i + 1),dr,dn,Pv (i + 1)⟩ σ2 H2) (hd:∀ σ H,Pv n σ H→dn σ H) :
  ∃ W:Nat→Nat→St→Hp→Prop,(∃ m,W 0 m σ H)∧∀ i m σ H,W i m σ H →
   ((Itr lo n).stop i H∧dn σ H)∨((Itr lo n).go i H∧∃ N:St→Hp→Prop,(∀ σ' H',N σ' H'→∃ m',m' < m∧W (i + 1) m' σ' H')∧∀ x H',(Itr lo n).yld i H x H'→g x σ H' fun σ2 H2=>tb ⟨N,dr,dn,N⟩ σ2 H2):=by
 refine ⟨fun i m σ H=>m=n - i∧i≤n∧Pv i σ H,⟨n,by simp,Nat.zero_le _,h0⟩,?_⟩;rintro i m σ H ⟨rfl,hi,p⟩;by_cases hlt:i < n
 ·refine .inr ⟨hlt,Pv (i + 1),fun σ' H' p'=>⟨n - (i + 1),by omega,rfl,hlt,p'⟩,fun x H' y=>?_⟩;obtain ⟨e,y⟩:=y;subst e y;exact hs i σ _ hlt p
 ·have e:i=n:=by omega
  subst e;exact .inl ⟨Nat.le_refl _,hd σ H p⟩
end L2
namespace L2
open PySem PySem.Spec PyProof.Rows
abbrev R2:=V→V→Hp→VK→Prop
def ZV (X:Cx) (f:Value→Value→Sem Value) (r:R2):Prop :=
 ∀ (pins:List (Addr×Obj)) (s:Shared) (σ:St) (H:Hp) (x y:V) (v u:Value) (Q:VK),Jo X pins σ H s→JT x v→JT y u→r x y H Q →
  wpAny (model X.prog X.w) X.A (f v u) (EP X pins σ Q) X.xe s
def UnR (X:Cx) (f:Value→Sem Value) (r:V→Hp→VK→Prop):Prop :=
 ∀ (pins:List (Addr×Obj)) (s:Shared) (σ:St) (H:Hp) (x:V) (v:Value) (Q:VK),Jo X pins σ H s→JT x v→r x H Q →
  wpAny (model X.prog X.w) X.A (f v) (EP X pins σ Q) X.xe s
def Yx (X:Cx) (f:Value) (r:List V→Hp→VK→Prop):Prop :=
 ∀ (pins:List (Addr×Obj)) (s:Shared) (σ:St) (H:Hp) (xs:List V) (us:List Value) (Q:VK),Jo X pins σ H s→JI xs us→r xs H Q →
  wpAny (model X.prog X.w) X.A (call f us) (EP X pins σ Q) X.xe s
def tOp (r:R2) (ta tb:TE):TE:=fun σ H Q=>ta σ H fun x H1=>tb σ H1 fun y H2=>r x y H2 Q
def tUn (r:V→Hp→VK→Prop) (ta:TE):TE:=fun σ H Q=>ta σ H fun x H1=>r x H1 Q
def rI (C:Int→Int→Prop) (g:Int→Int→V):R2:=fun x y H Q=>∃ i j,x=.int i∧y=.int j∧C i j∧Q (g i j) H
def rI0 (g:Int→Int→V):R2:=fun x y H Q=>∃ i j,x=.int i∧y=.int j∧Q (g i j) H
def rU (g:Int→V):V→Hp→VK→Prop:=fun x H Q=>∃ i,x=.int i∧Q (g i) H
section
variable {X:Cx} {a b c:Expr} {ta tb tc:TE} {pos:Pos}
theorem Jsm (ha:PE X a ta) (hb:PE X b tb) {pins:List (Addr×Obj)} {s:Shared} {σ:St} {H:Hp} {R:V→V→Hp→Prop} (I:Jo X pins σ H s)
  (h:ta σ H fun x H1=>tb σ H1 fun y H2=>R x y H2) {Q:Value→Shared→Prop} {f:Value→Value→Sem Value}
  (hf:∀ v u s2 x y H2,Jo X pins σ H2 s2→JT x v→JT y u→R x y H2→wpAny (model X.prog X.w) X.A (f v u) Q X.xe s2) :
  wpAny (model X.prog X.w) X.A (eval a X.env) (fun v s₁=>wpAny (model X.prog X.w) X.A (eval b X.env) (fun u s₂=>wpAny (model X.prog X.w) X.A (f v u) Q X.xe s₂) X.xe s₁) X.xe s:=by
 refine JW (ha pins s σ H _ I h) fun v s1 ⟨x,H1,I1,r1,q1⟩=>?_
 refine JW (hb pins s1 σ H1 _ I1 q1) fun u s2 ⟨y,H2,I2,r2,q2⟩=>?_
 exact hf v u s2 x y H2 I2 r1 r2 q2
theorem Jm {op:Operator} {r:R2} (ho:ZV X (binaryOp op) r) (ha:PE X a ta) (hb:PE X b tb):PE X (.BinOp a op b pos) (tOp r ta tb):=by
 intro pins s σ H Q I h;exact wpAny_BinOp (Jsm ha hb I h fun v u s2 x y H2 I2 rx ry q=>ho pins s2 σ H2 x y v u Q I2 rx ry q)
theorem Jcx {op:UnaryOp} {r:V→Hp→VK→Prop} (ho:UnR X (unaryOp op) r) (ha:PE X a ta):PE X (.UnaryOp op a pos) (tUn r ta):=by
 intro pins s σ H Q I h;exact UnaryOp_ (JW (ha pins s σ H _ I h) fun v s1 ⟨x,H1,I1,r1,q1⟩=>ho pins s1 σ H1 x v Q I1 r1 q1)
theorem opI {f:Value→Value→Sem Value} {C:Int→Int→Prop} {g:Int→Int→Int}
  (rule:∀ (i j:Int) (t u:Tok) (s:Shared) (Q:Value→Shared→Prop) (E:Value→Shared→Prop),C i j→Q (.int (g i j) s.toks) { s with toks:=s.toks + 1 }→wpAny (model X.prog X.w) X.A (f (.int i t) (.int j u)) Q E s) :
  ZV X f (rI C fun i j=>.int (g i j)):=by
 intro pins s σ H x y v u Q I rx ry h;obtain ⟨i,j,rfl,rfl,hc,q⟩:=h;obtain ⟨t,rfl⟩:=rx;obtain ⟨t',rfl⟩:=ry;exact rule i j t t' s _ _ hc ⟨.int (g i j),H,I.tok _,⟨_,rfl⟩,q⟩
theorem Jup {f:Value→Value→Sem Value} {g:Int→Int→Int}
  (rule:∀ (i j:Int) (t u:Tok) (s:Shared) (Q:Value→Shared→Prop) (E:Value→Shared→Prop),Q (.int (g i j) s.toks) { s with toks:=s.toks + 1 }→wpAny (model X.prog X.w) X.A (f (.int i t) (.int j u)) Q E s) :
  ZV X f (rI0 fun i j=>.int (g i j)):=by
 intro pins s σ H x y v u Q I rx ry h;obtain ⟨i,j,rfl,rfl,q⟩:=h;obtain ⟨t,rfl⟩:=rx;obtain ⟨t',rfl⟩:=ry;exact rule i j t t' s _ _ ⟨.int (g i j),H,I.tok _,⟨_,rfl⟩,q⟩
theorem JoU {f:Value→Value→Sem Value} {g:Int→Int→Bool}
  (rule:∀ (i j:Int) (t u:Tok) (s:Shared) (Q:Value→Shared→Prop) (E:Value→Shared→Prop),Q (.bool (g i j)) s→wpAny (model X.prog X.w) X.A (f (.int i t) (.int j u)) Q E s) :
  ZV X f (rI0 fun i j=>.bl (g i j)):=by
 intro pins s σ H x y v u Q I rx ry h;obtain ⟨i,j,rfl,rfl,q⟩:=h;obtain ⟨t,rfl⟩:=rx;obtain ⟨t',rfl⟩:=ry;exact rule i j t t' s _ _ ⟨.bl (g i j),H,I,rfl,q⟩
def Jv1 (i j:Int):Prop:=0 < j∧j < 1073741824
def Jss (i j:Int):Prop:=(-(2 ^ 64) < i∧i < 2 ^ 64)∨(-(2 ^ 64) < j∧j < 2 ^ 64)
theorem Jss.ok {i j:Int} (h:Jss i j):IntMulOk i j:=by
 rcases h with ⟨h1,h2⟩ | ⟨h1,h2⟩
 ·exact .of_left (intBits_le_64 h1 h2)
 ·exact .of_right (intBits_le_64 h1 h2)
theorem J3:ZV X (binaryOp .Add) (rI0 fun i j=>.int (i + j)):=Jup fun _ _ _ _ _ _ _ q=>add_int q
theorem Zg:ZV X (binaryOp .Sub) (rI0 fun i j=>.int (i - j)):=Jup fun _ _ _ _ _ _ _ q=>sub_int q
theorem JaU:ZV X (binaryOp .Mult) (rI Jss fun i j=>.int (i * j)):=opI fun _ _ _ _ _ _ _ hc q=>mul_int q hc.ok
theorem YU:ZV X (binaryOp .FloorDiv) (rI Jv1 fun i j=>.int (i / j)):=opI fun i j _ _ _ _ _ hc q=>by
 have h1:(0:Int) < j:=hc.1;have h2:j < 1073741824:=hc.2;exact floordiv_int (by omega) (by rw [Int.fdiv_eq_ediv_of_nonneg i (by omega)]; exact q) (.inl (PyProof.noPylong_small (by omega)))
theorem JV:ZV X (binaryOp .Mod) (rI (fun _ j=>0 < j) fun i j=>.int (i % j)):=opI fun i j _ _ _ _ _ hc q=>by
 have h1:(0:Int) < j:=hc;exact mod_int' (by omega) (by rw [Int.fmod_eq_emod_of_nonneg i (by omega)]; exact q)
theorem unI {f:Value→Sem Value} {g:Int→Int}
  (rule:∀ (i:Int) (t:Tok) (s:Shared) (Q:Value→Shared→Prop) (E:Value→Shared→Prop),Q (.int (g i) s.toks) { s with toks:=s.toks + 1 }→wpAny (model X.prog X.w) X.A (f (.int i t)) Q E s) :
  UnR X f (rU fun i=>.int (g i)):=by
 intro pins s σ H x v Q I rx h;obtain ⟨i,rfl,q⟩:=h;obtain ⟨t,rfl⟩:=rx;exact rule i t s _ _ ⟨.int (g i),H,I.tok _,⟨_,rfl⟩,q⟩
theorem Jbk:UnR X (unaryOp .USub) (rU fun i=>.int (-i)):=unI fun _ _ _ _ _ q=>neg_int q
end
def Jt3:V→V→Bool
 | .non,.non=>true | .non,.int _=>true | .int _,.non=>true | .non,.bl _=>true | .bl _,.non=>true | .non,.str _=>true | .str _,.non=>true
 | .int _,.int _=>true | .bl _,.bl _=>true | .str _,.str _=>true | .byt _,.byt _=>true
 | .int _,.str _=>true | .str _,.int _=>true | .bl _,.str _=>true | .str _,.bl _=>true
 | _,_=>false
def rEq:R2:=fun x y H Q=>Jt3 x y=true∧Q (.bl (decide (x=y))) H
def rNe:R2:=fun x y H Q=>Jt3 x y=true∧Q (.bl (!decide (x=y))) H
theorem Jof {i j:Int}:decide (V.int i=V.int j)=(i == j):=by
 rw [Bool.eq_iff_iff];simp
theorem JqJ {i j:Bool}:decide (V.bl i=V.bl j)=(i == j):=by
 rw [Bool.eq_iff_iff];simp
theorem Joe {i j:Str}:decide (V.str i=V.str j)=(i == j):=by
 rw [Bool.eq_iff_iff];simp
theorem Jog {i j:Array UInt8}:decide (V.byt i=V.byt j)=(i.toList == j.toList):=by
 rw [Bool.eq_iff_iff];cases i;cases j;simp
section
variable {X:Cx} {a b c:Expr} {ta tb tc:TE} {pos:Pos}
theorem Yy {pins:List (Addr×Obj)} {σ:St} {H:Hp} {s:Shared} {Q:VK} {k k':Bool} (I:Jo X pins σ H s) (q:Q (.bl k) H) (e:k=k'):EP X pins σ Q (.bool k') s:=by
 subst e;exact ⟨.bl k,H,I,rfl,q⟩
theorem Yg:ZV X (compareOp .Eq) rEq:=by
 intro pins s σ H x y v u Q I rx ry h;obtain ⟨hs,q⟩:=h;cases x with
 | non =>
  cases rx;cases y with
  | non=>cases ry; exact PySem.EqNone.eq_none_none (Yy I q (by simp))
  | bl j=>cases ry; exact PySem.EqNone.eq_none_bool (Yy I q (by simp))
  | int j=>obtain ⟨t',rfl⟩:=ry; exact PySem.EqNone.eq_none_int (Yy I q (by simp))
  | str j=>obtain ⟨t',rfl⟩:=ry; exact PySem.EqNone.eq_none_str (Yy I q (by simp))
  | _=>exact absurd (show false=true from hs) Bool.false_ne_true
 | bl i =>
  cases rx;cases y with
  | non=>cases ry; exact PySem.EqNone.eq_bool_none (Yy I q (by simp))
  | bl j=>cases ry; exact eq_bool (Yy I q JqJ)
  | str j=>obtain ⟨t',rfl⟩:=ry; exact PySem.EqMixed.eq_bool_str (Yy I q (by simp))
  | _=>exact absurd (show false=true from hs) Bool.false_ne_true
 | int i =>
  obtain ⟨t,rfl⟩:=rx;cases y with
  | non=>cases ry; exact PySem.EqNone.eq_int_none (Yy I q (by simp))
  | int j=>obtain ⟨t',rfl⟩:=ry; exact eq_int (Yy I q Jof)
  | str j=>obtain ⟨t',rfl⟩:=ry; exact PySem.EqMixed.eq_int_str (Yy I q (by simp))
  | _=>exact absurd (show false=true from hs) Bool.false_ne_true
 | str i =>
  obtain ⟨t,rfl⟩:=rx;cases y with
  | non=>cases ry; exact PySem.EqNone.eq_str_none (Yy I q (by simp))
  | bl j=>cases ry; exact PySem.EqMixed.eq_str_bool (Yy I q (by simp))
  | int j=>obtain ⟨t',rfl⟩:=ry; exact PySem.EqMixed.eq_str_int (Yy I q (by simp))
  | str j=>obtain ⟨t',rfl⟩:=ry; exact eq_str (Yy I q Joe)
  | _=>exact absurd (show false=true from hs) Bool.false_ne_true
 | byt i =>
  obtain ⟨t,rfl⟩:=rx;cases y with
  | byt j=>obtain ⟨t',rfl⟩:=ry; exact PySem.W.eq_bytes (Yy I q Jog)
  | _=>exact absurd (show false=true from hs) Bool.false_ne_true
 | _=>cases y <;> exact absurd (show false=true from hs) Bool.false_ne_true
theorem Jil:ZV X (compareOp .NotEq) rNe:=by
 intro pins s σ H x y v u Q I rx ry h;obtain ⟨hs,q⟩:=h;cases x with
 | non =>
  cases rx;cases y with
  | non=>cases ry; exact PySem.EqNone.ne_none_none (Yy I q (by simp))
  | bl j=>cases ry; exact PySem.EqNone.ne_none_bool (Yy I q (by simp))
  | int j=>obtain ⟨t',rfl⟩:=ry; exact PySem.EqNone.ne_none_int (Yy I q (by simp))
  | str j=>obtain ⟨t',rfl⟩:=ry; exact PySem.EqNone.ne_none_str (Yy I q (by simp))
  | _=>exact absurd (show false=true from hs) Bool.false_ne_true
 | bl i =>
  cases rx;cases y with
  | non=>cases ry; exact PySem.EqNone.ne_bool_none (Yy I q (by simp))
  | bl j=>cases ry; exact ne_bool (Yy I q (congrArg not JqJ))
  | str j=>obtain ⟨t',rfl⟩:=ry; exact PySem.EqMixed.ne_bool_str (Yy I q (by simp))
  | _=>exact absurd (show false=true from hs) Bool.false_ne_true
 | int i =>
  obtain ⟨t,rfl⟩:=rx;cases y with
  | non=>cases ry; exact PySem.EqNone.ne_int_none (Yy I q (by simp))
  | int j=>obtain ⟨t',rfl⟩:=ry; exact ne_int (Yy I q (congrArg not Jof))
  | str j=>obtain ⟨t',rfl⟩:=ry; exact PySem.EqMixed.ne_int_str (Yy I q (by simp))
  | _=>exact absurd (show false=true from hs) Bool.false_ne_true
 | str i =>
  obtain ⟨t,rfl⟩:=rx;cases y with
  | non=>cases ry; exact PySem.EqNone.ne_str_none (Yy I q (by simp))
  | bl j=>cases ry; exact PySem.EqMixed.ne_str_bool (Yy I q (by simp))
  | int j=>obtain ⟨t',rfl⟩:=ry; exact PySem.EqMixed.ne_str_int (Yy I q (by simp))
  | str j=>obtain ⟨t',rfl⟩:=ry; exact ne_str (Yy I q (congrArg not Joe))
  | _=>exact absurd (show false=true from hs) Bool.false_ne_true
 | byt i =>
  obtain ⟨t,rfl⟩:=rx;cases y with
  | byt j=>obtain ⟨t',rfl⟩:=ry; exact PySem.W.ne_bytes (Yy I q (congrArg not Jog))
  | _=>exact absurd (show false=true from hs) Bool.false_ne_true
 | _=>cases y <;> exact absurd (show false=true from hs) Bool.false_ne_true
theorem Jen:ZV X (compareOp .Lt) (rI0 fun i j=>.bl (decide (i < j))):=JoU fun _ _ _ _ _ _ _ q=>lt_int q
theorem Jvb:ZV X (compareOp .LtE) (rI0 fun i j=>.bl (decide (i≤j))):=JoU fun _ _ _ _ _ _ _ q=>le_int q
theorem Jeo:ZV X (compareOp .Gt) (rI0 fun i j=>.bl (decide (j < i))):=JoU fun _ _ _ _ _ _ _ q=>gt_int q
theorem Jvc:ZV X (compareOp .GtE) (rI0 fun i j=>.bl (decide (j≤i))):=JoU fun _ _ _ _ _ _ _ q=>ge_int q
theorem ZV.or {f:Value→Value→Sem Value} {r r':R2} (h:ZV X f r) (h':ZV X f r'):ZV X f (fun x y H Q=>r x y H Q∨r' x y H Q):=by
 intro pins s σ H x y v u Q I rx ry q;rcases q with q | q
 ·exact h pins s σ H x y v u Q I rx ry q
 ·exact h' pins s σ H x y v u Q I rx ry q
theorem JE (b:Expr) {op:CmpOp} (h:op≠.In:=by decide) (h2:op≠.NotIn:=by decide):behindInMarks op b=false:=by
 have e1:(op == CmpOp.In)=false:=by cases op <;> first | rfl | exact absurd rfl h
 have e2:(op == CmpOp.NotIn)=false:=by cases op <;> first | rfl | exact absurd rfl h2
 cases b <;> simp [behindInMarks,e1,e2]
theorem JkI {op:CmpOp} {r:R2} (ho:ZV X (compareOp op) r) (ha:PE X a ta) (hb:PE X b tb) (hm:behindInMarks op b=false):PE X (.Compare a [op] [b] pos) (tOp r ta tb):=by
 intro pins s σ H Q I h;exact wpAny_Compare1 (Jsm ha hb I h fun v u s2 x y H2 I2 rx ry q=>ho pins s2 σ H2 x y v u Q I2 rx ry q) hm
def JuR (t:TE):TT:=fun σ H Q=>t σ H fun x H'=>∃ k,x=.bl k∧Q k H'
theorem Js {op:CmpOp} {r:R2} (ho:ZV X (compareOp op) r) (ha:PE X a ta) (hb:PE X b tb) (hm:behindInMarks op b=false):PT X (.Compare a [op] [b] pos) (JuR (tOp r ta tb)):=by
 intro pins s σ H Q I h;refine wpAny_isTrue_Compare1 (JW (ha pins s σ H _ I h) fun v s1 ⟨x,H1,I1,r1,q1⟩=>JW (hb pins s1 σ H1 _ I1 q1) fun u s2 ⟨y,H2,I2,r2,q2⟩ =>
  JW (ho pins s2 σ H2 x y v u _ I2 r1 r2 q2) fun c s3 ⟨z,H3,I3,r3,k,e,q3⟩=>?_) hm
 subst e;cases r3;exact wpAny_truthy_bool ⟨H3,I3,q3⟩
def JtT (r r':R2) (ta tb tc:TE):TE:=fun σ H Q=>ta σ H fun x H1=>tb σ H1 fun y H2=>r x y H2 fun z H3=>∃ k,z=.bl k ∧
 (if k=true then tc σ H3 fun w' H4=>r' y w' H4 Q else Q (.bl false) H3)
theorem JrO {op op':CmpOp} {r r':R2} (ho:ZV X (compareOp op) r) (ho':ZV X (compareOp op') r') (ha:PE X a ta) (hb:PE X b tb) (hc:PE X c tc)
  (hm:lastMarks [op,op'] [b,c]=false:=by with_unfolding_all rfl):PE X (.Compare a [op,op'] [b,c] pos) (JtT r r' ta tb tc):=by
 intro pins s σ H Q I h;refine Compare_chain (JW (ha pins s σ H _ I h) fun v s1 ⟨x,H1,I1,r1,q1⟩=>chain_link (JW (hb pins s1 σ H1 _ I1 q1) fun u s2 ⟨y,H2,I2,r2,q2⟩ =>
  JW (ho pins s2 σ H2 x y v u _ I2 r1 r2 q2) fun d s3 ⟨z,H3,I3,r3,k,e,q3⟩=>?_)) hm
 subst e;cases r3;refine wpAny_truthy_bool ?_;cases k with
 | false=>exact ite_ff ⟨.bl false,H3,I3,rfl,q3⟩
 | true=>exact ite_tt (chain_last (JW (hc pins s3 σ H3 _ I3 q3) fun w' s4 ⟨z',H4,I4,r4,q4⟩=>ho' pins s4 σ H4 y z' u w' Q I4 r2 r4 q4))
theorem Jgx:(sizeLine:Nat) < 2 ^ 63:=by rw [sizeLine_eq]; decide
theorem JoT:ZV X (binaryOp .Add) (fun x y H Q=>∃ i j,x=.str i∧y=.str j∧i.length + j.length≤sizeLine∧Q (.str (i ++ j)) H):=by
 intro pins s σ H x y v u Q I rx ry h;obtain ⟨i,j,rfl,rfl,hz,q⟩:=h;obtain ⟨t,rfl⟩:=rx;obtain ⟨t',rfl⟩:=ry;exact add_str (fun t' tk=>⟨.str (i ++ j),H,I.tok _,⟨_,rfl⟩,q⟩) hz
theorem Jmb {x:V} {us:List Value} (r:JI [x] us):∃ u,us=[u]∧JT x u:=by
 cases r with
 | cons r1 r2=>cases r2; exact ⟨_,rfl,r1⟩
theorem Jst {x y:V} {us:List Value} (r:JI [x,y] us):∃ u w',us=[u,w']∧JT x u∧JT y w':=by
 cases r with
 | cons r1 r2 =>
  cases r2 with
  | cons r3 r4=>cases r4; exact ⟨_,_,rfl,r1,r3⟩
theorem Jdw (hc:X.calm=true):Yx X (.builtin "max") (fun xs H Q=>∃ i j,xs=[.int i,.int j]∧Q (.int (if j > i then j else i)) H):=by
 intro pins s σ H xs us Q I r h;obtain ⟨i,j,rfl,q⟩:=h;obtain ⟨u,w',rfl,⟨t,rfl⟩,⟨t',rfl⟩⟩:=Jst r;refine max_two_ints (I.ok.hd hc) fun h' tk k=>⟨_,H,I.kept k,?_,q⟩
 by_cases hj:j > i
 ·rw [if_pos hj,if_pos hj]; exact ⟨_,rfl⟩
 ·rw [if_neg hj,if_neg hj]; exact ⟨_,rfl⟩
theorem Jh2 (hc:X.calm=true):Yx X (.builtin "min") (fun xs H Q=>∃ i j,xs=[.int i,.int j]∧Q (.int (if j < i then j else i)) H):=by
 intro pins s σ H xs us Q I r h;obtain ⟨i,j,rfl,q⟩:=h;obtain ⟨u,w',rfl,⟨t,rfl⟩,⟨t',rfl⟩⟩:=Jst r;refine min_two_ints (I.ok.hd hc) fun h' tk k=>⟨_,H,I.kept k,?_,q⟩
 by_cases hj:j < i
 ·rw [if_pos hj,if_pos hj]; exact ⟨_,rfl⟩
 ·rw [if_neg hj,if_neg hj]; exact ⟨_,rfl⟩
end
end L2
namespace L2
open PySem PySem.Spec PyProof.Rows
structure Jjs (h:Heap) (x dx C:Addr) (mA:Str→Option Value):Prop where
 obj:h.get? x=some (PySem.W.instObj C dx)
 ns:h.Ns1 dx mA
 ne:dx≠x
theorem Jqi {h:Heap} {dx:Addr} {mA:Str→Option Value} (n:h.Ns1 dx mA):∃ od,h.get? dx=some od∧∀ name,PySem.W.lookIn name od=some (mA name):=by
 obtain ⟨o,es,ep,ho,hd,hk,_,hm⟩:=n;refine ⟨o,ho,fun name=>?_⟩;have e:=hm name;unfold nsFind findBy at e;rw [← Array.find?_toList] at e;unfold PySem.W.lookIn;rw [hd];dsimp only;split
 ·rename_i y q;rw [q] at e;exact congrArg some e
 ·rename_i q;rw [q] at e;have a:es.toList.any (·.refKey)=false:=by
   rw [List.any_eq_false];intro y hy;obtain ⟨z,t,hkey⟩:=hk y (Array.mem_toList_iff.mp hy);simp [DictEntry.refKey,hkey]
  have a':¬ es.toList.any (·.refKey)=true:=by rw [a]; exact Bool.false_ne_true
  rw [if_neg a'];exact congrArg some e
theorem Jjs.look {h:Heap} {x dx C:Addr} {mA:Str→Option Value} (I:Jjs h x dx C mA):∃ od,PySem.W.InstAt h x (PySem.W.instObj C dx) C (some od)∧∀ name,PySem.W.lookIn name od=some (mA name) :=
 let ⟨od,ho,hl⟩:=Jqi I.ns
 ⟨od,⟨I.obj,rfl,rfl,ho⟩,hl⟩
section
variable {prog:Program} {w:World} {A:Around} {E:Value→Shared→Prop} {s:Shared} {K:PySem.W.Frag} {x dx C f:Addr} {mA:Str→Option Value} {name:Str} {v:Value}
theorem JtF {expr:Bool} {Q:Value→Shared→Prop} (X:K.In s.heap) (I:Jjs s.heap x dx C mA) (hg:PySem.W.plainGet K C name=true) (hh:PySem.W.hasDictIn K C=true)
  (ha:PySem.W.findIn K (.ref C) name=some none) (hv:mA name=some v) (hv':PySem.W.handedIn v=true) (h:Q v { s with toks:=s.toks + 1 }) :
  wpAny (model prog w) A (getAttr (.ref x) name expr) Q E s:=by
 obtain ⟨od,J,hl⟩:=I.look;exact PySem.W.get_value X J (PySem.W.plainGet_of hg).1 (PySem.W.findObj_own hh ha rfl (by rw [hl,hv])) hv' h
theorem Jr8 {pl:Sem Bool} {Q:Value×List Value→Shared→Prop} (X:K.In s.heap) (I:Jjs s.heap x dx C mA) (hg:PySem.W.plainGet K C name=true)
  (hf:PySem.W.findIn K (.ref C) name=some (some (.ref f))) (ht:PySem.W.isFn K (.ref f)=true) (hv:mA name=none) (h:Q (.ref f,[.ref x]) s) :
  wpAny (model prog w) A (getMethod (.ref x) name pl) Q E s:=by
 obtain ⟨od,J,hl⟩:=I.look;exact PySem.W.method_fn X J (PySem.W.plainGet_of hg).1 (PySem.W.plainGet_of hg).2 hf (beq_iff_eq.mp ht) (by show (PySem.W.lookIn name od).map (·.isSome)=some false; rw [hl,hv]; rfl) h
theorem Jtb {ns:List Str} {Q:Unit→Shared→Prop} (X:K.In s.heap) (I:Jjs s.heap x dx C mA)
  (hs:PySem.W.findIn K (.ref C) "__setattr__" = some (some (.builtin "object.__setattr__"))) (hp:PySem.W.plainOver K C=true) (ht:PySem.W.takerIn K C name=some none) (hh:PySem.W.hasDictIn K C=true)
  (hw:PySem.Within mA ns) (hsz:ns.length≤sizeLine)
  (h:∀ h',Jjs h' x dx C (fun y=>if y=name then some v else mA y)→Heap.SameBut dx s.heap h'→Q () { s with heap:=h',toks:=s.toks + 2 }) :
  wpAny (model prog w) A (setAttr (.ref x) name v) Q E s:=by
 obtain ⟨od,J,hl⟩:=I.look;refine PySem.W.set_plain X J hs (PySem.W.osa_open (s:={ s with toks:=s.toks + 1 }) (r:=none) X J hp ht fun b=>?_);obtain ⟨cd,hc,hd'⟩:=PySem.W.any_some hh;have hx:s.heap.get? x=some ⟨.ref C,some dx,.plain,#[]⟩:=I.obj;refine wpAny_bind (wpAny_pure (wpAny_bind (wpAny_bind (wpAny_loadPart hx (wpAny_bind (PySem.W.Looks.here (s:={ s with toks:=s.toks + 1 }) (PySem.W.looks_clsIn X hc) ?_))))));rw [hd'];refine wpAny_pure (a:=some dx) (wpAny_bind (wpAny_pure (wpAny_bind ?_)));refine wpAny_nsSet1 (s:={ s with toks:=s.toks + 1 }) I.ns fun h' hn2 hs2=>?_
 obtain ⟨oD,esD,epD,hoD,hdD,hcD⟩:=hn2.count (PySem.Within.cons name v hw);refine wpAny_bind (wpAny_lookBehind hoD (by rw [hdD]; exact pastItsLine_dict (Nat.le_trans hcD (by rw [List.length_cons]; omega))) ?_);exact wpAny_pure (h _ ⟨(hs2.2 _ (Ne.symm I.ne)).trans I.obj,hn2,I.ne⟩ hs2)
theorem Jr1 {R:Result→Shared→Prop} {vs:List Value} {kw:List (Str×Value)} (X:K.In s.heap) (hm:PySem.W.makesIn K C=true)
  (hi:PySem.W.findIn K (.ref C) "__init__" = some (some (.ref f))) (hf:PySem.W.typeIn K (.ref f)=some (.type "function"))
  (h:codeAny (model prog w) (A.under (.builtin "type.__call__" ⟨.ref C :: vs,kw⟩)) (.call (.ref f) ⟨.ref (s.heap.objs.size + 1) :: vs,kw⟩) (PySem.W.InitBack (s.heap.objs.size + 1) R)
   { s with heap:=(s.heap.push PySem.W.emptyDict).push (PySem.W.instObj C s.heap.objs.size) }) :
  codeAny (model prog w) A (.call (.ref C) ⟨vs,kw⟩) R s:=by
 obtain ⟨hh,g,d,t,os⟩:=s;exact PySem.W.make_core (PySem.W.makes_of X hm) (PySem.W.looks_findIn X hi) (fun self=>PySem.W.bind_fn X self hf) (.inl rfl) h
end
def Yr (f:Str) (v:V):List (Str×V)→List (Str×V)
 | []=>[(f,v)]
 | (g,x) :: r=>if g=f then (g,v) :: r else (g,x) :: Yr f v r
theorem JiF (f g:Str) (v:V):∀ fs:List (Str×V),(Yr f v fs).lookup g=if g=f then some v else fs.lookup g
 | []=>by
  show List.lookup g [(f,v)]=_;by_cases h:g=f
  ·have hb:(g == f)=true:=beq_iff_eq.mpr h;simp only [List.lookup,hb,if_pos h]
  ·have hb:(g == f)=false:=beq_eq_false_iff_ne.mpr h;simp only [List.lookup,hb,if_neg h]
 | (k,x) :: r=>by
  have ih:=JiF f g v r;rw [show Yr f v ((k,x) :: r)=(if k=f then (k,v) :: r else (k,x) :: Yr f v r) from rfl];by_cases hk:k=f
  ·rw [if_pos hk];by_cases h:g=k
   ·have hb:(g == k)=true:=beq_iff_eq.mpr h;simp only [List.lookup,hb,if_pos (h.trans hk)]
   ·have hb:(g == k)=false:=beq_eq_false_iff_ne.mpr h;simp only [List.lookup,hb,if_neg (fun e:g=f=>h (e.trans hk.symm))]
  ·rw [if_neg hk];by_cases h:g=k
   ·have hb:(g == k)=true:=beq_iff_eq.mpr h;simp only [List.lookup,hb,if_neg (fun e:g=f=>hk (h.symm.trans e))]
   ·have hb:(g == k)=false:=beq_eq_false_iff_ne.mpr h;simp only [List.lookup,hb];exact ih
theorem JhM (f:Str) (v:V):∀ fs:List (Str×V),f∈(Yr f v fs).map (·.1)∧∀ g,g∈fs.map (·.1)→g∈(Yr f v fs).map (·.1)
 | []=>⟨by simp [Yr],fun g h=>by simp at h⟩
 | (k,x) :: r=>by
  obtain ⟨i1,i2⟩:=JhM f v r;rw [show Yr f v ((k,x) :: r)=(if k=f then (k,v) :: r else (k,x) :: Yr f v r) from rfl];by_cases hk:k=f
  ·rw [if_pos hk];subst hk;exact ⟨by simp,fun g h=>by simpa using h⟩
  ·rw [if_neg hk];refine ⟨?_,fun g h=>?_⟩
   ·rw [List.map_cons];exact List.mem_cons_of_mem _ i1
   ·rw [List.map_cons] at h ⊢;rcases List.mem_cons.mp h with e | e
    ·exact List.mem_cons.mpr (.inl e)
    ·exact List.mem_cons_of_mem _ (i2 g e)
theorem JiG (f:Str) (v:V):∀ fs:List (Str×V),(Yr f v fs).length≤fs.length + 1
 | []=>by simp [Yr]
 | (k,x) :: r=>by
  have ih:=JiG f v r;rw [show Yr f v ((k,x) :: r)=(if k=f then (k,v) :: r else (k,x) :: Yr f v r) from rfl];by_cases hk:k=f
  ·rw [if_pos hk,List.length_cons,List.length_cons]; omega
  ·rw [if_neg hk,List.length_cons,List.length_cons]; omega
theorem Jbd.some_of {v:V} {o:Option Value} (r:Jbd (some v) o):∃ u,o=some u∧JT v u:=by
 cases o with
 | none=>exact (show False from r).elim
 | some u=>exact ⟨u,rfl,r⟩
theorem Jbd.none_of {o:Option Value} (r:Jbd none o):o=none:=by
 cases o with
 | none=>rfl
 | some u=>exact (show False from r).elim
theorem Jqw {v:V} {u:Value} (r:JT v u):PySem.W.handedIn u=true:=by
 cases v with
 | non=>cases (show u=Value.none from r); rfl
 | bl b=>cases (show u=Value.bool b from r); rfl
 | int i=>obtain ⟨t,e⟩:=(show ∃ t,u=Value.int i t from r); cases e; rfl
 | str x=>obtain ⟨t,e⟩:=(show ∃ t,u=Value.str x t from r); cases e; rfl
 | byt b=>obtain ⟨t,e⟩:=(show ∃ t,u=Value.bytes b t from r); cases e; rfl
 | flt b=>obtain ⟨t,e⟩:=(show ∃ t,u=Value.float b t from r); cases e; rfl
 | ref a=>cases (show u=Value.ref a from r); rfl
 | ty n=>cases (show u=Value.type n from r); rfl
section
variable {P:Program} {w:World} {H H':Hp} {h h':Heap} {a C dx:Addr} {fs fs':List (Str×V)}
theorem Jin (hok:ZZ P w H h) (e:H a=some (.ins C dx fs)):∃ mA,Jjs h a dx C mA∧(∀ f,Jbd (fs.lookup f) (mA f))∧PySem.Within mA (fs.map (·.1))∧fs.length≤1000∧H dx=some (.own a):=by
 obtain ⟨d,z,ne,ob,mA,n,r,q⟩:=(show YL P w H h a (.ins C dx fs) from hok a _ e)
 exact ⟨mA,⟨ob,n,ne⟩,r,q,z,d⟩
end
structure Cls (K:PySem.W.Frag) (C:Addr):Prop where
 pg:PySem.W.plainGet K C Str.empty=true
 hd:PySem.W.hasDictIn K C=true
 po:PySem.W.plainOver K C=true
 sa:PySem.W.findIn K (.ref C) "__setattr__" = some (some (.builtin "object.__setattr__"))
theorem Cls.get {K:PySem.W.Frag} {C:Addr} (c:Cls K C) (f:Str):PySem.W.plainGet K C f=true:=c.pg
def YS (K:PySem.W.Frag) (C:Addr) (f:Str):Prop:=PySem.W.findIn K (.ref C) f=some none
theorem YS.taker {K:PySem.W.Frag} {C:Addr} {f:Str} (n:YS K C f):PySem.W.takerIn K C f=some none:=by
 unfold PySem.W.takerIn;rw [show PySem.W.findIn K (.ref C) f=some none from n];rfl
structure Jpq (K:PySem.W.Frag) (C:Addr) (m:Str) (f:Addr):Prop where
 at_:PySem.W.findIn K (.ref C) m=some (some (.ref f))
 fn:PySem.W.isFn K (.ref f)=true
 kp:PySem.W.keepIn K (.ref f)=true
section
variable {X:Cx} {pins:List (Addr×Obj)} {σ:St} {H:Hp} {s:Shared} {a C dx:Addr} {fs:List (Str×V)} {f:Str} {v:V} {A:Around} {E:Value→Shared→Prop}
theorem Jo3 {b:Bool} {Q:Value→Shared→Prop} (I:Jo X pins σ H s) (e:H a=some (.ins C dx fs)) (c:Cls X.K C) (n:YS X.K C f) (l:fs.lookup f=some v)
  (h:∀ u s',Jo X pins σ H s'→JT v u→Q u s'):wpAny (model X.prog X.w) A (getAttr (.ref a) f b) Q E s:=by
 obtain ⟨mA,O,r,_,_,_⟩:=Jin I.hok e;obtain ⟨u,hu,ru⟩:=Jbd.some_of (v:=v) (o:=mA f) (by rw [← l]; exact r f);exact JtF I.kIn O (c.get f) c.hd n hu (Jqw ru) (h u _ (I.tok _) ru)
theorem Jj2 {m:Str} {g:Addr} {pl:Sem Bool} {Q:Value×List Value→Shared→Prop} (I:Jo X pins σ H s) (e:H a=some (.ins C dx fs)) (c:Cls X.K C) (k:Jpq X.K C m g) (l:fs.lookup m=none)
  (h:Q (.ref g,[.ref a]) s):wpAny (model X.prog X.w) A (getMethod (.ref a) m pl) Q E s:=by
 obtain ⟨mA,O,r,_,_,_⟩:=Jin I.hok e;have hn:mA m=none:=Jbd.none_of (by rw [← l]; exact r m);exact Jr8 I.kIn O (c.get m) k.at_ k.fn hn h
theorem JoD {y:V} {u:Value} {Q:Unit→Shared→Prop} (I:Jo X pins σ H s) (e:H a=some (.ins C dx fs)) (c:Cls X.K C) (n:YS X.K C f) (hl:fs.length < 1000) (ry:JT y u)
  (h:∀ s',Jo X pins σ (upd H a (.ins C dx (Yr f y fs))) s'→Q () s'):wpAny (model X.prog X.w) A (setAttr (.ref a) f u) Q E s:=by
 obtain ⟨mA,O,r,wi,_,ho⟩:=Jin I.hok e;have hz:(fs.map (·.1)).length≤sizeLine:=by rw [List.length_map,sizeLine_eq]; omega
 refine Jtb I.kIn O c.sa c.po n.taker c.hd wi hz fun h' O' sb=>h _ ?_
 have hd:∃ o,h'.get? dx=some o:=let ⟨o,_,_,e',_⟩:=O'.ns; ⟨o,e'⟩;refine I.write (x:=a) (e:=dx) (by rw [e]; exact True.intro) (.inr ho) (fun b q hb z=>(sb.2 b hb).trans z) hd ?_;refine ⟨by rw [JB O.ne]; exact ho,?_,O.ne,O'.obj,_,O'.ns,fun g=>?_,fun g hg=>?_⟩
 ·have:=JiG f y fs; omega
 ·show Jbd ((Yr f y fs).lookup g) (if g=f then some u else mA g);rw [JiF];by_cases q:g=f
  ·rw [if_pos q,if_pos q]; exact ry
  ·rw [if_neg q,if_neg q]; exact r g
 ·by_cases q:g=f
  ·rw [q]; exact (JhM f y fs).1
  ·refine (JhM f y fs).2 g (wi g fun z=>hg ?_);show (if g=f then some u else mA g)=none;rw [if_neg q]; exact z
theorem Jo.made (I:Jo X pins σ H s):Jo X pins σ (upd (upd H s.heap.objs.size (.own (s.heap.objs.size + 1))) (s.heap.objs.size + 1) (.ins C s.heap.objs.size []))
  { s with heap:=(s.heap.push PySem.W.emptyDict).push (PySem.W.instObj C s.heap.objs.size) }:=by
 have e1:(s.heap.push PySem.W.emptyDict).get? s.heap.objs.size=some PySem.W.emptyDict:=Heap.get?_push_size s.heap rfl;have e2:((s.heap.push PySem.W.emptyDict).push (PySem.W.instObj C s.heap.objs.size)).get? (s.heap.objs.size + 1)=some (PySem.W.instObj C s.heap.objs.size):=by
  have:=Heap.get?_push_size (s.heap.push PySem.W.emptyDict) (o:=PySem.W.instObj C s.heap.objs.size) rfl;rwa [Heap.size_push] at this
 have e3:(s.heap.push PySem.W.emptyDict).Ns s.heap.objs.size (fun _=>none):=⟨PySem.W.emptyDict,#[],_,e1,rfl,(fun e he=>absurd he (by simp)),fun _=>rfl⟩
 have I1:=I.laid (a:=s.heap.objs.size) (o:=.own (s.heap.objs.size + 1)) (h':=s.heap.push PySem.W.emptyDict) (t':=s.toks) (fun b u q=>Heap.get?_push_of_some _ q) (Nat.le_refl _) ⟨_,e1⟩;refine I1.laid (a:=s.heap.objs.size + 1) (o:=.ins C s.heap.objs.size []) (t':=s.toks) (fun b u q=>Heap.get?_push_of_some _ q) (Nat.le_of_eq (Heap.size_push _ _)) ?_;have ne:s.heap.objs.size≠s.heap.objs.size + 1:=Nat.ne_of_lt (Nat.lt_succ_self _);refine ⟨by rw [JB ne,Ji],Nat.zero_le _,ne,e2,fun _=>none,(Heap.Ns1.of_empty e3).at fun o q=>Heap.get?_push_of_some _ q,fun _=>True.intro,fun y hy=>absurd rfl hy⟩
theorem JtI {prog:Program} {w:World} {env:Env} {e:Expr} {f:Str} {pos:Pos} {s:Shared} {Q:Value→Shared→Prop} (hb:attributeBase e f env (eval e env)=eval e env)
  (h:wpAny (model prog w) A (eval e env) (fun o s₁=>wpAny (model prog w) A (getAttr o f true) Q E s₁) E s):wpAny (model prog w) A (eval (.Attribute e f pos) env) Q E s :=
 Attribute_any_ h (by rw [arm_eval_Attribute,hb])
end
def JvK (K:PySem.W.Frag) (ta:TE) (f:Str):TE:=fun σ H Q=>ta σ H fun x H1=>∃ a C dx fs v,x=.ref a∧H1 a=some (.ins C dx fs)∧Cls K C∧YS K C f∧fs.lookup f=some v∧Q v H1
def JvN (K:PySem.W.Frag) (ta tv:TE) (f:Str):TS:=fun D σ H=>tv σ H fun y H1=>ta σ H1 fun x H2=>∃ a C dx fs,x=.ref a∧H2 a=some (.ins C dx fs)∧Cls K C∧YS K C f∧fs.length < 1000 ∧
 D.nx σ (upd H2 a (.ins C dx (Yr f y fs)))
section
variable {X:Cx} {o e value:Expr} {f:Str} {pos pos' tpos:Pos} {ta tv:TE}
theorem Jw (he:PE X e ta) (hb:attributeBase e f X.env (eval e X.env)=eval e X.env):PE X (.Attribute e f pos) (JvK X.K ta f):=by
 intro pins s σ H Q I h;refine JtI hb (JW (he pins s σ H _ I h) fun u s1 ⟨x,H1,I1,rx,a,C,dx,fs,v,ex,ea,c,n,l,q⟩=>?_);subst ex;obtain rfl:u=Value.ref a:=rx;exact Jo3 I1 ea c n l fun u' s2 I2 ru=>⟨v,H1,I2,ru,q⟩
theorem Zu (ha:PE X o ta) (hv:PE X value tv) (hs:swapsWith value (some (.Attribute o f pos')) pos.line X.env=pure false):PS X (.Assign [.Attribute o f pos'] value pos) (JvN X.K ta tv f):=by
 intro pins s σ H D I h;refine plainObj_wpAny_Assign_Attribute (JW (hv pins s σ H _ I h) fun u s1 ⟨y,H1,I1,ry,q⟩=>JW (ha pins s1 σ H1 _ I1 q) fun ov s2 ⟨x,H2,I2,rx,a,C,dx,fs,ex,ea,c,n,l,q2⟩=>?_) hs;subst ex;obtain rfl:ov=Value.ref a:=rx;exact JoD I2 ea c n l ry fun s3 I3=>⟨σ,_,I3,q2⟩
end
section
variable {X:Cx} {pins:List (Addr×Obj)} {σ:St} {H:Hp} {s:Shared} {A:Around} {E:Value→Shared→Prop} {Q:Value→Shared→Prop} {c:Value} {b:Bool}
inductive Jde (K:PySem.W.Frag) (H:Hp):V→Value→Prop where
 | non:Jde K H .non (.type "NoneType")
 | bl (x:Bool):Jde K H (.bl x) (.type "bool")
 | int (i:Int):Jde K H (.int i) (.type "int")
 | str (x:Str):Jde K H (.str x) (.type "str")
 | flt (x:UInt64):Jde K H (.flt x) (.type "float")
 | lst {a:Addr} {xs:List V} (e:H a=some (.lst xs)):Jde K H (.ref a) (.type "list")
 | frz {a:Addr} {o:Obj} {xs:List V} (e:H a=some (.frz o (.lst xs))):Jde K H (.ref a) (.type "list")
 | tup {a:Addr} {xs:List V} (e:H a=some (.tup xs)):Jde K H (.ref a) (.type "tuple")
 | dK {a:Addr} {kvs:List (J0×V)} (e:H a=some (.dK kvs)):Jde K H (.ref a) (.type "dict")
 | dT {a:Addr} {kvs:List (List J0×V)} (e:H a=some (.dT kvs)):Jde K H (.ref a) (.type "dict")
 | ins {a C dx:Addr} {fs:List (Str×V)} (e:H a=some (.ins C dx fs)) (cl:Cls K C) (ha:PySem.W.findIn K (.ref C) "__class__" = some (some (.builtin "object.__class__")))
   (hn:PySem.W.specialIn K (.builtin "object.__class__") "__get__" = some (some (.builtin "getset_descriptor.__get__"))) (htk:PySem.W.takesIn K (.builtin "object.__class__")=some true)
   (hm:PySem.W.mroIn K C (.type "object")=some true):Jde K H (.ref a) (.ref C)
theorem Jqr {x:V} {u t:Value} (I:Jo X pins σ H s) (rx:JT x u) (ty:Jde X.K H x t) (e:PySem.W.kitOne X.K t c=some b) (h:∀ tk,Q (.bool b) { s with toks:=tk }) :
  wpAny (model X.prog X.w) A (call (.builtin "isinstance") [u,c]) Q E s:=by
 cases ty with
 | non=>cases (show u=Value.none from rx); exact PySem.W.kia_one PySem.W.kitx_none I.kIn True.intro e (fun z=>nomatch z) h
 | bl y=>cases (show u=Value.bool y from rx); exact PySem.W.kia_one PySem.W.kitx_bool I.kIn True.intro e (fun z=>nomatch z) h
 | int i=>obtain ⟨t,q⟩:=(show ∃ t,u=Value.int i t from rx); cases q; exact PySem.W.kia_one PySem.W.kitx_int I.kIn True.intro e (fun z=>nomatch z) h
 | str y=>obtain ⟨t,q⟩:=(show ∃ t,u=Value.str y t from rx); cases q; exact PySem.W.kia_one PySem.W.kitx_str I.kIn True.intro e (fun z=>nomatch z) h
 | flt y=>obtain ⟨t,q⟩:=(show ∃ t,u=Value.float y t from rx); cases q; exact PySem.W.kia_one PySem.W.kitx_float I.kIn True.intro e (fun z=>nomatch z) h
 | @lst a xs ea =>
  cases (show u=Value.ref a from rx);obtain ⟨_,_,n,_,h1⟩:=(show YL X.prog X.w H s.heap a (.lst xs) from I.hok a _ ea)
  exact PySem.W.kia_one PySem.W.kitx_list I.kIn ⟨_,h1,rfl⟩ e (fun z=>nomatch z) h
 | @frz a ob xs ea =>
  cases (show u=Value.ref a from rx);obtain ⟨_,_,_,n,_,h1⟩:=(show YL X.prog X.w H s.heap a (.frz ob (.lst xs)) from I.hok a _ ea)
  exact PySem.W.kia_one PySem.W.kitx_list I.kIn ⟨_,h1,rfl⟩ e (fun z=>nomatch z) h
 | @tup a xs ea =>
  cases (show u=Value.ref a from rx);obtain ⟨_,_,_,p⟩:=(show YL X.prog X.w H s.heap a (.tup xs) from I.hok a _ ea)
  obtain ⟨o,h1,h2,_⟩:=p;exact PySem.W.kia_one PySem.W.kitx_tuple I.kIn ⟨o,h1,h2⟩ e (fun z=>nomatch z) h
 | @dK a kvs ea =>
  cases (show u=Value.ref a from rx);obtain ⟨_,_,vs,_,p⟩:=(show YL X.prog X.w H s.heap a (.dK kvs) from I.hok a _ ea)
  obtain ⟨o,es,ep,h1,h2,_⟩:=p;exact PySem.W.kia_one PySem.W.kitx_dict I.kIn ⟨o,h1,h2.1⟩ e (fun z=>nomatch z) h
 | @dT a kvs ea =>
  cases (show u=Value.ref a from rx);obtain ⟨_,_,xs,_,o,es,ep,h1,h2,_⟩:=(show YL X.prog X.w H s.heap a (.dT kvs) from I.hok a _ ea)
  exact PySem.W.kia_one PySem.W.kitx_dict I.kIn ⟨o,h1,h2.1⟩ e (fun z=>nomatch z) h
 | @ins a C dx fs ea cl ha hn htk hm =>
  cases (show u=Value.ref a from rx);obtain ⟨mA,O,_⟩:=Jin I.hok ea;obtain ⟨od,J,_⟩:=O.look;exact PySem.W.kia_one (PySem.W.kitx_own (cl.get _) cl.hd ha hn htk hm) I.kIn J e (fun z=>nomatch z) h
end
end L2
namespace L2
open PySem PySem.Spec PyProof.Rows
structure Zj (k:Nat) (A:Around):Prop where
 hd:A.handled=none
 dp:A.depth + 3 * k + 5 < recursionLimit
 un:A.units + 16 * k + 200 < cLine
theorem Zj.mono {j k:Nat} {A:Around} (r:Zj k A) (h:j≤k):Zj j A:=⟨r.hd,by have:=r.dp; omega,by have:=r.un; omega⟩
theorem Zj.deeper {k:Nat} {A:Around} (r:Zj (k + 1) A) (env:Env):Zj k (A.deeper env) :=
 ⟨r.hd,by have:=r.dp; show A.depth + 1 + 3 * k + 5 < _; omega,by have:=r.un; show A.units + 3 + 16 * k + 200 < _; omega⟩
theorem Zj.in1 {k:Nat} {A:Around} (r:Zj (k + 1) A):Zj k A.in1 :=
 ⟨r.hd,by have:=r.dp; show A.depth + 3 * k + 5 < _; omega,by have:=r.un; show A.units + 1 + 16 * k + 200 < _; omega⟩
theorem Jo1 {A:Around} {C:Addr} {us:List Value} {kw:List (Str×Value)}:(A.under (.builtin "type.__call__" ⟨.ref C :: us,kw⟩)).depth=A.depth + 1:=by
 first | rfl | simp [Around.under,Code.weight,Code.isCreation,Code.isGuard,Code.isCaller,Code.frames,Code.isFrame,guardIds]
theorem Jo0 {A:Around} {C:Addr} {us:List Value} {kw:List (Str×Value)}:(A.under (.builtin "type.__call__" ⟨.ref C :: us,kw⟩)).units=A.units + 1:=by
 first | rfl | simp [Around.under,Code.cUnits,Code.frames,Code.isFrame]
theorem Zj.make {k:Nat} {A:Around} (r:Zj (k + 1) A) (C:Addr) (us:List Value) (kw:List (Str×Value)):Zj k (A.under (.builtin "type.__call__" ⟨.ref C :: us,kw⟩)) :=
 ⟨r.hd,by have:=r.dp; rw [Jo1]; omega,by have:=r.un; rw [Jo0]; omega⟩
theorem Zj.depth {k:Nat} {A:Around} (r:Zj k A):A.depth < recursionLimit:=by have:=r.dp; omega
theorem Zj.units {k:Nat} {A:Around} (r:Zj k A):A.units + 64 < cLine:=by have:=r.un; omega
theorem Zj.units0 {k:Nat} {A:Around} (r:Zj k A):A.units < cLine:=by have:=r.un; omega
def JtQ:TA:=fun _ H Q=>Q [] H
def Ju1 (ta:TE) (tr:TA):TA:=fun σ H Q=>ta σ H fun x H1=>tr σ H1 fun xs H2=>Q (x :: xs) H2
section
variable {X:Cx} {e:Expr} {es:List Expr} {te:TE} {t:TA} {pos:Pos}
theorem Jc:PA X [] JtQ:=fun _ _ _ _ H Q I h=>Calls.spliced_nil ⟨[],H,I,.nil,h⟩
theorem Ja (ha:PE X e te) (hr:PA X es t) (hs:starEach (e :: es) X.env=(false,eval e X.env) :: starEach es X.env:=by rfl):PA X (e :: es) (Ju1 te t):=by
 intro pos pins s σ H Q I h;rw [hs];show wpAny _ _ (spliced ((false,eval e X.env) :: backTo pos (starEach es X.env))) _ _ s;refine Calls.spliced_cons (JW (ha pins s σ H _ I h) fun u s1 ⟨x,H1,I1,r1,q1⟩=>?_);exact JW (hr pos pins s1 σ H1 _ I1 q1) fun us s2 ⟨xs,H2,I2,r2,q2⟩=>⟨x :: xs,H2,I2,.cons r1 r2,q2⟩
def JvA (t:TA):TE:=fun σ H Q=>t σ H fun xs H1=>xs.length≤sizeLine∧∀ p,H1 p=none→Q (.ref p) (upd H1 p (.tup xs))
def JvG (t:TA):TE:=fun σ H Q=>t σ H fun xs H1=>xs.length≤sizeLine∧∀ p,H1 p=none→Q (.ref p) (upd H1 p (.lst xs))
theorem Yn {x1} (h:PA X es t):PE X (.Tuple es x1 pos) (JvA t):=by
 intro pins s σ H Q I hq;refine wpAny_Tuple_spliced (JW (h pos pins s σ H _ I hq) fun us s1 ⟨xs,H1,I1,r,z,q⟩=>⟨by rw [← r.length]; exact z,?_⟩);have hf:H1 s1.heap.objs.size=none:=I1.hok.fresh (Nat.le_refl _);refine ⟨.ref s1.heap.objs.size,upd H1 s1.heap.objs.size (.tup xs),I1.laid (t':=s1.toks) (fun b u e=>Heap.get?_push_of_some _ e) (Nat.le_refl _) ?_,rfl,q _ hf⟩;exact ⟨z,us,r,⟨_,Heap.get?_push_size _ rfl,rfl,_,rfl⟩⟩
theorem YX (h:PA X es t):PE X (.List es pos) (JvG t):=by
 intro pins s σ H Q I hq;refine wpAny_List_spliced (JW (h pos pins s σ H _ I hq) fun us s1 ⟨xs,H1,I1,r,z,q⟩=>⟨by rw [← r.length]; exact z,?_⟩);have hf:H1 s1.heap.objs.size=none:=I1.hok.fresh (Nat.le_refl _);refine ⟨.ref s1.heap.objs.size,upd H1 s1.heap.objs.size (.lst xs),I1.laid (t':=s1.toks) (fun b u e=>Heap.get?_push_of_some _ e) (Nat.le_refl _) ?_,rfl,q _ hf⟩;exact ⟨z,us,0,r,Heap.get?_push_size _ rfl⟩
end
abbrev Sp:=List V→Hp→VK→XK→Prop
abbrev CXT:=List Env→Hp→Shared→XK→Value→Shared→Prop
structure Jgh (P:Program) (w:World) (K:PySem.W.Frag) (mg:Str→Option Value) (base:Heap) (A:Around) (outer:List Env) (s:Shared) (H:Hp):Prop where
 frames:A.frames=some outer
 mod:Mod K mg base
 bs:∀ b o,base.get? b=some o→s.heap.get? b=some o∧H b=none
 bsz:base.objs.size≤s.heap.objs.size
 funs:s.heap.FunFrames base outer
 frf:∀ b∈frs outer,H b=none
 hok:ZZ P w H s.heap
 bare:AllBare s.gens
def CE (outer:List Env) (P:Program) (w:World) (H:Hp) (s:Shared) (Q:VK) (u:Value) (s':Shared):Prop :=
 ∃ v H',s'.os=s.os∧AllBare s'.gens∧Un (frs outer) [] H H' s.heap s'.heap∧ZZ P w H' s'.heap∧JT v u∧Q v H'
def CR (CX:CXT) (outer:List Env) (P:Program) (w:World) (H:Hp) (s:Shared) (Q:VK) (E:XK) (r:Result) (s':Shared):Prop :=
 match r with
 | .ok (.ret u)=>CE outer P w H s Q u s'
 | .ok _=>False
 | .error e=>CX outer H s E e s'
structure JK (P:Program) (w:World) (K:PySem.W.Frag) (mg:Str→Option Value) (base:Heap) (CX:CXT) (k:Nat) (f:Addr) (fd:FuncData) (ps:List Str) (sp:Sp):Prop where
 len:∀ vs H Q E,sp vs H Q E→vs.length=ps.length
 run:∀ (A:Around) (outer:List Env) (s:Shared) (H:Hp) (args:Args) (us:List Value) (vs:List V) (Q:VK) (E:XK),Zj k A→Jgh P w K mg base A outer s H→BindsTo s fd args (ps.zip us)→JI vs us→sp vs H Q E →
  codeAny (model P w) A (.call (.ref f) args) (CR CX outer P w H s Q E) s
theorem JK.mono {P:Program} {w:World} {K:PySem.W.Frag} {mg:Str→Option Value} {base:Heap} {CX:CXT} {j k:Nat} {f:Addr} {fd:FuncData} {ps:List Str} {sp:Sp} (F:JK P w K mg base CX j f fd ps sp) (h:j≤k) :
  JK P w K mg base CX k f fd ps sp:=⟨F.len,fun A outer s H args us vs Q E hr=>F.run A outer s H args us vs Q E (hr.mono h)⟩
theorem JK.imp {P:Program} {w:World} {K:PySem.W.Frag} {mg:Str→Option Value} {base:Heap} {CX:CXT} {k:Nat} {f:Addr} {fd:FuncData} {ps:List Str} {sp sp':Sp} (F:JK P w K mg base CX k f fd ps sp)
  (h:∀ vs H Q E,sp' vs H Q E→sp vs H Q E):JK P w K mg base CX k f fd ps sp' :=
 ⟨fun vs H Q E q=>F.len vs H Q E (h _ _ _ _ q),fun A outer s H args us vs Q E hr he hb hv hs=>F.run A outer s H args us vs Q E hr he hb hv (h _ _ _ _ hs)⟩
theorem Jgh.make {P:Program} {w:World} {K:PySem.W.Frag} {mg:Str→Option Value} {base:Heap} {A:Around} {outer:List Env} {s:Shared} {H:Hp} (e:Jgh P w K mg base A outer s H) (C:Addr) (us:List Value) (kw:List (Str×Value)) :
  Jgh P w K mg base (A.under (.builtin "type.__call__" ⟨.ref C :: us,kw⟩)) outer s H:=⟨by first | exact e.frames | (simpa [Around.under,Code.envs,Code.isFrame,pushEnvs] using e.frames),e.mod,e.bs,e.bsz,e.funs,e.frf,e.hok,e.bare⟩
theorem Jgh.in1 {P:Program} {w:World} {K:PySem.W.Frag} {mg:Str→Option Value} {base:Heap} {A:Around} {outer:List Env} {s:Shared} {H:Hp} (e:Jgh P w K mg base A outer s H) :
  Jgh P w K mg base A.in1 outer s H:=⟨e.frames,e.mod,e.bs,e.bsz,e.funs,e.frf,e.hok,e.bare⟩
section
variable {X:Cx} {pins:List (Addr×Obj)} {σ:St} {H:Hp} {s s':Shared}
theorem Jo.env0 (I:Jo X pins σ H s):Jgh X.prog X.w X.K X.mg X.base X.A X.stack s H :=
 ⟨I.ok.frames,I.ok.mod,I.bs,Nat.le_trans I.ok.bsz I.sz,I.stack,I.stkFree,I.hok,I.bare⟩
theorem Jo.after {Q:VK} {u:Value} (I:Jo X pins σ H s) (h:CE X.stack X.prog X.w H s Q u s'):EP X pins σ Q u s':=by
 obtain ⟨v,H',os,bare,un,hok,r,q⟩:=h;obtain ⟨hh,g,d,t,os'⟩:=s';obtain rfl:os'=s.os:=os;exact ⟨v,H',I.call (h':=hh) (g':=g) (d':=d) (t':=t) (ch:=[]) un hok bare (fun b z=>absurd z (by simp)),r,q⟩
end
def Jsy (sp:Sp) (dvs:List V) (E:XK) (t:TA):TE:=fun σ H Q=>t σ H fun vs H1=>sp (vs ++ dvs) H1 Q E
def Jsx (C:Addr) (m:Str) (sp:Sp) (dvs:List V) (E:XK) (ta:TE) (t:TA):TE:=fun σ H Q=>ta σ H fun x H1=>∃ a dx fs,x=.ref a∧H1 a=some (.ins C dx fs)∧fs.lookup m=none ∧
 t σ H1 fun vs H2=>sp (x :: (vs ++ dvs)) H2 Q E
def JuW (C:Addr) (sp:Sp) (dvs:List V) (E:XK) (t:TA):TE:=fun σ H Q=>t σ H fun vs H1=>∀ x dx,H1 x=none→H1 dx=none→dx≠x →
 sp (.ref x :: (vs ++ dvs)) (upd (upd H1 dx (.own x)) x (.ins C dx [])) (fun v H2=>v=.non∧Q (.ref x) H2) E
def JcQ (K:PySem.W.Frag) (fd:FuncData) (ps:List Str) (ds:List Value):Prop :=
 ∀ (s:Shared) (us:List Value),K.In s.heap→(us ++ ds).length=ps.length→BindsTo s fd ⟨us,[]⟩ (ps.zip (us ++ ds))
theorem JcQ.all {K:PySem.W.Frag} {fd:FuncData} {ps:List Str} (h:∀ us:List Value,us.length=ps.length→bindArgs fd ⟨us,[]⟩=pure (ps.zip us)):JcQ K fd ps []:=fun s us _ hl=>by
 rw [List.append_nil] at hl ⊢;exact .of_eq (h us hl)
def JaY (CX:CXT) (X:Cx) (E:XK):Prop:=∀ (pins:List (Addr×Obj)) (σ:St) (H:Hp) (s:Shared) (e:Value) (s':Shared),Jo X pins σ H s→CX X.stack H s E e s'→X.xe e s'
section
variable {X:Cx} {CX:CXT} {k:Nat} {f C:Addr} {fd:FuncData} {ps:List Str} {sp:Sp} {dvs:List V} {ds:List Value} {E:XK} {x m:Str} {p pos apos:Pos} {e o:Expr} {es:List Expr} {ta:TE} {t:TA}
theorem JmK {pins:List (Addr×Obj)} {σ:St} {H:Hp} {s:Shared} {Q:VK} {us:List Value} {vs:List V} (F:JK X.prog X.w X.K X.mg X.base CX k f fd ps sp) (hr:Zj k X.A) (hb:JcQ X.K fd ps ds) (hd:JI dvs ds) (hx:JaY CX X E)
  (I:Jo X pins σ H s) (r:JI vs us) (h:sp (vs ++ dvs) H Q E):wpAny (model X.prog X.w) X.A (call (.ref f) us) (EP X pins σ Q) X.xe s:=by
 have r2:JI (vs ++ dvs) (us ++ ds):=r.append hd;have hl:(us ++ ds).length=ps.length:=by rw [← r2.length]; exact F.len _ _ _ _ h
 refine wpAny_call (codeAny_mono (F.run X.A X.stack s H ⟨us,[]⟩ (us ++ ds) (vs ++ dvs) Q E hr I.env0 (hb s us I.kIn hl) r2 h) fun r s' hq=>?_);cases r with
 | error e=>exact hx pins σ H s e s' I hq
 | ok fl =>
  cases fl with
  | ret u=>exact I.after hq
  | next=>exact False.elim hq
  | brk=>exact False.elim hq
  | cont=>exact False.elim hq
theorem Jtm (F:JK X.prog X.w X.K X.mg X.base CX k f fd ps sp) (hr:Zj k X.A) (hg:Gl X x) (hm:X.mg x=some (.ref f)) (hk:PySem.W.keepIn X.K (.ref f)=true) (hb:JcQ X.K fd ps ds) (hd:JI dvs ds) (hx:JaY CX X E)
  (ha:PA X (e :: es) t) (hdb:(x == ("__debug__" : Str))=false:=by decide) (he:starEach (e :: es) X.env=(false,eval e X.env) :: starEach es X.env:=by rfl) (hpl:(backTo pos (starEach es X.env)).any (·.1)=false:=by rfl) :
  PE X (.Call (.Name x p) (e :: es) [] pos) (Jsy sp dvs E t):=by
 intro pins s σ H Q I h;refine wpAny_Call_Name_kw (Jgy I hg hm ?_ hdb);refine PySem.W.callWith_K (h₀:=X.base) I.ok.mod.kin hk (JW (ha pos pins s σ H _ I h) fun us s1 ⟨vs,H1,I1,r,q⟩=>⟨I1.kIn,?_⟩) he hpl;exact JmK F hr hb hd hx I1 r q
theorem J2 {pl:Sem Bool} (he:PE X o ta) (c:Cls X.K C) (hm:Jpq X.K C m f) (F:JK X.prog X.w X.K X.mg X.base CX k f fd ps sp) (hr:Zj k X.A) (hb:JcQ X.K fd ps ds) (hd:JI dvs ds) (hx:JaY CX X E) (ha:PA X (e :: es) t)
  (hst:starEach (e :: es) X.env=(false,eval e X.env) :: starEach es X.env:=by rfl) (hpl:(backTo pos (starEach es X.env)).any (·.1)=false:=by rfl)
  (ht:eval (.Call (.Attribute o m apos) (e :: es) [] pos) X.env=(do
   let ov ← eval o X.env
   standAt apos.atName
   let (f,first) ← holding [ov] (getMethod ov m pl)
   callWith pos f first (backTo pos (starEach (e :: es) X.env)) (backToKw pos (keywordEach [] X.env))):=by rfl) :
  PE X (.Call (.Attribute o m apos) (e :: es) [] pos) (Jsx C m sp dvs E ta t):=by
 intro pins s σ H Q I h;refine PySem.W.methodCall_KW (pl:=pl) (JW (he pins s σ H _ I h) fun u s1 ⟨x,H1,I1,rx,a,dx,fs,ex,ea,l,q⟩=>?_) ht;subst ex;obtain rfl:u=Value.ref a:=rx;refine Jj2 I1 ea c hm l ?_;refine PySem.W.callWith_K (first:=[.ref a]) (h₀:=X.base) I.ok.mod.kin hm.kp (JW (ha pos pins s1 σ H1 _ I1 q) fun us s2 ⟨vs,H2,I2,r,q2⟩=>⟨I2.kIn,?_⟩) hst hpl;exact JmK (us:=.ref a :: us) (vs:=.ref a :: vs) F hr hb hd hx I2 (.cons rfl r) q2
theorem Zc {pl:Sem Bool} (he:PE X o ta) (c:Cls X.K C) (hm:Jpq X.K C m f) (F:JK X.prog X.w X.K X.mg X.base CX k f fd ps sp) (hr:Zj k X.A) (hb:JcQ X.K fd ps ds) (hd:JI dvs ds) (hx:JaY CX X E)
  (ht:eval (.Call (.Attribute o m apos) [] [] pos) X.env=(do
   let ov ← eval o X.env
   standAt apos.atName
   let (f,first) ← holding [ov] (getMethod ov m pl)
   callWith pos f first (backTo pos (starEach [] X.env)) (backToKw pos (keywordEach [] X.env))):=by rfl) :
  PE X (.Call (.Attribute o m apos) [] [] pos) (Jsx C m sp dvs E ta JtQ):=by
 intro pins s σ H Q I h;refine PySem.W.methodCall_KW (pl:=pl) (JW (he pins s σ H _ I h) fun u s1 ⟨x,H1,I1,rx,a,dx,fs,ex,ea,l,q⟩=>?_) ht;subst ex;obtain rfl:u=Value.ref a:=rx;refine Jj2 I1 ea c hm l ?_;exact PySem.W.callWith_K0 (first:=[.ref a]) I1.kIn hm.kp (JmK (us:=[.ref a]) (vs:=[.ref a]) F hr hb hd hx I1 (.cons rfl .nil) q)
structure Mk (K:PySem.W.Frag) (C f:Addr):Prop where
 makes:PySem.W.makesIn K C=true
 init:PySem.W.findIn K (.ref C) "__init__" = some (some (.ref f))
 fn:PySem.W.isFn K (.ref f)=true
 kp:PySem.W.keepIn K (.ref C)=true
theorem JrI {pins:List (Addr×Obj)} {σ:St} {H:Hp} {s:Shared} {Q:VK} {us:List Value} {vs:List V} (M:Mk X.K C f) (F:JK X.prog X.w X.K X.mg X.base CX k f fd ps sp) (hr:Zj (k + 1) X.A) (hb:JcQ X.K fd ps ds) (hd:JI dvs ds)
  (hx:JaY CX X E) (I:Jo X pins σ H s) (r:JI vs us)
  (h:∀ x dx,H x=none→H dx=none→dx≠x→sp (.ref x :: (vs ++ dvs)) (upd (upd H dx (.own x)) x (.ins C dx [])) (fun v H2=>v=.non∧Q (.ref x) H2) E) :
  wpAny (model X.prog X.w) X.A (call (.ref C) us) (EP X pins σ Q) X.xe s:=by
 have hq:=h (s.heap.objs.size + 1) s.heap.objs.size (I.hok.fresh (Nat.le_succ _)) (I.hok.fresh (Nat.le_refl _)) (Nat.ne_of_lt (Nat.lt_succ_self _));have I2:=Jo.made (C:=C) I;have r2:JI (V.ref (s.heap.objs.size + 1) :: (vs ++ dvs)) (Value.ref (s.heap.objs.size + 1) :: (us ++ ds)):=.cons rfl (r.append hd);have hl:(Value.ref (s.heap.objs.size + 1) :: us ++ ds).length=ps.length:=by
  have e:=r2.length;rw [F.len _ _ _ _ hq] at e;exact e.symm
 refine wpAny_call (Jr1 (f:=f) I.kIn M.makes M.init (beq_iff_eq.mp M.fn) (codeAny_mono (F.run _ X.stack _ _ ⟨Value.ref (s.heap.objs.size + 1) :: us,[]⟩ (Value.ref (s.heap.objs.size + 1) :: (us ++ ds)) _ _ E (hr.make C us [])
  (I2.env0.make C us []) (hb _ (Value.ref (s.heap.objs.size + 1) :: us) I2.kIn hl) r2 hq) fun r s' hq'=>?_))
 cases r with
 | error e=>exact hx pins σ _ _ e s' I2 hq'
 | ok fl =>
  cases fl with
  | ret u =>
   obtain ⟨v,H',I3,rv,ev,q3⟩:=I2.after hq';subst ev;exact ⟨rv,⟨V.ref (s.heap.objs.size + 1),H',I3,rfl,q3⟩⟩
  | next=>exact False.elim hq'
  | brk=>exact False.elim hq'
  | cont=>exact False.elim hq'
theorem JcU (M:Mk X.K C f) (F:JK X.prog X.w X.K X.mg X.base CX k f fd ps sp) (hr:Zj (k + 1) X.A) (hg:Gl X x) (hm:X.mg x=some (.ref C)) (hb:JcQ X.K fd ps ds) (hd:JI dvs ds) (hx:JaY CX X E)
  (ha:PA X (e :: es) t) (hdb:(x == ("__debug__" : Str))=false:=by decide) (he:starEach (e :: es) X.env=(false,eval e X.env) :: starEach es X.env:=by rfl) (hpl:(backTo pos (starEach es X.env)).any (·.1)=false:=by rfl) :
  PE X (.Call (.Name x p) (e :: es) [] pos) (JuW C sp dvs E t):=by
 intro pins s σ H Q I h;refine wpAny_Call_Name_kw (Jgy I hg hm ?_ hdb);refine PySem.W.callWith_K (h₀:=X.base) I.ok.mod.kin M.kp (JW (ha pos pins s σ H _ I h) fun us s1 ⟨vs,H1,I1,r,q⟩=>⟨I1.kIn,?_⟩) he hpl;exact JrI M F hr hb hd hx I1 r q
end
structure Jq (N P:List Str) (sc:Scope):Prop where
 kind:sc.kind=.function
 co:sc.isCoroutine=false
 gen:sc.isGenerator=false
 nd:N.Nodup
 pre:N.take P.length=P
 par:∀ x∈P,sc.names.lookup x=some .local∨sc.names.lookup x=some .cell
 nofree:∀ y∈sc.names,y.2≠.free
theorem JlP {kindOf:Str→Option NameKind} {x:Str}:∀ {binds:List (Str×Value)} {m:Str→Option Value},(∀ v,(x,v)∉binds)→bindL kindOf binds m x=m x
 | [],_,_=>rfl
 | (n,v) :: r,m,h=>by
  unfold bindL;rw [JlP fun w hw=>h w (List.mem_cons_of_mem _ hw)];split
  ·have:x≠n:=by rintro rfl; exact h v List.mem_cons_self
   simp [this]
  ·rfl
theorem JlR {kindOf:Str→Option NameKind} {x:Str}:∀ {binds:List (Str×Value)} {m:Str→Option Value},(∀ v,(x,v)∉binds)→bindC kindOf binds m x=m x
 | [],_,_=>rfl
 | (n,v) :: r,m,h=>by
  unfold bindC;rw [JlR fun w hw=>h w (List.mem_cons_of_mem _ hw)];split
  ·rfl
  ·have:x≠n:=by rintro rfl; exact h v List.mem_cons_self
   simp [this]
theorem JlQ {kindOf:Str→Option NameKind} {x:Str} {v:Value}:∀ {P:List Str} {vs:List Value} {i:Nat} {m:Str→Option Value},P.Nodup→P[i]?=some x→vs[i]?=some v→kindOf x=some .local →
  bindL kindOf (P.zip vs) m x=some v
 | [],_,_,_,_,h,_,_=>by simp at h
 | _ :: _,[],_,_,_,_,h,_=>by simp at h
 | p :: P,w :: vs,0,m,nd,h1,h2,hk=>by
  simp at h1 h2; subst h1; subst h2;show bindL kindOf ((p,w) :: P.zip vs) m p=_;unfold bindL;rw [JlP fun v hv=>(List.nodup_cons.mp nd).1 (List.of_mem_zip hv).1,if_pos hk];simp
 | p :: P,w :: vs,i + 1,m,nd,h1,h2,hk=>by
  show bindL kindOf ((p,w) :: P.zip vs) m x=_;unfold bindL;exact JlQ (i:=i) (List.nodup_cons.mp nd).2 (by simpa using h1) (by simpa using h2) hk
theorem JlS {kindOf:Str→Option NameKind} {x:Str} {v:Value}:∀ {P:List Str} {vs:List Value} {i:Nat} {m:Str→Option Value},P.Nodup→P[i]?=some x→vs[i]?=some v→kindOf x≠some .local →
  bindC kindOf (P.zip vs) m x=some v
 | [],_,_,_,_,h,_,_=>by simp at h
 | _ :: _,[],_,_,_,_,h,_=>by simp at h
 | p :: P,w :: vs,0,m,nd,h1,h2,hk=>by
  simp at h1 h2; subst h1; subst h2;show bindC kindOf ((p,w) :: P.zip vs) m p=_;unfold bindC;rw [JlR fun v hv=>(List.nodup_cons.mp nd).1 (List.of_mem_zip hv).1,if_neg hk];simp
 | p :: P,w :: vs,i + 1,m,nd,h1,h2,hk=>by
  show bindC kindOf ((p,w) :: P.zip vs) m x=_;unfold bindC;exact JlS (i:=i) (List.nodup_cons.mp nd).2 (by simpa using h1) (by simpa using h2) hk
def YW (N:List Str) (vs:List V):St:=vs.map some ++ List.replicate (N.length - vs.length) none
def Jae (CX:CXT) (P:Program) (w:World) (K:PySem.W.Frag) (mg:Str→Option Value) (base:Heap) (N:List Str) (qual:Str) (scope:Scope) (f:Addr) (cd:Value) (A:Around) (outer:List Env) (s:Shared) (H:Hp) (E:XK):Cx where
 prog:=P
 w:=w
 K:=K
 mg:=mg
 base:=base
 A:=A.deeper (envOfC qual scope s.heap.objs.size f cd)
 N:=N
 s₀:=s
 H₀:=H
 env:=envOfC qual scope s.heap.objs.size f cd
 outer:=outer
 stack:=envOfC qual scope s.heap.objs.size f cd :: outer
 ex:=[]
 calm:=true
 fn:=fun _=>true
 pn:=[]
 xe:=fun e s'=>wpAny (model P w) (A.deeper (envOfC qual scope s.heap.objs.size f cd)) (leaving (envOfC qual scope s.heap.objs.size f cd) e) (fun _ s''=>CX outer H s E e s'') (fun e' s''=>CX outer H s E e' s'') s'
theorem Jnq {sc:Scope} {n:Nat} {x:Str} (h:sc.names.lookup x=some .cell):∃ c,(cellsFrom n sc.names []).lookup x=some c:=by
 have q:=PySem.W.cellsFrom_some sc.names n [] (.inl h);exact Option.isSome_iff_exists.mp q
theorem Jqs {CX:CXT} {P:Program} {w:World} {K:PySem.W.Frag} {mg:Str→Option Value} {base:Heap} {N ps:List Str} {qual:Str} {scope:Scope} {f:Addr} {cd:Value} {A:Around} {outer:List Env} {s s1:Shared} {H:Hp} {E:XK} {us:List Value} {vs:List V}
  (S:Jq N ps scope) (hd:A.handled=none) (e0:Jgh P w K mg base A outer s H) (hl:vs.length=ps.length) (r:JI vs us)
  (x:InCallC s s.heap.objs.size (bindL (envOfC qual scope s.heap.objs.size f cd).kindOf (ps.zip us) fun _=>none) (cellsFrom (s.heap.objs.size + 1) scope.names []) (bindC (envOfC qual scope s.heap.objs.size f cd).kindOf (ps.zip us) fun _=>none) s1) :
  Jo (Jae CX P w K mg base N qual scope f cd A outer s H E) [] (YW N vs) H s1:=by
 have hpl:ps.length≤N.length:=by have:=congrArg List.length S.pre; rw [List.length_take] at this; omega
 obtain ⟨h1,tk,rfl,hk⟩:=x.done;have noA:∀ b:Addr,b∉(Jae CX P w K mg base N qual scope f cd A outer s H E).ex:=fun b z=>absurd (show b∈([]:List Addr) from z) (by simp)
 refine ⟨⟨e0.mod,S.kind,rfl,rfl,Nat.le_refl _,fun y z c h1 h2=>?_,fun y hy=>?_,fun y c _ h=>?_,fun _=>hd,Around.frames_deeper e0.frames,.inr ⟨rfl,rfl⟩,fun b z=>absurd z (noA b),e0.bs,e0.bsz,fun b _ _=>noA b,fun b z=>absurd z (noA b),e0.funs,e0.frf⟩,
  rfl,e0.bare,Un.kept hk,⟨_,x.toInCall.ns,fun i y v h1 h2 h3=>?_⟩,fun y c h=>⟨_,x.cell y c h⟩,e0.hok.fresh (Nat.le_refl _),fun y c h=>?_,fun p hp=>absurd (show p∈([]:List (Addr×Obj)) from hp) (by simp),e0.hok.kept hk,?_⟩
 ·exact name_of_addr x.apart (PySem.mem_of_lookup h1) (PySem.mem_of_lookup h2)
 ·have hy:scope.names.lookup y=some .cell∨scope.names.lookup y=some .free:=hy;rcases hy with hy | hy
  ·exact Jnq hy
  ·exact absurd rfl (S.nofree _ (PySem.mem_of_lookup hy))
 ·exact Nat.le_of_lt (x.above y c (PySem.mem_of_lookup h))
 ·have hi:i < vs.length:=by
   unfold YW at h2;by_cases hi:i < vs.length
   ·exact hi
   ·rw [List.getElem?_append_right (by simpa using hi)] at h2;rw [List.getElem?_replicate] at h2;split at h2 <;> cases h2
  have ha:vs[i]?=some v:=by
   unfold YW at h2;rw [List.getElem?_append_left (by simpa using hi),List.getElem?_map] at h2;cases e:vs[i]? with
   | none=>rw [e] at h2; cases h2
   | some a=>rw [e] at h2; cases h2; rfl
  obtain ⟨u,hu,rv⟩:=r.get ha;have hp:ps[i]?=some y:=by
   rw [← S.pre,List.getElem?_take_of_lt (by omega)]; exact h1
  have ndP:ps.Nodup:=by rw [← S.pre]; exact S.nd.sublist (List.take_sublist _ _)
  refine ⟨u,rv,?_⟩;rcases S.par y (List.mem_of_getElem? hp) with k | k
  ·exact .inl ⟨k,JlQ ndP hp hu k⟩
  ·obtain ⟨c,e⟩:=Jnq (n:=s.heap.objs.size + 1) k;refine .inr ⟨.inl k,c,e,?_⟩;have q:=x.cell y c e;rw [JlS ndP hp hu (by show scope.names.lookup y≠_; rw [k]; decide)] at q;exact q
 ·exact e0.hok.fresh (Nat.le_of_lt (x.above y c (PySem.mem_of_lookup h)))
 ·unfold YW;show _=N.length;rw [List.length_append,List.length_map,List.length_replicate];omega
theorem JsG {CX:CXT} {P:Program} {w:World} {K:PySem.W.Frag} {mg:Str→Option Value} {base:Heap} {k:Nat} {f:Addr} {name qual:Str} {params:Arguments} {body:List Stmt} {scope:Scope} {dV kV doc pm cdv ct oc:Value} {an od:Option Addr}
  {osl:Array (Option Value)} {N ps:List Str} {sp:Sp} (lk:K.lookup f=some ⟨oc,od,.func (PySem.W.fnOf name qual params body scope dV kV doc pm an cdv ct),osl⟩) (hcd:PySem.W.codeIn K cdv qual=true) (S:Jq N ps scope)
  (len:∀ vs H Q E,sp vs H Q E→vs.length=ps.length)
  (hbody:∀ (A:Around) (outer:List Env) (s:Shared) (H:Hp) (vs:List V) (Q:VK) (E:XK),Zj k (A.deeper (envOfC qual scope s.heap.objs.size f cdv))→sp vs H Q E →
   ∃ t,PSs (Jae CX P w K mg base N qual scope f cdv A outer s H E) body t∧t { nx:=fun _ H'=>Q .non H',rt:=Q } (YW N vs) H) :
  JK P w K mg base CX (k + 1) f (PySem.W.fnOf name qual params body scope dV kV doc pm an cdv ct) ps sp:=by
 refine ⟨len,fun A outer s H args us vs Q E hr e0 hb r hsp=>?_⟩;have hl:=len _ _ _ _ hsp;have KX:K.In s.heap:=e0.mod.kin.keeps fun b o e=>(e0.bs b o e).1
 have lim:s.heap.NoLimit:=e0.mod.nolimit.keeps fun b o e=>(e0.bs b o e).1
 have hkind:∀ y∈ps.zip us,scope.names.lookup y.1=some .local∨(scope.names.lookup y.1=some .cell∧((cellsFrom (s.heap.objs.size + 1) scope.names []).lookup y.1).isSome=true):=fun ⟨n,v⟩ hy=>by
  rcases S.par n (List.of_mem_zip hy).1 with q | q
  ·exact .inl q
  ·exact .inr ⟨q,PySem.W.cellsFrom_some _ _ _ (.inl q)⟩
 refine codeAny_call_function hr.depth (KX _ _ lk) rfl S.co S.gen rfl (PySem.W.codeRec_of KX hcd) (hb _ _ _ _ ?_);refine wpAny_newFunctionEnv_cells S.kind hkind fun env he s1 x=>?_
 subst he;refine ⟨lim.keeps x.toInCall.keep,codeAny_func ?_⟩;obtain ⟨t,ht,hq⟩:=hbody A outer s H vs Q E (hr.deeper _) hsp;have I:Jo (Jae CX P w K mg base N qual scope f cdv A outer s H E) [] (YW N vs) H s1:=Jqs S hr.hd e0 hl r x;refine wpAny_mono (ht [] s1 (YW N vs) H _ I hq) (fun fl s' hs=>?_) fun e s' hs=>hs
 have fin:∀ {σ':St} {H':Hp} {v:V} {u:Value},Jo (Jae CX P w K mg base N qual scope f cdv A outer s H E) [] σ' H' s'→JT v u→Q v H'→CE outer P w H s Q u s' :=
  fun {σ' H' v u} J rv q=>⟨v,H',J.os,J.bare,J.base,J.hok,rv,q⟩
 cases fl with
 | ret u =>
  obtain ⟨v,σ',H',J,rv,q⟩:=hs;exact fin J rv q
 | next =>
  obtain ⟨σ',H',J,q⟩:=hs;exact fin (v:=V.non) (u:=Value.none) J rfl q
 | brk =>
  obtain ⟨_,_,_,q⟩:=hs;exact False.elim q
 | cont =>
  obtain ⟨_,_,_,q⟩:=hs;exact False.elim q
end L2
namespace L2
open PySem PySem.Spec PyProof.Rows
section
variable {X:Cx} {x:Str} {p pos:Pos} {e:Expr} {es:List Expr} {t:TA} {id T:String} {r:List V→Hp→VK→Prop}
def tCB (r:List V→Hp→VK→Prop) (t:TA):TE:=fun σ H Q=>t σ H fun vs H1=>r vs H1 Q
theorem JF (hc:Yx X (.builtin id) r) (hg:Gl X x) (hm:X.mg x=none) (hv:bootBuiltins x=some (.builtin id)) (ha:PA X (e :: es) t) (hn:x ≠ "__name__":=by decide) (hdb:(x == ("__debug__" : Str))=false:=by decide)
  (he:starEach (e :: es) X.env=(false,eval e X.env) :: starEach es X.env:=by rfl) (hpl:(backTo pos (starEach es X.env)).any (·.1)=false:=by rfl):PE X (.Call (.Name x p) (e :: es) [] pos) (tCB r t):=by
 intro pins s σ H Q I h;refine wpAny_Call_Name_kw (JhK I hg hm hv ?_ hn hdb);exact PyProof.Rows.callWith_builtin1 (JW (ha pos pins s σ H _ I h) fun us s1 ⟨vs,H1,I1,r1,q1⟩=>hc pins s1 σ H1 vs us Q I1 r1 q1) he hpl
theorem ZM (hc:Yx X (.type T) r) (hg:Gl X x) (hm:X.mg x=none) (hv:bootBuiltins x=some (.type T)) (ha:PA X (e :: es) t) (hn:x ≠ "__name__":=by decide) (hdb:(x == ("__debug__" : Str))=false:=by decide)
  (he:starEach (e :: es) X.env=(false,eval e X.env) :: starEach es X.env:=by rfl) (hpl:(backTo pos (starEach es X.env)).any (·.1)=false:=by rfl):PE X (.Call (.Name x p) (e :: es) [] pos) (tCB r t):=by
 intro pins s σ H Q I h;refine wpAny_Call_Name_kw (JhK I hg hm hv ?_ hn hdb);exact PyProof.Rows.callWith_type1 (JW (ha pos pins s σ H _ I h) fun us s1 ⟨vs,H1,I1,r1,q1⟩=>hc pins s1 σ H1 vs us Q I1 r1 q1) he hpl
end
end L2
namespace HT
open PySem PyProof.Rows
section
variable {prog:Program} {w:World} {A:Around} {E:Value→Shared→Prop} {s:Shared}
def Yz (n d:Nat):Option Int→Nat
 | none=>d
 | some v=>if v < 0 then (v + (n:Int)).toNat else min v.toNat n
theorem JmI (n d:Nat):Yz n d none=d:=rfl
theorem JnX (n d k:Nat):Yz n d (some (k:Int))=min k n:=by
 show (if (k:Int) < 0 then ((k:Int) + (n:Int)).toNat else min (k:Int).toNat n)=min k n;rw [if_neg (by omega),Int.toNat_natCast]
theorem Jt7 (n d:Nat) (hd:d≤n) (o:Option Int):Yz n d o≤n:=by
 cases o with
 | none=>exact hd
 | some v =>
  show (if v < 0 then (v + (n:Int)).toNat else min v.toNat n)≤n;by_cases hv:v < 0
  ·rw [if_pos hv]; omega
  ·rw [if_neg hv]; exact Nat.min_le_right _ _
theorem Joj (v:Int) (n d:Nat):(if v < 0 then max (v + (n:Int)) 0 else min v (n:Int))=((Yz n d (some v):Nat):Int):=by
 show (if v < 0 then max (v + (n:Int)) 0 else min v (n:Int))=(((if v < 0 then (v + (n:Int)).toNat else min v.toNat n):Nat):Int)
 by_cases hv:v < 0
 ·simp only [if_pos hv]; omega
 ·simp only [if_neg hv]; omega
theorem Jpn (lo hi:Option Int) (n:Nat):Builtin.Slice.sliceAdjust lo hi 1 (n:Int)=(((Yz n 0 lo:Nat):Int),((Yz n n hi:Nat):Int)):=by
 have h1:¬ ((1:Int) < 0):=by omega
 unfold Builtin.Slice.sliceAdjust;simp only [h1,if_false];refine Prod.ext ?_ ?_
 ·cases lo with
  | none=>rfl
  | some v=>exact Joj v n 0
 ·cases hi with
  | none=>rfl
  | some v=>exact Joj v n n
theorem JoP (i j:Nat):Builtin.Slice.slicePlaces (i:Int) (j:Int) 1=j - i:=by
 unfold Builtin.Slice.slicePlaces;have h1:(1:Int) > 0:=by omega
 simp only [h1,if_true,Int.ediv_one];split <;> omega
theorem JjF {v:Value} {o:Option Int} {Q:Option Int→Shared→Prop} (p:IsPart v o) (h:Q o s):wpAny (model prog w) A (Builtin.Slice.slicePartIndex v) Q E s:=by
 cases p with
 | none=>exact slicePart_none h
 | int i t=>exact slicePart_int h
theorem JiR {sl:Addr} {vl vu:Value} {lo hi:Option Int} {n:Nat} {Q:Int×Int×Nat→Shared→Prop} (hs:s.heap.IsSliceOf sl vl vu .none) (pl:IsPart vl lo) (pu:IsPart vu hi)
  (h:Q (((Yz n 0 lo:Nat):Int),1,Yz n n hi - Yz n 0 lo) s):wpAny (model prog w) A (Builtin.Slice.sliceApplied (.ref sl) (pure (n:Int))) Q E s:=by
 obtain ⟨os,hos,hcs,hds⟩:=id hs;unfold Builtin.Slice.sliceApplied Builtin.Slice.sliceFields;refine wpAny_bind (wpAny_bind (wpAny_field hos hds (x:=vl) rfl (wpAny_bind (wpAny_field hos hds (x:=vu) rfl (wpAny_bind (wpAny_field hos hds (x:=.none) rfl (wpAny_pure ?_)))))));refine wpAny_bind (slicePart_none ?_);show wpAny _ _ (if ((1:Int) == 0)=true then _ else _) _ _ s;rw [if_neg (by decide)];refine wpAny_bind (JjF pl (wpAny_bind (JjF pu (wpAny_bind (wpAny_pure ?_)))));show wpAny _ _ (match Builtin.Slice.sliceAdjust lo hi 1 (n:Int) with | (lo,hi)=>pure (lo,(1:Int),Builtin.Slice.slicePlaces lo hi 1)) _ _ s;rw [Jpn lo hi n];show wpAny _ _ (pure (((Yz n 0 lo:Nat):Int),(1:Int),Builtin.Slice.slicePlaces ((Yz n 0 lo:Nat):Int) ((Yz n n hi:Nat):Int) 1)) _ _ s;rw [JoP];exact wpAny_pure h
theorem JrM (xs:Array Value) (i k:Nat):((List.range k).filterMap fun (m:Nat)=>xs[((i:Int) + (m:Int) * 1).toNat]?).toArray=((xs.toList.drop i).take k).toArray:=by
 have e:(fun (m:Nat)=>xs[((i:Int) + (m:Int) * 1).toNat]?)=fun m=>xs[i + m]?:=by
  funext m;have:((i:Int) + (m:Int) * 1).toNat=i + m:=by omega
  rw [this]
 rw [e];have:=pick_run xs i k;rw [List.filterMap_map] at this;have e2:((fun x=>xs[x]?) ∘ fun x=>i + x)=fun m=>xs[i + m]?:=rfl
 rw [e2] at this;rw [this]
theorem JiB {t sl:Addr} {items:Array Value} {vl vu:Value} {lo hi:Option Int} {Q:Value→Shared→Prop} (ht:IsTup s.heap t items) (hs:s.heap.IsSliceOf sl vl vu .none) (pl:IsPart vl lo) (pu:IsPart vu hi)
  (hw:¬ (Yz items.size 0 lo=0∧Yz items.size items.size hi=items.size))
  (h:Q (.ref s.heap.objs.size) { s with heap:=s.heap.push { cls:=.type "tuple",data:=.seq ((items.toList.drop (Yz items.size 0 lo)).take (Yz items.size items.size hi - Yz items.size 0 lo)).toArray } })
  (hsz:items.size≤sizeLine):wpAny (model prog w) A (getItem (.ref t) (.ref sl)) Q E s:=by
 have htake:sizeOk (.seq ((items.toList.drop (Yz items.size 0 lo)).take (Yz items.size items.size hi - Yz items.size 0 lo)).toArray):=by
  show ((items.toList.drop (Yz items.size 0 lo)).take (Yz items.size items.size hi - Yz items.size 0 lo)).toArray.size≤sizeLine;rw [List.size_toArray,List.length_take,List.length_drop,Array.length_toList];omega
 have hj:Yz items.size items.size hi≤items.size:=Jt7 _ _ (Nat.le_refl _) hi;obtain ⟨os,hos,hcs,hds⟩:=id hs;have hTs:s.TypeIs (.ref sl) "slice":=⟨os,hos,hcs⟩
 unfold getItem
 try with_reducible refine wpAny_holding ?_
 first | refine wpAny_bind (wpAny_pure ?_) | skip
 refine wpAny_bind (wpAny_sequenceKey ht.typeIs (by decide) ?_);refine wpAny_bind (wpAny_callSpecial?_slot (name:=Str.ofString "__getitem__") ht.typeIs PyProof.Rows.slot_tuple_getitem
  (wpAny_call_entry PyProof.Rows.slot_tuple_getitem ht.typeIs entry_tuple_getitem ?_ (args_tuple_getitem _ _)))
 show wpAny _ _ (Builtin.Tuple.tupleItemsOf (.ref t) >>= _) _ _ s;refine wpAny_bind (tupleItemsOf_ ht ?_);refine wpAny_bind (wpAny_typeOf hTs ?_);rw [if_pos (by decide)];refine wpAny_bind (JiR hs pl pu ?_);have hno:¬ ((((Yz items.size 0 lo:Nat):Int) == 0 && (1:Int) == 1 && (Yz items.size items.size hi - Yz items.size 0 lo) == items.size)=true):=by
  intro q;rw [Bool.and_eq_true,Bool.and_eq_true] at q;have q1:((Yz items.size 0 lo:Nat):Int)=0:=eq_of_beq q.1.1;have q2:Yz items.size items.size hi - Yz items.size 0 lo=items.size:=eq_of_beq q.2;exact hw ⟨by omega,by omega⟩
 show wpAny _ _ (if (((Yz items.size 0 lo:Nat):Int) == 0 && (1:Int) == 1 && (Yz items.size items.size hi - Yz items.size 0 lo) == items.size)=true then _ else _) _ _ s;rw [if_neg hno,JrM]
 first
  | exact wpAny_bind (m:=Builtin.Tuple.tupleExact _) (wpAny_newObj_type (wpAny_pure ⟨_,rfl,wpAny_pure h⟩) htake)
  | exact wpAny_bind (m:=Builtin.Tuple.tupleExact _) (wpAny_newObj_type (wpAny_bind (wpAny_pure (wpAny_pure ⟨_,rfl,wpAny_pure h⟩))) htake)
  | exact wpAny_bind (wpAny_bind (m:=Builtin.Tuple.tupleExact _) (wpAny_newObj_type (wpAny_pure (wpAny_pure ⟨_,rfl,wpAny_pure h⟩)) htake))
  | exact wpAny_bind (wpAny_bind (m:=Builtin.Tuple.tupleExact _) (wpAny_newObj_type (wpAny_pure ⟨_,rfl,wpAny_pure h⟩) htake))
end
end HT
namespace L2
open PySem PySem.Spec PyProof.Rows
abbrev TO:=St→Hp→(Option Int→Hp→Prop)→Prop
def PO (X:Cx) (e:Option Expr) (t:TO):Prop :=
 ∀ (pins:List (Addr×Obj)) (s:Shared) (σ:St) (H:Hp) (Q:Option Int→Hp→Prop),Jo X pins σ H s→t σ H Q →
  wpAny (model X.prog X.w) X.A (evalPart e X.env) (fun u s'=>∃ o H',Jo X pins σ H' s'∧IsPart u o∧Q o H') X.xe s
def JsR:TO:=fun _ H Q=>Q none H
def JuS (t:TE):TO:=fun σ H Q=>t σ H fun x H1=>∃ i,x=.int i∧Q (some i) H1
section
variable {X:Cx} {e:Expr} {te:TE} {lo hi:Option Expr} {tl th:TO} {pos p2:Pos}
theorem Jij:PO X none JsR:=by
 intro pins s σ H Q I h;rw [evalPart_none];exact wpAny_pure ⟨none,H,I,.none,h⟩
theorem Jeu (h:PE X e te):PO X (some e) (JuS te):=by
 intro pins s σ H Q I hw;rw [evalPart_some];refine JW (h pins s σ H _ I hw) fun u s1 ⟨x,H1,I1,r1,q1⟩=>?_
 obtain ⟨i,rfl,q⟩:=q1;obtain ⟨t,rfl⟩:=r1;exact ⟨some i,H1,I1,.int i t,q⟩
def SlR (X:Cx) (r:V→Option Int→Option Int→Hp→VK→Prop):Prop :=
 ∀ (pins:List (Addr×Obj)) (s:Shared) (σ:St) (H:Hp) (x:V) (v vl vu:Value) (lo hi:Option Int) (sl:Addr) (Q:VK),Jo X pins σ H s→JT x v→s.heap.IsSliceOf sl vl vu .none→IsPart vl lo→IsPart vu hi→r x lo hi H Q →
  ∃ T id,typeLookup (.type T) "__getitem__" = pure (some (.builtin id))∧s.TypeIs v T∧wpAny (model X.prog X.w) X.A (getItem v (.ref sl)) (EP X pins σ Q) X.xe s
theorem SlR.or {r r':V→Option Int→Option Int→Hp→VK→Prop} (h:SlR X r) (h':SlR X r'):SlR X (fun x lo hi H Q=>r x lo hi H Q∨r' x lo hi H Q):=by
 intro pins s σ H x v vl vu lo hi sl Q I rx hs pl pu q;rcases q with q | q
 ·exact h pins s σ H x v vl vu lo hi sl Q I rx hs pl pu q
 ·exact h' pins s σ H x v vl vu lo hi sl Q I rx hs pl pu q
def tSl (r:V→Option Int→Option Int→Hp→VK→Prop) (te:TE) (tl th:TO):TE:=fun σ H Q=>te σ H fun x H1=>tl σ H1 fun l H2=>th σ H2 fun u H3=>r x l u H3 Q
theorem Je0 {r:V→Option Int→Option Int→Hp→VK→Prop} (hr:SlR X r) (he:PE X e te) (hl:PO X lo tl) (hu:PO X hi th):PE X (.Subscript e (.Slice lo hi none p2) pos) (tSl r te tl th):=by
 intro pins s σ H Q I h;refine Subscript_ (JW (he pins s σ H _ I h) fun v s1 ⟨x,H1,I1,r1,q1⟩=>?_);refine wpAny_Slice (JW (hl pins s1 σ H1 _ I1 q1) fun vl s2 ⟨l,H2,I2,pl,q2⟩=>JW (hu pins s2 σ H2 _ I2 q2) fun vu s3 ⟨u,H3,I3,pu,q3⟩=>?_);rw [evalPart_none];refine wpAny_pure ?_;have I4:Jo X pins σ H3 { s3 with heap:=s3.heap.push { cls:=.type "slice",data:=.fields #[vl,vu,.none] } }:=I3.kept (t':=s3.toks) fun b ob q=>Heap.get?_push_of_some _ q
 obtain ⟨T,id,hT,ht,hg⟩:=hr pins { s3 with heap:=s3.heap.push { cls:=.type "slice",data:=.fields #[vl,vu,.none] } } σ H3 x v vl vu l u s3.heap.objs.size Q I4 r1 (Heap.IsSliceOf.new ..) pl pu q3;show wpAny (model X.prog X.w) X.A (subscriptTail e (.Slice lo hi none p2) v (.ref s3.heap.objs.size)) (EP X pins σ Q) X.xe { s3 with heap:=s3.heap.push { cls:=.type "slice",data:=.fields #[vl,vu,.none] } };exact tail_any (ops:=[.ref s3.heap.objs.size,v]) ht hT hg (by with_unfolding_all rfl)
def ZR (xs:List V) (lo hi:Option Int):List V:=(xs.drop (HT.Yz xs.length 0 lo)).take (HT.Yz xs.length xs.length hi - HT.Yz xs.length 0 lo)
theorem JiJ (xs:List V) (lo hi:Option Int):(ZR xs lo hi).length≤xs.length:=by
 unfold ZR;rw [List.length_take,List.length_drop];omega
def JvO (K:PySem.W.Frag):V→Option Int→Option Int→Hp→VK→Prop:=fun x lo hi H Q=>∃ a xs,x=.ref a∧JL K H a xs ∧
 ¬ (HT.Yz xs.length 0 lo=0∧HT.Yz xs.length xs.length hi=xs.length)∧∀ p,H p=none→Q (.ref p) (upd H p (.tup (ZR xs lo hi)))
theorem Jt1:SlR X (JvO X.K):=by
 intro pins s σ H x v vl vu lo hi sl Q I rx hs pl pu h;obtain ⟨a,xs,rfl,hx,hw,q⟩:=h;cases rx;obtain ⟨its,r,ht,hz⟩:=I.tuple hx;have hlen:its.toArray.size=xs.length:=by rw [List.size_toArray]; exact r.length.symm
 refine ⟨"tuple",_,PyProof.Rows.slot_tuple_getitem.lookup,ht.typeIs,?_⟩;refine HT.JiB ht hs pl pu (by rw [hlen]; exact hw) ?_ (by rw [hlen]; exact hz);rw [hlen];refine ⟨.ref s.heap.objs.size,_,I.laid (t':=s.toks) (o:=.tup (ZR xs lo hi)) (fun b ob q=>Heap.get?_push_of_some _ q) (Nat.le_refl _) ?_,rfl,q _ (I.hok.fresh (Nat.le_refl _))⟩;exact ⟨Nat.le_trans (JiJ xs lo hi) hz,_,(r.drop (HT.Yz xs.length 0 lo)).take (HT.Yz xs.length xs.length hi - HT.Yz xs.length 0 lo),IsTup.new _ _⟩
end
end L2
namespace L2
open PySem PySem.Spec PyProof.Rows
def ixN (n:Nat) (i:Int):Option Nat:=if 0≤i then (if i < n then some i.toNat else none) else if -(n:Int)≤i then some (i + n).toNat else none
def atI {α:Type} (xs:List α) (i:Int):Option α:=(ixN xs.length i).bind fun j=>xs[j]?
theorem Jn5 {n:Nat} {i:Int} {j:Nat} (h:ixN n i=some j):seqIndex? i n=some j∧j < n∧-(n:Int)≤i∧i < n:=by
 unfold ixN at h;by_cases h0:0≤i
 ·rw [if_pos h0] at h;by_cases h1:i < n
  ·rw [if_pos h1] at h;have e:i.toNat=j:=Option.some.inj h;exact ⟨by rw [seqIndex_of h0 h1,e],by omega,by omega,h1⟩
  ·rw [if_neg h1] at h; cases h
 ·rw [if_neg h0] at h;by_cases h1:-(n:Int)≤i
  ·rw [if_pos h1] at h;have e:(i + n).toNat=j:=Option.some.inj h;exact ⟨by rw [seqIndex_neg (by omega) h1,e],by omega,h1,by omega⟩
  ·rw [if_neg h1] at h; cases h
theorem Jlc {α:Type} {xs:List α} {i:Int} {v:α} (h:atI xs i=some v):∃ j,seqIndex? i xs.length=some j∧xs[j]?=some v∧j < xs.length∧-(xs.length:Int)≤i∧i < xs.length:=by
 unfold atI at h;cases e:ixN xs.length i with
 | none=>rw [e] at h; cases h
 | some j =>
  rw [e] at h;obtain ⟨h1,h2,h3,h4⟩:=Jn5 e;exact ⟨j,h1,h,h2,h3,h4⟩
theorem Zr {α:Type} {xs:List α} {j:Nat} {v:α} (h:xs[j]?=some v):atI xs (j:Int)=some v:=by
 have hj:j < xs.length:=(List.getElem?_eq_some_iff.mp h).1;have e:ixN xs.length (j:Int)=some j:=by
  unfold ixN;rw [if_pos (by omega),if_pos (by omega)]; simp
 unfold atI; rw [e]; exact h
theorem Jab {α:Type} (xs:List α) (v:α):atI (xs ++ [v]) (-1)=some v:=by
 have hl:(xs ++ [v]).length=xs.length + 1:=by simp
 have e:ixN (xs ++ [v]).length (-1)=some xs.length:=by
  unfold ixN;rw [hl,if_neg (by decide),if_pos (by omega)];congr 1;omega
 unfold atI;rw [e];show (xs ++ [v])[xs.length]?=some v;simp
def JtL (b:Expr):Prop:=∀ o i,subscripted b false o i=operate [o,i] (getItem o i)
def IxR (X:Cx) (r:R2):Prop :=
 ∀ (value slice:Expr) (pins:List (Addr×Obj)) (s:Shared) (σ:St) (H:Hp) (x y:V) (v u:Value) (Q:VK),Jo X pins σ H s→JT x v→JT y u→r x y H Q →
  subscripted slice false v u=operate [v,u] (getItem v u)→wpAny (model X.prog X.w) X.A (subscriptTail value slice v u) (EP X pins σ Q) X.xe s
def MtR (X:Cx) (id:String) (r:V→List V→Hp→VK→Prop):Prop :=
 ∀ (pins:List (Addr×Obj)) (s:Shared) (σ:St) (H:Hp) (x:V) (xs:List V) (v:Value) (us:List Value) (Q:VK),Jo X pins σ H s→JT x v→JI xs us→r x xs H Q →
  wpAny (model X.prog X.w) X.A (call (.builtin id) (v :: us)) (EP X pins σ Q) X.xe s
section
variable {X:Cx} {a b:Expr} {ta tb:TE} {pos:Pos}
theorem IxR.or {r r':R2} (h:IxR X r) (h':IxR X r'):IxR X (fun x y H Q=>r x y H Q∨r' x y H Q):=by
 intro value slice pins s σ H x y v u Q I rx ry q hs;rcases q with q | q
 ·exact h value slice pins s σ H x y v u Q I rx ry q hs
 ·exact h' value slice pins s σ H x y v u Q I rx ry q hs
theorem MtR.or {id:String} {r r':V→List V→Hp→VK→Prop} (h:MtR X id r) (h':MtR X id r'):MtR X id (fun x xs H Q=>r x xs H Q∨r' x xs H Q):=by
 intro pins s σ H x xs v us Q I rx rs q;rcases q with q | q
 ·exact h pins s σ H x xs v us Q I rx rs q
 ·exact h' pins s σ H x xs v us Q I rx rs q
theorem JG {r:R2} (hr:IxR X r) (ha:PE X a ta) (hb:PE X b tb) (hs:JtL b):PE X (.Subscript a b pos) (tOp r ta tb):=by
 intro pins s σ H Q I h;exact Subscript_ (Jsm ha hb I h fun v u s2 x y H2 I2 rx ry q=>hr a b pins s2 σ H2 x y v u Q I2 rx ry q (hs _ _))
def Jhs (K:PySem.W.Frag):R2:=fun x y H Q=>∃ p xs i v,x=.ref p∧y=.int i∧JC K H p xs∧atI xs i=some v∧Q v H
def JoN (K:PySem.W.Frag):R2:=fun x y H Q=>∃ p xs i v,x=.ref p∧y=.int i∧JL K H p xs∧atI xs i=some v∧Q v H
def Jud:R2:=fun x y H Q=>∃ z i c,x=.str z∧y=.int i∧z.length≤sizeLine∧atI z.cps.toList i=some c∧Q (.str ⟨#[c]⟩) H
theorem JU:IxR X (Jhs X.K):=by
 intro value slice pins s σ H x y v u Q I rx ry h hs;obtain ⟨p,xs,i,z,rfl,rfl,hq,he,q⟩:=h;cases rx;obtain ⟨t,rfl⟩:=ry;obtain ⟨its,r,pl,hz⟩:=I.list hq;obtain ⟨j,h1,h2,h3,h4,h5⟩:=Jlc he;obtain ⟨w,ew,rw'⟩:=r.get h2;have hl:=r.length;have hn:=Jgx;have fin:EP X pins σ Q w s:=⟨z,H,I,rw',q⟩
 by_cases h0:0≤i
 ·have hj:i.toNat=j:=by
   rw [seqIndex_of h0 h5] at h1;exact Option.some.inj h1
  exact item_listR pl.isList h0 (by omega) (by rw [hj]; simpa using ew) fin hs
 ·have hj:(i + (its.toArray.size:Int)).toNat=j:=by
   rw [seqIndex_neg (by omega) h4] at h1;rw [List.size_toArray,← hl];exact Option.some.inj h1
  exact subscriptTail_builtinR (x:=w) pl.isList.typeIs slot_list_getitem.lookup
   (wpAny_getItem_list_neg (Q:=fun r s'=>r=w∧EP X pins σ Q r s') pl.isList (by omega) (by rw [List.size_toArray] <;> omega) (by omega) (by rw [hj]; simpa using ew) ⟨rfl,fin⟩) hs
theorem JX:IxR X (JoN X.K):=by
 intro value slice pins s σ H x y v u Q I rx ry h hs;obtain ⟨p,xs,i,z,rfl,rfl,hq,he,q⟩:=h;cases rx;obtain ⟨t,rfl⟩:=ry;obtain ⟨its,r,pl,hz⟩:=I.tuple hq;obtain ⟨j,h1,h2,h3,h4,h5⟩:=Jlc he;obtain ⟨w,ew,rw'⟩:=r.get h2;have hl:=r.length;have hn:=Jgx;have fin:EP X pins σ Q w s:=⟨z,H,I,rw',q⟩
 exact subscriptTail_builtinR (x:=w) pl.typeIs slot_tuple_getitem.lookup
  (getItem_tuple (j:=j) (Q:=fun r s'=>r=w∧EP X pins σ Q r s') pl (by omega) (by omega) (by rw [List.size_toArray,← hl]; exact h1) (by simpa using ew) ⟨rfl,fin⟩) hs
theorem Jm5:IxR X Jud:=by
 intro value slice pins s σ H x y v u Q I rx ry h hs;obtain ⟨z,i,c,rfl,rfl,hz,he,q⟩:=h;obtain ⟨t,rfl⟩:=rx;obtain ⟨t',rfl⟩:=ry;obtain ⟨j,h1,h2,h3,h4,h5⟩:=Jlc he;have hl:z.cps.toList.length=z.length:=by simp [Str.length]
 rw [hl] at h1 h4 h5;have hn:=Jgx;exact tail_any (typeIs_str s z t) slot_str_getitem.lookup (getItem_str (c:=c) (by
  have e1:decide (i < -(2 ^ 63:Int))=false:=decide_eq_false (by omega);have e2:decide (i≥2 ^ 63)=false:=decide_eq_false (by omega);rw [e1,e2,Bool.or_false]) (by rw [h1]; simpa using h2) ⟨.str ⟨#[c]⟩,H,I.tok _,⟨_,rfl⟩,q⟩) hs
def rIx (K:PySem.W.Frag):R2:=fun x y H Q=>Jhs K x y H Q∨JoN K x y H Q∨Jud x y H Q
theorem Jqq:IxR X (rIx X.K):=JU.or (JX.or Jm5)
theorem JoZ (its:List Value) (n j:Nat) (u:Value):Obj.mapSeq (·.setIfInBounds j u) { cls:=.type "list",data:=.seq its.toArray n }={ cls:=.type "list",data:=.seq (its.set j u).toArray n }:=by
 simp [Obj.mapSeq]
theorem Jo.lst {pins:List (Addr×Obj)} {σ:St} {H:Hp} {s:Shared} {p:Addr} {xs:List V} (I:Jo X pins σ H s) (h:H p=some (.lst xs)) :
  ∃ (its:List Value) (n:Nat),JI xs its∧s.heap.get? p=some { cls:=.type "list",data:=.seq its.toArray n }∧xs.length≤sizeLine:=by
 obtain ⟨z,its,n,r,e⟩:=I.hok p _ h;exact ⟨its,n,r,e,z⟩
theorem Jo.lstUpd {pins:List (Addr×Obj)} {σ:St} {H:Hp} {s:Shared} {p:Addr} {xs ys:List V} {its its':List Value} {n n':Nat} {f:Obj→Obj} (I:Jo X pins σ H s) (h:H p=some (.lst xs))
  (ho:s.heap.get? p=some { cls:=.type "list",data:=.seq its.toArray n }) (hf:f { cls:=.type "list",data:=.seq its.toArray n }={ cls:=.type "list",data:=.seq its'.toArray n' }) (r:JI ys its') (hz:ys.length≤sizeLine) (t:Nat) :
  Jo X pins σ (upd H p (.lst ys)) { s with heap:=s.heap.update p f,toks:=t }:=by
 have e:(s.heap.update p f).get? p=some { cls:=.type "list",data:=.seq its'.toArray n' }:=by
  rw [Heap.get?_update_self f ho (by rw [hf] <;> rfl),hf]
 refine I.write (x:=p) (e:=p) (by rw [h]; trivial) (.inl rfl) (fun b u hb q=>(Heap.get?_update_other _ _ (Ne.symm hb)).trans q) ⟨_,e⟩ ?_;exact ⟨hz,its',n',r,e⟩
def Ju7:V→V→V→Hp→(Hp→Prop)→Prop:=fun o i v H Q=>∃ p xs k j,o=.ref p∧i=.int k∧H p=some (.lst xs)∧ixN xs.length k=some j∧Q (upd H p (.lst (xs.set j v)))
theorem Jru:JuL X Ju7:=by
 intro pins s σ H o i v ov iv u Q I ro ri rv h;obtain ⟨p,xs,k,j,rfl,rfl,hp,hj,q⟩:=h;cases ro;obtain ⟨t,rfl⟩:=ri;obtain ⟨its,n,r,ho,hz⟩:=I.lst hp;obtain ⟨h1,h2,h3,h4⟩:=Jn5 hj;have hl:=r.length;have hn:=Jgx;have I':Jo X pins σ (upd H p (.lst (xs.set j v))) { s with heap:=s.heap.update p (Obj.mapSeq (·.setIfInBounds j u)) } :=
  I.lstUpd hp ho (JoZ its n j u) (r.set rv j) (by rw [List.length_set]; exact hz) s.toks
 by_cases h0:0≤k
 ·have hk:k.toNat=j:=by
   rw [seqIndex_of h0 h4] at h1;exact Option.some.inj h1
  exact PySem.W.ki_setAt ho h0 (by omega) (by rw [List.size_toArray,← hl]; exact h4) (by rw [hk]; exact ⟨_,I',q⟩)
 ·have hk:(k + (its.toArray.size:Int)).toNat=j:=by
   rw [seqIndex_neg (by omega) h3] at h1;rw [List.size_toArray,← hl];exact Option.some.inj h1
  exact PySem.W.ki_setBack ho (by omega) (by rw [List.size_toArray,← hl]; exact h3) (by omega) (by rw [hk]; exact ⟨_,I',q⟩)
theorem Jmv (lo hi:Option Int) (n:Nat):(sliceBounds lo hi none n).1=((HT.Yz n 0 lo:Nat):Int)∧(sliceBounds lo hi none n).2.1=((HT.Yz n n hi:Nat):Int)∧(sliceBounds lo hi none n).2.2=1:=by
 refine ⟨?_,?_,rfl⟩
 ·cases lo with
  | none=>simp [sliceBounds,HT.Yz]
  | some i =>
   simp only [sliceBounds,HT.Yz,Option.getD_none,show (1:Int) > 0 by decide,if_true];by_cases h:i < 0
   ·simp only [h,if_true] <;> omega
   ·simp only [h,if_false] <;> omega
 ·cases hi with
  | none=>simp [sliceBounds,HT.Yz]
  | some i =>
   simp only [sliceBounds,HT.Yz,Option.getD_none,show (1:Int) > 0 by decide,if_true];by_cases h:i < 0
   ·simp only [h,if_true] <;> omega
   ·simp only [h,if_false] <;> omega
theorem JlX (its:List Value) (lo hi:Option Int):slicePick its.toArray lo hi none=((its.drop (HT.Yz its.length 0 lo)).take (HT.Yz its.length its.length hi - HT.Yz its.length 0 lo)).toArray:=by
 obtain ⟨h1,h2,h3⟩:=Jmv lo hi its.toArray.size;unfold slicePick;rw [h1,h2,h3];simp only [sliceRange_one,pick_run,List.size_toArray] <;> rfl
def JvP (K:PySem.W.Frag):V→Option Int→Option Int→Hp→VK→Prop:=fun x lo hi H Q=>∃ a xs,x=.ref a∧JC K H a xs∧∀ p,H p=none→Q (.ref p) (upd H p (.lst (ZR xs lo hi)))
theorem Jie:SlR X (JvP X.K):=by
 intro pins s σ H x v vl vu lo hi sl Q I rx hs pl pu h;obtain ⟨a,xs,rfl,hx,q⟩:=h;cases rx;obtain ⟨its,r,ht,hz⟩:=I.list hx;have hlen:=r.length;refine ⟨"list",_,slot_list_getitem.lookup,ht.isList.typeIs,?_⟩;refine wpAny_getItem_list_slice ht.isList hs pl pu .none (by simp) ?_ (by rw [List.size_toArray] <;> omega);rw [JlX,← hlen];refine ⟨.ref s.heap.objs.size,_,I.laid (t':=s.toks) (o:=.lst (ZR xs lo hi)) (fun b ob q=>Heap.get?_push_of_some _ q) (Nat.le_refl _) ?_,rfl,q _ (I.hok.fresh (Nat.le_refl _))⟩;exact ⟨Nat.le_trans (JiJ xs lo hi) hz,_,0,(r.drop (HT.Yz xs.length 0 lo)).take (HT.Yz xs.length xs.length hi - HT.Yz xs.length 0 lo),Heap.get?_push_size _ rfl⟩
def JbG:V→Bool
 | .non=>true
 | .bl _=>true
 | .int _=>true
 | .str _=>true
 | _=>false
def eqV:V→V→Bool
 | .non,.non=>true
 | .bl a,.bl b=>a == b
 | .bl a,.int b=>(if a then 1 else 0) == b
 | .int a,.bl b=>a == (if b then 1 else 0)
 | .int a,.int b=>a == b
 | .str a,.str b=>a == b
 | _,_=>false
theorem JqD {A:Around} {s:Shared} {y x:V} {u v:Value} (ry:JT y u) (rx:JT x v) (fy:JbG y=true) (fx:JbG x=true):SeqAt.EqAt A s u v (eqV y x):=by
 cases y with
 | non =>
  cases ry;cases x with
  | non=>cases rx; exact SeqAt.EqAt.same _
  | bl b=>cases rx; exact SeqAt.EqAt.none_bool b
  | int b=>obtain ⟨t,rfl⟩:=rx; exact SeqAt.EqAt.none_int b t
  | str b=>obtain ⟨t,rfl⟩:=rx; exact SeqAt.EqAt.none_str b t
  | _=>exact absurd (show false=true from fx) Bool.false_ne_true
 | bl a =>
  cases ry;cases x with
  | non=>cases rx; exact SeqAt.EqAt.bool_none a
  | bl b=>cases rx; exact SeqAt.EqAt.bool_bool a b
  | int b=>obtain ⟨t,rfl⟩:=rx; exact SeqAt.EqAt.bool_int a b t
  | str b=>obtain ⟨t,rfl⟩:=rx; exact SeqAt.EqAt.bool_str a b t
  | _=>exact absurd (show false=true from fx) Bool.false_ne_true
 | int a =>
  obtain ⟨t',rfl⟩:=ry;cases x with
  | non=>cases rx; exact SeqAt.EqAt.int_none a t'
  | bl b=>cases rx; exact SeqAt.EqAt.int_bool a t' b
  | int b=>obtain ⟨t,rfl⟩:=rx; exact SeqAt.EqAt.int_int a t' b t
  | str b=>obtain ⟨t,rfl⟩:=rx; exact SeqAt.EqAt.int_str a t' b t
  | _=>exact absurd (show false=true from fx) Bool.false_ne_true
 | str a =>
  obtain ⟨t',rfl⟩:=ry;cases x with
  | non=>cases rx; exact SeqAt.EqAt.str_none a t'
  | bl b=>cases rx; exact SeqAt.EqAt.str_bool a t' b
  | int b=>obtain ⟨t,rfl⟩:=rx; exact SeqAt.EqAt.str_int a t' b t
  | str b=>obtain ⟨t,rfl⟩:=rx; exact SeqAt.EqAt.str_str a t' b t
  | _=>exact absurd (show false=true from fx) Bool.false_ne_true
 | _=>exact absurd (show false=true from fy) Bool.false_ne_true
def eqU (x:V) (u:Value):Bool:=match u with
 | .none=>eqV .non x
 | .bool b=>eqV (.bl b) x
 | .int i _=>eqV (.int i) x
 | .str z _=>eqV (.str z) x
 | _=>false
theorem JqC {x y:V} {u:Value} (r:JT y u) (f:JbG y=true):eqU x u=eqV y x:=by
 cases y with
 | non=>cases r; rfl
 | bl b=>cases r; rfl
 | int i=>obtain ⟨t,rfl⟩:=r; rfl
 | str z=>obtain ⟨t,rfl⟩:=r; rfl
 | _=>exact absurd (show false=true from f) Bool.false_ne_true
theorem JgG {x:V}:∀ {xs:List V} {us:List Value},JI xs us→xs.all JbG=true→us.any (eqU x)=xs.any fun y=>eqV y x
 | _,_,.nil,_=>rfl
 | y :: xs,u :: us,.cons r t,f=>by
  rw [List.all_cons,Bool.and_eq_true] at f;rw [List.any_cons,List.any_cons,JqC r f.1,JgG t f.2]
theorem Je6 {A:Around} {s:Shared} {x:V} {v:Value} (rx:JT x v) (fx:JbG x=true):∀ {xs:List V} {us:List Value},JI xs us→xs.all JbG=true→∀ u∈us,SeqAt.EqAt A s u v (eqU x u)
 | _,_,.nil,_=>fun u hu=>by cases hu
 | y :: xs,u :: us,.cons r t,f=>fun u' hu=>by
  rw [List.all_cons,Bool.and_eq_true] at f;rcases List.mem_cons.mp hu with rfl | hu
  ·rw [JqC r f.1]; exact JqD r rx f.1 fx
  ·exact Je6 rx fx t f.2 u' hu
def inV (x:V) (xs:List V):Bool:=xs.any fun y=>eqV y x
def rIn (K:PySem.W.Frag) (neg:Bool):R2:=fun x y H Q=>∃ p xs,y=.ref p∧(JC K H p xs∨JL K H p xs)∧JbG x=true∧xs.all JbG=true∧Q (.bl (if neg then !inV x xs else inV x xs)) H
theorem Jlt:ZV X (compareOp .In) (rIn X.K false):=by
 intro pins s σ H x y v u Q I rx ry h;obtain ⟨p,xs,rfl,hq,fx,fs,q⟩:=h;cases ry;rcases hq with hq | hq
 ·obtain ⟨its,r,pl,hz⟩:=I.list hq;refine SeqAt.in_listAt (eqU x) pl.isList (fun w hw=>Je6 rx fx r fs w (by simpa using hw)) ⟨.bl _,H,I,rfl,?_⟩;rw [show its.toArray.any (eqU x)=its.any (eqU x) by simp,JgG r fs];exact q
 ·obtain ⟨its,r,pl,hz⟩:=I.tuple hq;refine SeqAt.in_tupleAt (eqU x) pl (fun w hw=>Je6 rx fx r fs w (by simpa using hw)) ⟨.bl _,H,I,rfl,?_⟩;rw [show its.toArray.any (eqU x)=its.any (eqU x) by simp,JgG r fs];exact q
theorem Jcy:ZV X (compareOp .NotIn) (rIn X.K true):=by
 intro pins s σ H x y v u Q I rx ry h;obtain ⟨p,xs,rfl,hq,fx,fs,q⟩:=h;cases ry;rcases hq with hq | hq
 ·obtain ⟨its,r,pl,hz⟩:=I.list hq;refine SeqAt.notIn_listAt (eqU x) pl.isList (fun w hw=>Je6 rx fx r fs w (by simpa using hw)) ⟨.bl _,H,I,rfl,?_⟩;rw [show its.toArray.any (eqU x)=its.any (eqU x) by simp,JgG r fs];exact q
 ·obtain ⟨its,r,pl,hz⟩:=I.tuple hq;refine SeqAt.notIn_tupleAt (eqU x) pl (fun w hw=>Je6 rx fx r fs w (by simpa using hw)) ⟨.bl _,H,I,rfl,?_⟩;rw [show its.toArray.any (eqU x)=its.any (eqU x) by simp,JgG r fs];exact q
theorem Yh:Yx X (.builtin "len") (fun xs H Q=>∃ p ys,xs=[.ref p]∧(JC X.K H p ys∨JL X.K H p ys)∧Q (.int ys.length) H):=by
 intro pins s σ H xs us Q I r h;obtain ⟨p,ys,rfl,hq,q⟩:=h;obtain ⟨u,rfl,rx⟩:=Jmb r;cases rx;have hn:=Jgx;rcases hq with hq | hq
 ·obtain ⟨its,r',pl,hz⟩:=I.list hq;have hlen:=r'.length;exact Calls.call_len_list pl.isList (by simp only [List.size_toArray] <;> omega) ⟨.int ys.length,H,I.tok _,⟨s.toks + 1,by rw [List.size_toArray,hlen]⟩,q⟩
 ·obtain ⟨its,r',pl,hz⟩:=I.tuple hq;have hlen:=r'.length;exact len_tuple pl (by simp only [List.size_toArray] <;> omega) ⟨.int ys.length,H,I.tok _,⟨s.toks + 1,by rw [List.size_toArray,hlen]⟩,q⟩
theorem Jh3:Yx X (.builtin "len") (fun xs H Q=>∃ z,xs=[.str z]∧z.length≤sizeLine∧Q (.int z.length) H):=by
 intro pins s σ H xs us Q I r h;obtain ⟨z,rfl,hz,q⟩:=h;obtain ⟨u,rfl,t,rfl⟩:=Jmb r;have hn:=Jgx;exact len_str (by omega) ⟨.int z.length,H,I.tok _,⟨_,rfl⟩,q⟩
theorem Yx.or {f:Value} {r r':List V→Hp→VK→Prop} (h:Yx X f r) (h':Yx X f r'):Yx X f (fun xs H Q=>r xs H Q∨r' xs H Q):=by
 intro pins s σ H xs us Q I rs q;rcases q with q | q
 ·exact h pins s σ H xs us Q I rs q
 ·exact h' pins s σ H xs us Q I rs q
theorem Jfx:Yx X (.type "list") (fun xs H Q=>∃ p ys,xs=[.ref p]∧(JC X.K H p ys∨JL X.K H p ys)∧∀ l,H l=none→Q (.ref l) (upd H l (.lst ys))):=by
 intro pins s σ H xs us Q I r h;obtain ⟨p,ys,rfl,hq,q⟩:=h;obtain ⟨u,rfl,rx⟩:=Jmb r;cases rx;have fin:∀ (its:List Value),JI ys its→ys.length≤sizeLine→∀ (h':Heap) (c':Nat),(∀ b o',s.heap.get? b=some o'→h'.get? b=some o') →
   h'.get? s.heap.objs.size=some { cls:=.type "list",dict:=none,data:=.seq its.toArray c',slots:=#[] }→EP X pins σ Q (.ref s.heap.objs.size) { s with heap:=h' }:=fun its r' hz h' c' kp e =>
  ⟨.ref s.heap.objs.size,_,I.laid (t':=s.toks) kp (Nat.le_refl _) (show YL X.prog X.w _ h' _ (.lst ys) from ⟨hz,its,c',r',e⟩),rfl,q _ (I.hok.fresh (Nat.le_refl _))⟩
 rcases hq with hq | hq
 ·obtain ⟨its,r',pl,hz⟩:=I.list hq;have hlen:=r'.length;obtain ⟨o,ho,hc,n,hd⟩:=pl.isList;exact call_list_seq p (.inl rfl) ho hc hd (fun h' c' kp e=>fin its r' hz h' c' kp e) (by simp only [List.size_toArray] <;> omega)
 ·obtain ⟨its,r',pl,hz⟩:=I.tuple hq;have hlen:=r'.length;obtain ⟨o,ho,hc,n,hd⟩:=pl;exact call_list_seq p (.inr rfl) ho hc hd (fun h' c' kp e=>fin its r' hz h' c' kp e) (by simp only [List.size_toArray] <;> omega)
theorem ZS:Yx X (.type "tuple") (fun xs H Q=>∃ p ys,xs=[.ref p]∧((JC X.K H p ys∧∀ l,H l=none→Q (.ref l) (upd H l (.tup ys)))∨(JL X.K H p ys∧Q (.ref p) H))):=by
 intro pins s σ H xs us Q I r h;obtain ⟨p,ys,rfl,h⟩:=h;obtain ⟨u,rfl,rx⟩:=Jmb r;cases rx;rcases h with ⟨hq,q⟩ | ⟨hq,q⟩
 ·obtain ⟨its,r',pl,hz⟩:=I.list hq;have hlen:=r'.length;refine call_tuple_list pl.isList (fun h' kp=>?_) (by simp only [List.size_toArray] <;> omega);have I1:Jo X pins σ H { s with heap:=h' }:=I.kept (t':=s.toks) kp;have I2:Jo X pins σ (upd H h'.objs.size (.tup ys)) { s with heap:=h'.push { cls:=.type "tuple",data:=.seq its.toArray } } :=
   I1.laid (t':=s.toks) (fun b o e=>Heap.get?_push_of_some _ e) (Nat.le_refl _) (show YL X.prog X.w _ _ _ (.tup ys) from ⟨hz,its,r',IsTup.new _ _⟩)
  exact ⟨.ref h'.objs.size,_,I2,rfl,q _ (I1.hok.fresh (Nat.le_refl _))⟩
 ·obtain ⟨its,r',pl,hz⟩:=I.tuple hq;exact call_tuple_same pl ⟨.ref p,H,I,rfl,q⟩
def tyV (K:PySem.W.Frag) (T:String) (x:V) (H:Hp):Prop:=match x with
 | .str _=>T = "str"
 | .int _=>T = "int"
 | .ref p=>(T = "list"∧∃ xs,JC K H p xs)∨(T = "tuple"∧∃ o,K.lookup p=some o∧o.cls=.type "tuple"∧o.dict=none) ∨
   (T = "dict"∧((∃ kvs,H p=some (.dK kvs))∨∃ kvs,H p=some (.dT kvs)))∨(T = "set"∧∃ S n,H p=some (.set S n))
 | _=>False
theorem Jpv {pins:List (Addr×Obj)} {σ:St} {H:Hp} {s:Shared} {T:String} {x:V} {v:Value} (I:Jo X pins σ H s) (r:JT x v) (ty:tyV X.K T x H) :
  s.TypeIs v T∧∀ a,v=.ref a→∃ ob,s.heap.get? a=some ob∧ob.dict=none:=by
 cases x with
 | str z =>
  obtain ⟨t,rfl⟩:=r;cases (show T = "str" from ty);exact ⟨typeIs_str s z t,fun _ e=>nomatch e⟩
 | int i =>
  obtain ⟨t,rfl⟩:=r;cases (show T = "int" from ty);exact ⟨typeIs_int s i t,fun _ e=>nomatch e⟩
 | ref p =>
  cases r;rcases ty with ⟨rfl,xs,hq⟩ | ⟨rfl,o,hk,hc,hd⟩ | ⟨rfl,hk⟩ | ⟨rfl,S,n,hk⟩
  ·obtain ⟨its,_,pl,_⟩:=I.list hq;refine ⟨pl.isList.typeIs,fun a e=>?_⟩;cases e;obtain ⟨o,n,e,c,hd,_⟩:=pl;exact ⟨o,e,hd⟩
  ·refine ⟨⟨o,I.kIn p o hk,hc⟩,fun a e=>?_⟩;cases e;exact ⟨o,I.kIn _ o hk,hd⟩
  ·have z:∃ o,s.heap.get? p=some o∧o.ExactDict:=by
    rcases hk with ⟨kvs,hk⟩ | ⟨kvs,hk⟩
    ·obtain ⟨_,_,_,_,o,_,_,e,ex,_⟩:=I.hok p _ hk;exact ⟨o,e,ex⟩
    ·obtain ⟨_,_,_,_,o,_,_,e,ex,_⟩:=I.hok p _ hk;exact ⟨o,e,ex⟩
   obtain ⟨o,e,ex⟩:=z;refine ⟨⟨o,e,ex.1⟩,fun a e2=>?_⟩;cases e2;exact ⟨o,e,ex.2.1⟩
  ·obtain ⟨o,_,_,_,e,ex,_⟩:=I.hok p _ hk;refine ⟨⟨o,e,ex.1⟩,fun a e2=>?_⟩;cases e2;exact ⟨o,e,ex.2.1⟩
 | _=>exact False.elim ty
def JvL (K:PySem.W.Frag) (T:String) (r:V→List V→Hp→VK→Prop) (to:TE):TE:=fun σ H Q=>to σ H fun x H1=>tyV K T x H1∧r x [] H1 Q
def tBM (K:PySem.W.Frag) (T:String) (r:V→List V→Hp→VK→Prop) (to:TE) (t:TA):TE:=fun σ H Q=>to σ H fun x H1=>tyV K T x H1∧t σ H1 fun xs H2=>r x xs H2 Q
variable {o e:Expr} {es:List Expr} {to:TE} {t:TA} {name:Str} {apos cpos:Pos} {T id:String} {r:V→List V→Hp→VK→Prop}
theorem JpZ (pa:PlainAttrs T) (slot:Slot T name id) (hty:typeOf (.builtin id)=pure (.type "method_descriptor")) (hm:MtR X id r) (ho:PE X o to)
  (hbase:attributeBase o name X.env (eval o X.env)=eval o X.env:=by rfl) (hline:(apos.endLine == cpos.line)=true:=by rfl):PE X (.Call (.Attribute o name apos) [] [] cpos) (JvL X.K T r to):=by
 intro pins s σ H Q I h;refine wpAny_Call_method0_late hbase hline (JW (ho pins s σ H _ I h) fun v s1 ⟨x,H1,I1,r1,ty,q1⟩=>?_);obtain ⟨h1,h2⟩:=Jpv I1 r1 ty;exact ⟨T,id,pa,slot,hty,h1,h2,Calls.callWith_builtin rfl (PySem.evalArgs_none (hm pins s1 σ H1 x [] v [] Q I1 r1 .nil q1))⟩
theorem JbC (pa:PlainAttrs T) (slot:Slot T name id) (hty:typeOf (.builtin id)=pure (.type "method_descriptor")) (hm:MtR X id r) (ho:PE X o to) (ha:PA X (e :: es) t)
  (hbase:attributeBase o name X.env (eval o X.env)=eval o X.env:=by rfl)
  (hfew:((backTo cpos (starEach (e :: es) X.env)).all (fun x=>!x.1) && (backToKw cpos (keywordEach [] X.env)).all (fun x=>x.1.isSome)
   && decide ((e :: es).length + ([]:List Keyword).length + (if ([]:List Keyword).isEmpty then 0 else 1) < 30))=true:=by rfl)
  (hline:(apos.endLine == cpos.line)=true:=by rfl) (hs:starEach (e :: es) X.env=(false,eval e X.env) :: starEach es X.env:=by rfl) (hplain:(backTo cpos (starEach es X.env)).any (·.1)=false:=by rfl) :
  PE X (.Call (.Attribute o name apos) (e :: es) [] cpos) (tBM X.K T r to t):=by
 intro pins s σ H Q I h;refine wpAny_Call_method_late hbase hfew hline rfl (JW (ho pins s σ H _ I h) fun v s1 ⟨x,H1,I1,r1,ty,q1⟩=>?_);obtain ⟨h1,h2⟩:=Jpv I1 r1 ty;refine ⟨T,id,pa,slot,hty,h1,h2,?_⟩;have hA:=ha cpos pins s1 σ H1 _ I1 q1;rw [hs] at hA ⊢;refine Calls.callWith_builtin (by show (false || (backTo cpos (starEach es X.env)).any (·.1))=false; rw [hplain] <;> rfl) (Calls.evalArgs_plain ?_);exact JW hA fun us s2 ⟨vs,H2,I2,r2,q2⟩=>hm pins s2 σ H2 x vs v us Q I2 r1 r2 q2
end
end L2
namespace L2
open PySem PySem.Spec PyProof.Rows
def MtM (X:Cx) (id:String) (r:V→List V→Hp→VK→Prop):Prop :=
 ∀ (pins:List (Addr×Obj)) (s:Shared) (σ:St) (H:Hp) (x:V) (xs:List V) (v:Value) (us:List Value) (Q:VK),Jo X pins σ H s→JT x v→JI xs us→r x xs H Q →
  wpAny (model X.prog X.w) X.A (call (.builtin id) (v :: us)) (EP X pins σ Q) X.xe s
theorem JI.one:∀ {x:V} {us:List Value},JI [x] us→∃ u,us=[u]∧JT x u
 | _,_,.cons r .nil=>⟨_,rfl,r⟩
theorem JI.zero:∀ {us:List Value},JI [] us→us=[]
 | _,.nil=>rfl
theorem JI.dropLast {xs:List V} {us:List Value} (h:JI xs us):JI xs.dropLast us.dropLast:=by
 induction h with
 | nil=>exact .nil
 | cons r t ih =>
  cases t with
  | nil=>exact .nil
  | cons q t'=>exact .cons r ih
theorem JI.eraseIdx:∀ {xs:List V} {us:List Value} (i:Nat),JI xs us→JI (xs.eraseIdx i) (us.eraseIdx i)
 | _,_,_,.nil=>.nil
 | _,_,0,.cons _ t=>t
 | _,_,i + 1,.cons r t=>.cons r (JI.eraseIdx i t)
theorem JI.rep {xs:List V} {us:List Value} (h:JI xs us):∀ k:Nat,JI (List.replicate k xs).flatten (List.replicate k us).flatten
 | 0=>.nil
 | k + 1=>by
  rw [List.replicate_succ,List.replicate_succ,List.flatten_cons,List.flatten_cons];exact JI.append h (JI.rep h k)
theorem Jpe {α:Type} (l:List α):l.eraseIdx (l.length - 1)=l.dropLast:=by
 induction l with
 | nil=>rfl
 | cons a r ih =>
  cases r with
  | nil=>rfl
  | cons b r =>
   have e:(a :: b :: r).length - 1=((b :: r).length - 1) + 1:=by
    have h1:(a :: b :: r).length=r.length + 2:=rfl;have h2:(b :: r).length=r.length + 1:=rfl;omega
   rw [e,List.eraseIdx_cons_succ,ih]
   all_goals rfl
theorem JlG (its:List Value):∀ (k:Nat) (acc:List Value),
  List.foldl (fun x1 x2=>x1 ++ x2) acc.toArray (List.replicate k its.toArray)=(acc ++ (List.replicate k its).flatten).toArray
 | 0,acc=>by simp
 | k + 1,acc=>by
  have e:acc.toArray ++ its.toArray=(acc ++ its).toArray:=by simp
  have e2:(acc ++ its) ++ (List.replicate k its).flatten=acc ++ (List.replicate (k + 1) its).flatten:=by
   rw [List.replicate_succ,List.flatten_cons,List.append_assoc]
  rw [← e2,← JlG its k (acc ++ its),← e,List.replicate_succ,List.foldl_cons]
section
variable {X:Cx} {pins:List (Addr×Obj)} {σ:St} {H:Hp} {s:Shared} {l b:Addr} {xs ys zs:List V}
theorem Jo.lset {its its':List Value} {n:Nat} {f:Array Value→Array Value} {t':Nat} (I:Jo X pins σ H s) (hH:H l=some (.lst xs))
  (e:s.heap.get? l=some { cls:=.type "list",data:=.seq its.toArray n }) (hf:f its.toArray=its'.toArray) (hv:JI ys its') (hz:ys.length≤sizeLine) :
  Jo X pins σ (upd H l (.lst ys)) { s with heap:=s.heap.update l (Obj.mapSeq f),toks:=t' }:=by
 have q:=PySem.IsL.update e f;rw [hf] at q;refine I.write (x:=l) (e:=l) (by rw [hH]; exact trivial) (.inl rfl) (fun b' u hb hu=>(Heap.get?_update_other s.heap (Obj.mapSeq f) (Ne.symm hb)).trans hu) ⟨_,q⟩ ?_;exact ⟨hz,its',_,hv,q⟩
theorem Jo.lnew {its:List Value} {t':Nat} (I:Jo X pins σ H s) (hv:JI ys its) (hz:ys.length≤sizeLine) :
  Jo X pins σ (upd H s.heap.objs.size (.lst ys)) { s with heap:=s.heap.push { cls:=.type "list",data:=.seq its.toArray },toks:=t' } :=
 I.laid (fun _ _ q=>Heap.get?_push_of_some _ q) (Nat.le_refl _) ⟨hz,its,0,hv,Heap.get?_push_size _ rfl⟩
theorem Jo.fresh (I:Jo X pins σ H s):H s.heap.objs.size=none:=I.hok.fresh (Nat.le_refl _)
theorem Jo.lstM (I:Jo X pins σ H s) (hH:H l=some (.lst xs)):xs.length≤sizeLine∧∃ (its:List Value) (n:Nat),JI xs its∧xs.length=its.length∧s.heap.get? l=some { cls:=.type "list",data:=.seq its.toArray n }:=by
 obtain ⟨z,its,n,r,e⟩:=I.hok l _ hH;exact ⟨z,its,n,r,r.length,e⟩
theorem JrX {n:Nat} (h:n≤sizeLine):Builtin.List.listTooLong n=false:=by
 unfold Builtin.List.listTooLong;exact decide_eq_false (by omega)
end
section
variable {X:Cx}
def Jth:V→List V→Hp→VK→Prop:=fun x vs H Q=>∃ l xs y,x=.ref l∧vs=[y]∧H l=some (.lst xs)∧xs.length < sizeLine∧Q .non (upd H l (.lst (xs ++ [y])))
theorem Zp:MtM X "list.append" Jth:=by
 intro pins s σ H x vs v us Q I rx rv h;obtain ⟨l,xs,y,rfl,rfl,hH,hz,q⟩:=h;cases rx;obtain ⟨u,rfl,ru⟩:=rv.one;obtain ⟨z,its,n,r,hl,e⟩:=I.lstM hH;refine call_meets F.slot_list_append ⟨_,e,rfl⟩ F.entry_list_append (F.args_list_append_2 _ _) (PySem.list_append l its.toArray n u (by rw [List.size_toArray]; omega)) ⟨e,?_⟩;refine ⟨.non,_,I.lset (its':=its ++ [u]) hH e (by simp) (r.append (.cons ru .nil)) ?_,rfl,q⟩;rw [List.length_append,List.length_singleton];omega
def JvR:V→List V→Hp→VK→Prop:=fun x vs H Q=>∃ l xs y,x=.ref l∧vs=[]∧H l=some (.lst xs)∧xs[xs.length - 1]?=some y∧Q y (upd H l (.lst xs.dropLast))
theorem Jqe:MtM X "list.pop" JvR:=by
 intro pins s σ H x vs v us Q I rx rv h;obtain ⟨l,xs,y,rfl,rfl,hH,hy,q⟩:=h;cases rx;have hus:=rv.zero;subst hus;obtain ⟨z,its,n,r,hl,e⟩:=I.lstM hH;obtain ⟨u,hu,ru⟩:=r.get hy;have hy':its.toArray[its.toArray.size - 1]?=some u:=by
  show its.toArray[its.length - 1]?=some u;rw [← Array.getElem?_toList,← hl];exact hu
 refine call_meets F.slot_list_pop ⟨_,e,rfl⟩ F.entry_list_pop (F.args_list_pop_1 _) (MeetsSeq.list_pop_last l its.toArray n u hy' (by rw [List.size_toArray]; omega)) ⟨e,?_⟩;refine ⟨y,_,I.lset (its':=its.dropLast) hH e ?_ r.dropLast ?_,ru,q⟩
 ·show its.toArray.eraseIdxIfInBounds (its.toArray.size - 1)=its.dropLast.toArray;rw [List.size_toArray,List.eraseIdxIfInBounds_toArray,Jpe]
 ·rw [List.length_dropLast];omega
def JvU:R2:=fun x y H Q=>∃ l b xs zs,x=.ref l∧y=.ref b∧H l=some (.lst xs)∧H b=some (.lst zs)∧xs.length + zs.length≤sizeLine∧∀ p,H p=none→Q (.ref p) (upd H p (.lst (xs ++ zs)))
theorem Jp3:ZV X (binaryOp .Add) JvU:=by
 intro pins s σ H x y v u Q I rx ry h;obtain ⟨l,b,xs,zs,rfl,rfl,hH,hB,hz,q⟩:=h;cases rx;cases ry;obtain ⟨z,its,n,r,hl,e⟩:=I.lstM hH;obtain ⟨z2,its2,n2,r2,hl2,e2⟩:=I.lstM hB;refine PySem.P.add_list e e2 ?_ (by rw [List.size_toArray,List.size_toArray]; omega);have ea:its.toArray ++ its2.toArray=(its ++ its2).toArray:=by simp
 rw [ea];exact ⟨.ref _,_,I.lnew (t':=s.toks) (r.append r2) (by rw [List.length_append]; omega),rfl,q _ I.fresh⟩
def JvQ:R2:=fun x y H Q=>∃ l k xs,x=.ref l∧y=.int k∧H l=some (.lst xs)∧-(2 ^ 63)≤k∧k < 2 ^ 63∧xs.length * k.toNat≤sizeLine ∧
 ∀ p,H p=none→Q (.ref p) (upd H p (.lst (List.replicate k.toNat xs).flatten))
theorem JtC {α:Type} (xs:List α) (k:Nat):(List.replicate k xs).flatten.length=k * xs.length:=by
 induction k with
 | zero=>simp
 | succ k ih=>rw [List.replicate_succ,List.flatten_cons,List.length_append,ih,Nat.succ_mul,Nat.add_comm]
theorem Jum:ZV X (binaryOp .Mult) JvQ:=by
 intro pins s σ H x y v u Q I rx ry h;obtain ⟨l,k,xs,rfl,rfl,hH,h1,h2,hz,q⟩:=h;cases rx;obtain ⟨t,rfl⟩:=ry;obtain ⟨z,its,n,r,hl,e⟩:=I.lstM hH;have hlen:its.toArray.size * k.toNat≤sizeLine:=by rw [List.size_toArray,← hl]; exact hz
 have hcap:¬ its.toArray.size * k.toNat > (2 ^ 63 - 1) / 8:=by
  have:(sizeLine:Nat)≤(2 ^ 63 - 1) / 8:=by decide
  omega
 have hfit:¬ (!Builtin.List.listFitsIndex k)=true:=by
  rw [fitsIndex_both h1 h2];exact Bool.false_ne_true
 have hlong:¬ Builtin.List.listTooLong (its.toArray.size * k.toNat)=true:=by
  rw [JrX hlen];exact Bool.false_ne_true
 have hnew:List.foldl (fun x1 x2=>x1 ++ x2) #[] (List.replicate (if its.toArray.isEmpty=true then 0 else k.toNat) its.toArray)=(List.replicate k.toNat its).flatten.toArray:=by
  have f0:∀ m:Nat,List.foldl (fun x1 x2=>x1 ++ x2) #[] (List.replicate m its.toArray)=(List.replicate m its).flatten.toArray:=fun m=>by
   have:=JlG its m [];rw [List.nil_append] at this;exact this
  rw [f0];cases its with
  | nil=>simp
  | cons a r'=>rw [if_neg (by simp)]
 refine wpAny_binaryOp_repeat_ref (T := "list") (U := "int") (by decide) ⟨_,e,rfl⟩ (fun s'=>typeIs_int s' k t) noFill_list_mul F.fills_int_mul F.slot_int_rmul repeat_list F.slot_int_index.lookup
  (call_meets F.slot_int_rmul (typeIs_int s k t) F.entry_int_rmul (F.args_int_rmul_2 _ _) (int___rmul___int_list k t l its.toArray n)
   ⟨e,rfl,⟨_,e,rfl⟩,call_meets F.slot_list_mul ⟨_,e,rfl⟩ F.entry_list_mul (F.args_list_mul_2 _ _) (AutoListH.list___mul___list_int_3 l its.toArray n k t hfit hcap hlong) ⟨e,?_⟩⟩)
 rw [hnew];exact ⟨.ref _,_,I.lnew (t':=s.toks) (r.rep k.toNat) (by rw [JtC,Nat.mul_comm]; exact hz),rfl,q _ I.fresh⟩
end
end L2
namespace L2
open PySem PySem.Spec PyProof.Rows
section
variable {κ:Type} [DecidableEq κ]
def ZF (kvs:List (κ×V)) (k:κ):Option V:=(kvs.find? fun kv=>decide (kv.1=k)).map (·.2)
def JaN (kvs:List (κ×V)) (k:κ) (v:V):List (κ×V) :=
 if (kvs.any fun kv=>decide (kv.1=k))=true then kvs.map (fun kv=>if kv.1=k then (kv.1,v) else kv) else kvs ++ [(k,v)]
def JsI (kvs:List (κ×V)) (k:κ):List (κ×V):=kvs.filter fun kv=>decide (kv.1≠k)
theorem Z5 {p:κ×V} {r:List (κ×V)} {k:κ} (e:p.1=k):ZF (p :: r) k=some p.2:=by simp [ZF,List.find?_cons,e]
theorem Z6 {p:κ×V} {r:List (κ×V)} {k:κ} (e:¬ p.1=k):ZF (p :: r) k=ZF r k:=by simp [ZF,List.find?_cons,e]
theorem JgK (k:κ):∀ kvs:List (κ×V),(kvs.any fun kv=>decide (kv.1=k))=(ZF kvs k).isSome
 | []=>rfl
 | p :: r=>by
  rw [List.any_cons];by_cases e:p.1=k
  ·simp only [Z5 e,decide_eq_true e,Bool.true_or,Option.isSome_some]
  ·rw [Z6 e,decide_eq_false e,Bool.false_or]; exact JgK k r
theorem Jmj (k j:κ) (y:V):∀ kvs:List (κ×V),ZF (kvs.map fun kv=>if kv.1=k then (kv.1,y) else kv) j=(ZF kvs j).map fun x=>if j=k then y else x
 | []=>rfl
 | p :: r=>by
  have ih:=Jmj k j y r;rw [List.map_cons];by_cases h:p.1=k
  ·rw [if_pos h];by_cases e:p.1=j
   ·rw [Z5 (p:=(p.1,y)) e,Z5 e,Option.map_some,if_pos (e.symm.trans h)]
   ·rw [Z6 (p:=(p.1,y)) e,Z6 e,ih]
  ·rw [if_neg h];by_cases e:p.1=j
   ·rw [Z5 (p:=p) e,Z5 e,Option.map_some,if_neg (fun z=>h (e.trans z))]
   ·rw [Z6 (p:=p) e,Z6 e,ih]
theorem Jln (k j:κ) (y:V):∀ kvs:List (κ×V),ZF kvs k=none→ZF (kvs ++ [(k,y)]) j=if j=k then some y else ZF kvs j
 | [],_=>by
  by_cases e:k=j
  ·rw [if_pos e.symm]; exact Z5 (p:=(k,y)) e
  ·rw [if_neg (fun z=>e z.symm)]; exact Z6 (p:=(k,y)) e
 | p :: r,hn=>by
  rw [List.cons_append];have hk:¬ p.1=k:=fun z=>by rw [Z5 z] at hn; cases hn
  rw [Z6 hk] at hn;have ih:=Jln k j y r hn;by_cases e:p.1=j
  ·rw [Z5 e,Z5 e,if_neg (fun z=>hk (e.trans z))]
  ·rw [Z6 e,Z6 e,ih]
theorem JiN (kvs:List (κ×V)) (k j:κ) (y:V):ZF (JaN kvs k y) j=if j=k then some y else ZF kvs j:=by
 unfold JaN;by_cases a:(kvs.any fun kv=>decide (kv.1=k))=true
 ·rw [if_pos a,Jmj];rw [JgK] at a;by_cases e:j=k
  ·obtain ⟨x,hx⟩:=Option.isSome_iff_exists.mp a;rw [if_pos e,e,hx,Option.map_some,if_pos rfl]
  ·rw [if_neg e];cases ZF kvs j with
   | none=>rfl
   | some x=>rw [Option.map_some,if_neg e]
 ·rw [if_neg a];refine Jln k j y kvs ?_;rw [JgK] at a;cases q:ZF kvs k with
  | none=>rfl
  | some x=>rw [q] at a; exact (a rfl).elim
theorem Jf6 (kvs:List (κ×V)) (k:κ) (v:V):(JaN kvs k v).length≤kvs.length + 1:=by
 unfold JaN;split
 ·rw [List.length_map]; omega
 ·rw [List.length_append,List.length_cons,List.length_nil]; omega
theorem Jbd.isSome_eq {o:Option V} {u:Option Value} (r:Jbd o u):o.isSome=u.isSome:=by
 cases o with
 | none=>cases u with
  | none=>rfl
  | some _=>exact (show False from r).elim
 | some _=>cases u with
  | none=>exact (show False from r).elim
  | some _=>rfl
theorem Jbd.getD {o:Option V} {u:Option Value} {d:V} {d':Value} (r:Jbd o u) (rd:JT d d'):JT (o.getD d) (u.getD d'):=by
 cases o with
 | none=>cases u with
  | none=>exact rd
  | some _=>exact (show False from r).elim
 | some _=>cases u with
  | none=>exact (show False from r).elim
  | some _=>exact r
theorem KV.val {kvs:List (κ×V)} {vs:List (κ×Value)} (r:KV kvs vs) (k:κ):Jbd (ZF kvs k) (valueAt vs k):=by
 unfold KV at r
 induction r with
 | nil=>exact True.intro
 | @cons p q ps qs h t ih =>
  obtain ⟨h1,h2⟩:=h;by_cases e:p.1=k
  ·have e':q.1=k:=h1.symm.trans e;have b:valueAt (q :: qs) k=some q.2:=by simp [valueAt,List.find?_cons,e']
   rw [Z5 e,b]; exact h2
  ·have e':¬ q.1=k:=fun z=>e (h1.trans z)
   have b:valueAt (q :: qs) k=valueAt qs k:=by simp [valueAt,List.find?_cons,e']
   rw [Z6 e,b]; exact ih
theorem KV.any {kvs:List (κ×V)} {vs:List (κ×Value)} (r:KV kvs vs) (k:κ):(kvs.any fun kv=>decide (kv.1=k))=vs.any fun kv=>decide (kv.1=k):=by
 unfold KV at r
 induction r with
 | nil=>rfl
 | cons h t ih=>rw [List.any_cons,List.any_cons,ih,h.1]
theorem KV.repl {kvs:List (κ×V)} {vs:List (κ×Value)} (r:KV kvs vs) (k:κ) {y:V} {u:Value} (ry:JT y u) :
  KV (kvs.map fun kv=>if kv.1=k then (kv.1,y) else kv) (vs.map fun kv=>if kv.1=k then (kv.1,u) else kv):=by
 unfold KV at r ⊢
 induction r with
 | nil=>exact .nil
 | @cons p q ps qs h t ih =>
  rw [List.map_cons,List.map_cons];refine .cons ?_ ih;obtain ⟨h1,h2⟩:=h;by_cases e:p.1=k
  ·rw [if_pos e,if_pos (h1.symm.trans e)]; exact ⟨h1,ry⟩
  ·rw [if_neg e,if_neg (fun z=>e (h1.trans z))]; exact ⟨h1,h2⟩
theorem KV.put {kvs:List (κ×V)} {vs:List (κ×Value)} (r:KV kvs vs) (k:κ) {y:V} {u:Value} (ry:JT y u):KV (JaN kvs k y) (stored vs k u):=by
 unfold JaN stored;rw [r.any k];by_cases e:(vs.any fun kv=>decide (kv.1=k))=true
 ·rw [if_pos e,if_pos e]; exact r.repl k ry
 ·rw [if_neg e,if_neg e]; exact Paired.snoc r ⟨rfl,ry⟩
theorem KV.drop {kvs:List (κ×V)} {vs:List (κ×Value)} (r:KV kvs vs) (k:κ):KV (JsI kvs k) (without vs k):=by
 unfold KV at r ⊢;unfold JsI without
 induction r with
 | nil=>exact .nil
 | @cons p q ps qs h t ih =>
  obtain ⟨h1,h2⟩:=h;rw [List.filter_cons,List.filter_cons];by_cases e:p.1=k
  ·have a:¬ decide (p.1≠k)=true:=by simp [e]
   have b:¬ decide (q.1≠k)=true:=by simp [h1.symm.trans e]
   rw [if_neg a,if_neg b]; exact ih
  ·have e':¬ q.1=k:=fun z=>e (h1.trans z)
   have a:decide (p.1≠k)=true:=by simp [e]
   have b:decide (q.1≠k)=true:=by simp [e']
   rw [if_pos a,if_pos b]; exact .cons ⟨h1,h2⟩ ih
theorem KV.keys {kvs:List (κ×V)} {vs:List (κ×Value)} (r:KV kvs vs):kvs.map (·.1)=vs.map (·.1):=by
 unfold KV at r
 induction r with
 | nil=>rfl
 | cons h t ih=>rw [List.map_cons,List.map_cons,ih,h.1]
theorem KV.length {kvs:List (κ×V)} {vs:List (κ×Value)} (r:KV kvs vs):kvs.length=vs.length:=Paired.length r
end
theorem JjY {P:Program} {w:World} {k:J0} {u:Value} (r:JT (kV k) u):(YE P w).is k u=true:=by
 cases k with
 | inl i=>obtain ⟨t,e⟩:=(show ∃ t,u=Value.int i t from r); subst e; exact JnN P w i t
 | inr x=>obtain ⟨t,e⟩:=(show ∃ t,u=Value.str x t from r); subst e; exact JbW P w x t
theorem JlC {P:Program} {w:World}:∀ {ks:List J0} {us:List Value},JI (ks.map kV) us→ItemsAre (YE P w) ks us
 | [],_,r=>by rw [List.map_nil] at r; cases r; exact .nil
 | k :: ks,_,r=>by
  rw [List.map_cons] at r;cases r with
  | cons h t=>exact .cons (JjY h) (JlC t)
abbrev KT (H:Hp):List (List J0×V)→List (List J0×Addr×Value)→Prop:=Paired fun p q=>p.1=q.1∧H q.2.1=some (.tup (p.1.map kV))∧JT p.2 q.2.2
theorem KT.val {H:Hp} {kvs:List (List J0×V)} {xs:List (List J0×Addr×Value)} (r:KT H kvs xs) (k:List J0):Jbd (ZF kvs k) ((atKey xs k).map (·.2)):=by
 induction r with
 | nil=>exact True.intro
 | @cons p q ps qs h t ih =>
  obtain ⟨h1,_,h2⟩:=h;by_cases e:p.1=k
  ·have e':q.1=k:=h1.symm.trans e;have b:atKey (q :: qs) k=some q.2:=by simp [atKey,List.find?_cons,e']
   rw [Z5 e,b]; exact h2
  ·have e':¬ q.1=k:=fun z=>e (h1.trans z)
   have b:atKey (q :: qs) k=atKey qs k:=by simp [atKey,List.find?_cons,e']
   rw [Z6 e,b]; exact ih
theorem KT.repl {H:Hp} {kvs:List (List J0×V)} {xs:List (List J0×Addr×Value)} (r:KT H kvs xs) (k:List J0) {y:V} {u:Value} (ry:JT y u) :
  KT H (kvs.map fun kv=>if kv.1=k then (kv.1,y) else kv) (xs.map (putAt k u)):=by
 induction r with
 | nil=>exact .nil
 | @cons p q ps qs h t ih =>
  rw [List.map_cons,List.map_cons];refine .cons ?_ ih;obtain ⟨h1,h2,h3⟩:=h;unfold putAt;by_cases e:p.1=k
  ·rw [if_pos e,if_pos (h1.symm.trans e)]; exact ⟨h1,h2,ry⟩
  ·rw [if_neg e,if_neg (fun z=>e (h1.trans z))]; exact ⟨h1,h2,h3⟩
theorem KT.put {H:Hp} {kvs:List (List J0×V)} {xs:List (List J0×Addr×Value)} (r:KT H kvs xs) (k:List J0) {b:Addr} {y:V} {u:Value} (hb:H b=some (.tup (k.map kV))) (ry:JT y u) :
  KT H (JaN kvs k y) (storedH xs k b u):=by
 have e:(kvs.any fun kv=>decide (kv.1=k))=(atKey xs k).isSome:=by
  rw [JgK,(r.val k).isSome_eq,Option.isSome_map]
 unfold JaN storedH;rw [e];by_cases q:(atKey xs k).isSome=true
 ·rw [if_pos q,if_pos q]; exact r.repl k ry
 ·rw [if_neg q,if_neg q]; exact Paired.snoc r ⟨rfl,hb,ry⟩
theorem KT.keeps {H H':Hp} {kvs:List (List J0×V)} {xs:List (List J0×Addr×Value)} (r:KT H kvs xs) (ht:∀ b ys,H b=some (.tup ys)→H' b=some (.tup ys)):KT H' kvs xs :=
 Paired.mapP r fun _ _ z=>⟨z.1,ht _ _ z.2.1,z.2.2⟩
section
variable {P:Program} {w:World} {H:Hp} {h:Heap} {a:Addr}
theorem Jsz {u:HO} (ok:ZZ P w H h) (e:Rd H a u):YL P w H h a u:=e.ok ok
theorem Jpg {kvs:List (J0×V)} (ok:ZZ P w H h) (e:Rd H a (.dK kvs)):kvs.length≤sizeLine∧(a == sysModules)=false∧∃ vs,KV kvs vs∧h.DictOf (YE P w) a vs :=
 show YL P w H h a (.dK kvs) from Jsz ok e
theorem JsJ {kvs:List (J0×V)} (ok:ZZ P w H h) (e:H a=some (.dK kvs)):kvs.length≤sizeLine∧(a == sysModules)=false∧∃ vs,KV kvs vs∧h.DictOf (YE P w) a vs:=Jpg ok (.inl e)
theorem Jm3 {ks:List J0} (ok:ZZ P w H h) (e:H a=some (.tup (ks.map kV))):(tupleKind (YE P w)).is h ks a:=by
 obtain ⟨_,its,r,o,h1,h2,n,h3⟩:=(show YL P w H h a (.tup (ks.map kV)) from ok a _ e)
 exact ⟨o,its.toArray,n,h1,h2,h3,by simpa using JlC r⟩
theorem Jpf {kvs:List (List J0×V)} (ok:ZZ P w H h) (e:Rd H a (.dT kvs)):kvs.length≤sizeLine∧(a == sysModules)=false ∧
  ∃ xs,KT H kvs xs∧h.DictOfH (tupleKind (YE P w)) a xs:=by
 obtain ⟨z,y,xs,r,o,es,ep,h1,h2,h3,h4,h5⟩:=(show YL P w H h a (.dT kvs) from Jsz ok e)
 refine ⟨z,y,xs,r,o,es,ep,h1,h2,h3,h4,fun x hx=>?_,h5⟩;have all:∀ {l:List (List J0×V)} {m:List (List J0×Addr×Value)},KT H l m→∀ x∈m,(tupleKind (YE P w)).is h x.1 x.2.1:=by
  intro l m q
  induction q with
  | nil=>intro x hx; exact nomatch hx
  | @cons p q ps qs hq t ih =>
   intro x hx;rcases List.mem_cons.mp hx with e | hx
   ·subst e;exact Jm3 ok (by rw [← hq.1]; exact hq.2.1)
   ·exact ih x hx
 exact all r x hx
theorem Jvi {kvs:List (List J0×V)} (ok:ZZ P w H h) (e:H a=some (.dT kvs)):kvs.length≤sizeLine∧(a == sysModules)=false ∧
  ∃ xs,KT H kvs xs∧h.DictOfH (tupleKind (YE P w)) a xs:=Jpf ok (.inl e)
end
def Jd6 (H:Hp) (a:Addr) (y:V) (r:Option V):Prop :=
 (∃ kvs k,Rd H a (.dK kvs)∧y=kV k∧r=ZF kvs k)∨∃ kvs k b,Rd H a (.dT kvs)∧y=.ref b∧H b=some (.tup (k.map kV))∧r=ZF kvs k
def Jjw (H:Hp) (a:Addr) (y v:V) (H':Hp):Prop :=
 (∃ kvs k,H a=some (.dK kvs)∧y=kV k∧kvs.length < sizeLine∧H'=upd H a (.dK (JaN kvs k v))) ∨
 ∃ kvs k b,H a=some (.dT kvs)∧y=.ref b∧H b=some (.tup (k.map kV))∧kvs.length < sizeLine∧H'=upd H a (.dT (JaN kvs k v))
theorem Jd6.k {H:Hp} {a:Addr} {kvs:List (J0×V)} {k:J0} (e:H a=some (.dK kvs)):Jd6 H a (kV k) (ZF kvs k):=.inl ⟨kvs,k,.inl e,rfl,rfl⟩
theorem Jd6.t {H:Hp} {a b:Addr} {kvs:List (List J0×V)} {k:List J0} (e:H a=some (.dT kvs)) (eb:H b=some (.tup (k.map kV))):Jd6 H a (.ref b) (ZF kvs k):=.inr ⟨kvs,k,b,.inl e,rfl,eb,rfl⟩
theorem Jjw.k {H:Hp} {a:Addr} {kvs:List (J0×V)} {k:J0} {v:V} (e:H a=some (.dK kvs)) (hl:kvs.length < sizeLine):Jjw H a (kV k) v (upd H a (.dK (JaN kvs k v))):=.inl ⟨kvs,k,e,rfl,hl,rfl⟩
theorem Jjw.t {H:Hp} {a b:Addr} {kvs:List (List J0×V)} {k:List J0} {v:V} (e:H a=some (.dT kvs)) (eb:H b=some (.tup (k.map kV))) (hl:kvs.length < sizeLine) :
  Jjw H a (.ref b) v (upd H a (.dT (JaN kvs k v))):=.inr ⟨kvs,k,b,e,rfl,eb,hl,rfl⟩
section
variable {X:Cx} {pins:List (Addr×Obj)} {σ:St} {H:Hp} {s:Shared} {a:Addr} {y v:V} {u r:Value} {o:Option V} {A:Around} {E:Value→Shared→Prop}
theorem Jo.big (I:Jo X pins σ H s):sysModules < s.heap.objs.size:=by
 have h:mainGlobals < s.heap.objs.size:=(I.mod.glob.keeps I.bk).lt;exact Nat.lt_trans (by decide) h
theorem JqL {Q:Value→Shared→Prop} (hu:A.units + 1 < cLine) (I:Jo X pins σ H s) (g:Jd6 H a y (some v)) (ry:JT y u) (h:∀ w' s',Jo X pins σ H s'→JT v w'→Q w' s') :
  wpAny (model X.prog X.w) A (getItem (.ref a) u) Q E s:=by
 rcases g with ⟨kvs,k,e,ey,l⟩ | ⟨kvs,k,b,e,ey,eb,l⟩
 ·subst ey;obtain ⟨z,hd,vs,rel,dd⟩:=Jpg I.hok e;obtain ⟨w',hw,rw'⟩:=Jbd.some_of (v:=v) (o:=valueAt vs k) (by rw [l]; exact rel.val k);exact wpAny_getItem_of (JjY ry) dd.mapOf hw (h w' _ (I.tok _) rw')
 ·subst ey;cases (show u=Value.ref b from ry);obtain ⟨z,hd,xs,rel,dd⟩:=Jpf I.hok e;obtain ⟨w',hw,rw'⟩:=Jbd.some_of (v:=v) (o:=(atKey xs k).map (·.2)) (by rw [l]; exact rel.val k);obtain ⟨p,hp,hp2⟩:=Option.map_eq_some_iff.mp hw;refine wpAny_getItem_heap (tupleKind_room_in1 hu) (Jm3 I.hok eb) dd hp ?_;rw [hp2];exact h w' _ (I.tok _) rw'
theorem Jla {h':Heap} {t':Nat} {ob:HO} (I:Jo X pins σ H s) (mu:Mut (H a)) (hs:Heap.SameBut a s.heap h') (he:∃ q,h'.get? a=some q) (new:YL X.prog X.w (upd H a ob) h' a ob) :
  Jo X pins σ (upd H a ob) { s with heap:=h',toks:=t' } :=
 I.write (x:=a) (e:=a) mu (.inl rfl) (fun b q hb z=>(hs.2 b hb).trans z) he new
theorem JqH {P:Program} {w:World} {H':Hp} {h':Heap} {kvs:List (J0×V)} {vs:List (J0×Value)} (z:kvs.length≤sizeLine) (hd:(a == sysModules)=false) (rel:KV kvs vs) (dd:h'.DictOf (YE P w) a vs) :
  YL P w H' h' a (.dK kvs):=⟨z,hd,vs,rel,dd⟩
theorem JqK {H':Hp} {Q:Unit→Shared→Prop} (hu:A.units + 1 < cLine) (I:Jo X pins σ H s) (g:Jjw H a y v H') (ry:JT y u) (rv:JT v r) (h:∀ s',Jo X pins σ H' s'→Q () s') :
  wpAny (model X.prog X.w) A (setItem (.ref a) u r) Q E s:=by
 rcases g with ⟨kvs,k,e,ey,l,eH⟩ | ⟨kvs,k,b,e,ey,eb,l,eH⟩
 ·subst ey eH;obtain ⟨z,hd,vs,rel,dd⟩:=JsJ I.hok e;have hz:vs.length≤sizeLine:=by rw [← rel.length]; exact z
  have hl:(JaN kvs k v).length≤sizeLine:=by have:=Jf6 kvs k v; omega
  refine wpAny_setItem_pairs (hsz:=hz) (JjY ry) dd fun h' dd' hs=>h _ ?_
  have he:∃ q,h'.get? a=some q:=let ⟨q,_,_,hq,_⟩:=dd'; ⟨q,hq⟩;exact Jla I (by rw [e]; exact True.intro) hs he (JqH hl hd (rel.put k rv) dd')
 ·subst ey eH;cases (show u=Value.ref b from ry);obtain ⟨z,hd,xs,rel,dd⟩:=Jvi I.hok e;have hz:xs.length≤sizeLine:=by rw [← Paired.length rel]; exact z
  have hl:(JaN kvs k v).length≤sizeLine:=by have:=Jf6 kvs k v; omega
  refine wpAny_setItem_heap (hsz:=hz) (tupleKind_room_in1 hu) (Jm3 I.hok eb) dd fun h' dd' hs=>h _ ?_
  obtain ⟨q,es,ep,hq,h2,h3,h4,_,h5⟩:=dd';refine Jla I (by rw [e]; exact True.intro) hs ⟨q,hq⟩ ⟨hl,hd,_,(rel.put k eb rv).keeps fun c ys ec=>?_,q,es,ep,hq,h2,h3,h4,h5⟩;rw [JB (Jat ec e (fun z=>nomatch z))];exact ec
end
def JuM (i:Expr):Prop:=∀ ov iv,subscripted i false ov iv=operate [ov,iv] (getItem ov iv)
theorem JsS {prog:Program} {w:World} {A:Around} {E:Value→Shared→Prop} {s:Shared} {env:Env} {value slice:Expr} {pos:Pos} {T id:String} {Q:Value→Shared→Prop}
  (hl:typeLookup (.type T) "__getitem__" = pure (some (.builtin id))) (hs:JuM slice)
  (h:wpAny (model prog w) A (eval value env) (fun o s₁=>wpAny (model prog w) A (eval slice env) (fun i s₂=>s₂.TypeIs o T∧wpAny (model prog w) A (getItem o i) Q E s₂) E s₁) E s) :
  wpAny (model prog w) A (eval (.Subscript value slice pos) env) Q E s:=by
 refine Subscript_ (wpAny_mono h (fun o s₁ h₁=>wpAny_mono h₁ (fun i s₂ h₂=>?_) fun _ _ x=>x) fun _ _ x=>x);obtain ⟨hT,h₂⟩:=h₂;unfold subscriptTail;refine wpAny_bind ?_;rw [getitemInPython_of_ne hT.not_modules];refine wpAny_bind (wpAny_specialOf hT hl ?_);have fin:wpAny (model prog w) A (subscripted slice false o i) (fun r s₃=>wpAny (model prog w) A (letTemporaryGo value o r >>= fun _=>pure r) Q E s₃) E s₂:=by
  rw [hs o i];exact wpAny_operating (wpAny_mono h₂ (fun r s₃ h₃=>wpAny_bind (wpAny_letTemporaryGo (wpAny_pure h₃))) fun _ _ x=>x)
 first
  | exact wpAny_pure (wpAny_bind fin)
  | exact wpAny_bind (wpAny_pure (wpAny_bind fin))
  | exact wpAny_bind fin
theorem JnQ {X:Cx} {pins:List (Addr×Obj)} {σ:St} {H:Hp} {s:Shared} {a:Addr} {y:V} {o:Option V} (I:Jo X pins σ H s) (g:Jd6 H a y o):s.TypeIs (.ref a) "dict":=by
 rcases g with ⟨kvs,k,e,_,_⟩ | ⟨kvs,k,b,e,_,_,_⟩
 ·obtain ⟨_,_,vs,_,dd⟩:=Jpg I.hok e;exact dd.typeIs
 ·obtain ⟨_,_,xs,_,dd⟩:=Jpf I.hok e;exact dd.typeIs
def Ju0 (td ty:TE):TE:=fun σ H Q=>td σ H fun x H1=>ty σ H1 fun y H2=>∃ a v,x=.ref a∧Jd6 H2 a y (some v)∧Q v H2
def Ju5 (td ty tv:TE):TS:=fun D σ H=>tv σ H fun v H1=>td σ H1 fun x H2=>ty σ H2 fun y H3=>∃ a H4,x=.ref a∧Jjw H3 a y v H4∧D.nx σ H4
section
variable {X:Cx} {o i e value:Expr} {pos pos' tpos:Pos} {td ty tv:TE}
theorem Jey (hu:X.A.units + 1 < cLine) (ho:PE X o td) (hi:PE X i ty) (hs:JuM i):PE X (.Subscript o i pos) (Ju0 td ty):=by
 intro pins s σ H Q I h;refine JsS PySem.F.slot_dict_getitem.lookup hs (JW (ho pins s σ H _ I h) fun u s1 ⟨x,H1,I1,rx,q1⟩=>JW (hi pins s1 σ H1 _ I1 q1) fun iv s2 ⟨y,H2,I2,ry,a,v,ex,g,q2⟩=>?_);subst ex;obtain rfl:u=Value.ref a:=rx;exact ⟨JnQ I2 g,JqL hu I2 g ry fun w' s3 I3 rw'=>⟨v,H2,I3,rw',q2⟩⟩
theorem Jti (hu:X.A.units + 1 < cLine) (ho:PE X o td) (hi:PE X i ty) (hv:PE X value tv) (hs:swapsWith value (some (.Subscript o i pos')) pos.line X.env=pure false) :
  PS X (.Assign [.Subscript o i pos'] value pos) (Ju5 td ty tv):=by
 intro pins s σ H D I h;refine wpAny_Assign_Subscript (JW (hv pins s σ H _ I h) fun r s1 ⟨v,H1,I1,rv,q1⟩=>JW (ho pins s1 σ H1 _ I1 q1) fun u s2 ⟨x,H2,I2,rx,q2⟩=>JW (hi pins s2 σ H2 _ I2 q2) fun iv s3 ⟨y,H3,I3,ry,a,H4,ex,g,q3⟩=>?_) hs;subst ex;obtain rfl:u=Value.ref a:=rx;exact JqK hu I3 g ry rv fun s4 I4=>⟨σ,H4,I4,q3⟩
end
theorem Jsh {P:Program} {w:World} {H:Hp} (h:Heap) (hb:sysModules < h.objs.size):YL P w H (h.push { cls:=.type "dict",data:=.dict #[] }) h.objs.size (.dK []) :=
 ⟨Nat.zero_le _,beq_eq_false_iff_ne.mpr (Ne.symm (Nat.ne_of_lt hb)),[],.nil,Heap.DictOf.new h⟩
theorem Jsg {P:Program} {w:World} {H:Hp} (h:Heap) (hb:sysModules < h.objs.size):YL P w H (h.push { cls:=.type "dict",data:=.dict #[] }) h.objs.size (.dT []) :=
 ⟨Nat.zero_le _,beq_eq_false_iff_ne.mpr (Ne.symm (Nat.ne_of_lt hb)),[],.nil,_,#[],0,Heap.get?_push_size _ rfl,⟨rfl,rfl,rfl⟩,rfl,rfl,List.nodup_nil⟩
def JtS:TE:=fun _ H Q=>∀ p,H p=none→Q (.ref p) (upd H p (.dT []))
section
variable {X:Cx} {pos:Pos}
theorem JrN:PE X (.Dict [] [] pos) JtS:=fun pins s σ H Q I h =>
 wpAny_Dict_empty ⟨.ref s.heap.objs.size,_,I.laid (a:=s.heap.objs.size) (o:=.dT []) (t':=s.toks) (fun _ _ q=>Heap.get?_push_of_some _ q) (Nat.le_refl _) (Jsg s.heap I.big),rfl,h _ (I.hok.fresh (Nat.le_refl _))⟩
end
def Jmn:List (TE×TE)→St→Hp→(List (V×V)→Hp→Prop)→Prop
 | [],_,H,Q=>Q [] H
 | (tk,tv) :: r,σ,H,Q=>tk σ H fun x H1=>tv σ H1 fun y H2=>Jmn r σ H2 fun ps H3=>Q ((x,y) :: ps) H3
abbrev VV:List (V×V)→List (Value×Value)→Prop:=Paired fun p q=>JT p.1 q.1∧JT p.2 q.2
def PPs (X:Cx) (pos:Pos) (keys:List (Option Expr)) (values:List Expr) (trs:List (TE×TE)):Prop :=
 ∀ (pins:List (Addr×Obj)) (s:Shared) (σ:St) (H:Hp) (Q:List (V×V)→Hp→Prop),Jo X pins σ H s→Jmn trs σ H Q →
  wpAny (model X.prog X.w) X.A (evalPairs (pairTrees keys values X.env pos)) (fun vs s'=>∃ ps H',Jo X pins σ H' s'∧VV ps vs∧Q ps H') X.xe s
theorem Jtj {X:Cx} {pos:Pos}:PPs X pos [] [] []:=fun pins s σ H Q I h=>pairTrees_nil_walk ⟨[],H,I,.nil,h⟩
theorem JmO {X:Cx} {pos:Pos} {k v:Expr} {ks:List (Option Expr)} {vs:List Expr} {tk tv:TE} {trs:List (TE×TE)} (hk:PE X k tk) (hv:PE X v tv) (hr:PPs X pos ks vs trs) :
  PPs X pos (some k :: ks) (v :: vs) ((tk,tv) :: trs):=fun pins s σ H Q I h =>
 pairTrees_cons_walk (JW (hk pins s σ H _ I h) fun u s1 ⟨x,H1,I1,rx,q1⟩=>JW (hv pins s1 σ H1 _ I1 q1) fun w2 s2 ⟨y,H2,I2,ry,q2⟩ =>
  JW (hr pins s2 σ H2 _ I2 q2) fun ws s3 ⟨ps,H3,I3,rel,q3⟩=>⟨(x,y) :: ps,H3,I3,.cons ⟨rx,ry⟩ rel,q3⟩)
def Jdt (kvs more:List (J0×V)):List (J0×V):=more.foldl (fun acc kv=>JaN acc kv.1 kv.2) kvs
theorem KV.merge:∀ {more:List (J0×V)} {rs:List (J0×Value)} {kvs:List (J0×V)} {vs:List (J0×Value)},KV more rs→KV kvs vs→KV (Jdt kvs more) (merged vs rs):=by
 intro more rs kvs vs r;unfold KV at r
 induction r generalizing kvs vs with
 | nil=>intro q; exact q
 | @cons p q ps qs h t ih =>
  intro r0;have e:KV (JaN kvs p.1 p.2) (stored vs q.1 q.2):=by
   have:=r0.put p.1 h.2;rw [← h.1]; exact this
  exact ih e
theorem Jhd:∀ (more kvs:List (J0×V)),(Jdt kvs more).length≤kvs.length + more.length
 | [],kvs=>by show kvs.length≤kvs.length + 0; omega
 | p :: r,kvs=>by
  have h1:=Jhd r (JaN kvs p.1 p.2);have h2:=Jf6 kvs p.1 p.2;show (Jdt (JaN kvs p.1 p.2) r).length≤_;rw [List.length_cons]; omega
theorem Jkb {P:Program} {w:World}:∀ {kvs:List (J0×V)} {ws:List (Value×Value)},VV (kvs.map fun kv=>(kV kv.1,kv.2)) ws→∃ rs,Carries (YE P w) ws rs∧KV kvs rs
 | [],_,r=>by rw [List.map_nil] at r; cases r; exact ⟨[],True.intro,.nil⟩
 | p :: kvs,_,r=>by
  rw [List.map_cons] at r;cases r with
  | @cons a b as bs h t =>
   obtain ⟨rs,c,q⟩:=Jkb (P:=P) (w:=w) t;obtain ⟨b1,b2⟩:=b;exact ⟨(p.1,b2) :: rs,⟨JjY h.1,rfl,c⟩,.cons ⟨rfl,h.2⟩ q⟩
def JuZ (trs:List (TE×TE)):TE:=fun σ H Q=>∀ p,H p=none→Jmn trs σ (upd H p (.dK [])) fun ps H2=>H2 p=some (.dK [])∧∃ kvs:List (J0×V),ps=kvs.map (fun kv=>(kV kv.1,kv.2))∧kvs.length≤15∧Q (.ref p) (upd H2 p (.dK (Jdt [] kvs)))
theorem Jtl {X:Cx} {pos:Pos} {keys:List (Option Expr)} {values:List Expr} {trs:List (TE×TE)} (h:PPs X pos keys values trs) (hall:keys.all (·.isSome)=true) (hl:keys.length=values.length) (h0:keys≠[])
  (h15:keys.length≤15):PE X (.Dict keys values pos) (JuZ trs):=by
 intro pins s σ H Q I q;have hn:=I.hok.fresh (Nat.le_refl s.heap.objs.size);have I1:=I.laid (a:=s.heap.objs.size) (o:=.dK []) (h':=s.heap.push { cls:=.type "dict",data:=.dict #[] }) (t':=s.toks) (fun _ _ q=>Heap.get?_push_of_some _ q) (Nat.le_refl _) (Jsh s.heap I.big);refine wpAny_Dict_walk (knd:=YE X.prog X.w) hall hl h0 h15 (JW (h pins _ σ _ _ I1 (q _ hn)) fun ws s2 ⟨ps,H2,I2,rel,e,kvs,ep,lk,q2⟩=>?_);subst ep;obtain ⟨rs,c,rk⟩:=Jkb (P:=X.prog) (w:=X.w) rel;obtain ⟨z,hd,vs0,r0,dd⟩:=JsJ I2.hok e;cases r0;refine ⟨rs,c,dd,fun h' dd' hs=>⟨.ref s.heap.objs.size,_,?_,rfl,q2⟩⟩;have hz:(Jdt [] kvs).length≤sizeLine:=by
  have h1:=Jhd kvs [];rw [List.length_nil] at h1;rw [sizeLine_eq]; omega
 have he:∃ q,h'.get? s.heap.objs.size=some q:=let ⟨q,_,_,hq,_⟩:=dd'; ⟨q,hq⟩;exact Jla I2 (by rw [e]; exact True.intro) hs he (JqH hz hd (rk.merge .nil) dd')
end L2
namespace Att
open PySem PySem.W PySem.Calls PyProof.Rows
theorem Jj1 {P:Params} {h:Heap}:∀ (ns:List Int) (vs:List Value),WellAll P h vs (ns.map WData.int)→IntsAre vs ns:=by
 intro ns
 induction ns with
 | nil =>
  intro vs w;rw [List.map_nil] at w;cases w;exact .nil
 | cons n ns ih =>
  intro vs w;rw [List.map_cons] at w;cases w with
  | cons a b =>
   cases a;exact .cons _ _ (ih _ b)
theorem JpU {l:OpenLaw} {n:Nat} (hn:l.most=some n) {P:Params} {h:Heap} {args:List WData} {vals:List Value}
  (hpre:l.row.toRowW.claim.pre args=true) (hwl:WellAll P h vals args) :
  ∃ a vs ns,vals=[Value.ref a]∧args=[WData.list (ns.map WData.int)]∧h.get? a=some { cls:=.type "list",data:=.seq vs.toArray }∧IntsAre vs ns∧ns.length≤n:=by
 have hsh:WShape.hasAll [] args [.list .int]=true:=(pre_splitW hpre).1;have hc:l.pre.holds [] { args:=args }=true:=(pre_splitW hpre).2;obtain ⟨d,r,rfl,h1,h2⟩:=hasAllW_cons hsh;obtain rfl:=hasAllW_nil h2;obtain ⟨xs,rfl,h3⟩:=hasW_list h1;obtain ⟨ns,rfl⟩:=items_int h3;have hlen:ns.length≤n:=by
  unfold OpenLaw.pre at hc;have h4:(WTm.not (.lt (.lit (.int (n:Int))) (.len (.arg 0)))).holds [] { args:=[.list (ns.map .int)] }=true:=by
   have h4:=(holds_andW hc).1;rw [hn] at h4;exact h4
  have h5:=condW_of h4 (w_not (w_lt w_lit (w_len_list (w_arg rfl))));rw [List.length_map] at h5;refine Nat.le_of_not_lt fun q=>?_
  have q':(n:Int) < ((ns.length:Nat):Int):=by omega
  first
   | (rw [decide_eq_true q'] at h5; exact absurd h5 (by decide))
   | (simp at h5; omega)
 cases hwl with
 | cons w1 w2 =>
  cases w2;cases w1 with
  | list ho hall=>exact ⟨_,_,ns,rfl,rfl,ho,Jj1 ns _ hall,hlen⟩
theorem JpW (l:OpenLaw) (args:List WData):l.row.toRowW.claim.post args (.bool true) args=true :=
 postW_of (r:=l.row.toRowW) (X:=(true == true))
  (show WShape.has [] (.bool true) .bool=true by first | rfl | decide | simp [WShape.has,WShape.arms,WShape.armsAll])
  (show (WTm.eq .res (.lit (.bool true))).value [] { args:=args,res:=some (.bool true),after:=args }=some (.bool (true == true)) from w_eq_bool (w_res rfl) w_lit) rfl
theorem JnS {l:OpenLaw} {n:Nat} {q:Program} {loose:List Str} {XP:(Str→Option Value)→Heap→Prop} {YP:World→Heap→Prop} {d:DefRec}
  (hn:l.most=some n) (hdf:d.params.defaults=[])
  (call:∀ (w:World) (s₀ s₁:Shared) (mg mb:Str→Option Value) (fa:Addr) (o:Obj) (pm cd doc:Value) (a:Addr) (vs:List Value) (ns:List Int),
   Ground q loose [] XP w s₀ mg mb s₁.heap→YP w s₁.heap →
   s₁.heap.get? fa=some o→o.data=.func (docDef d.name d.params d.body d.scope pm cd doc)→s₁.heap.CodeRec cd d.name→mg d.name=some (.ref fa) →
   s₁.heap.get? a=some { cls:=.type "list",data:=.seq vs.toArray }→IntsAre vs ns→ns.length≤n→s₁.gens=#[] →
   codeAny (model l.prog w) callerA (.call (.ref fa) ⟨[.ref a],[]⟩) (fun r s'=>r=.ok (.ret (.bool true))∧OldK s₁.heap s'.heap∧s'.os=s₁.os∧AllBare s'.gens) s₁) :
  WalkO q loose XP YP l.row.toRowW d [] (fun f vs=>PySem.call f vs):=by
 intro w s₀ s₁ mg mb G Y fa o pm cd doc dV kV ho hd hcd hD hmg hg args vals as hpre hlay hrd hwl hlo;obtain rfl:dV=.none:=Dflts.none hD hdf;obtain rfl:kV=.none:=Dflts.noKw hD;obtain ⟨a,vs,ns,rfl,rfl,hobj,hints,hlen⟩:=JpU hn hpre hwl;refine enter_call (codeAny_mono (call w s₀ s₁ mg mb fa o pm cd doc a vs ns G Y ho (fd_plain hd) hcd hmg hobj hints hlen hg) fun r s' hq=>?_);obtain ⟨rfl,h2,h3,h4⟩:=hq;exact ⟨.inl ⟨.bool true,.bool true,[],rfl,fun _=>rfl,.bool true,JpW l _,fun _=>⟨List.Pairwise.nil,fun _ hm=>(nomatch hm)⟩⟩,h2,h3,h4⟩
end Att
namespace L2
open PySem PySem.Spec PyProof.Rows
theorem Jlm:∀ {vs:List Value} {ns:List Int},IntsAre vs ns→JI (ns.map V.int) vs
 | _,_,.nil=>.nil
 | _,_,.cons n t h=>.cons ⟨t,rfl⟩ (Jlm h)
def Jsr (H:Hp):Prop:=∀ b,H b=none∨∃ o xs,H b=some (.frz o (.lst xs))
theorem Jr3 {P:Program} {w:World} {K:PySem.W.Frag} {mg mb:Str→Option Value} {CX:CXT} {k:Nat} {fa a:Addr} {fd:FuncData} {x:Str} {sp:Sp} {s₁:Shared} {vs:List Value} {ns:List Int}
  (KX:K.In s₁.heap) (hns:s₁.heap.Ns mainGlobals mg) (hb:s₁.heap.Ns builtinsNs mb) (hbb:∀ x:Str,x ≠ "__name__"→mb x=bootBuiltins x) (hlim:s₁.heap.NoLimit) (hg:s₁.gens=#[])
  (ha:s₁.heap.get? a=some { cls:=.type "list",data:=.seq vs.toArray }) (hi:IntsAre vs ns) (hl:ns.length≤sizeLine) (hr:Zj k callerA)
  (F:∀ base:Heap,K.In base→base.Ns mainGlobals mg→JK P w K mg base CX k fa fd [x] sp) (hbind:∀ (s:Shared) (u:Value),BindsTo s fd ⟨[u],[]⟩ [(x,u)])
  (hsp:∀ H:Hp,Jsr H→JC K H a (ns.map V.int)→sp [.ref a] H (fun v _=>v=.bl true) fun _ _ _=>False)
  (hCX:∀ H e s',CX [] H s₁ (fun _ _ _=>False) e s'→False) :
  codeAny (model P w) callerA (.call (.ref fa) ⟨[.ref a],[]⟩) (fun r s'=>r=.ok (.ret (.bool true))∧OldK s₁.heap s'.heap∧s'.os=s₁.os∧AllBare s'.gens) s₁:=by
 have rv:=Jlm hi;have lenV:=hi.length;have core:∀ H:Hp,Jsr H→JC K H a (ns.map V.int)→ZZ P w H s₁.heap→(∀ b,H b≠none→b=a)→(H a≠none→K.lookup a=none) →
   codeAny (model P w) callerA (.call (.ref fa) ⟨[.ref a],[]⟩) (fun r s'=>r=.ok (.ret (.bool true))∧OldK s₁.heap s'.heap∧s'.os=s₁.os∧AllBare s'.gens) s₁:=by
  intro H hO hS hok hA hK;have base_of:∀ {b:Addr} {o:Obj},s₁.heap.get? b=some o→H b=none→(JgX s₁.heap H).get? b=some o:=fun e n=>Jr6 e n
  have noA:∀ {b:Addr} {o:Obj} {es:Array DictEntry} {ep:Nat},s₁.heap.get? b=some o→o.data=.dict es ep→H b=none:=fun {b o es ep} e d=>by
   cases q:H b with
   | none=>rfl
   | some u =>
    have e':b=a:=hA b (by rw [q]; simp);subst e';rw [ha] at e; cases e;have d':Data.seq vs.toArray _=Data.dict es ep:=d;cases d'
  have nsK:∀ {b:Addr} {m:Str→Option Value},s₁.heap.Ns b m→(JgX s₁.heap H).Ns b m:=fun {b m} ⟨o,es,ep,e,d,r⟩=>⟨o,es,ep,base_of e (noA e d),d,r⟩
  have hKb:K.In (JgX s₁.heap H):=fun b o e=>base_of (KX b o e) (by
   cases q:H b with
   | none=>rfl
   | some u =>
    have e':b=a:=hA b (by rw [q]; simp);subst e';rw [hK (by rw [q]; simp)] at e; cases e)
  have hM:Mod K mg (JgX s₁.heap H):=⟨hKb,nsK hns,⟨mb,nsK hb,hbb⟩,let ⟨mc,h1,h2⟩:=hlim; ⟨mc,nsK h1,h2⟩⟩
  have e0:Jgh P w K mg (JgX s₁.heap H) callerA [] s₁ H:=⟨rfl,hM,fun b o e=>Jtu e,Nat.le_of_eq (Jqv _ _),trivial,fun b hb=>absurd (show b∈([]:List Addr) from hb) (by simp),hok,.of_eq hg⟩
  refine codeAny_mono ((F _ hKb (nsK hns)).run callerA [] s₁ H ⟨[.ref a],[]⟩ [.ref a] [.ref a] _ _ hr e0 (hbind s₁ (.ref a)) (.cons rfl .nil) (hsp H hO hS)) fun r s' h=>?_
  cases r with
  | error e=>exact (hCX H e s' h).elim
  | ok fl =>
   cases fl with
   | next=>exact False.elim h
   | brk=>exact False.elim h
   | cont=>exact False.elim h
   | ret u =>
    obtain ⟨v,H',os,bare,un,hok',r',q⟩:=h;have q':v=.bl true:=q;subst q';obtain rfl:u=Value.bool true:=r';refine ⟨rfl,OldK.of_keep fun b o e=>?_,os,bare⟩;cases q:H b with
    | none=>exact un.keep b o e q (by intro z; exact absurd (show b∈([]:List Addr) from z) (by simp)) (by simp)
    | some u =>
     rcases hO b with z | ⟨ob,xs,z⟩
     ·rw [q] at z; cases z
     ·have z2:=un.frzs b ob _ z;obtain ⟨e1,_⟩:=hok b _ z;obtain ⟨e2,_⟩:=hok' b _ z2;rw [e] at e1; cases e1;exact e2
 cases hk:K.lookup a with
 | some o =>
  have e:=KX a o hk;rw [ha] at e;cases e;refine core (fun _=>none) (fun _=>.inl rfl) (.inr ⟨_,vs.toArray,_,hk,rfl,rfl,rfl,by rw [List.size_toArray,lenV]; exact hl,by simpa using rv⟩) (fun b u z=>by have z':(none:Option HO)=some u:=z; cases z') (fun b z=>absurd rfl z) fun z=>absurd rfl z
 | none =>
  refine core (fun b=>if b=a then some (.frz { cls:=.type "list",data:=.seq vs.toArray } (.lst (ns.map V.int))) else none) (fun b=>?_) (.inl (.inr ⟨{ cls:=.type "list",data:=.seq vs.toArray },if_pos rfl⟩)) (fun b u z=>?_) (fun b z=>?_) fun _=>hk
  ·by_cases hb:b=a
   ·exact .inr ⟨_,_,if_pos hb⟩
   ·exact .inl (if_neg hb)
  ·by_cases hb:b=a
   ·have z':=(if_pos hb).symm.trans z;cases z';subst hb;exact ⟨ha,by rw [List.length_map]; exact hl,vs,_,rv,ha⟩
   ·have z':=(if_neg hb).symm.trans z;cases z'
  ·by_cases hb:b=a
   ·exact hb
   ·exact absurd (if_neg hb) z
end L2
namespace L2
open PySem PySem.Spec PyProof.Rows
abbrev YB:CXT:=fun _ _ _ _ _ _=>False
abbrev E0:XK:=fun _ _ _=>False
theorem Jt {X:Cx}:JaY YB X E0:=fun _ _ _ _ _ _ _ h=>h.elim
structure Fun (K:PySem.W.Frag) (x qual:Str) (st:Stmt) (f:Addr) (fd:FuncData):Prop where
 ex:∃ (oc:Value) (od:Option Addr) (kV doc pm:Value) (an:Option Addr) (cdv ct:Value) (osl:Array (Option Value)),
  fd=PySem.W.fnOf x qual (JeF st) (Jcp st) (Jl st) .none kV doc pm an cdv ct∧K.lookup f=some ⟨oc,od,.func fd,osl⟩∧PySem.W.codeIn K cdv qual=true
 kp:PySem.W.keepIn K (.ref f)=true
section
variable {P:Program} {w:World} {K:PySem.W.Frag} {mg:Str→Option Value} {base:Heap}
theorem Fun.ok {x qual:Str} {st:Stmt} {f:Addr} {fd:FuncData} {N ps:List Str} {k:Nat} {sp:Sp} (F:Fun K x qual st f fd) (S:Jq N ps (Jl st)) (len:∀ vs H Q E,sp vs H Q E→vs.length=ps.length)
  (hbody:∀ (cdv:Value) (A:Around) (outer:List Env) (s:Shared) (H:Hp) (vs:List V) (Q:VK) (E:XK),Zj k (A.deeper (envOfC qual (Jl st) s.heap.objs.size f cdv))→sp vs H Q E →
   ∃ t,PSs (Jae YB P w K mg base N qual (Jl st) f cdv A outer s H E).nox (Jcp st) t∧t { nx:=fun _ H'=>Q .non H',rt:=Q } (YW N vs) H):JK P w K mg base YB (k + 1) f fd ps sp:=by
 obtain ⟨oc,od,kV,doc,pm,an,cdv,ct,osl,rfl,lk,hcd⟩:=F.ex;refine JsG lk hcd S len fun A outer s H vs Q E hr hsp=>?_
 obtain ⟨t,h,q⟩:=hbody cdv A outer s H vs Q E hr hsp;exact ⟨t,h.nox,q⟩
theorem Fun.binds {x qual:Str} {st:Stmt} {f:Addr} {fd:FuncData} {ps:List Str} (F:Fun K x qual st f fd)
  (h:∀ (kV doc pm:Value) (an:Option Addr) (cdv ct:Value) (us:List Value),us.length=ps.length→bindArgs (PySem.W.fnOf x qual (JeF st) (Jcp st) (Jl st) .none kV doc pm an cdv ct) ⟨us,[]⟩=pure (ps.zip us)):JcQ K fd ps []:=by
 obtain ⟨oc,od,kV,doc,pm,an,cdv,ct,osl,rfl,lk,hcd⟩:=F.ex;exact .all (h kV doc pm an cdv ct)
end
theorem Jio {A:Around} {k:Nat} (hr:Zj k A):A.units + 1 < cLine:=Nat.lt_of_le_of_lt (Nat.add_le_add_left (by decide:1≤64) _) hr.units
section
variable {X:Cx}
theorem pv (i:Nat) {x:Str} {pos:Pos} (hN:X.N[i]?=some x:=by rfl) (hv:Vis X.env.scope x:=by first | exact Or.inl rfl | exact Or.inr (Or.inl rfl) | exact Or.inr (Or.inr rfl)) (hd:(x == ("__debug__" : Str))=false:=by decide)
  (hcd:(x == ("__classdict__" : Str))=false:=by decide):PE X (.Name x pos) (Jou i):=JmQ hN hv hd hcd
end
theorem Yo {A B:Prop} (h:B):if false=true then A else B:=by
 rw [if_neg Bool.false_ne_true];exact h
theorem YD {A B:Prop} (h:A):if true=true then A else B:=by
 rw [if_pos rfl];exact h
theorem YV {c A B:Prop} [Decidable c] (h1:c→A) (h2:¬ c→B):if c then A else B:=by
 by_cases h:c
 ·rw [if_pos h];exact h1 h
 ·rw [if_neg h];exact h2 h
def Jh (H H':Hp):Prop:=∀ b o,H b=some o→H' b=some o
theorem Jh.refl (H:Hp):Jh H H:=fun _ _ h=>h
theorem Jh.trans {H H1 H2:Hp} (a:Jh H H1) (b:Jh H1 H2):Jh H H2:=fun c o h=>b c o (a c o h)
theorem Jh.free {H H':Hp} (e:Jh H H') {l:Addr} (h:H' l=Option.none):H l=Option.none:=by
 cases q:H l with
 | none=>rfl
 | some o =>
  rw [e l o q] at h;cases h
theorem Jh.seq {K:PySem.W.Frag} {H H':Hp} {a:Addr} {xs:List V} (e:Jh H H') (h:JC K H a xs):JC K H' a xs:=by
 rcases h with (h | ⟨o,h⟩) | h
 ·exact .inl (.inl (e _ _ h))
 ·exact .inl (.inr ⟨o,e _ _ h⟩)
 ·exact .inr h
end L2
namespace L2
open PySem PySem.Spec PyProof.Rows
structure Df (K:PySem.W.Frag) (mg:Str→Option Value) (x:Str) (st:Stmt) (ps:List Str) (f:Addr) (fd:FuncData):Prop where
 F:Fun K x x st f fd
 b:JcQ K fd ps []
 m:mg x=some (.ref f)
section
variable {X:Cx} {CX:CXT} {k:Nat} {f C:Addr} {fd:FuncData} {ps:List Str} {sp:Sp} {E:XK} {x m:Str} {p pos apos:Pos} {st:Stmt} {e o:Expr} {es:List Expr} {te ta:TE} {t:TA}
theorem Jk (D:Df X.K X.mg x st ps f fd) (G:JK X.prog X.w X.K X.mg X.base CX k f fd ps sp) (hr:Zj k X.A) (hx:JaY CX X E) (ha:PA X (e :: es) t)
  (hg:Gl X x:=by rfl) (hdb:(x == ("__debug__" : Str))=false:=by decide) (he:starEach (e :: es) X.env=(false,eval e X.env) :: starEach es X.env:=by rfl) (hpl:(backTo pos (starEach es X.env)).any (·.1)=false:=by rfl) :
  PE X (.Call (.Name x p) (e :: es) [] pos) (Jsy sp [] E t):=Jtm G hr hg D.m D.F.kp D.b .nil hx ha hdb he hpl
def Jpj:V→Value
 | .ty n=>.type n
 | .ref a=>.ref a
 | _=>.none
theorem JbX:Yx X (.builtin "isinstance") (fun xs H Q=>∃ x c t b,xs=[x,c]∧(∃ n,c=.ty n∨∃ a,c=.ref a)∧Jde X.K H x t∧PySem.W.kitOne X.K t (Jpj c)=some b∧Q (.bl b) H):=by
 intro pins s σ H xs us Q I r h;obtain ⟨x,c,t,b,rfl,hc,ty,e,q⟩:=h;cases r with
 | cons r rr =>
  cases rr with
  | cons r' rr =>
   cases rr;rename_i u u';have e':u'=Jpj c:=by
    obtain ⟨n,rfl | ⟨a,rfl⟩⟩:=hc
    ·exact r'
    ·exact r'
   subst e';exact Jqr I r ty e fun tk=>⟨.bl b,H,I.tok _,rfl,q⟩
def Jvd (S C:String):Option Bool:=if (Value.type S == Value.type C)=true then some true else if PySem.W.kitMeta C=true then (fastBuiltinMro S).map (·.contains (Value.type C)) else none
theorem JhL {K:PySem.W.Frag} {S C:String} {b:Bool} (h:Jvd S C=some b):PySem.W.kitOne K (.type S) (.type C)=some b:=h
theorem Jux {K:PySem.W.Frag}:PySem.W.kitOne K (.type "int") (.type "int")=some true:=JhL (by decide +kernel)
theorem Juy {K:PySem.W.Frag}:PySem.W.kitOne K (.type "int") (.type "bool")=some false:=JhL (by decide +kernel)
theorem Juw {K:PySem.W.Frag}:PySem.W.kitOne K (.type "int") (.type "str")=some false:=JhL (by decide +kernel)
theorem Jqm {K:PySem.W.Frag}:PySem.W.kitOne K (.type "str") (.type "str")=some true:=JhL (by decide +kernel)
theorem Jql {K:PySem.W.Frag}:PySem.W.kitOne K (.type "tuple") (.type "tuple")=some true:=JhL (by decide +kernel)
end
def JvF (t:TS):TS:=fun D σ H=>@Jh8.rec (fun _=>Prop) (fun nx rt bk ct=>∃ R:St→Hp→Prop,t ⟨R,rt,bk,ct⟩ σ H∧∀ σ' H',R σ' H'→nx σ' H') D
theorem J4 {X:Cx} {st:Stmt} {t:TS} (h:PS X st t):PS X st (JvF t):=by
 intro pins s σ H D I ⟨R,q,n⟩;refine JW (h pins s σ H _ I q) fun f s1 z=>?_
 cases f with
 | next =>
  obtain ⟨σ',H',I',r⟩:=z;exact ⟨σ',H',I',n _ _ r⟩
 | brk=>exact z
 | cont=>exact z
 | ret u=>exact z
theorem Jh.upd {H:Hp} {p:Addr} {o:HO} (h:H p=none):Jh H (upd H p o):=fun b u e=>by
 rw [JB (JD e h)];exact e
theorem Jh.tup {K:PySem.W.Frag} {H H':Hp} {a:Addr} {xs:List V} (e:Jh H H') (h:JL K H a xs):JL K H' a xs:=by
 rcases h with (h | ⟨o,h⟩) | h
 ·exact .inl (.inl (e _ _ h))
 ·exact .inl (.inr ⟨o,e _ _ h⟩)
 ·exact .inr h
theorem YF {c:Bool} {A B:Prop} (hc:c=true) (h:A):if c=true then A else B:=by rw [if_pos hc]; exact h
theorem Yb {c:Bool} {A B:Prop} (hc:c=false) (h:B):if c=true then A else B:=by rw [hc,if_neg Bool.false_ne_true]; exact h
section
variable {X:Cx} {x:Str} {pos:Pos}
theorem Je1 {S:String} (hg:Gl X x) (hm:X.mg x=none) (hv:bootBuiltins x=some (.type S)) (hn:x ≠ "__name__":=by decide) (hd:(x == ("__debug__" : Str))=false:=by decide):PE X (.Name x pos) (tC (.ty S)):=Jtn hg hm hv rfl hn hd
theorem ZO {a:Addr} (hg:Gl X x) (hm:X.mg x=some (.ref a)) (hd:(x == ("__debug__" : Str))=false:=by decide):PE X (.Name x pos) (tC (.ref a)):=Ja1 hg hm rfl hd
end
end L2
namespace L2
open PySem PySem.Spec PyProof.Rows
structure ExC (K:PySem.W.Frag) (C:Addr):Prop where
 ex:PySem.W.excIn K C [.type "ValueError",.type "Exception",.type "BaseException",.type "object"] "ValueError.__new__" = true
 ga:PySem.W.findIn K (.ref C) "__getattribute__" = some (some (.builtin "BaseException.__getattribute__"))
 gt:PySem.W.findIn K (.ref C) "__getattr__" = some none
 cl:PySem.W.findIn K (.ref C) "__class__" = some (some (.builtin "object.__class__"))
 sp:PySem.W.specialIn K (.builtin "object.__class__") "__get__" = some (some (.builtin "getset_descriptor.__get__"))
 tk:PySem.W.takesIn K (.builtin "object.__class__")=some true
 mo:PySem.W.mroIn K C (.type "object")=some true
 mb:PySem.W.mroIn K C (.type "BaseException")=some true
 ci:(PySem.W.clsIn K C).isSome=true
section
variable {prog:Program} {w:World} {A:Around} {E:Value→Shared→Prop} {s:Shared} {K:PySem.W.Frag} {e C:Addr} {oe:Obj}
def Jjt (h:Heap) (e C:Addr):Prop:=∃ oe,h.get? e=some oe∧oe.cls=.ref C
theorem Jjt.type {h:Heap} {M:Model} (I:Jjt h e C):PySem.W.Looks M h (typeOf (.ref e)) (.ref C):=by
 obtain ⟨oe,h1,h2⟩:=I;exact h2 ▸ (PySem.W.Looks.ld h1).andThen .now
theorem Jse {M:Model} {h:Heap} (XC:ExC K C) (X:K.In h):PySem.W.Looks M h (Builtin.ObjectAttr.find (.ref e) (.ref C) "__class__") (.bind (.builtin "getset_descriptor.__get__") (.builtin "object.__class__")):=by
 have L1:=PySem.W.looks_findIn (M:=M) X XC.cl;have L2:=PySem.W.looks_specialIn (M:=M) X XC.sp;have L3:=PySem.W.looks_takesIn (M:=M) X XC.tk;unfold Builtin.ObjectAttr.find;refine L1.andThen (L2.andThen ?_);exact (show PySem.W.Looks M h (Builtin.ObjectAttr.dataDescriptor? (some (.builtin "object.__class__")) (some (.builtin "getset_descriptor.__get__"))) (some (.builtin "getset_descriptor.__get__",.builtin "object.__class__")) from L3.andThen .now).andThen (PySem.W.Looks.tag .now)
theorem Jsf {tp:Value} {R:Result→Shared→Prop} (XC:ExC K C) (X:K.In s.heap) (I:Jjt s.heap e C)
  (h:R (.ok (.ret (.ref C))) s):codeAny (model prog w) A (.call (.builtin "getset_descriptor.__get__") ⟨[.builtin "object.__class__",.ref e,tp],[]⟩) R s:=by
 obtain ⟨hh,g,dr,t,os⟩:=s;have L0:=I.type (M:=model prog w);have L1:=PySem.W.looks_mroIn (M:=model prog w) X XC.mo;refine codeAny_call_builtin PySem.W.KF.slot_gs.plain PySem.W.KF.entry_gs (PySem.W.KF.slot_gs.check _ _ _ _ _ _ _ _ PySem.W.KF.type_class (PySem.W.KF.args_gs _ _ _) ?_);unfold Builtin.«getset_descriptor.__get__» Builtin.Getset_descriptor.descrGet;rw [PySem.W.dga_obj];refine wpAny_bind (wpAny_pure ?_);unfold Builtin.Getset_descriptor.descrGetter Builtin.Getset_descriptor.descrCheckInstance Builtin.Getset_descriptor.descrNameAndClass isInstance;simp only [PySem.W.KF.owner_class]
 repeat lk
 refine ⟨Code.quiet_builtin _ (by decide +kernel),codeAny_builtin PySem.W.KF.entry_class ?_⟩;unfold Builtin.«object.__class__» shownTypeOf
 repeat lk
 exact h
theorem JnP {tk:Tok} {R:Result→Shared→Prop} (XC:ExC K C) (X:K.In s.heap) (I:Jjt s.heap e C) (h:R (.ok (.ret (.ref C))) s) :
  codeAny (model prog w) A (.call (.builtin "BaseException.__getattribute__") ⟨[.ref e,.str "__class__" tk],[]⟩) R s:=by
 obtain ⟨hh,g,d,t,os⟩:=s;have L0:=I.type (M:=model prog w);have LB:=PySem.W.looks_mroIn (M:=model prog w) X XC.mb;have L1:=Jse (M:=model prog w) (e:=e) XC X;have hk:builtinKind "BaseException.__getattribute__" = some .slot:=by decide +kernel
 have hsplit:splitId "BaseException.__getattribute__" = some ("BaseException", "__getattribute__"):=by decide +kernel
 have ha:=F.args_bexc_ga (.ref e) (.str "__class__" tk);refine codeAny_call_builtin F.attr_ValueError.ga.plain F.entry_bexc_ga ?_;simp only [checkBuiltinCall,hk,hsplit];refine wpAny_bind ?_;unfold isInstance;refine wpAny_bind (L0.at (LB.at ?_));simp only [Bool.not_true,Bool.false_eq_true,if_false];have hc:wpAny (model prog w) A.in1 (Builtin.«object.__getattribute__» ⟨[.ref e,.str "__class__" tk],[]⟩) (fun fin s'=>match fin with | .done f=>R (.ok f) s' | .again c'=>c'.quiet=true∧codeAny (model prog w) A c' R s') (fun e s'=>R (.error e) s') ⟨hh,g,d,t,os⟩:=by
  unfold Builtin.«object.__getattribute__»;refine wpAny_bind (m:=slotArgs _ _ _) (wpAny_pure ?_);refine wpAny_bind (m:=Builtin.ObjectAttr.attrName _) (wpAny_pure ?_);refine wpAny_bind (L0.at (wpAny_bind (L1.at ?_)));show wpAny _ _ (holding [.builtin "object.__class__"] (call (.builtin "getset_descriptor.__get__") [.builtin "object.__class__",.ref e,.ref C]) >>= ret) _ _ _;refine wpAny_bind (wpAny_holding (wpAny_call (Jsf (s:=⟨hh,g,d,t,os⟩) XC X I ?_)));exact wpAny_pure h
 repeat (any_goals (first | assumption | wp_step))
theorem JqB {Q:Option Value→Shared→Prop} (XC:ExC K C) (X:K.In s.heap) (I:Jjt s.heap e C) (h:Q (some (.ref C)) { s with toks:=s.toks + 1 }):wpAny (model prog w) A (getAttr? (.ref e) "__class__") Q E s:=by
 obtain ⟨hh,g,d,t,os⟩:=s;have L0:=I.type (M:=model prog w);have L1:=PySem.W.looks_findIn (M:=model prog w) X XC.ga;have L2:=PySem.W.looks_findIn (M:=model prog w) X XC.gt;have f3:=F.attr_ValueError.ga.bind (.ref e);unfold getAttr? getAttrBy? getAttrBy;refine wpAny_bind (wpAny_mkText (wpAny_bind (wpAny_attempt (wpAny_holding (wpAny_bind (L0.at (wpAny_bind (L1.at ?_))))))));have hx2:(onTheHeap (Value.ref C) && Value.builtin "BaseException.__getattribute__" == Value.builtin "object.__getattribute__")=false:=by
  rw [show (Value.builtin "BaseException.__getattribute__" == Value.builtin "object.__getattribute__")=false by decide +kernel,Bool.and_false]
 dsimp only;rw [hx2,if_neg Bool.false_ne_true];unfold getAttrByItsOwn hookBefore;rw [if_pos (show onTheHeap (Value.ref C)=true from rfl)];refine wpAny_bind (L2.at ?_);refine wpAny_bind (wpAny_attempt (wpAny_holding ?_));unfold callGetattribute boundAndCalled;rw [Bool.false_and,if_neg Bool.false_ne_true];refine wpAny_bind (wpAny_of_eq f3 ?_);refine wpAny_call (JnP (s:=⟨hh,g,d,t + 1,os⟩) XC X I ?_);exact PySem.W.handed_on rfl (wpAny_pure h)
theorem Jr4 (XC:ExC K C):PySem.W.KitX K (.ref e) (.ref C) (fun h=>Jjt h e C) where
 ty:=fun _ _ _ I=>I.type
 it:=fun _ _ X _=>by
  obtain ⟨cd,hc⟩:=Option.isSome_iff_exists.mp XC.ci;unfold PySem.W.clsIn at hc;split at hc
  ·rename_i c' d' cd' sl' ho;intro A' Q' E' s' k q;unfold isType loadHead;exact wpAny_bind (wpAny_loadPart (k _ _ (X _ _ ho)) (wpAny_pure q))
  ·cases hc
 ne:=fun h tp dd its n sl X htp=>by
  obtain ⟨cd,hc⟩:=Option.isSome_iff_exists.mp XC.ci;refine Bool.eq_false_iff.mpr fun q=>?_
  have e:C=tp:=Value.ref.inj (beq_iff_eq.mp q);subst e;unfold PySem.W.clsIn at hc;split at hc
  ·rename_i c' d' cd' sl' ho;have z:=(X _ _ ho).symm.trans htp;cases z
  ·cases hc
 ca:=fun X I k=>JqB XC X I k
end
structure Jpr (P:Program) (w:World) (outer:List Env) (H:Hp) (h:Heap) (ea C:Addr) (B:Heap) (H':Hp) (h':Heap):Prop where
 fly:∃ a0,Heap.FlyingW B outer ea (.ref C) a0 h'
 hok:ZZ P w H' B
 keep:∀ b o,h.get? b=some o→H b=none→b∉frs outer→B.get? b=some o
 there:∀ b o,h.get? b=some o→b∉frs outer→∃ o',B.get? b=some o'
 slot:∀ b o,h.get? b=some o→b∈frs outer→∃ sl,h'.get? b=some { o with slots:=sl }
 free:∀ b o,h.get? b=some o→H b=none→H' b=none
 tups:∀ b xs,H b=some (.tup xs)→H' b=some (.tup xs)
 frzs:∀ b o u,H b=some (.frz o u)→H' b=some (.frz o u)
 tbls:∀ b ps,H b=some (.tbl ps)→∃ more,H' b=some (.tbl (ps ++ more))
theorem Jpr.un {P:Program} {w:World} {outer:List Env} {H H':Hp} {h h' h'' B:Heap} {ea C:Addr} (F:Jpr P w outer H h ea C B H' h') (st:B.StaysIn h'') (sl:∀ b o,h.get? b=some o→b∈frs outer→∃ sl,h''.get? b=some { o with slots:=sl }) :
  Un (frs outer) [] H H' h h'' where
 keep:=fun b o e n hb _=>st b o (F.keep b o e n hb)
 slot:=fun b o e n hb _=>sl b o e hb
 free:=fun b o e n _=>F.free b o e n
 there:=fun b o e _=>by
  by_cases hb:b∈frs outer
  ·obtain ⟨s,q⟩:=sl b o e hb;exact ⟨_,q⟩
  ·obtain ⟨o',q⟩:=F.there b o e hb;exact ⟨o',st b o' q⟩
 tups:=F.tups
 frzs:=F.frzs
 tbls:=F.tbls
theorem JiQ {h' h'' base:Heap} {l:List Env} (hl:h'.FunFrames base l) (k:h'.UpToSlots h'') {b:Addr} {o:Obj} {sl:Array (Option Value)} (e:h'.get? b=some { o with slots:=sl }) (hb:b∈frs l):∃ sl,h''.get? b=some { o with slots:=sl }:=by
 obtain ⟨_,o',ho',hd⟩:=hl.mem hb;rw [e] at ho';cases ho';obtain ⟨s,q⟩:=k b _ e hd;exact ⟨s,q⟩
abbrev Zb (P:Program) (w:World):CXT:=fun outer H s E e s'=>∃ (ea C:Addr) (B:Heap) (H':Hp),e=.ref ea∧s'.os=s.os∧AllBare s'.gens∧Jpr P w outer H s.heap ea C B H' s'.heap∧E (.ref C) none H'
def JqZ (X:Cx) (E:XK):Prop:=∀ (pins:List (Addr×Obj)) (σ:St) (H:Hp) (s:Shared) (ea C:Addr) (vs:List Value) (h':Heap),Jo X pins σ H s→Heap.MadeExcOf s.heap h' ea (.ref C) vs→E (.ref C) none H→X.xe (.ref ea) { s with heap:=h' }
section
variable {P:Program} {w:World} {K:PySem.W.Frag} {mg:Str→Option Value} {base:Heap} {N:List Str} {qual:Str} {sc:Scope} {f:Addr} {cd:Value} {A:Around} {outer:List Env} {s:Shared} {H:Hp} {E:XK}
theorem Jck:JqZ (Jae (Zb P w) P w K mg base N qual sc f cd A outer s H E) E:=by
 intro pins σ H1 s1 ea C vs h' I hx q;have hstk:frs (Jae (Zb P w) P w K mg base N qual sc f cd A outer s H E).stack=s.heap.objs.size :: frs outer:=rfl;have hin:∀ env∈(Jae (Zb P w) P w K mg base N qual sc f cd A outer s H E).stack,∀ a,env.frame=some a→a∈frs (Jae (Zb P w) P w K mg base N qual sc f cd A outer s H E).stack:=fun env he a ha=>List.mem_filterMap.mpr ⟨env,he,ha⟩
 have notin:∀ {b:Addr} {o:Obj},s.heap.get? b=some o→b∉frs outer→b∉frs (Jae (Zb P w) P w K mg base N qual sc f cd A outer s H E).stack:=fun {b o} e hb hm=>by
  rw [hstk] at hm;rcases List.mem_cons.mp hm with z | z
  ·exact absurd (Heap.lt_size e) (by rw [z]; exact Nat.lt_irrefl _)
  ·exact hb z
 have noex:∀ b:Addr,b∉(Jae (Zb P w) P w K mg base N qual sc f cd A outer s H E).ex:=fun b z=>absurd (show b∈([]:List Addr) from z) (by simp)
 refine wpAny_leaves_madeW (base:=PySem.W.hideAll s1.heap (frs (Jae (Zb P w) P w K mg base N qual sc f cd A outer s H E).stack)) (h:=s1.heap) I.ok.frames rfl (fun b o e=>PySem.W.of_hideAll _ e) (PySem.W.funFrames_hide I.stack hin) hx fun h'' t x1 x2 x3 x4=>?_
 have hF0:s1.heap.FunFrames base outer:=I.funs;have hF1:h'.FunFrames base outer:=hF0.of_keeps fun b o e _=>⟨o,hx.keeps b o e,rfl⟩
 refine ⟨ea,C,_,H1,rfl,I.os,I.bare,⟨⟨_,x1⟩,fun a o e=>?_,fun b o e n hb=>?_,fun b o e hb=>?_,fun b o e hb=>?_,fun b o e n=>I.base.free b o e n (noex b),I.base.tups,I.base.frzs,I.base.tbls⟩,q⟩
 ·have tin:∀ b u,H1 b=some u→∀ o,s1.heap.get? b=some o→(PySem.W.hideAll s1.heap (frs (Jae (Zb P w) P w K mg base N qual sc f cd A outer s H E).stack)).get? b=some o:=fun b u hu o ho=>PySem.W.hideAll_get _ ho fun hm=>by
   rw [I.stkFree b hm] at hu; cases hu
  refine (I.hok a o e).stay (fun b u hb hq=>?_) (fun _ z=>z) fun _ _ z=>z
  rcases hb with rfl | hb
  ·exact tin _ _ e u hq
  ·exact tin _ _ hb u hq
 ·exact PySem.W.hideAll_get _ (I.base.keep b o e n hb (noex b)) (notin e hb)
 ·obtain ⟨o',e'⟩:=I.base.there b o e (noex b);exact ⟨o',PySem.W.hideAll_get _ e' (notin e hb)⟩
 ·obtain ⟨sl,e1⟩:=I.base.slot b o e (I.ok.frf b hb) hb (noex b);exact JiQ hF1 x4 (hx.keeps _ _ e1) hb
theorem Yw:JaY (Zb P w) (Jae (Zb P w) P w K mg base N qual sc f cd A outer s H E) E:=by
 intro pins σ H1 s1 e s' I hq;obtain ⟨ea,C,B,H2,rfl,os,bare,fl,q⟩:=hq;have hstk:frs (Jae (Zb P w) P w K mg base N qual sc f cd A outer s H E).stack=s.heap.objs.size :: frs outer:=rfl;have sub:∀ {b:Addr},b∈frs outer→b∈frs (Jae (Zb P w) P w K mg base N qual sc f cd A outer s H E).stack:=fun hb=>by rw [hstk]; exact List.mem_cons_of_mem _ hb
 have notin:∀ {b:Addr} {o:Obj},s.heap.get? b=some o→b∉frs outer→b∉frs (Jae (Zb P w) P w K mg base N qual sc f cd A outer s H E).stack:=fun {b o} e hb hm=>by
  rw [hstk] at hm;rcases List.mem_cons.mp hm with z | z
  ·exact absurd (Heap.lt_size e) (by rw [z]; exact Nat.lt_irrefl _)
  ·exact hb z
 have noex:∀ b:Addr,b∉(Jae (Zb P w) P w K mg base N qual sc f cd A outer s H E).ex:=fun b z=>absurd (show b∈([]:List Addr) from z) (by simp)
 obtain ⟨a0,fly⟩:=fl.fly;refine wpAny_leaves_onW I.ok.frames rfl fly fun h'' x1 x2=>?_
 refine ⟨ea,C,B,H2,rfl,os.trans I.os,bare,⟨⟨_,x1⟩,fl.hok,fun b o e n hb=>?_,fun b o e hb=>?_,fun b o e hb=>?_,fun b o e n=>?_,fun b xs e=>fl.tups b xs (I.base.tups b xs e),fun b o u e=>fl.frzs b o u (I.base.frzs b o u e),fun b ps e=>?_⟩,q⟩
 ·exact fl.keep b o (I.base.keep b o e n hb (noex b)) (I.base.free b o e n (noex b)) (notin e hb)
 ·obtain ⟨o',e'⟩:=I.base.there b o e (noex b);exact fl.there b o' e' (notin e hb)
 ·obtain ⟨sl,e1⟩:=I.base.slot b o e (I.ok.frf b hb) hb (noex b);obtain ⟨sl',e2⟩:=fl.slot b _ e1 (sub hb);exact JiQ fly.2.2.1 x2 e2 (sub hb)
 ·obtain ⟨o',e'⟩:=I.base.there b o e (noex b);exact fl.free b o' e' (I.base.free b o e n (noex b))
 ·obtain ⟨m1,e1⟩:=I.base.tbls b ps e;obtain ⟨m2,e2⟩:=fl.tbls b _ e1;exact ⟨m1 ++ m2,by rw [e2,Array.append_assoc]⟩
theorem Fun.ok1 {x:Str} {st:Stmt} {fd:FuncData} {ps:List Str} {k:Nat} {sp:Sp} (F:Fun K x qual st f fd) (S:Jq N ps (Jl st)) (len:∀ vs H Q E,sp vs H Q E→vs.length=ps.length)
  (hbody:∀ (cdv:Value) (A:Around) (outer:List Env) (s:Shared) (H:Hp) (vs:List V) (Q:VK) (E:XK),Zj k (A.deeper (envOfC qual (Jl st) s.heap.objs.size f cdv))→sp vs H Q E →
   ∃ t,PSs (Jae (Zb P w) P w K mg base N qual (Jl st) f cdv A outer s H E) (Jcp st) t∧t { nx:=fun _ H'=>Q .non H',rt:=Q } (YW N vs) H):JK P w K mg base (Zb P w) (k + 1) f fd ps sp:=by
 obtain ⟨oc,od,kV,doc,pm,an,cdv,ct,osl,rfl,lk,hcd⟩:=F.ex;exact JsG lk hcd S len fun A outer s H vs Q E hr hsp=>hbody cdv A outer s H vs Q E hr hsp
end
section
variable {X:Cx} {x:Str} {C:Addr} {e:Expr} {te:TE} {np cpos pos:Pos} {E:XK}
def Jmm (C:Addr) (E:XK) (te:TE):TS:=fun D σ H=>te σ H fun v H'=>E (.ref C) none H'
theorem Jto {K:PySem.W.Frag} {h:Heap} {bmB:List Value} {newId:String} (X:K.In h) (q:PySem.W.excIn K C bmB newId=true):OwnCls x C bmB newId (fun _=>some (.ref C)) h:=by
 refine ⟨rfl,?_⟩;unfold PySem.W.excIn at q;split at q
 ·rename_i dd cd sl ho;split at q
  ·rename_i C' bm k0 k1 k2 k3 n k5 hm hs;simp only [Bool.and_eq_true,beq_iff_eq,Bool.not_eq_true'] at q;obtain ⟨⟨⟨⟨⟨rfl,rfl⟩,hdel⟩,ht⟩,hok⟩,hni⟩:=q;obtain ⟨nm,bs,mro,ns,qn,hd,sn,sub,ab,col,del⟩:=cd;dsimp only at hm hdel hok hni;subst hm hdel;have hsl:sl=#[k0,k1,k2,k3,some (.builtin n),k5]:=by
    obtain ⟨l⟩:=sl;simp only at hs;rw [hs]
   subst hsl;exact ⟨bm,ns,nm,qn,bs,hd,sn,sub,ab,col,dd,k0,k1,k2,k3,k5,_,X _ _ ho,.of_isNs (PySem.W.isNs_of_in X hok),PySem.W.nsMap_none_of_in X hok hni,PySem.W.tail_of_in X ht⟩
  ·cases q
 ·cases q
theorem Jbs (XC:ExC X.K C) (hm:X.mg x=some (.ref C)) (hr:JqZ X E) (he:PE X e te) (hc:X.calm=true:=by rfl) (hg:Gl X x:=by rfl) (hd:(x == ("__debug__" : Str))=false:=by decide)
  (hs:starEach [e] X.env=[(false,eval e X.env)]:=by rfl):PS X (.Raise (some (.Call (.Name x np) [e] [] cpos)) none pos) (Jmm C E te):=by
 intro pins s σ H D I h;obtain ⟨tl,N,nm,q,bs,hdct,sn,sub,ab,col,dd,k0,k1,k2,k3,k5,mN,hC,hN,hni,T⟩:=(Jto (x:=x) I.mod.kin XC.ex).obj;refine wpAny_Raise_call_subU (C:=C) (nm:=nm) (q:=q) (N:=N) (bs:=bs) (bm:=tl) (hdct:=hdct) (sn:=sn) (sub:=sub) (ab:=ab) (col:=col) (dd:=dd) (k0:=k0) (k1:=k1) (k2:=k2) (k3:=k3) (k5:=k5) (mN:=mN)
  F.excBase_ValueError F.excBase_ValueError.hasB F.excBase_ValueError (T.hasType F.excBase_ValueError.hasBase) (I.ok.hd hc) (by rw [hs]; rfl) hni (Jgy I hg hm ⟨rfl,?_⟩ hd)
 rw [hs];refine Calls.evalArgs_plain (Calls.spliced_cons (JW (he pins s σ H _ I h) fun u s1 ⟨v,H1,I1,r1,q1⟩=>?_));exact Calls.spliced_nil ⟨rfl,by show 1≤sizeLine; decide,I1.bk _ _ hC,hN.keeps I1.bk,T.keeps I1.bk,fun h' ea hx=>hr pins σ H1 s1 ea C _ h' I1 hx q1⟩
end
theorem YL.at_ {P:Program} {w:World} {H:Hp} {h:Heap} {a:Addr} {o:HO} (x:YL P w H h a o):∃ ob,h.get? a=some ob:=by
 cases o with
 | lst xs=>obtain ⟨_,_,_,_,e⟩:=x; exact ⟨_,e⟩
 | tup xs=>obtain ⟨_,_,_,ob,e,_⟩:=x; exact ⟨_,e⟩
 | dK kvs=>obtain ⟨_,_,_,_,o,_,_,e,_⟩:=x; exact ⟨_,e⟩
 | dT kvs=>obtain ⟨_,_,_,_,o,_,_,e,_⟩:=x; exact ⟨_,e⟩
 | set S n=>obtain ⟨o,_,_,_,e,_⟩:=x; exact ⟨_,e⟩
 | ins C dx fs=>obtain ⟨_,_,_,e,_⟩:=x; exact ⟨_,e⟩
 | own y=>obtain ⟨_,e⟩:=x; exact ⟨_,e⟩
 | xd fs=>obtain ⟨_,⟨_,_,_,e,_⟩,_⟩:=x; exact ⟨_,e⟩
 | rng lo hi=>obtain ⟨_,_,_,e⟩:=x; exact ⟨_,e⟩
 | frz ob u=>obtain ⟨e,_⟩:=x; exact ⟨_,e⟩
 | tbl ps=>exact ⟨_,(show h.get? a=some _ from x)⟩
 | met f y=>exact ⟨_,(show h.get? a=some _ from x)⟩
 | ext φ=>obtain ⟨_,⟨_,e⟩,_⟩:=x; exact ⟨_,e⟩
section
variable {X:Cx} {pins:List (Addr×Obj)} {σ:St} {H:Hp} {s:Shared}
theorem JfP {M:Model} {A:Around} {E:Value→Shared→Prop} {i:Nat} {x:Str} {pos:Pos} {Q:Unit→Shared→Prop} (I:Jo X pins σ H s) (hN:X.N.Nodup) (hi:X.N[i]?=some x) (hk:X.env.scope.names.lookup x=some .local)
  (h:∀ s',Jo X pins (σ.set i none) H s'→Q () s'):wpAny M A (do bindName X.env x .none; unbindBehindTheSuite X.env x pos) Q E s:=by
 obtain ⟨m,hn,hl⟩:=id I.loc;have hcls:(X.env.scope.kind == .class || (X.env.scope.kind == .module && X.env.locals != X.env.globals))=false:=by rw [I.ok.kind]; rfl
 have hiσ:i < σ.length:=by rw [I.len]; exact (List.getElem?_eq_some_iff.mp hi).1
 have cne:=I.cne;have tracked:∀ {a:Addr} {h':Heap},(∃ o,s.heap.get? a=some o∧H a=none)→Heap.SameBut a s.heap h'→ZZ X.prog X.w H h':=fun {a h'} ha hs b ob e=>by
  obtain ⟨_,_,hfree⟩:=ha;refine (I.hok b ob e).stay (fun c w' hc q=>(hs.2 c ?_).trans q) (fun _ q=>q) fun _ _ q=>q
  rintro rfl;rcases hc with rfl | hc
  ·rw [hfree] at e; cases e
  ·rw [hfree] at hc; cases hc
 refine wpAny_nameGoes_keeps hk hn hcls (fun h' v0 hn' hs=>?_);obtain ⟨oL,_,_,hoL,_⟩:=id hn;refine h _ ⟨I.ok,I.os,I.bare,⟨fun b o e n hb hx=>?_,fun b o e n hb hx=>?_,I.base.free,fun b o e hx=>?_,I.base.tups,I.base.frzs,I.base.tbls⟩,⟨_,hn',fun j y v' e1 e2 e3=>?_⟩,fun y c e=>?_,I.free,I.freeC,fun p hp=>?_,tracked ⟨oL,hoL,I.free⟩ hs,by simpa using I.len⟩
 ·exact (hs.2 b (Nat.ne_of_lt (Nat.lt_of_lt_of_le (Heap.lt_size e) I.ok.above))).trans (I.base.keep b o e n hb hx)
 ·obtain ⟨sl,e1⟩:=I.base.slot b o e n hb hx;exact ⟨sl,(hs.2 b (Nat.ne_of_lt (Nat.lt_of_lt_of_le (Heap.lt_size e) I.ok.above))).trans e1⟩
 ·obtain ⟨o',e1⟩:=I.base.there b o e hx;exact ⟨o',(hs.2 b (Nat.ne_of_lt (Nat.lt_of_lt_of_le (Heap.lt_size e) I.ok.above))).trans e1⟩
 ·by_cases hj:j=i
  ·subst hj;rw [List.getElem?_set_self hiσ] at e2;cases e2
  ·rw [List.getElem?_set_ne (Ne.symm hj)] at e2;obtain ⟨u',r',q⟩:=hl j y v' e1 e2 e3;refine ⟨u',r',?_⟩;rcases q with ⟨k,e⟩ | ⟨k,c,e,z⟩
   ·refine .inl ⟨k,?_⟩;have:y≠x:=fun e=>hj (Ji3 hN e1 (e ▸ hi))
    simp [this,e]
   ·exact .inr ⟨k,c,e,z.sameBut hs (cne y c e)⟩
 ·obtain ⟨w',z⟩:=I.cell y c e;exact ⟨w',z.sameBut hs (cne y c e)⟩
 ·obtain ⟨e,n,ne,nf,d⟩:=I.pin p hp;exact ⟨(hs.2 p.1 ne).trans e,n,ne,nf,d⟩
theorem Jo.turn_to {A:Around} {calm:Bool} {pn pins':List (Addr×Obj)} {xe:Value→Shared→Prop} {σ':St} (I:Jo X pins σ H s) (hf:A.frames=X.A.frames) (hc:calm=true→A.handled=none) (hp:∀ p∈pn ++ pins',p∈X.pn ++ pins∨(s.heap.get? p.1=some p.2∧H p.1=none∧p.1≠X.env.locals∧p.1∉X.fs∧∀ v,p.2.data≠.cell v))
  (hl:σ'.length=σ.length) (wk:∀ (i:Nat) v,σ'[i]?=some (some v)→σ[i]?=some (some v)):Jo { X with A:=A,calm:=calm,pn:=pn,xe:=xe } pins' σ' H s :=
 ⟨⟨I.ok.mod,I.ok.kind,I.ok.glob,I.ok.blt,I.ok.above,I.ok.inj,I.ok.has,I.ok.cab,hc,hf.trans I.ok.frames,I.ok.stk,I.ok.exf,I.ok.bs,I.ok.bsz,I.ok.noex,I.ok.exfs,I.ok.funs,I.ok.frf⟩,I.os,I.bare,I.base,
  let ⟨m,hn,hl'⟩:=I.loc; ⟨m,hn,fun i x v e1 e2 e3=>hl' i x v e1 (wk i v e2) e3⟩,I.cell,I.free,I.freeC,fun p q=>(hp p q).elim (fun z=>I.pin p z) fun z=>z,I.hok,hl.trans I.len⟩
end
def JvB (K:PySem.W.Frag) (Ch:Addr) (i n:Nat) (E:XK) (tb:TS) (th:Addr→Addr→TS):TS:=fun D σ H=>tb D σ H∧∀ ea C H',E (.ref C) none H'→PySem.W.exmOne K (.ref C) (.ref Ch)=some true ∧
 th ea C { nx:=fun σ' H''=>D.nx (σ'.set i none) H'',rt:=D.rt,bk:=fun σ' H''=>D.bk (σ'.set i none) H'',ct:=fun σ' H''=>D.ct (σ'.set i none) H'' } ((List.replicate n none).set i (some (.ref ea))) H'
theorem Juh {X:Cx} {body:List Stmt} {x nm:Str} {i:Nat} {Ch:Addr} {h0:Stmt} {hs:List Stmt} {tb:TS} {th:Addr→Addr→TS} {np hpos pos:Pos} (E:XK) (hN:X.N.Nodup) (hm:X.mg x=some (.ref Ch)) (hi:X.N[i]?=some nm)
  (hb:∀ (pn:List (Addr×Obj)) (xe:Value→Shared→Prop),JaY (Zb X.prog X.w) { X with A:=X.A,calm:=X.calm,pn:=pn,xe:=xe } E→PSs { X with A:=X.A,calm:=X.calm,pn:=pn,xe:=xe } body tb)
  (hh:∀ (ea C:Addr) (oe:Obj) (A:Around) (pn:List (Addr×Obj)),(ea,oe)∈pn→oe.cls=.ref C→PSs { X with A:=A,calm:=false,pn:=pn,xe:=fun _ _=>False } (h0 :: hs) (th ea C))
  (hl:X.env.scope.names.lookup nm=some .local:=by rfl) (hg:Gl X x:=by rfl) (hst:X.stack=X.env :: X.outer:=by rfl) (hfr:X.env.frame=some X.env.locals:=by rfl) (hd:(x == ("__debug__" : Str))=false:=by decide) :
  PS X (.Try body [.ExceptHandler (some (.Name x np)) (some nm) (h0 :: hs) hpos] [] [] pos) (JvB X.K Ch i X.N.length E tb th):=by
 intro pins s σ H D I ⟨hbq,hhq⟩;let XE:Value→Shared→Prop:=fun e s'=>∃ pins' σ' H1 s1,Jo { X with A:=X.A,calm:=X.calm,pn:=X.pn ++ pins,xe:=fun _ _=>False } pins' σ' H1 s1∧Zb X.prog X.w X.stack H1 s1 E e s'
 have I1:Jo { X with A:=X.A,calm:=X.calm,pn:=X.pn ++ pins,xe:=XE } [] σ H s:=I.turn_to rfl I.ok.hd (fun p hp=>.inl (by simpa using hp)) rfl fun _ _ e=>e
 have hpass:JaY (Zb X.prog X.w) { X with A:=X.A,calm:=X.calm,pn:=X.pn ++ pins,xe:=XE } E:=fun pins' σ' H1 s1 e s' I' hq=>⟨pins',σ',H1,s1,I'.turn_to (X:={ X with A:=X.A,calm:=X.calm,pn:=X.pn ++ pins,xe:=XE }) rfl I'.ok.hd (fun p hp=>.inl hp) rfl fun _ _ e=>e,hq⟩
 have back:∀ {A:Around} {calm:Bool} {pn:List (Addr×Obj)} {xe:Value→Shared→Prop} {σ':St} {H':Hp} {s':Shared},(∀ p∈X.pn ++ pins,p∈pn ++ [])→Jo { X with A:=A,calm:=calm,pn:=pn,xe:=xe } [] σ' H' s'→Jo X pins σ' H' s':=fun hp I' =>
  ⟨I.ok,I'.os,I'.bare,I'.base,I'.loc,I'.cell,I'.free,I'.freeC,fun p q=>I'.pin p (hp p q),I'.hok,I'.len⟩
 refine wpAny_Try_except (wpAny_mono (hb _ _ hpass [] s σ H D I1 hbq) (fun f s1 z=>?_) fun e s1 z=>?_)
 ·have bk:=fun {σ' H' s'}=>back (A:=X.A) (calm:=X.calm) (pn:=X.pn ++ pins) (xe:=XE) (σ':=σ') (H':=H') (s':=s') (fun p hp=>by simpa using hp)
  cases f with
  | next=>obtain ⟨σ',H',I',q⟩:=z; exact wpAny_execs_nil ⟨σ',H',bk I',q⟩
  | brk=>obtain ⟨σ',H',I',q⟩:=z; exact ⟨σ',H',bk I',q⟩
  | cont=>obtain ⟨σ',H',I',q⟩:=z; exact ⟨σ',H',bk I',q⟩
  | ret u=>obtain ⟨v,σ',H',I',r,q⟩:=z; exact ⟨v,σ',H',bk I',r,q⟩
 ·obtain ⟨pins',σ',H1,s0,I',ea,C,B,H2,rfl,os,bare,fl,q⟩:=z;obtain ⟨hexm,hth⟩:=hhq ea C H2 q;obtain ⟨a0,fly⟩:=fl.fly;have fly':Heap.FlyingW B (X.env :: X.outer) ea (.ref C) a0 s1.heap:=by rw [← hst]; exact fly
  refine wpAny_looks_onW (env:=X.env) (outer:=X.outer) (by rw [← hst]; exact I.ok.frames) hfr fly' fun h4 held4 sm4=>?_
  refine wpAny_landsW held4 fun h5 fly5 sm5=>?_
  have mk:∀ {h6:Heap} {t:Nat},Heap.FlyingW B (X.env :: X.outer) ea (.ref C) a0 h6→s1.heap.UpToSlots h6→Jo { X with A:=X.A,calm:=X.calm,pn:=X.pn ++ pins,xe:=fun _ _=>False } pins' σ' H2 { s1 with heap:=h6,toks:=t }:=fun {h6 t} f6 u6=>by
   refine I'.call' (s':={ s1 with heap:=h6,toks:=t }) (ch:=[]) os (fl.un f6.1 fun b o e hb=>?_) (fl.hok.kept fun b u e=>f6.1 b u e) bare (fun b z=>nomatch z);obtain ⟨sl,e1⟩:=fl.slot b o e hb;exact JiQ fly.2.2.1 u6 e1 hb
  have I5:Jo { X with A:=X.A.mark (some (.ref ea)),calm:=false,pn:=X.pn ++ pins,xe:=fun _ _=>False } [] (List.replicate X.N.length none) H2 { s1 with heap:=h5 } :=
   (mk (t:=s1.toks) fly5 (sm4.trans sm5)).turn_to rfl (fun z=>by cases z) (fun p hp=>.inl (List.mem_append_left _ (by simpa using hp))) (by rw [List.length_replicate]; exact I'.len.symm) fun j v e=>by
    rw [List.getElem?_replicate] at e;split at e <;> cases e
  refine wpAny_handleBy_cons (codeAny_handlers_test (Jgy I5 hg hm ?_ hd)) (by intro q; cases q);obtain ⟨ob,hob,hobc⟩:=fly5.there;refine PySem.W.exm_one (M:=model X.prog X.w) I5.kIn (Jjt.type ⟨ob,hob,hobc⟩) hexm _ _ _ _ (fun _ _ e=>e) ?_;refine codeAny_handlers_suite_as (lands_againW fly5 fun h6 fly6 sm6=>?_);obtain ⟨oe,ws,hoe,hoec,hoed,hoe0⟩:=fly6.first;have u6:=(sm4.trans sm5).trans sm6;have n2:H2 ea=none:=by
   cases z:H2 ea with
   | none=>rfl
   | some u =>
    obtain ⟨ob,zz⟩:=(fl.hok ea u z).at_;rw [fly6.2.1] at zz; cases zz
  have nL:ea≠X.env.locals:=fun z=>by
   obtain ⟨_,⟨L,o,hf,_,ho,hdd⟩,_⟩:=fly6.2.2.1;rw [hfr] at hf; cases hf;rw [← z,hoe] at ho; cases ho;exact hdd _ hoed
  have nF:ea∉X.fs:=fun z=>by
   obtain ⟨_,o,ho,hdd⟩:=fly6.2.2.1.2.2.mem z;rw [hoe] at ho; cases ho;exact hdd _ hoed
  have I6:Jo { X with A:=X.A.mark (some (.ref ea)),calm:=false,pn:=X.pn ++ pins ++ [(ea,oe)],xe:=fun _ _=>False } [] (List.replicate X.N.length none) H2 { s1 with heap:=h6 } :=
   (mk (t:=s1.toks) fly6 u6).turn_to rfl (fun z=>by cases z) (fun p hp=>by
    rw [List.append_nil] at hp;rcases List.mem_append.mp hp with z | z
    ·exact .inl (List.mem_append_left _ z)
    ·have z':p=(ea,oe):=by simpa using z
     subst z';exact .inr ⟨hoe,n2,nL,nF,fun v z=>by rw [hoed] at z; cases z⟩) (by rw [List.length_replicate]; exact I'.len.symm) fun j v e=>by
    rw [List.getElem?_replicate] at e;split at e <;> cases e
  refine JiO (X:={ X with A:=X.A.mark (some (.ref ea)),calm:=false,pn:=X.pn ++ pins ++ [(ea,oe)],xe:=fun _ _=>False }) I6 hN hi (Or.inl hl) (v:=.ref ea) rfl (fun s7 I7=>?_) (Or.inr hl);have run:=hh ea C oe (X.A.mark (some (.ref ea))) (X.pn ++ pins ++ [(ea,oe)]) (by simp) hoec [] s7 _ H2 _ I7 hth;refine wpAny_mono run (fun f s8 z=>?_) fun _ _ z=>z.elim
  have bk:=fun {σ' H' s'}=>back (A:=X.A.mark (some (.ref ea))) (calm:=false) (pn:=X.pn ++ pins ++ [(ea,oe)]) (xe:=fun _ _=>False) (σ':=σ') (H':=H') (s':=s') (fun p hp=>by rw [List.append_nil]; exact List.mem_append_left _ hp)
  cases f with
  | next=>obtain ⟨σ8,H8,I8,q8⟩:=z; exact JfP (bk I8) hN hi hl fun s9 I9=>⟨_,H8,I9,q8⟩
  | brk=>obtain ⟨σ8,H8,I8,q8⟩:=z; exact JfP (bk I8) hN hi hl fun s9 I9=>⟨_,H8,I9,q8⟩
  | cont=>obtain ⟨σ8,H8,I8,q8⟩:=z; exact JfP (bk I8) hN hi hl fun s9 I9=>⟨_,H8,I9,q8⟩
  | ret u=>obtain ⟨v8,σ8,H8,I8,r8,q8⟩:=z; exact JfP (bk I8) hN hi hl fun s9 I9=>⟨v8,_,H8,I9,r8,q8⟩
def Jcw (K:PySem.W.Frag) (ea C:Addr):List V→Hp→VK→Prop:=fun xs H Q=>∃ c b,xs=[.ref ea,c]∧(∃ n,c=.ty n∨∃ a,c=.ref a)∧ExC K C∧PySem.W.kitOne K (.ref C) (Jpj c)=some b∧Q (.bl b) H
theorem Za {X:Cx} {ea C:Addr} {oe:Obj} (hp:(ea,oe)∈X.pn) (hc:oe.cls=.ref C):Yx X (.builtin "isinstance") (Jcw X.K ea C):=by
 intro pins s σ H xs us Q I r h;obtain ⟨c,b,rfl,hcc,XC,e,q⟩:=h;cases r with
 | cons r rr =>
  cases rr with
  | cons r' rr =>
   cases rr;rename_i u u';have e':u'=Jpj c:=by
    obtain ⟨n,rfl | ⟨a,rfl⟩⟩:=hcc
    ·exact r'
    ·exact r'
   subst e';cases (show u=Value.ref ea from r);obtain ⟨h1,_⟩:=I.pin (ea,oe) (List.mem_append_left _ hp);exact PySem.W.kia_one (Jr4 XC) I.kIn ⟨oe,h1,hc⟩ e (fun z=>nomatch z) fun tk=>⟨.bl b,H,I.tok _,rfl,q⟩
end L2
namespace L2
open PySem PySem.Spec PyProof.Rows
theorem PE.imp {X:Cx} {e:Expr} {t t':TE} (h:PE X e t) (i:∀ σ H Q,t' σ H Q→t σ H Q):PE X e t':=fun pins s σ H Q I q=>h pins s σ H Q I (i _ _ _ q)
theorem PS.imp {X:Cx} {e:Stmt} {t t':TS} (h:PS X e t) (i:∀ D σ H,t' D σ H→t D σ H):PS X e t':=fun pins s σ H D I q=>h pins s σ H D I (i _ _ _ q)
theorem Jka {sc:Scope} {env:Env} (h:∀ y∈sc.names,y.2=.free→∃ c,env.cells.lookup y.1=some c) :
  ∃ cl,closureFor sc env=pure cl∧(∀ x c,cl.lookup x=some c→env.cells.lookup x=some c)∧∀ y∈sc.names,y.2=.free→∃ c,cl.lookup y.1=some c:=by
 have gen:∀ (names:List (Str×NameKind)) (acc:List (Str×Addr)),(∀ y∈names,y.2=.free→∃ c,env.cells.lookup y.1=some c)→(∀ x c,acc.lookup x=some c→env.cells.lookup x=some c) →
   ∃ cl,(forIn names acc fun x cs=>(do
    if x.2 == NameKind.free then
     let c ← cellOf env x.1
     pure (ForInStep.yield ((x.1,c) :: cs))
    else pure (ForInStep.yield cs)):Sem (List (Str×Addr)))=pure cl∧(∀ x c,cl.lookup x=some c→env.cells.lookup x=some c)∧(∀ x c,acc.lookup x=some c→∃ c,cl.lookup x=some c)∧∀ y∈names,y.2=.free→∃ c,cl.lookup y.1=some c:=by
  intro names
  induction names with
  | nil=>intro acc _ ha; exact ⟨acc,rfl,ha,fun x c e=>⟨c,e⟩,fun y hy=>nomatch hy⟩
  | cons n r ih =>
   intro acc hn ha;obtain ⟨x,k⟩:=n;by_cases hk:k=.free
   ·subst hk;obtain ⟨c,hc⟩:=hn (x,.free) List.mem_cons_self rfl;obtain ⟨cl,e1,e2,e3,e4⟩:=ih ((x,c) :: acc) (fun y hy=>hn y (List.mem_cons_of_mem _ hy)) (fun y d e=>by
     rw [List.lookup_cons] at e;split at e
     ·rename_i q;cases e;rw [beq_iff_eq.mp q];exact hc
     ·exact ha y d e)
    refine ⟨cl,?_,e2,fun y d e=>?_,fun y hy hf=>?_⟩
    ·rw [List.forIn_cons];have z:cellOf env x=pure c:=by unfold cellOf; rw [hc]
     simp only [beq_self_eq_true,if_true,z,pure_bind];exact e1
    ·refine e3 y (if y == x then c else d) ?_;rw [List.lookup_cons];split
     ·rename_i q; simp [q]
     ·rename_i q; simp [q,e]
    ·rcases List.mem_cons.mp hy with rfl | hy
     ·exact e3 x c (by rw [List.lookup_cons]; simp)
     ·exact e4 y hy hf
   ·obtain ⟨cl,e1,e2,e3,e4⟩:=ih acc (fun y hy=>hn y (List.mem_cons_of_mem _ hy)) ha;refine ⟨cl,?_,e2,e3,fun y hy hf=>?_⟩
    ·rw [List.forIn_cons];have z:(k == NameKind.free)=false:=by simpa using hk
     simp only [z,Bool.false_eq_true,if_false,pure_bind];exact e1
    ·rcases List.mem_cons.mp hy with rfl | hy
     ·exact absurd hf hk
     ·exact e4 y hy hf
 obtain ⟨cl,e1,e2,_,e4⟩:=gen sc.names [] h (fun x c e=>by simp at e);refine ⟨cl,?_,e2,e4⟩;unfold closureFor;rw [← bind_pure (pure cl:Sem (List (Str×Addr))),← e1]
def Zi (X:Cx) (Nc:List Str) (sc:Scope) (cl:List (Str×Addr)) (fp:List Addr) (s:Shared) (H:Hp):Cx :=
 { X with N:=Nc,s₀:=s,H₀:=H,env:=compEnvC sc cl s.heap.objs.size X.env,outer:=X.stack,stack:=X.stack,ex:=fp,fn:=fun _=>false,pn:=[],xe:=fun _ _=>False }
def Jh1 (js:List Nat) (σ:St):St:=js.map fun j=>(σ[j]?).join
def Jis (N:List Str) (names:List (Str×NameKind)) (nt:Nat) (Nc:List Str) (sc:Scope) (js:List Nat):Bool :=
 decide Nc.Nodup && decide (Nc.length=nt + js.length) && ((Nc.drop nt).zip js).all (fun p=>N[p.2]? == some p.1 && sc.names.lookup p.1 == some NameKind.free && names.lookup p.1 == some NameKind.cell) &&
  sc.names.all (fun y=>(y.2 == NameKind.local && sc.names.lookup y.1 == some NameKind.local) || (y.2 == NameKind.free && names.lookup y.1 == some NameKind.cell) || (y.2 != NameKind.local && y.2 != NameKind.free && y.2 != NameKind.cell)) && sc.kind == .function
def JfX (σ σ':St):Prop:=σ'.length=σ.length∧∀ (i:Nat) v,σ[i]?=some (some v)→σ'[i]?=some (some v)
theorem JfX.refl (σ:St):JfX σ σ:=⟨rfl,fun _ _ e=>e⟩
theorem JfX.set {σ σ':St} {i:Nat} {x:Option V} (h:JfX σ σ') (e:σ[i]?=some none):JfX σ (σ'.set i x):=by
 refine ⟨by rw [List.length_set]; exact h.1,fun j v q=>?_⟩;by_cases hj:j=i
 ·subst hj; rw [e] at q; cases q
 ·rw [List.getElem?_set_ne (Ne.symm hj)]; exact h.2 j v q
def Jes (J:It) (g:TG) (tc:TT) (te:TE) (σc:St) (D:Addr) (H1:Hp) (Q:Hp→Prop):Prop :=
 ∃ W:Nat→Nat→List V→Hp→Prop,(∃ m,W 0 m [] (upd H1 D (.lst [])))∧∀ i m ys H,W i m ys H→H D=some (.lst ys) ∧
  ((J.stop i H∧Q H)∨(J.go i H∧∃ N:List V→Hp→Prop,(∀ zs H',N zs H'→∃ m',m' < m∧W (i + 1) m' zs H')∧∀ x H',J.yld i H x H'→g x σc H' fun σ2 H2=>JfX σc σ2 ∧
   tc σ2 H2 fun b H3=>if b=true then te σ2 H3 fun v H4=>H4 D=some (.lst ys)∧ys.length < sizeLine∧N (ys ++ [v]) (upd H4 D (.lst (ys ++ [v]))) else N ys H3))
def Jnw (X:Cx) (ifs:List Expr) (tc:TT):Prop:=∀ (pins:List (Addr×Obj)) (s:Shared) (σ:St) (H:Hp) (Q:Bool→Hp→Prop),Jo X pins σ H s→tc σ H Q →
 wpAny (model X.prog X.w) X.A (forIn ifs true fun c r=>if r=true then do let ok ← isTrue c X.env (eval c X.env); pure (ForInStep.yield ok) else pure (ForInStep.yield r)) (TP X pins σ Q) X.xe s
def JeI:TT:=fun _ H Q=>Q true H
theorem Jev {X:Cx}:Jnw X [] JeI:=fun _ _ _ H _ I q=>wpAny_tests_nil ⟨H,I,q⟩
theorem Jik {X:Cx} {c:Expr} {tc:TT} (h:PT X c tc):Jnw X [c] tc:=fun pins s σ H Q I q=>wpAny_tests_one (h pins s σ H Q I q)
theorem Jpi {prog:Program} {w:World} {A:Around} {R:Result→Shared→Prop} {s:Shared} {elt target iter:Expr} {ifs:List Expr} {scope:Scope} {pos:Pos} {it acc:Value} {env:Env} (I:Nat→Shared→Prop)
  (turn:∀ n s,I n s→wpAny (model prog w) A (pyNext it) (fun r s₁=>match r with
   | none=>R (.ok .next) s₁
   | some v=>wpAny (model prog w) A (letOwnedTupleGo target it v) (fun _ s₁'=>wpAny (model prog w) A (assign target env v) (fun _ s₂ =>
     wpAny (model prog w) A (forIn ifs true fun c r=>if r=true then do let ok ← isTrue c env (eval c env); pure (ForInStep.yield ok) else pure (ForInStep.yield r)) (fun ok s₃ =>
      if ok=true then wpAny (model prog w) A (eval elt env) (fun x s₄ =>
       wpAny (model prog w) A (call (.builtin "list.append") [acc,x]) (fun _ s₅=>∃ m,m < n∧I m s₅) (fun _ _=>False) s₄) (fun _ _=>False) s₃
      else ∃ m,m < n∧I m s₃) (fun _ _=>False) s₂) (fun _ _=>False) s₁') (fun _ _=>False) s₁) (fun _ _=>False) s)
  (n:Nat) (h:I n s) :
  codeAny (model prog w) A (.compLoop (.ListComp elt [⟨target,iter,ifs,0⟩] scope pos) 0 it acc env) R s:=by
 refine codeAny_loop rfl I (fun n s hI=>?_) n h;show wpAny _ A ((compTurn (.ListComp elt [⟨target,iter,ifs,0⟩] scope pos) 0 it acc env).onRaise (fun x=>do noteFrame x env; theTreesLotGoes x)) _ _ s;refine wpAny_noted ?_;rw [compTurn_list];refine wpAny_bind (wpAny_standAt (wpAny_bind (wpAny_mono (turn n s hI) (fun r s₁ h₁=>?_) fun _ _ h'=>h'.elim)));cases r with
 | none=>exact wpAny_pure h₁
 | some v =>
  refine wpAny_bind (wpAny_mono h₁ (fun _ s₁' h₁'=>?_) fun _ _ h'=>h'.elim);refine wpAny_bind (wpAny_mono h₁' (fun _ s₂ h₂=>wpAny_bind (wpAny_mono h₂ (fun ok s₃ h₃=>?_) fun _ _ h'=>h'.elim)) fun _ _ h'=>h'.elim);cases ok with
  | false=>exact wpAny_pure ⟨rfl,h₃⟩
  | true =>
   exact wpAny_bind (wpAny_bind (wpAny_mono h₃ (fun x s₄ h₄=>wpAny_bind (wpAny_mono h₄ (fun _ s₅ h₅=>wpAny_pure (wpAny_pure ⟨rfl,h₅⟩)) fun _ _ h'=>h'.elim)) fun _ _ h'=>h'.elim))
theorem JeX {env:Env}:∀ {names:List (Str×NameKind)} {x:Str} {k':NameKind},
  (names.map fun (n,k)=>if (k == NameKind.free && env.scope.kind == .function && env.kindOf n == some .cell) then (n,NameKind.cell) else (n,k)).lookup x=some k'→∃ k,names.lookup x=some k∧(k'=k∨(k=.free∧k'=.cell))
 | [],x,k',h=>by simp at h
 | (n,k) :: r,x,k',h=>by
  rw [List.map_cons] at h;by_cases hx:x=n
  ·subst hx;by_cases hc:(k == NameKind.free && env.scope.kind == .function && env.kindOf x == some .cell)=true
   ·have h:List.lookup x ((if (k == NameKind.free && env.scope.kind == .function && env.kindOf x == some .cell)=true then (x,NameKind.cell) else (x,k)) :: _)=some k':=h;rw [if_pos hc] at h;simp only [Bool.and_eq_true,beq_iff_eq] at hc;exact ⟨k,by simp [List.lookup_cons],.inr ⟨hc.1.1,by simpa [List.lookup_cons] using h.symm⟩⟩
   ·have h:List.lookup x ((if (k == NameKind.free && env.scope.kind == .function && env.kindOf x == some .cell)=true then (x,NameKind.cell) else (x,k)) :: _)=some k':=h;rw [if_neg hc] at h;exact ⟨k,by simp [List.lookup_cons],.inl (by simpa [List.lookup_cons] using h.symm)⟩
  ·have hb:(x == n)=false:=beq_eq_false_iff_ne.mpr hx;have h:List.lookup x ((if (k == NameKind.free && env.scope.kind == .function && env.kindOf n == some .cell)=true then (n,NameKind.cell) else (n,k)) :: _)=some k':=h;have h2:(r.map fun (n,k)=>if (k == NameKind.free && env.scope.kind == .function && env.kindOf n == some .cell) then (n,NameKind.cell) else (n,k)).lookup x=some k':=by
    by_cases hc:(k == NameKind.free && env.scope.kind == .function && env.kindOf n == some .cell)=true
    ·rw [if_pos hc] at h; simpa [List.lookup_cons,hb] using h
    ·rw [if_neg hc] at h; simpa [List.lookup_cons,hb] using h
   obtain ⟨k0,e,z⟩:=JeX h2;exact ⟨k0,by simpa [List.lookup_cons,hb] using e,z⟩
theorem JeY {env:Env}:∀ {names:List (Str×NameKind)} {x:Str},names.lookup x=some .free →
  (names.map fun (n,k)=>if (k == NameKind.free && env.scope.kind == .function && env.kindOf n == some .cell) then (n,NameKind.cell) else (n,k)).lookup x=some .cell∨(names.map fun (n,k)=>if (k == NameKind.free && env.scope.kind == .function && env.kindOf n == some .cell) then (n,NameKind.cell) else (n,k)).lookup x=some .free
 | [],x,h=>by simp at h
 | (n,k) :: r,x,h=>by
  rw [List.map_cons];show List.lookup x ((if (k == NameKind.free && env.scope.kind == .function && env.kindOf n == some .cell)=true then (n,NameKind.cell) else (n,k)) :: _)=_∨List.lookup x ((if (k == NameKind.free && env.scope.kind == .function && env.kindOf n == some .cell)=true then (n,NameKind.cell) else (n,k)) :: _)=_;by_cases hx:x=n
  ·subst hx;have hk:k=.free:=by simpa [List.lookup_cons] using h
   subst hk;split
   ·exact .inl (by simp [List.lookup_cons])
   ·exact .inr (by simp [List.lookup_cons])
  ·have hb:(x == n)=false:=beq_eq_false_iff_ne.mpr hx;have ih:=JeY (env:=env) (names:=r) (x:=x) (by simpa [List.lookup_cons,hb] using h);split
   ·simpa [List.lookup_cons,hb] using ih
   ·simpa [List.lookup_cons,hb] using ih
section
variable {X:Cx} {pins:List (Addr×Obj)} {σ:St} {H2:Hp} {s2:Shared}
theorem Jj9 {elt tg iter:Expr} {ifs:List Expr} {sc:Scope} {pos:Pos} {nt:Nat} {Nc:List Str} {js:List Nat} {J:It} {fp:List Addr} {it:Addr} {tn:Nat→Heap→Prop} {g:TG} {tc:TT} {te:TE} {Q:Addr→Hp→Prop} {E:Value→Shared→Prop}
  {N:List Str} {names:List (Str×NameKind)} (hcap:Jis N names nt Nc sc js=true) (hNX:X.N=N) (hsX:X.env.scope.names=names)
  (hg:∀ (cl:List (Str×Addr)) (fp:List Addr) (s:Shared) (H:Hp),PG (Zi X Nc sc cl fp s H) tg g) (hc:∀ (cl:List (Str×Addr)) (fp:List Addr) (s:Shared) (H:Hp),Jnw (Zi X Nc sc cl fp s H) ifs tc)
  (he:∀ (cl:List (Str×Addr)) (fp:List Addr) (s:Shared) (H:Hp),PE (Zi X Nc sc cl fp s H) elt te) (calm:X.calm=true)
  (I2:Jo X pins σ H2 s2) (T:Jld X.prog X.w X.K tg J fp it tn) (st2:tn 0 s2.heap) (f2:∀ b∈fp,JfC X pins H2 b)
  (hw:∀ D,H2 D=none→Jes J g tc te (List.replicate nt none ++ Jh1 js σ) D H2 (Q D)) {cl:List (Str×Addr)} (hcl:closureFor sc X.env=pure cl) (hcl1:∀ x c,cl.lookup x=some c→X.env.cells.lookup x=some c) (hcl2:∀ y∈sc.names,y.2=.free→∃ c,cl.lookup y.1=some c) :
  wpAny (model X.prog X.w) X.A (newList []) (fun acc s₃=>wpAny (model X.prog X.w) X.A (newFunctionEnv sc X.env.globals cl [] X.env.qual none .none (some X.env)) (fun cenv s₄ =>
   codeAny (model X.prog X.w) X.A (.compStart (.ListComp elt [⟨tg,iter,ifs,0⟩] sc pos) 0 (.ref it) acc { cenv with scope:=relabel sc X.env }) (fun r s'=>(∃ f,r=.ok f)∧∃ D H',acc=.ref D∧Jo X pins σ H' s'∧(∃ m,s'.heap.Ns cenv.locals m)∧JfC X pins H' cenv.locals∧Q D H') s₄) E s₃) E s2:=by
 simp only [Jis,Bool.and_eq_true,decide_eq_true_eq,List.all_eq_true,beq_iff_eq] at hcap;obtain ⟨⟨⟨⟨nd,hlen⟩,all1⟩,all2⟩,hkind⟩:=hcap;subst hNX hsX;have hcell:∀ y∈sc.names,y.2≠.cell:=fun y hy z=>by
  have q:=all2 y hy;rw [z] at q;simp at q
 refine wpAny_newObj_type (wpAny_newFunctionEnv hcell (by intro y hy; simp at hy) (fun h₁ hns₁ hsb₁=>?_) hkind);have n2:H2 s2.heap.objs.size=none:=I2.hok.fresh (Nat.le_refl _);have I3:Jo X pins σ (upd H2 s2.heap.objs.size (.lst [])) { s2 with heap:=s2.heap.push { cls:=.type "list",data:=.seq ([]:List Value).toArray },toks:=s2.toks } :=
  I2.laid (fun b u e=>Heap.get?_push_of_some _ e) (Nat.le_refl _) ⟨Nat.zero_le _,[],0,.nil,Heap.get?_push_size _ rfl⟩
 obtain ⟨W,⟨m0,w0⟩,step⟩:=hw s2.heap.objs.size n2;generalize eH3:upd H2 s2.heap.objs.size (.lst [])=H3 at I3 w0;generalize es3:({ s2 with heap:=s2.heap.push { cls:=.type "list",data:=.seq ([]:List Value).toArray },toks:=s2.toks }:Shared)=s3 at I3;have e3:s2.heap.push { cls:=.type "list",data:=.seq ([]:List Value).toArray }=s3.heap:=by rw [← es3]
 have old3:∀ b o,s2.heap.get? b=some o→s3.heap.get? b=some o:=fun b o e=>by rw [← e3]; exact Heap.get?_push_of_some _ e
 have old4:∀ b o,s3.heap.get? b=some o→h₁.get? b=some o:=fun b o e=>by
  refine hsb₁.extBut b o ?_ (Heap.get?_push_of_some _ (by rw [← e3] at e; exact e));have:=Heap.lt_size e;rw [← e3] at this;exact Nat.ne_of_lt this
 have eC:(s2.heap.push { cls:=.type "list",data:=.seq ([]:List Value).toArray }).objs.size=s3.heap.objs.size:=by rw [e3]
 have fpold:∀ b∈fp,b < s3.heap.objs.size:=fun b hb=>by
  obtain ⟨o,e,_⟩:=T.obj 0 _ st2 b hb;exact Heap.lt_size (old3 b o e)
 have ok:(Zi X Nc sc cl fp s3 H3).Ok:=⟨I3.mod,hkind,I3.ok.glob,I3.ok.blt,Nat.le_refl _,fun x y c e1 e2=>I3.ok.inj x y c (hcl1 _ _ e1) (hcl1 _ _ e2),fun x hx=>?_,fun x c z=>(by cases z),fun _=>I3.ok.hd calm,I3.ok.frames,.inl rfl,
  fun b hb=>⟨Nat.ne_of_lt (fpold b hb),fun x c e=>(f2 b hb).2.2.2.2.1 x c (hcl1 _ _ e)⟩,I3.bs,Nat.le_trans I3.ok.bsz I3.sz,fun b o e hb=>?_,fun b hb hm=>?_,I3.stack,I3.stkFree⟩
 rotate_left
 ·have hx:(relabel sc X.env).names.lookup x=some .cell∨(relabel sc X.env).names.lookup x=some .free:=hx;have k:sc.names.lookup x=some .free:=by
   rcases hx with hx | hx
   ·obtain ⟨k,e,z⟩:=JeX hx;rcases z with z | z
    ·subst z; exact absurd rfl (hcell _ (PySem.mem_of_lookup e))
    ·rw [z.1] at e; exact e
   ·obtain ⟨k,e,z⟩:=JeX hx;rcases z with z | z
    ·subst z; exact e
    ·cases z.2
  exact hcl2 _ (PySem.mem_of_lookup k) rfl
 ·rcases (f2 b hb).2.2.2.1 with z | z
  ·exact I3.ok.noex b o e z
  ·exact absurd (Nat.lt_of_lt_of_le (Heap.lt_size (I3.ok.bs b o e).1) z) (Nat.lt_irrefl _)
 ·rcases List.mem_cons.mp (I3.stkSub b hm) with z | z
  ·exact (f2 b hb).2.1 z
  ·exact (f2 b hb).2.2.1 z
 have Ic:Jo (Zi X Nc sc cl fp s3 H3) [] (List.replicate nt none ++ Jh1 js σ) H3 { s3 with heap:=h₁,toks:=s3.toks + ([]:List (Str×Value)).length }:=by
  refine ⟨ok,rfl,I3.bare,Un.kept old4,⟨_,(by have z:=hns₁; rw [eC] at z; exact z),fun i x v e1 e2 e3'=>?_⟩,fun x c e=>?_,I3.hok.fresh (Nat.le_refl _),fun x c e=>I3.freeC x c (hcl1 _ _ e),(fun p hp=>nomatch hp),I3.hok.kept old4,?_⟩
  ·have hi:nt≤i:=by
    refine Nat.le_of_not_lt fun z=>?_
    rw [List.getElem?_append_left (by simpa using z),List.getElem?_replicate] at e2;split at e2 <;> cases e2
   obtain ⟨k,rfl⟩:∃ k,i=nt + k:=⟨i - nt,by omega⟩
   rw [List.getElem?_append_right (by simp),List.length_replicate,Nat.add_sub_cancel_left] at e2;unfold Jh1 at e2;rw [List.getElem?_map] at e2;cases hj:js[k]? with
   | none=>rw [hj] at e2; cases e2
   | some j =>
    rw [hj] at e2;have e2':(σ[j]?).join=some v:=Option.some.inj e2;have e2'':σ[j]?=some (some v):=by
     cases q:σ[j]? with
     | none=>rw [q] at e2'; cases e2'
     | some o=>rw [q] at e2'; rw [show o=some v from e2']
    have hz:(x,j)∈(Nc.drop nt).zip js:=by
     refine List.mem_of_getElem? (i:=k) ?_;rw [List.getElem?_zip_eq_some];exact ⟨by rw [List.getElem?_drop]; exact e1,hj⟩
    obtain ⟨⟨q1,q2⟩,q3⟩:=all1 _ hz;obtain ⟨m,hn,hl⟩:=I3.loc;obtain ⟨u,r,look⟩:=hl j x v q1 e2'' (Or.inr (Or.inl q3));refine ⟨u,r,.inr ⟨JeY q2,?_⟩⟩;obtain ⟨c',hc'⟩:=hcl2 _ (PySem.mem_of_lookup q2) rfl;rcases look with ⟨z,_⟩ | ⟨_,c,z1,z2⟩
    ·have z:X.env.scope.names.lookup x=some .local:=z;rw [q3] at z; cases z
    ·have z3:=hcl1 _ _ hc';rw [z1] at z3;cases z3;obtain ⟨o,ho,hd⟩:=z2;exact ⟨_,hc',o,old4 _ _ ho,hd⟩
  ·obtain ⟨v,o,ho,hd⟩:=I3.cell x c (hcl1 _ _ e);exact ⟨v,o,old4 _ _ ho,hd⟩
  ·show (List.replicate nt none ++ Jh1 js σ).length=Nc.length;unfold Jh1;rw [List.length_append,List.length_replicate,List.length_map,hlen]
 have fpok:∀ {H:Hp},(∀ b∈fp,H b=none)→∀ b∈fp,JfC (Zi X Nc sc cl fp s3 H3) [] H b:=fun hn b hb =>
  ⟨hn b hb,Nat.ne_of_lt (fpold b hb),ok.exfs b hb,.inl hb,fun x c e=>(f2 b hb).2.2.2.2.1 x c (hcl1 _ _ e),(fun p hp=>nomatch hp)⟩
 have fr0:∀ b∈fp,H3 b=none:=fun b hb=>by
  rw [← eH3,JB (Nat.ne_of_lt (by obtain ⟨o,e,_⟩:=T.obj 0 _ st2 b hb; exact Heap.lt_size e))];exact (f2 b hb).1
 have st4:tn 0 h₁:=T.keep 0 _ _ st2 fun b hb o e=>old4 b o (old3 b o e)
 have back:∀ {σ':St} {H:Hp} {s':Shared} {pn:List (Addr×Obj)},Jo (Zi X Nc sc cl fp s3 H3) pn σ' H s'→Jo X pins σ H s':=fun {σ' H s' pn} Jv =>
  I3.call' (ch:=fp) Jv.os Jv.base Jv.hok Jv.bare fun b hb=>⟨(f2 b hb).2.2.2.1,(f2 b hb).2.1,(f2 b hb).2.2.2.2.1,(f2 b hb).2.2.2.2.2⟩
 have loop:codeAny (model X.prog X.w) X.A (.compLoop (.ListComp elt [⟨tg,iter,ifs,0⟩] sc pos) 0 (.ref it) (.ref s2.heap.objs.size) (compEnvC sc cl s3.heap.objs.size X.env))
   (fun r s'=>(∃ f,r=.ok f)∧∃ D H',(Value.ref s2.heap.objs.size)=.ref D∧Jo X pins σ H' s'∧(∃ m,s'.heap.Ns s3.heap.objs.size m)∧JfC X pins H' s3.heap.objs.size∧Q D H') { s3 with heap:=h₁,toks:=s3.toks + ([]:List (Str×Value)).length }:=by
  refine Jpi (fun n s'=>∃ i ys H,Jo (Zi X Nc sc cl fp s3 H3) [] (List.replicate nt none ++ Jh1 js σ) H s'∧tn i s'.heap∧(∀ b∈fp,H b=none)∧W i n ys H) ?_ m0 ⟨0,[],H3,Ic,st4,fr0,w0⟩;rintro n s' ⟨i,ys,H,I,st,fr,w⟩;obtain ⟨hD,⟨stop,qn⟩ | ⟨go,Nx,hNx,stepx⟩⟩:=step i n ys H w
  ·refine JW (T.done (Zi X Nc sc cl fp s3 H3) rfl rfl rfl calm i [] s' _ H _ I (fpok fr) st stop) fun r s1 ⟨hr,I1⟩=>?_
   subst hr;obtain ⟨m,hn,_⟩:=I1.loc;exact ⟨⟨_,rfl⟩,_,H,rfl,back I1,⟨m,hn⟩,I3.fpOk (Nat.le_refl _) I1.free,qn⟩
  ·refine JW (T.item (Zi X Nc sc cl fp s3 H3) rfl rfl rfl calm i [] s' _ H _ I (fpok fr) st go) fun r s1 ⟨u,hr,h4⟩=>?_
   subst hr;refine JW h4 fun _ s5 ⟨x,H5,I5,r5,y5,st5,fr5⟩=>?_
   have I5':=I5.pinned (fpok fr5) (T.obj _ _ st5);refine JW (hg cl fp s3 H3 _ s5 _ H5 x u _ I5' r5 (stepx x H5 y5)) fun _ s6 ⟨σ6,H6,I6,ag,q6⟩=>?_
   have again:∀ {H7:Hp} {s7:Shared} {m':Nat} {zs:List V},Jo (Zi X Nc sc cl fp s3 H3) ([] ++ Jhu fp s5.heap) σ6 H7 s7→m' < n→W (i + 1) m' zs H7→∃ m,m < n∧∃ i ys H,Jo (Zi X Nc sc cl fp s3 H3) [] (List.replicate nt none ++ Jh1 js σ) H s7∧tn i s7.heap∧(∀ b∈fp,H b=none)∧W i m ys H:=fun {H7 s7 m' zs} I7 hm w7=>by
    refine ⟨m',hm,i + 1,zs,H7,I7.unpinned.weak ag.1.symm ag.2,T.keep _ _ _ st5 fun b hb o e=>(I7.pin (b,o) (List.mem_append_right _ (List.mem_append_right _ (Jeq hb e)))).1,fun b hb=>?_,w7⟩;obtain ⟨o,e,d⟩:=T.obj _ _ st5 b hb;exact (I7.pin (b,o) (List.mem_append_right _ (List.mem_append_right _ (Jeq hb e)))).2.1
   refine JW (hc cl fp s3 H3 _ s6 σ6 H6 _ I6 q6) fun bk s7 ⟨H7,I7,q7⟩=>?_
   cases bk with
   | false =>
    rw [if_neg Bool.false_ne_true] at q7 ⊢;obtain ⟨m',hm,w7⟩:=hNx _ _ q7;exact again I7 hm w7
   | true =>
    rw [if_pos rfl] at q7 ⊢;refine JW (he cl fp s3 H3 _ s7 σ6 H7 _ I7 q7) fun xv s8 ⟨v,H8,I8,r8,hD8,hlen8,qN⟩=>?_
    obtain ⟨m',hm,w8⟩:=hNx _ _ qN;refine JW (Zp _ s8 σ6 H8 (.ref s2.heap.objs.size) [v] (.ref s2.heap.objs.size) [xv] (fun _ H9=>H9=upd H8 s2.heap.objs.size (.lst (ys ++ [v]))) I8 rfl (.cons r8 .nil) ?_) fun _ s9 ⟨_,H9,I9,_,e9⟩=>?_
    ·exact ⟨_,_,_,rfl,rfl,hD8,hlen8,rfl⟩
    ·subst e9;exact again I9 hm w8
 rw [eC] at *;exact codeAny_compStart_list loop (T.self _ 0 _ _ _ st4 loop)
def tLC (wi:TI) (g:TG) (tc:TT) (te:TE) (nt:Nat) (js:List Nat):TE:=fun σ H Q=>wi σ H fun J H1=>∀ D,H1 D=none→Jes J g tc te (List.replicate nt none ++ Jh1 js σ) D H1 fun H'=>Q (.ref D) H'
theorem JlM {N:List Str} {names:List (Str×NameKind)} {nt:Nat} {Nc:List Str} {sc:Scope} {js:List Nat} (h:Jis N names nt Nc sc js=true):(∀ y∈sc.names,y.2=.local→sc.names.lookup y.1=some .local)∧(∀ y∈sc.names,y.2=.free→names.lookup y.1=some .cell)∧sc.kind=.function:=by
 simp only [Jis,Bool.and_eq_true,decide_eq_true_eq,List.all_eq_true,beq_iff_eq] at h;obtain ⟨⟨⟨⟨nd,hlen⟩,all1⟩,all2⟩,hkind⟩:=h;refine ⟨fun y hy hl=>?_,fun y hy hl=>?_,hkind⟩
 ·have q:=all2 y hy;rw [hl] at q;simpa using q
 ·have q:=all2 y hy;rw [hl] at q;simpa using q
theorem JgU {elt tg iter:Expr} {ifs:List Expr} {sc:Scope} {pos:Pos} {nt:Nat} {Nc:List Str} {js:List Nat} {wi:TI} {g:TG} {tc:TT} {te:TE} {N:List Str} {names:List (Str×NameKind)}
  (hcap:Jis N names nt Nc sc js=true) (hi:PI X tg iter wi)
  (hg:∀ (cl:List (Str×Addr)) (fp:List Addr) (s:Shared) (H:Hp),PG (Zi X Nc sc cl fp s H) tg g) (hc:∀ (cl:List (Str×Addr)) (fp:List Addr) (s:Shared) (H:Hp),Jnw (Zi X Nc sc cl fp s H) ifs tc)
  (he:∀ (cl:List (Str×Addr)) (fp:List Addr) (s:Shared) (H:Hp),PE (Zi X Nc sc cl fp s H) elt te) (hNX:X.N=N:=by rfl) (hsX:X.env.scope.names=names:=by rfl) (calm:X.calm=true:=by rfl)
  (hs:∀ x,foldedSetIterable iter X.env x=pure x:=by intro _; rfl):PE X (.ListComp elt [⟨tg,iter,ifs,0⟩] sc pos) (tLC wi g tc te nt js):=by
 intro pins s σ H Q I h;obtain ⟨hn1,hn2,hkind⟩:=JlM hcap;obtain ⟨cl,hcl,hcl1,hcl2⟩:=Jka (sc:=sc) (env:=X.env) fun y hy hf=>I.ok.has y.1 (.inl (by show X.env.scope.names.lookup y.1=_; rw [hsX]; exact hn2 y hy hf))
 rw [eval_ListComp];refine wpAny_comprehension_free (use:=none) rfl hs hcl hkind hn1 (JW (hi pins s σ H _ I h) fun v s1 h1=>JW h1 fun itv s2 h2=>?_);obtain ⟨it,fp,tn,J,H2,e,I2,T,st2,f2,hw⟩:=h2;subst e;refine wpAny_mono (Jj9 (E:=fun _ _=>False) (Q:=fun D H'=>Q (.ref D) H') hcap hNX hsX hg hc he calm I2 T st2 f2 hw hcl hcl1 hcl2) (fun acc s3 h3=>wpAny_mono h3 (fun cenv s4 h4=>codeAny_mono h4 fun r s' hr=>?_) fun _ _ z=>z.elim) fun _ _ z=>z.elim
 obtain ⟨⟨f,rfl⟩,D,H',rfl,Jv,⟨m,hn⟩,fC,q⟩:=hr;obtain ⟨f0,f1,f2',f3,f4,f5⟩:=fC;exact ⟨m,hn,fun h' hs'=>⟨.ref D,H',Jv.turned (t':=s'.toks) (fun b o hb e=>(hs'.2 b hb).trans e) f0 f1 f3 f4 f5,rfl,q⟩⟩
theorem JoO {elt tg iter:Expr} {ifs:List Expr} {sc:Scope} {pos spos py:Pos} {y:Str} {i:Nat} {nt:Nat} {Nc:List Str} {js:List Nat} {wi:TI} {g:TG} {tc:TT} {te:TE} {N:List Str} {names:List (Str×NameKind)}
  (hcap:Jis N names nt Nc sc js=true) (hN:X.N.Nodup) (hiy:X.N[i]?=some y) (hi:PI X tg iter wi)
  (hg:∀ (cl:List (Str×Addr)) (fp:List Addr) (s:Shared) (H:Hp),PG (Zi X Nc sc cl fp s H) tg g) (hc:∀ (cl:List (Str×Addr)) (fp:List Addr) (s:Shared) (H:Hp),Jnw (Zi X Nc sc cl fp s H) ifs tc)
  (he:∀ (cl:List (Str×Addr)) (fp:List Addr) (s:Shared) (H:Hp),PE (Zi X Nc sc cl fp s H) elt te) (hNX:X.N=N:=by rfl) (hsX:X.env.scope.names=names:=by rfl) (calm:X.calm=true:=by rfl)
  (hsw:swapsWith (.ListComp elt [⟨tg,iter,ifs,0⟩] sc pos) (some (.Name y py)) spos.line X.env=pure true:=by rfl) (hy:X.env.scope.names.lookup y=some .local:=by rfl)
  (hs:∀ x,foldedSetIterable iter X.env x=pure x:=by intro _; rfl):PS X (.Assign [.Name y py] (.ListComp elt [⟨tg,iter,ifs,0⟩] sc pos) spos) (Jq7 (tLC wi g tc te nt js) (JbF i)):=by
 intro pins s σ H D0 I h;obtain ⟨hn1,hn2,hkind⟩:=JlM hcap;obtain ⟨cl,hcl,hcl1,hcl2⟩:=Jka (sc:=sc) (env:=X.env) fun y hy hf=>I.ok.has y.1 (.inl (by show X.env.scope.names.lookup y.1=_; rw [hsX]; exact hn2 y hy hf))
 rw [exec_Assign_Name_used _ _ _ _ hsw];refine wpAny_bind (wpAny_standAt (wpAny_bind ?_));show wpAny _ X.A (do let _ ← comprehension (.ListComp elt [⟨tg,iter,ifs,0⟩] sc pos) sc X.env _ (newList []) false (eval iter X.env) (some (assign (.Name y py) X.env))) _ _ s;refine wpAny_bind (wpAny_mono (wpAny_comprehension_free (use:=some (assign (.Name y py) X.env)) (Q:=fun _ s'=>SP X pins D0 .next s') rfl hs hcl hkind hn1
  (JW (hi pins s σ H _ I h) fun v s1 h1=>JW h1 fun itv s2 h2=>?_)) (fun _ s' hq=>wpAny_pure (wpAny_pure hq)) fun _ _ e=>e)
 obtain ⟨it,fp,tn,J,H2,e,I2,T,st2,f2,hw⟩:=h2;subst e;refine wpAny_mono (Jj9 (E:=fun _ _=>False) (Q:=fun D H'=>JbF i (.ref D) σ H' D0.nx) hcap hNX hsX hg hc he calm I2 T st2 f2 hw hcl hcl1 hcl2) (fun acc s3 h3=>wpAny_mono h3 (fun cenv s4 h4=>codeAny_mono h4 fun r s' hr=>?_) fun _ _ z=>z.elim) fun _ _ z=>z.elim
 obtain ⟨⟨f,rfl⟩,D,H',rfl,Jv,⟨m,hn⟩,fC,q⟩:=hr;obtain ⟨f0,f1,f2',f3,f4,f5⟩:=fC;show wpAny _ X.A (assign (.Name y py) X.env (.ref D)) _ _ _;refine wpAny_assign_Name (Jlo Jv hN hiy (Or.inl hy) (v:=.ref D) rfl (fun s'' I'' ⟨a,hsame,ha⟩=>?_) (Or.inr hy));refine ⟨m,hn.sameBut hsame ?_,fun h' hs'=>⟨_,H',I''.turned (t':=s''.toks) (fun b o hb e=>(hs'.2 b hb).trans e) f0 f1 f3 f4 f5,q⟩⟩;rcases ha with rfl | ha
 ·exact f1
 ·exact (f4 y a ha).symm
end
section
variable {X:Cx} {Nc:List Str} {sc:Scope} {cl:List (Str×Addr)} {fp:List Addr} {s:Shared} {H:Hp} {x:Str} {pos:Pos}
theorem Jbt (i:Nat) (hN:Nc[i]?=some x:=by rfl) (hf:sc.names.lookup x=some .free:=by rfl) (hd:(x == ("__debug__" : Str))=false:=by decide) (hcd:(x == ("__classdict__" : Str))=false:=by decide):PE (Zi X Nc sc cl fp s H) (.Name x pos) (Jou i) :=
 JmQ hN (Or.inr (JeY hf)) hd hcd
theorem Z8 (i:Nat) (hN:Nc[i]?=some x:=by rfl) (hl:sc.names.lookup x=some .local:=by rfl) (hd:(x == ("__debug__" : Str))=false:=by decide) (hcd:(x == ("__classdict__" : Str))=false:=by decide):PE (Zi X Nc sc cl fp s H) (.Name x pos) (Jou i) :=
 JmQ hN (Or.inl (lookup_relabel_local hl)) hd hcd
theorem JaT (i:Nat) (nd:Nc.Nodup) (hN:Nc[i]?=some x:=by rfl) (hl:sc.names.lookup x=some .local:=by rfl):PG (Zi X Nc sc cl fp s H) (.Name x pos) (JbF i) :=
 JQ nd hN (Or.inl (lookup_relabel_local hl)) (Or.inr (lookup_relabel_local hl))
end
section
variable {tc:TT} {te:TE} {σc:St} {D:Addr} {H1:Hp} {Q:Hp→Prop}
theorem Jlb {J:It} {n:Nat} {X1:Nat→V→Prop} (Pv:Nat→List V→Hp→Prop) (h00:σc[0]?=some none) (hgo:∀ i H,i < n→(∃ ys,Pv i ys H)→J.go i H∧∀ x H',J.yld i H x H'→H'=H∧X1 i x) (hstop:∀ H,(∃ ys,Pv n ys H)→J.stop n H)
  (h0:Pv 0 [] (upd H1 D (.lst []))) (hl:∀ i ys H,Pv i ys H→H D=some (.lst ys))
  (hs:∀ i x ys H,i < n→X1 i x→Pv i ys H→tc (σc.set 0 (some x)) H fun b H3=>if b=true then te (σc.set 0 (some x)) H3 fun v H4=>H4 D=some (.lst ys)∧ys.length < sizeLine∧Pv (i + 1) (ys ++ [v]) (upd H4 D (.lst (ys ++ [v]))) else Pv (i + 1) ys H3)
  (hd:∀ ys H,Pv n ys H→Q H):Jes J (JbF 0) tc te σc D H1 Q:=by
 refine ⟨fun i m ys H=>m=n - i∧i≤n∧Pv i ys H,⟨n,by simp,Nat.zero_le _,h0⟩,?_⟩;rintro i m ys H ⟨rfl,hi,p⟩;refine ⟨hl _ _ _ p,?_⟩;by_cases hlt:i < n
 ·obtain ⟨g1,g2⟩:=hgo i H hlt ⟨_,p⟩;refine .inr ⟨g1,Pv (i + 1),fun zs H' p'=>⟨n - (i + 1),by omega,rfl,hlt,p'⟩,fun x H' y=>?_⟩;obtain ⟨e,y1⟩:=g2 x H' y;subst e;exact ⟨(JfX.refl _).set h00,hs i x ys _ hlt y1 p⟩
 ·have e:i=n:=by omega
  subst e;exact .inl ⟨hstop H ⟨_,p⟩,hd _ _ p⟩
theorem Jj7 {lo:Int} {n:Nat} (Pv:Nat→List V→Hp→Prop) (h00:σc[0]?=some none) (h0:Pv 0 [] (upd H1 D (.lst []))) (hl:∀ i ys H,Pv i ys H→H D=some (.lst ys))
  (hs:∀ i ys H,i < n→Pv i ys H→tc (σc.set 0 (some (.int (lo + i)))) H fun b H3=>if b=true then te (σc.set 0 (some (.int (lo + i)))) H3 fun v H4=>H4 D=some (.lst ys)∧ys.length < sizeLine∧Pv (i + 1) (ys ++ [v]) (upd H4 D (.lst (ys ++ [v]))) else Pv (i + 1) ys H3)
  (hd:∀ ys H,Pv n ys H→Q H):Jes (Itr lo n) (JbF 0) tc te σc D H1 Q :=
 Jlb (n:=n) (X1:=fun i x=>x=.int (lo + i)) Pv h00 (fun i H hi _=>⟨hi,fun x H' y=>y⟩) (fun H _=>Nat.le_refl _) h0 hl (fun i x ys H hi hx p=>by subst hx; exact hs i ys H hi p) hd
end
end L2
namespace L2
open PySem PySem.Spec PyProof.Rows
section
variable {X:Cx} {e v1 v2:Expr} {es:List Expr} {te:TE} {pos:Pos}
def JtP (te:TE):TE:=fun σ H Q=>te σ H fun v H1=>∃ z,v=.str z∧(reprText z).length≤sizeLine∧Q (.str (reprText z)) H1
theorem JgT (he:PE X e te):PE X (.FormattedValue e 114 none pos) (JtP te):=by
 intro pins s σ H Q I h;refine wpAny_FormattedValue_repr (JW (he pins s σ H _ I h) fun v s1 ⟨x,H1,I1,r1,z,ez,hz,q⟩=>?_);subst ez;obtain ⟨t,rfl⟩:=r1;refine pyReprObj_str (PyProof.Rows.formatField_str (fun t' tk=>?_) hz) hz;exact ⟨.str (reprText z),H1,(I1.tok _).tok _,⟨_,rfl⟩,q⟩
def Jov (te:TE):TE:=fun σ H Q=>te σ H fun v H1=>∃ i:Int,v=.int i∧i.natAbs.log2 < 1920∧Q (.str (toString i)) H1
theorem Jn0 (he:PE X e te):PE X (.FormattedValue e (-1) none pos) (Jov te):=by
 intro pins s σ H Q I h;refine PyProof.Rows.FormattedValue_plain (JW (he pins s σ H _ I h) fun v s1 ⟨x,H1,I1,r1,i,ei,hi,q⟩=>?_);subst ei;obtain ⟨t,rfl⟩:=r1;exact PyProof.Rows.formatField_int_small hi ⟨.str (toString i),H1,I1.tok _,⟨_,rfl⟩,q⟩
def JjB:List TE→Str→TE
 | [],acc=>fun _ H Q=>acc.length≤sizeLine∧Q (.str acc) H
 | t :: r,acc=>fun σ H Q=>t σ H fun v H1=>∃ y,v=.str y∧(acc ++ y).length≤sizeLine∧JjB r (acc ++ y) σ H1 Q
inductive PJ (X:Cx):List Expr→List TE→Prop
 | nil:PJ X [] []
 | cons {e:Expr} {t:TE} {es:List Expr} {ts:List TE}:PE X e t→PJ X es ts→PJ X (e :: es) (t :: ts)
theorem Jm4 {pins:List (Addr×Obj)} {σ:St} {Q:VK}:∀ {es:List Expr} {ts:List TE} {acc:Str} {s:Shared} {H:Hp},PJ X es ts→Jo X pins σ H s→JjB ts acc σ H Q →
  Joins (model X.prog X.w) X.A X.xe (es.map fun e=>eval e X.env) acc (fun out s₁=>out.length≤sizeLine∧EP X pins σ Q (.str out s₁.toks) { s₁ with toks:=s₁.toks + 1 }) s
 | _,_,acc,s,H,.nil,I,h=>⟨h.1,.str acc,H,I.tok _,⟨_,rfl⟩,h.2⟩
 | _,_,acc,s,H,.cons p r,I,h=>by
  refine JW (p pins s σ H _ I h) fun v s1 ⟨x,H1,I1,r1,y,ey,hy,q⟩=>?_
  subst ey;obtain ⟨t,rfl⟩:=r1;exact ⟨y,t,rfl,hy,Jm4 r I1 q⟩
theorem Jex {ts:List TE} (h:PJ X (v1 :: v2 :: es) ts) (he:evalEach (v1 :: v2 :: es) X.env=(v1 :: v2 :: es).map fun e=>eval e X.env:=by rfl):PE X (.JoinedStr (v1 :: v2 :: es) pos) (JjB ts Str.empty):=by
 intro pins s σ H Q I hq;refine wpAny_JoinedStr ?_;rw [he];exact Jm4 h I hq
end
theorem Jkc:bootBuiltins "ValueError" = some (.type "ValueError"):=by decide +kernel
section
variable {X:Cx}
theorem Jls:ZV X (compareOp .LtE) (fun x y H Q=>∃ i j,x=.str i∧y=.str j∧Q (.bl (!decide (j.cps.toList < i.cps.toList))) H):=by
 intro pins s σ H x y v u Q I rx ry h;obtain ⟨i,j,rfl,rfl,q⟩:=h;obtain ⟨t,rfl⟩:=rx;obtain ⟨t',rfl⟩:=ry;exact PySem.P.le_str ⟨.bl _,H,I,rfl,q⟩
theorem Jkp:∀ {ys:List Str} {us:List Value},JI (ys.map V.str) us→StrsAre us ys
 | [],_,r=>by cases r; exact .nil
 | y :: ys,_,r=>by
  cases r with
  | cons r rr =>
   obtain ⟨t,rfl⟩:=r;exact .cons y t (Jkp rr)
theorem Jtx:MtR X "str.join" (fun x xs H Q=>∃ z l ys,x=.str z∧xs=[.ref l]∧JC X.K H l (ys.map V.str)∧(ys.map (·.length)).sum + ys.length * z.length≤16777216∧Q (.str (Txt.join z ys)) H):=by
 intro pins s σ H x xs v us Q I rx rs h;obtain ⟨z,l,ys,rfl,rfl,hl,hz,q⟩:=h;obtain ⟨t,rfl⟩:=rx;obtain ⟨u,rfl,ru⟩:=JI.one rs;cases ru;obtain ⟨its,r,pl,_⟩:=I.list hl;exact PyProof.Rows.join_list pl.isList (by simpa using Jkp r) hz fun t' k=>⟨.str (Txt.join z ys),H,I.tok _,⟨_,rfl⟩,q⟩
end
def Its (z:Str):It:=⟨fun i _=>i < z.length,fun i H x H'=>H'=H∧∃ c,z.cps[i]?=some c∧x=.str ⟨#[c]⟩,fun i _=>z.length≤i⟩
theorem Jmk {P:Program} {w:World} {K:PySem.W.Frag} {tg:Expr} (it:Addr) (z:Str) (t:Tok) (ty:String) (hty:ty = "str_ascii_iterator"∨ty = "str_iterator") (W:∀ A':Around,A'.handled=none→Walks P w A' it [it] [it] z.cps.size (SignAt z) (fun i h=>h.IsStrIter it ty z t i)) :
  Jld P w K tg (Its z) [it] it (fun i h=>i≤z.cps.size∧h.IsStrIter it ty z t i) where
 mem:=by simp
 obj:=fun i h st b hb=>by
  have e:b=it:=by simpa using hb
  subst e;obtain ⟨_,o,e,c,d⟩:=st;exact ⟨o,e,fun v z=>by rw [d] at z; cases z⟩
 keep:=fun i h h' st k=>let ⟨hi,o,e,r⟩:=st; ⟨hi,o,k it (by simp) o e,r⟩
 item:=by
  intro X hP hw hK hc i pins s σ H E I hf st hg;subst hP hw hK;obtain ⟨f0,f1,f2,f3,f4,f5⟩:=hf it (by simp);have hi:i < z.cps.size:=hg;refine (W X.A (I.ok.hd hc)).item i s _ _ hi st.2 fun v h' tk hv st' kk=>?_
  obtain ⟨c,u,hc',rfl⟩:=hv;have I1:Jo X pins σ H { s with heap:=h',toks:=tk }:=I.turned (fun b o hb e=>kk b o (by simpa using hb) e) f0 f1 f3 f4 f5;obtain ⟨o,e,hcl,d⟩:=id st';exact ⟨_,rfl,Jme (s:={ s with heap:=h',toks:=tk }) (n:=ty) e hcl d (by rcases hty with rfl | rfl <;> decide) ⟨.str ⟨#[c]⟩,H,I1,⟨u,rfl⟩,⟨rfl,c,hc',rfl⟩,⟨hi,st'⟩,fun b hb=>(hf b hb).1⟩⟩
 done:=by
  intro X hP hw hK hc i pins s σ H E I hf st hg;subst hP hw hK;obtain ⟨f0,f1,f2,f3,f4,f5⟩:=hf it (by simp);have hi:z.cps.size≤i:=hg;obtain rfl:i=z.cps.size:=Nat.le_antisymm st.1 hi;exact (W X.A (I.ok.hd hc)).done s _ _ st.2 fun h' tk kk=>⟨rfl,I.turned (fun b o hb e=>kk b o (by simpa using hb) e) f0 f1 f3 f4 f5⟩
 self:=fun A i s Q E st h=>by
  rcases hty with rfl | rfl
  ·exact wpAny_pyIter_striter_ascii st.2 h
  ·exact wpAny_pyIter_striter_wide st.2 h
section
variable {X:Cx} {tg:Expr}
def JvX (tl:TE):TI:=fun σ H R=>tl σ H fun x H1=>∃ z,x=.str z∧R (Its z) H1
theorem Jui {l:Expr} {tl:TE} (hl:PE X l tl):PI X tg l (JvX tl):=by
 intro pins s σ H R I h;refine JW (hl pins s σ H _ I h) fun v s1 ⟨x,H1,I1,r1,z,ez,q⟩=>?_
 subst ez;obtain ⟨t,rfl⟩:=r1;have fp:∀ b∈[s1.heap.objs.size],JfC X pins H1 b:=fun b hb=>by
  have e:b=s1.heap.objs.size:=by simpa using hb
  subst e;exact I1.fpOk (Nat.le_refl _) (I1.hok.fresh (Nat.le_refl _))
 cases ha:z.cps.all (· < 128)
 ·refine wpAny_pyIter_wide ha ?_;exact ⟨s1.heap.objs.size,[s1.heap.objs.size],_,_,H1,rfl,I1.kept (t':=s1.toks) fun b o e=>Heap.get?_push_of_some _ e,Jmk _ z t "str_iterator" (.inr rfl) (fun A' hA=>Walks.strWide hA _ z t),⟨Nat.zero_le _,_,Heap.get?_push_size _ rfl,rfl,rfl⟩,fp,q⟩
 ·refine wpAny_pyIter_ascii ha ?_;exact ⟨s1.heap.objs.size,[s1.heap.objs.size],_,_,H1,rfl,I1.kept (t':=s1.toks) fun b o e=>Heap.get?_push_of_some _ e,Jmk _ z t "str_ascii_iterator" (.inl rfl) (fun A' hA=>Walks.strAscii hA _ z t),⟨Nat.zero_le _,_,Heap.get?_push_size _ rfl,rfl,rfl⟩,fp,q⟩
end
section
variable {X:Cx}
theorem JsP {bs:List Bool}:∀ {us:List Value},JI (bs.map V.bl) us→us=bs.map Value.bool:=by
 induction bs with
 | nil=>intro us r; cases r; rfl
 | cons b bs ih =>
  intro us r;cases r with
  | cons r rr =>
   cases (show _=Value.bool b from r);rw [ih rr]; rfl
theorem Jsl (hc:X.calm=true):Yx X (.builtin "all") (fun xs H Q=>∃ (l:Addr) (bs:List Bool),xs=[.ref l]∧JC X.K H l (bs.map V.bl)∧Q (.bl (bs.all id)) H):=by
 intro pins s σ H xs us Q I r h;obtain ⟨l,bs,rfl,hl,q⟩:=h;obtain ⟨u,rfl,ru⟩:=JI.one r;cases ru;obtain ⟨its,rv,pl,hz⟩:=I.list hl;have e:=JsP rv;subst e;refine call_all_walk (wpAny_pyIter_list pl.isList ?_);have hlt:l < s.heap.objs.size:=by obtain ⟨o,n,e,_⟩:=pl; exact Heap.lt_size e
 refine ⟨_,_,_,_,_,_,fun i=>(bs[i]?).getD true,rfl,Walks.list (A:=X.A.in1) (I.ok.hd hc) s.heap.objs.size l (Nat.ne_of_lt hlt) (bs.map Value.bool).toArray,?_,?_,fun h' tk kk=>?_⟩
 ·exact ⟨⟨_,Heap.get?_push_size _ rfl,rfl,rfl⟩,(by obtain ⟨o,n,e,c,d1,d2⟩:=pl; exact ⟨o,Heap.get?_push_of_some _ e,c,n,d2⟩)⟩
 ·intro i v s' Q' E' hP hQ;have hP:(bs.map Value.bool).toArray[i]?=some v:=hP;rw [List.getElem?_toArray,List.getElem?_map] at hP;cases hb:bs[i]? with
  | none=>rw [hb] at hP; cases hP
  | some b =>
   rw [hb] at hP;cases hP;have hQ:Q' ((bs[i]?).getD true) s':=hQ;rw [hb] at hQ;exact wpAny_truthy_bool hQ
 ·have e:(List.range (bs.map Value.bool).toArray.size).all (fun i=>(bs[i]?).getD true)=bs.all id:=by
   rw [List.size_toArray,List.length_map,Bool.eq_iff_iff,List.all_eq_true,List.all_eq_true];constructor
   ·intro h b hb;obtain ⟨i,hi,rfl⟩:=List.mem_iff_getElem.mp hb;have z:=h i (List.mem_range.mpr hi);rw [List.getElem?_eq_getElem hi] at z;exact z
   ·intro h i hi;have hi':=List.mem_range.mp hi;rw [List.getElem?_eq_getElem hi'];exact h _ (List.getElem_mem hi')
  rw [e];exact ⟨.bl _,H,I.kept fun b o e=>kk b o (fun z=>absurd (Heap.lt_size e) (by rw [List.mem_singleton.mp z]; exact Nat.lt_irrefl _)) (Heap.get?_push_of_some _ e),rfl,q⟩
end
end L2
namespace L2
open PySem PySem.Spec PyProof.Rows
def tm (n:Nat) (z:Str):Prop:=z.length≤n∧∀ c∈z.cps.toList,c < 16 ^ 8
theorem tm.mono {n m:Nat} {z:Str} (h:tm n z) (l:n≤m):tm m z:=⟨Nat.le_trans h.1 l,h.2⟩
theorem Jtz {xs:List V} {lo hi:Option Int} {x:V} (h:x∈ZR xs lo hi):x∈xs:=List.mem_of_mem_drop (List.mem_of_mem_take h)
end L2
namespace L2
open PySem PySem.Spec PyProof.Rows
section
variable {te:TE} {σc:St} {D:Addr} {H1:Hp} {Q:Hp→Prop}
theorem Jh0 {J:It} {n:Nat} {X1:Nat→V→Prop} (F:Nat→V→Prop) (h00:σc[0]?=some none) (hgo:∀ i H,i < n→Jh H1 H→J.go i H∧∀ x H',J.yld i H x H'→H'=H∧X1 i x) (hstop:∀ H,Jh H1 H→J.stop n H)
  (hD:H1 D=none) (hlen:n≤sizeLine) (he:∀ i x H,i < n→X1 i x→Jh H1 H→∀ Q':VK,(∀ v,F i v→Q' v H)→te (σc.set 0 (some x)) H Q')
  (hd:∀ ys H,Jh H1 H→H D=some (.lst ys)→ys.length=n→(∀ i v,ys[i]?=some v→F i v)→Q H):Jes J (JbF 0) JeI te σc D H1 Q:=by
 refine Jlb (n:=n) (X1:=X1) (fun i ys H=>Jh H1 H∧H D=some (.lst ys)∧ys.length=i∧∀ j v,ys[j]?=some v→F j v) h00 (fun i H hi ⟨ys,p⟩=>hgo i H hi p.1) (fun H ⟨ys,p⟩=>hstop H p.1)
  ⟨Jh.upd hD,Ji,rfl,fun j v e=>by simp at e⟩ (fun i ys H p=>p.2.1) (fun i x ys H hi hx p=>?_) (fun ys H p=>hd ys H p.1 p.2.1 p.2.2.1 p.2.2.2)
 obtain ⟨e,hy,hl,hf⟩:=p;simp only [JeI,if_true];refine he i x H hi hx e _ fun v hv=>⟨hy,by omega,fun b u q=>?_,Ji,by simp [hl],fun j u q=>?_⟩
 ·rw [JB (JD q hD)];exact e b u q
 ·by_cases hj:j < ys.length
  ·rw [List.getElem?_append_left hj] at q;exact hf j u q
  ·rw [List.getElem?_append_right (by omega)] at q;have hj2:j - ys.length < 1:=(List.getElem?_eq_some_iff.mp q).1;have e1:j=i:=by omega
   have e2:j - ys.length=0:=by omega
   rw [e2] at q;cases q;rw [e1];exact hv
theorem JlL {K:PySem.W.Frag} {a:Addr} {xs:List V} (F:Nat→V→Prop) (h00:σc[0]?=some none) (hS:JC K H1 a xs) (hD:H1 D=none) (hlen:xs.length≤sizeLine)
  (he:∀ i x H,xs[i]?=some x→Jh H1 H→∀ Q':VK,(∀ v,F i v→Q' v H)→te (σc.set 0 (some x)) H Q')
  (hd:∀ ys H,Jh H1 H→H D=some (.lst ys)→ys.length=xs.length→(∀ i v,ys[i]?=some v→F i v)→Q H):Jes (Itl K a) (JbF 0) JeI te σc D H1 Q :=
 Jh0 (n:=xs.length) (X1:=fun i x=>xs[i]?=some x) F h00 (fun i H hi e=>⟨⟨xs,xs[i],e.seq hS,by simp [hi]⟩,fun x H' y=>⟨y.1,y.2 xs (e.seq hS)⟩⟩) (fun H e=>⟨xs,e.seq hS,Nat.le_refl _⟩) hD hlen (fun i x H _ hx e=>he i x H hx e) hd
theorem Jma {z:Str} (F:Nat→V→Prop) (h00:σc[0]?=some none) (hD:H1 D=none) (hlen:z.length≤sizeLine)
  (he:∀ i c H,z.cps[i]?=some c→Jh H1 H→∀ Q':VK,(∀ v,F i v→Q' v H)→te (σc.set 0 (some (.str ⟨#[c]⟩))) H Q')
  (hd:∀ ys H,Jh H1 H→H D=some (.lst ys)→ys.length=z.length→(∀ i v,ys[i]?=some v→F i v)→Q H):Jes (Its z) (JbF 0) JeI te σc D H1 Q :=
 Jh0 (n:=z.length) (X1:=fun i x=>∃ c,z.cps[i]?=some c∧x=.str ⟨#[c]⟩) F h00 (fun i H hi _=>⟨hi,fun x H' y=>y⟩) (fun H _=>Nat.le_refl _) hD hlen (fun i x H hi hx e=>by obtain ⟨c,hc,rfl⟩:=hx; exact he i c H hc e) hd
end
end L2
namespace HS
open PySem PySem.SetTable
def adv (m:Nat) (p:Probe):Probe :=
 if p.more > 0 then ⟨p.j + 1,p.more - 1,p.i,p.perturb,p.dummy⟩
 else ⟨(leap m p.i p.perturb).1,runEnd m (leap m p.i p.perturb).1 - (leap m p.i p.perturb).1,(leap m p.i p.perturb).1,(leap m p.i p.perturb).2,p.dummy⟩
theorem Jkf (t:SetTable) (p:Probe):t.advance p=adv t.mask p:=by
 unfold SetTable.advance adv;split <;> rfl
def st (m i q:Nat):Probe:=⟨i,runEnd m i - i,i,q,none⟩
def YW (m:Nat) (h:Int):Probe:=st m (bits h % (m + 1)) (bits h)
def YA (m:Nat):Nat→Probe→Probe
 | 0,p=>p
 | k + 1,p=>YA m k (adv m p)
theorem JeD (m:Nat):∀ a b p,YA m (a + b) p=YA m b (YA m a p)
 | 0,b,p=>by rw [Nat.zero_add]; rfl
 | a + 1,b,p=>by
  have e:a + 1 + b=(a + b) + 1:=by omega
  rw [e];exact JeD m a b (adv m p)
theorem JhO (m:Nat):∀ k p,(YA m k p).dummy=p.dummy
 | 0,_=>rfl
 | k + 1,p=>by
  show (YA m k (adv m p)).dummy=p.dummy;rw [JhO m k];unfold adv;split <;> rfl
theorem JeC {m i q:Nat}:∀ {d:Nat},d≤runEnd m i - i→YA m d (st m i q)=⟨i + d,runEnd m i - i - d,i,q,none⟩
 | 0,_=>rfl
 | d + 1,h=>by
  rw [JeD m d 1,JeC (d:=d) (by omega)];show adv m _=_;unfold adv;rw [if_pos (by show runEnd m i - i - d > 0; omega)];show Probe.mk _ _ _ _ _=_;congr 1
theorem Jm6 {m i q:Nat}:YA m (runEnd m i - i + 1) (st m i q)=st m (leap m i q).1 (leap m i q).2:=by
 rw [JeD m _ 1,JeC (Nat.le_refl _)];show adv m _=_;unfold adv;rw [if_neg (by show ¬ runEnd m i - i - (runEnd m i - i) > 0; omega)];rfl
theorem JnZ (m i:Nat):runEnd m i - i≤9:=by unfold runEnd; split <;> omega
theorem JpV {m i:Nat} (h:i≤m):runEnd m i≤m:=by unfold runEnd; split <;> omega
theorem JkP (m i q:Nat):(leap m i q).1≤m:=Nat.le_of_lt_succ (Nat.mod_lt _ (Nat.succ_pos _))
def Jad (m:Nat):Nat→Nat×Nat→Nat×Nat
 | 0,x=>x
 | L + 1,x=>Jad m L (leap m x.1 x.2)
theorem JeW (m:Nat):∀ a b x,Jad m (a + b) x=Jad m b (Jad m a x)
 | 0,b,x=>by rw [Nat.zero_add]; rfl
 | a + 1,b,x=>by
  have e:a + 1 + b=(a + b) + 1:=by omega
  rw [e];exact JeW m a b _
theorem JqX (m:Nat):∀ L i q,∃ k,k≤10 * L∧YA m k (st m i q)=st m (Jad m L (i,q)).1 (Jad m L (i,q)).2
 | 0,i,q=>⟨0,Nat.le_refl _,rfl⟩
 | L + 1,i,q=>by
  obtain ⟨k,hk,e⟩:=JqX m L (leap m i q).1 (leap m i q).2;have r:=JnZ m i;refine ⟨runEnd m i - i + 1 + k,by omega,?_⟩;rw [JeD,Jm6,e];rfl
theorem JmJ (m:Nat):∀ L i q,(Jad m L (i,q)).2=q / 32 ^ L
 | 0,i,q=>by simp [Jad]
 | L + 1,i,q=>by
  show (Jad m L ((leap m i q).1,(leap m i q).2)).2=_;rw [JmJ m L];show q / 32 / 32 ^ L=_;rw [Nat.div_div_eq_div_mul,Nat.pow_succ,Nat.mul_comm]
theorem JnY (m:Nat):∀ L i q,i≤m→(Jad m L (i,q)).1≤m
 | 0,i,q,h=>h
 | L + 1,i,q,h=>JnY m L _ _ (JkP m i q)
def JoS (m:Nat):Nat→Nat→List Nat
 | 0,i=>[i]
 | L + 1,i=>i :: JoS m L ((i * 5 + 1) % (m + 1))
theorem Jhx (m:Nat):∀ n i j,j∈JoS m n i→∃ L,L≤n∧(Jad m L (i,0)).1=j
 | 0,i,j,h=>⟨0,Nat.le_refl _,(List.mem_singleton.mp h).symm⟩
 | n + 1,i,j,h=>by
  rcases List.mem_cons.mp h with rfl | h
  ·exact ⟨0,Nat.zero_le _,rfl⟩
  ·obtain ⟨L,hL,e⟩:=Jhx m n _ j h;refine ⟨L + 1,by omega,?_⟩;show (Jad m L (leap m i 0)).1=j;have e2:leap m i 0=((i * 5 + 1) % (m + 1),0):=by unfold leap; simp
   rw [e2];exact e
def Msk (m:Nat):Prop:=m=7∨m=31∨m=127
def JsK (m:Nat):Bool:=((List.range (m + 1)).all fun j=>(JoS m m 0).contains j) && decide (Jad m (m + 1) (0,0)=(0,0))
theorem Jso {m:Nat} (h:Msk m):JsK m=true:=by
 rcases h with rfl | rfl | rfl <;> decide +kernel
theorem Jt8 (m:Nat) (L i:Nat):Jad m L (i,0)=((Jad m L (i,0)).1,0):=Prod.ext rfl (by rw [JmJ]; exact Nat.zero_div _)
theorem Jp2 {m i j:Nat} (h:Msk m) (hi:i≤m) (hj:j≤m):∃ L,L≤m∧(Jad m L (i,0)).1=j:=by
 have z:=Jso h;unfold JsK at z;rw [Bool.and_eq_true] at z;obtain ⟨z1,z2⟩:=z;have per:Jad m (m + 1) (0,0)=(0,0):=of_decide_eq_true z2;obtain ⟨a,ha,ea⟩:=Jhx m m 0 i (List.contains_iff_mem.mp (List.all_eq_true.mp z1 i (List.mem_range.mpr (by omega))));obtain ⟨b,hb,eb⟩:=Jhx m m 0 j (List.contains_iff_mem.mp (List.all_eq_true.mp z1 j (List.mem_range.mpr (by omega))));have ei:Jad m a (0,0)=(i,0):=by rw [Jt8,ea]
 by_cases hab:a≤b
 ·refine ⟨b - a,by omega,?_⟩;rw [← ei,← JeW,show a + (b - a)=b by omega];exact eb
 ·refine ⟨m + 1 - a + b,by omega,?_⟩;rw [← ei,← JeW,show a + (m + 1 - a + b)=(m + 1) + b by omega,JeW,per];exact eb
theorem JqM {m i q j:Nat} (h:Msk m) (hi:i≤m) (hq:q < 2 ^ 64) (hj:j≤m):∃ L,L≤13 + m∧(Jad m L (i,q)).1=j:=by
 have e:Jad m 13 (i,q)=((Jad m 13 (i,q)).1,0):=by
  refine Prod.ext rfl ?_;rw [JmJ];exact Nat.div_eq_of_lt (Nat.lt_trans hq (by decide))
 obtain ⟨L,hL,e2⟩:=Jp2 h (JnY m 13 i q hi) hj;refine ⟨13 + L,by omega,?_⟩;rw [JeW,e];exact e2
theorem Jon (h:Int):bits h < 2 ^ 64:=by
 unfold bits;have h1:=Int.emod_lt_of_pos h (b:=(2 ^ 64:Int)) (by decide);have h0:=Int.emod_nonneg h (b:=(2 ^ 64:Int)) (by decide);omega
theorem Jid (m:Nat) (h:Int):bits h % (m + 1)≤m:=Nat.le_of_lt_succ (Nat.mod_lt _ (Nat.succ_pos _))
theorem Jj0 {m:Nat}:∀ {k p},p.j + p.more≤m→(YA m k p).j + (YA m k p).more≤m
 | 0,p,h=>h
 | k + 1,p,h=>by
  refine Jj0 (k:=k) (p:=adv m p) ?_;unfold adv;split
  ·show p.j + 1 + (p.more - 1)≤m;omega
  ·show (leap m p.i p.perturb).1 + (runEnd m (leap m p.i p.perturb).1 - (leap m p.i p.perturb).1)≤m;have a:=JkP m p.i p.perturb;have b:=JpV a;omega
theorem JiP (m:Nat) (h:Int):(YW m h).j + (YW m h).more≤m:=by
 have a:=Jid m h;have b:=JpV a;show bits h % (m + 1) + (runEnd m (bits h % (m + 1)) - bits h % (m + 1))≤m;omega
def JcN (m:Nat) (occ:Nat→Bool) (p:Probe) (k:Nat):Prop:=occ (YA m k p).j=false∧∀ k',k' < k→occ (YA m k' p).j=true
theorem Jsa {m:Nat} {occ:Nat→Bool} {p:Probe}:∀ {k:Nat},occ (YA m k p).j=false→∃ k',k'≤k∧JcN m occ p k':=by
 intro k
 induction k using Nat.strongRecOn with
 | _ k ih =>
  intro h;by_cases hx:∃ k',k' < k∧occ (YA m k' p).j=false
  ·obtain ⟨k',h1,h2⟩:=hx;obtain ⟨k2,h3,h4⟩:=ih k' h1 h2;exact ⟨k2,by omega,h4⟩
  ·refine ⟨k,Nat.le_refl _,h,fun k' hk=>?_⟩;cases hb:occ (YA m k' p).j with
   | true=>rfl
   | false=>exact absurd ⟨k',hk,hb⟩ hx
theorem Jsb {m:Nat} {occ:Nat→Bool} {h:Int} {j:Nat} (hm:Msk m) (hj:j≤m) (ho:occ j=false):∃ k,k < 10 * (m + 15)∧JcN m occ (YW m h) k:=by
 obtain ⟨L,hL,e⟩:=JqM hm (Jid m h) (Jon h) hj;obtain ⟨k,hk,e2⟩:=JqX m L (bits h % (m + 1)) (bits h);have e3:(YA m k (YW m h)).j=j:=by
  show (YA m k (st m _ _)).j=j;rw [e2];exact e
 obtain ⟨k',h1,h2⟩:=Jsa (occ:=occ) (by rw [e3]; exact ho);exact ⟨k',by omega,h2⟩
theorem JcN.step {m:Nat} {occ:Nat→Bool} {p:Probe} {k:Nat} (h:JcN m occ p (k + 1)):occ p.j=true∧JcN m occ (adv m p) k:=⟨h.2 0 (Nat.succ_pos _),h.1,fun k' hk=>h.2 (k' + 1) (by omega)⟩
theorem Jn7 {t:SetTable} {hashAt:Nat→Int} {h:Int} {occ:Nat→Bool} (ho:∀ j,occ j=true→∃ i,t.slot j=.live i) (hf:∀ j,occ j=false→t.slot j=.empty):∀ (k fuel:Nat) (p:Probe),k < fuel→JcN t.mask occ p k→p.dummy=none →
  (∃ n i,n < k∧t.slot (YA t.mask n p).j=.live i∧hashAt i=h∧(∀ n' i',n' < n→t.slot (YA t.mask n' p).j=.live i'→hashAt i'≠h)∧probe.go t hashAt h fuel p=some (.candidate (YA t.mask n p).j i (YA t.mask (n + 1) p))) ∨
  ((∀ n i,n < k→t.slot (YA t.mask n p).j=.live i→hashAt i≠h)∧probe.go t hashAt h fuel p=some (.empty (YA t.mask k p).j none))
 | 0,fuel + 1,p,_,hF,hd=>by
  refine .inr ⟨fun n i hn=>absurd hn (Nat.not_lt_zero _),?_⟩;have hz:t.slot p.j=.empty:=hf _ hF.1;unfold probe.go;rw [hz,hd];rfl
 | k + 1,fuel + 1,p,hk,hF,hd=>by
  obtain ⟨h1,h2⟩:=hF.step;obtain ⟨i,hi⟩:=ho _ h1;by_cases hh:hashAt i=h
  ·refine .inl ⟨0,i,Nat.succ_pos _,hi,hh,fun n' i' hn=>absurd hn (Nat.not_lt_zero _),?_⟩;unfold probe.go;rw [hi];simp only [hh,beq_self_eq_true,if_true,Jkf];rfl
  ·have e:probe.go t hashAt h (fuel + 1) p=probe.go t hashAt h fuel (adv t.mask p):=by
    rw [probe.go];rw [hi];have hb:(hashAt i == h)=false:=by simpa using hh
    simp only [hb,Bool.false_eq_true,if_false,Jkf]
   have hd2:(adv t.mask p).dummy=none:=by
    have z:=JhO t.mask 1 p;exact z.trans hd
   rcases Jn7 ho hf k fuel (adv t.mask p) (by omega) h2 hd2 with ⟨n,i2,a1,a2,a3,a4,a5⟩ | ⟨a1,a2⟩
   ·refine .inl ⟨n + 1,i2,by omega,a2,a3,fun n' i' hn hs=>?_,by rw [e,a5]; rfl⟩;cases n' with
    | zero =>
     have z:t.slot p.j=.live i':=hs;rw [hi] at z;cases z;exact hh
    | succ n'=>exact a4 n' i' (by omega) hs
   ·refine .inr ⟨fun n i2 hn hs=>?_,by rw [e,a2]; rfl⟩;cases n with
    | zero =>
     have z:t.slot p.j=.live i2:=hs;rw [hi] at z;cases z;exact hh
    | succ n=>exact a1 n i2 (by omega) hs
def Ris (xs:Array Nat):Prop:=∀ a b,a < b→b < xs.size→xs.getD a 0 < xs.getD b 0
theorem Jjq {xs:Array Nat} {j:Nat} (hr:Ris xs):∀ (fuel lo hi:Nat),hi - lo≤fuel→lo≤hi→hi≤xs.size→(∀ k,k < lo→xs.getD k 0 < j)→(∀ k,hi≤k→k < xs.size→j≤xs.getD k 0) →
  below.go xs j fuel lo hi≤xs.size∧(∀ k,k < below.go xs j fuel lo hi→xs.getD k 0 < j)∧(∀ k,below.go xs j fuel lo hi≤k→k < xs.size→j≤xs.getD k 0)
 | 0,lo,hi,hf,hl,hz,h1,h2=>by
  have e:lo=hi:=by omega
  subst e;unfold below.go;exact ⟨hz,h1,h2⟩
 | fuel + 1,lo,hi,hf,hl,hz,h1,h2=>by
  unfold below.go;by_cases hlt:lo < hi
  ·rw [if_pos hlt];have hm1:lo≤(lo + hi) / 2:=by omega
   have hm2:(lo + hi) / 2 < hi:=by omega
   have e:xs.getD ((lo + hi) / 2) j=xs.getD ((lo + hi) / 2) 0:=by
    have hlt2:(lo + hi) / 2 < xs.size:=by omega
    simp [Array.getD,hlt2]
   dsimp only;rw [e];by_cases hc:xs.getD ((lo + hi) / 2) 0 < j
   ·rw [if_pos hc];refine Jjq hr fuel _ hi (by omega) (by omega) hz (fun k hk=>?_) h2;by_cases hk2:k=(lo + hi) / 2
    ·rw [hk2]; exact hc
    ·exact Nat.lt_trans (hr k _ (by omega) (by omega)) hc
   ·rw [if_neg hc];refine Jjq hr fuel lo _ (by omega) hm1 (by omega) h1 (fun k hk hks=>?_);by_cases hk2:k=(lo + hi) / 2
    ·rw [hk2]; omega
    ·have:=hr _ k (show (lo + hi) / 2 < k by omega) hks;omega
  ·rw [if_neg hlt];have e:lo=hi:=by omega
   subst e;exact ⟨hz,h1,h2⟩
theorem Jkd {xs:Array Nat} (hr:Ris xs) (j:Nat):below xs j≤xs.size∧(∀ k,k < below xs j→xs.getD k 0 < j)∧(∀ k,below xs j≤k→k < xs.size→j≤xs.getD k 0) :=
 Jjq hr xs.size 0 xs.size (by omega) (Nat.zero_le _) (Nat.le_refl _) (fun k hk=>absurd hk (Nat.not_lt_zero _)) fun k hk hks=>by omega
def Zd (place:Array Nat) (j:Nat):Bool:=place.toList.contains j
theorem Jgu {place:Array Nat} {j:Nat}:Zd place j=true↔∃ a,a < place.size∧place.getD a 0=j:=by
 unfold Zd;rw [List.contains_iff_mem,List.mem_iff_getElem];constructor
 ·rintro ⟨a,ha,e⟩;have ha':a < place.size:=by simpa using ha
  exact ⟨a,ha',by simpa [Array.getD,ha'] using e⟩
 ·rintro ⟨a,ha,e⟩;exact ⟨a,by simpa using ha,by simpa [Array.getD,ha] using e⟩
theorem Jhk {t:SetTable} (hr:Ris t.place) {a:Nat} (ha:a < t.place.size):t.slot (t.place.getD a 0)=.live a:=by
 obtain ⟨b1,b2,b3⟩:=Jkd hr (t.place.getD a 0);have e:below t.place (t.place.getD a 0)=a:=by
  rcases Nat.lt_trichotomy (below t.place (t.place.getD a 0)) a with h | h | h
  ·have:=b3 _ (Nat.le_refl _) (by omega);have:=hr _ a h ha;omega
  ·exact h
  ·have:=b2 a h;omega
 unfold SetTable.slot;dsimp only;rw [e];have e2:t.place[a]?=some (t.place.getD a 0):=by simp [Array.getD,ha]
 rw [e2];simp
theorem JjE {t:SetTable} (hr:Ris t.place) (hd:t.dummies=#[]) {j:Nat} (h:Zd t.place j=false):t.slot j=.empty:=by
 unfold SetTable.slot;dsimp only;have hn:(t.place[below t.place j]? == some j)=false:=by
  cases hb:(t.place[below t.place j]? == some j) with
  | false=>rfl
  | true =>
   have z:t.place[below t.place j]?=some j:=by simpa using hb
   obtain ⟨hlt,e⟩:=Array.getElem?_eq_some_iff.mp z;have:Zd t.place j=true:=Jgu.mpr ⟨_,hlt,by simp [Array.getD,hlt,e]⟩;rw [h] at this; cases this
 rw [hn,hd];have hh:has #[] j=false:=by unfold has; simp
 rw [hh];rfl
theorem JrW {t:SetTable} (hr:Ris t.place) {j:Nat} (h:Zd t.place j=true):∃ i,t.slot j=.live i:=by
 obtain ⟨a,ha,rfl⟩:=Jgu.mp h;exact ⟨a,Jhk hr ha⟩
theorem JtB {t:SetTable} (hr:Ris t.place) (hd:t.dummies=#[]) {j i:Nat} (h:t.slot j=.live i):i < t.place.size∧t.place.getD i 0=j:=by
 cases ho:Zd t.place j with
 | false=>rw [JjE hr hd ho] at h; cases h
 | true =>
  obtain ⟨a,ha,rfl⟩:=Jgu.mp ho;rw [Jhk hr ha] at h;cases h;exact ⟨ha,rfl⟩
theorem Je3:∀ {l r:List Nat},l.Nodup→(∀ x∈l,x∈r)→l.length≤r.length
 | [],_,_,_=>Nat.zero_le _
 | x :: l,r,hn,hs=>by
  have hx:=hs x (List.mem_cons_self ..);have h1:=List.nodup_cons.mp hn;have z:=Je3 (l:=l) (r:=r.erase x) h1.2 fun y hy=>(List.mem_erase_of_ne (by rintro rfl; exact h1.1 hy)).mpr (hs y (List.mem_cons_of_mem _ hy))
  rw [List.length_erase_of_mem hx] at z;have:0 < r.length:=List.length_pos_of_mem hx;simp only [List.length_cons];omega
theorem JtG {place:Array Nat} {m:Nat} (h:place.size≤m):∃ j,j≤m∧Zd place j=false:=by
 by_cases hx:∃ j,j≤m∧Zd place j=false
 ·exact hx
 ·exfalso;have z:=Je3 (l:=List.range (m + 1)) (r:=place.toList) List.nodup_range fun x hx2=>by
   cases ho:Zd place x with
   | false=>exact absurd ⟨x,by have:=List.mem_range.mp hx2; omega,ho⟩ hx
   | true=>exact List.contains_iff_mem.mp ho
  rw [List.length_range,Array.length_toList] at z;omega
end HS
namespace HS
open PySem PySem.SetTable
def Jki (m:Nat) (occ:Nat→Bool) (h:Int) (j:Nat):Prop:=∃ k,(YA m k (YW m h)).j=j∧∀ k',k' < k→occ (YA m k' (YW m h)).j=true
theorem Jki.mono {m:Nat} {occ occ':Nat→Bool} {h:Int} {j:Nat} (r:Jki m occ h j) (ho:∀ j,occ j=true→occ' j=true):Jki m occ' h j:=let ⟨k,e,a⟩:=r; ⟨k,e,fun k' hk=>ho _ (a k' hk)⟩
structure Tab (t:SetTable) (es:Array (Int×Value)):Prop where
 msk:Msk t.mask
 dum:t.dummies=#[]
 siz:t.place.size=es.size
 ris:Ris t.place
 ub:∀ j∈t.place.toList,j≤t.mask
 cap:es.size≤t.mask
 rch:∀ z∈t.place.toList.zip es.toList,Jki t.mask (Zd t.place) z.2.1 z.1
theorem Tab.fits {t:SetTable} {es:Array (Int×Value)} (T:Tab t es):t.fits es.size=true:=by
 unfold SetTable.fits SetTable.fill;rw [T.dum,T.siz];have:=T.cap;simp;exact this
theorem Tab.first {t:SetTable} {es:Array (Int×Value)} (T:Tab t es) (h:Int):∃ k,k < 10 * turns t.mask∧JcN t.mask (Zd t.place) (YW t.mask h) k:=by
 obtain ⟨j,hj,ho⟩:=JtG (place:=t.place) (m:=t.mask) (by rw [T.siz]; exact T.cap);exact Jsb T.msk hj ho
theorem Tab.met {t:SetTable} {es:Array (Int×Value)} (T:Tab t es) {h:Int} {k a:Nat} {e:Int×Value} (hF:JcN t.mask (Zd t.place) (YW t.mask h) k) (he:es.toList[a]?=some e) (hh:e.1=h) :
  ∃ n,n < k∧t.slot (YA t.mask n (YW t.mask h)).j=.live a:=by
 have ha:a < es.size:=by
  have:=(List.getElem?_eq_some_iff.mp he).1;simpa using this
 have ha':a < t.place.size:=by rw [T.siz]; exact ha
 have hz:(t.place.getD a 0,e)∈t.place.toList.zip es.toList:=by
  refine List.mem_of_getElem? (i:=a) ?_;rw [List.getElem?_zip_eq_some];refine ⟨?_,he⟩;simp [Array.getD,ha']
 obtain ⟨n,e1,e2⟩:=T.rch _ hz;have hh':(YW t.mask e.1)=YW t.mask h:=by rw [hh]
 dsimp only at e1 e2;rw [hh'] at e1;rw [hh'] at e2;have hocc:Zd t.place (t.place.getD a 0)=true:=Jgu.mpr ⟨a,ha',rfl⟩;refine ⟨n,?_,by rw [e1]; exact Jhk T.ris ha'⟩;rcases Nat.lt_trichotomy n k with q | q | q
 ·exact q
 ·subst q;have:=hF.1;rw [e1,hocc] at this;cases this
 ·have:=e2 k q;rw [hF.1] at this;cases this
theorem JkF {xs:Array Nat}:Ris xs↔xs.toList.Pairwise (· < ·):=by
 rw [List.pairwise_iff_getElem];constructor
 ·intro h i j hi hj hij;have hi':i < xs.size:=by simpa using hi
  have hj':j < xs.size:=by simpa using hj
  have:=h i j hij hj';simpa [Array.getD,hi',hj'] using this
 ·intro h a b hab hb;have ha:a < xs.size:=by omega
  have:=h a b (by simpa using ha) (by simpa using hb) hab;simpa [Array.getD,ha,hb] using this
theorem Jep {α β:Type} {P:List α} {E:List β} {z:α×β}:z∈P.zip E↔∃ i:Nat,P[i]?=some z.1∧E[i]?=some z.2:=by
 rw [List.mem_iff_getElem?];constructor
 ·rintro ⟨i,e⟩;exact ⟨i,List.getElem?_zip_eq_some.mp e⟩
 ·rintro ⟨i,e⟩;exact ⟨i,List.getElem?_zip_eq_some.mpr e⟩
theorem Jop {α β:Type} {P:List α} {E:List β} {p:Nat} {s:α} {e:β} (h:P.length=E.length) {z:α×β} (hz:z∈(P.take p ++ s :: P.drop p).zip (E.take p ++ e :: E.drop p)):z∈P.zip E∨z=(s,e):=by
 rw [List.zip_append (by rw [List.length_take,List.length_take,h]),List.zip_cons_cons] at hz;rcases List.mem_append.mp hz with q | q
 ·obtain ⟨i,e1,e2⟩:=Jep.mp q;rw [List.getElem?_take] at e1 e2;refine .inl (Jep.mpr ⟨i,?_,?_⟩)
  ·split at e1
   ·exact e1
   ·cases e1
  ·split at e2
   ·exact e2
   ·cases e2
 ·rcases List.mem_cons.mp q with q | q
  ·exact .inr q
  ·obtain ⟨i,e1,e2⟩:=Jep.mp q;rw [List.getElem?_drop] at e1 e2;exact .inl (Jep.mpr ⟨_,e1,e2⟩)
theorem Jug {t:SetTable} {es:Array (Int×Value)} (T:Tab t es) (j:Nat):t.put j=({ t with place:=insertAt t.place (below t.place j) j,dummies:=#[] },below t.place j):=by
 unfold SetTable.put;have hh:has #[] j=false:=by unfold has; simp
 simp only [T.dum,hh,Bool.false_eq_true,if_false]
theorem JjS {place:Array Nat} {p j j':Nat}:Zd (insertAt place p j) j'=true↔j'=j∨Zd place j'=true:=by
 unfold Zd;rw [List.contains_iff_mem,List.contains_iff_mem,SetTable.toList_insertAt,List.mem_append,List.mem_cons];constructor
 ·rintro (h | h | h)
  ·exact .inr (List.mem_of_mem_take h)
  ·exact .inl h
  ·exact .inr (List.mem_of_mem_drop h)
 ·rintro (h | h)
  ·exact .inr (.inl h)
  ·rw [← List.take_append_drop p place.toList] at h;rcases List.mem_append.mp h with h | h
   ·exact .inl h
   ·exact .inr (.inr h)
theorem Tab.put {t:SetTable} {es:Array (Int×Value)} (T:Tab t es) {h:Int} {x:Value} {k:Nat} (b:Bool) (hF:JcN t.mask (Zd t.place) (YW t.mask h) k) (hc:es.size + 1≤t.mask) :
  Tab { mask:=t.mask,place:=insertAt t.place (below t.place (YA t.mask k (YW t.mask h)).j) (YA t.mask k (YW t.mask h)).j,dummies:=#[],finger:=t.finger,led:=t.led,moves:=t.moves,plain:=b }
   (insertAt es (below t.place (YA t.mask k (YW t.mask h)).j) (h,x)):=by
 generalize hj:(YA t.mask k (YW t.mask h)).j=j;have ho:Zd t.place j=false:=by rw [← hj]; exact hF.1
 have hle:j≤t.mask:=by
  have:=Jj0 (m:=t.mask) (k:=k) (JiP t.mask h);omega
 obtain ⟨b1,b2,b3⟩:=Jkd T.ris j;have mono:∀ j',Zd t.place j'=true→Zd (insertAt t.place (below t.place j) j) j'=true:=fun j' q=>JjS.mpr (.inr q)
 refine ⟨T.msk,rfl,?_,?_,?_,?_,?_⟩
 ·have e1:(insertAt t.place (below t.place j) j).size=t.place.size + 1:=by
   rw [← Array.length_toList,(SetTable.insertAt_perm t.place _ j).length_eq,Array.length_toList,Array.size_push]
  have e2:(insertAt es (below t.place j) (h,x)).size=es.size + 1:=by
   rw [← Array.length_toList,(SetTable.insertAt_perm es _ (h,x)).length_eq,Array.length_toList,Array.size_push]
  show (insertAt t.place (below t.place j) j).size=_;rw [e1,e2,T.siz]
 ·rw [JkF];show (insertAt t.place (below t.place j) j).toList.Pairwise _;rw [SetTable.toList_insertAt];have hp:=JkF.mp T.ris;rw [List.pairwise_append,List.pairwise_cons];refine ⟨hp.sublist (List.take_sublist _ _),⟨fun a ha=>?_,hp.sublist (List.drop_sublist _ _)⟩,fun a ha c hc=>?_⟩
  ·obtain ⟨i,hi,e⟩:=List.mem_iff_getElem.mp ha;rw [List.getElem_drop] at e;have hi2:below t.place j + i < t.place.size:=by
    rw [List.length_drop,Array.length_toList] at hi;omega
   have e2:t.place.getD (below t.place j + i) 0=a:=by rw [← e]; simp [Array.getD,hi2]
   have h1:=b3 _ (Nat.le_add_right _ i) hi2;have h2:a≠j:=fun q=>by
    have:=Jgu.mpr ⟨_,hi2,e2.trans q⟩;rw [ho] at this; cases this
   omega
  ·have hlt:∀ a∈t.place.toList.take (below t.place j),a < j:=fun a ha=>by
    obtain ⟨i,hi,e⟩:=List.mem_iff_getElem.mp ha;rw [List.getElem_take] at e;rw [List.length_take,Array.length_toList] at hi;have hi2:i < t.place.size:=by omega
    have e2:t.place.getD i 0=a:=by rw [← e]; simp [Array.getD,hi2]
    have:=b2 i (by omega);omega
   rcases List.mem_cons.mp hc with q | q
   ·rw [q]; exact hlt a ha
   ·have hp2:=hp;rw [← List.take_append_drop (below t.place j) t.place.toList,List.pairwise_append] at hp2;exact hp2.2.2 a ha c q
 ·intro a ha;have:Zd (insertAt t.place (below t.place j) j) a=true:=List.contains_iff_mem.mpr ha;rcases JjS.mp this with q | q
  ·rw [q]; exact hle
  ·exact T.ub a (List.contains_iff_mem.mp q)
 ·rw [← Array.length_toList,(SetTable.insertAt_perm es _ (h,x)).length_eq,Array.length_toList,Array.size_push];exact hc
 ·intro z hz;have hz':z∈(insertAt t.place (below t.place j) j).toList.zip (insertAt es (below t.place j) (h,x)).toList:=hz;rw [SetTable.toList_insertAt,SetTable.toList_insertAt] at hz';rcases Jop (by rw [Array.length_toList,Array.length_toList,T.siz]) hz' with q | q
  ·exact (T.rch z q).mono mono
  ·rw [q];exact ⟨k,hj,fun k' hk=>mono _ (hF.2 k' hk)⟩
def Z9 (owner:Array (Option Nat)) (j:Nat):Bool:=(owner.getD j (some 0)).isSome
theorem JlF {m:Nat} {owner:Array (Option Nat)}:∀ (fuel i q:Nat),i≤m→(∃ L,L < fuel∧Z9 owner (Jad m L (i,q)).1=false) →
  ∃ k,layClean.free m owner fuel i q=some (YA m k (st m i q)).j∧JcN m (Z9 owner) (st m i q) k
 | 0,i,q,hi,⟨L,hL,_⟩=>absurd hL (Nat.not_lt_zero _)
 | fuel + 1,i,q,hi,⟨L,hL,hf⟩=>by
  have hr:=JnZ m i;have hge:i≤runEnd m i:=by unfold runEnd; split <;> omega
  unfold layClean.free;cases hx:(List.range (runEnd m i + 1 - i)).find? fun k=>(owner.getD (i + k) (some 0)).isNone with
  | some k =>
   obtain ⟨h1,h2,h3⟩:=List.find?_range_eq_some.mp hx;have hk:k≤runEnd m i - i:=by have:=List.mem_range.mp h2; omega
   refine ⟨k,?_,?_,fun k' hk'=>?_⟩
   ·rw [JeC hk]
   ·rw [JeC hk];show (owner.getD (i + k) (some 0)).isSome=false;cases ho:owner.getD (i + k) (some 0) with
    | none=>rfl
    | some a=>rw [ho] at h1; cases h1
   ·rw [JeC (by omega)];have z:=h3 k' hk';show (owner.getD (i + k') (some 0)).isSome=true;cases ho:owner.getD (i + k') (some 0) with
    | none=>rw [ho] at z; simp at z
    | some a=>rfl
  | none =>
   have hn:=List.find?_eq_none.mp hx;have occd:∀ d,d≤runEnd m i - i→Z9 owner (i + d)=true:=fun d hd=>by
    have z:=hn d (List.mem_range.mpr (by omega));show (owner.getD (i + d) (some 0)).isSome=true;cases ho:owner.getD (i + d) (some 0) with
    | none=>rw [ho] at z; simp at z
    | some a=>rfl
   cases L with
   | zero =>
    have z:=occd 0 (Nat.zero_le _);rw [Nat.add_zero] at z;have hf':Z9 owner i=false:=hf;rw [z] at hf'; cases hf'
   | succ L =>
    obtain ⟨k,e,hF⟩:=JlF fuel (leap m i q).1 (leap m i q).2 (JkP m i q) ⟨L,by omega,hf⟩;have eI:∀ n,YA m (runEnd m i - i + 1 + n) (st m i q)=YA m n (st m (leap m i q).1 (leap m i q).2):=fun n=>by rw [JeD,Jm6]
    refine ⟨runEnd m i - i + 1 + k,?_,?_,fun k' hk'=>?_⟩
    ·rw [eI]; exact e
    ·rw [eI]; exact hF.1
    ·by_cases hs:k'≤runEnd m i - i
     ·rw [JeC hs]; exact occd k' hs
     ·obtain ⟨n,rfl⟩:∃ n,k'=runEnd m i - i + 1 + n:=⟨k' - (runEnd m i - i + 1),by omega⟩
      rw [eI];exact hF.2 n (by omega)
structure Own (m:Nat) (owner:Array (Option Nat)) (done:List Int):Prop where
 siz:owner.size=m + 1
 all:∀ a,a < done.length→∃ j,j≤m∧owner.getD j none=some a
 has:∀ j a,owner.getD j none=some a→∃ h,done[a]?=some h∧Jki m (Z9 owner) h j
 inj:∀ j j' a,owner.getD j none=some a→owner.getD j' none=some a→j=j'
theorem Own.lt {m:Nat} {owner:Array (Option Nat)} {done:List Int} (O:Own m owner done) {j a:Nat} (h:owner.getD j none=some a):j≤m∧a < done.length:=by
 obtain ⟨hh,e,_⟩:=O.has j a h;refine ⟨?_,(List.getElem?_eq_some_iff.mp e).1⟩;by_cases hj:j < owner.size
 ·have:=O.siz; omega
 ·rw [show owner.getD j none=none by simp [Array.getD,hj]] at h; cases h
theorem Jhw {owner:Array (Option Nat)} {j:Nat} (hj:j < owner.size):owner.getD j (some 0)=owner.getD j none:=by simp [Array.getD,hj]
theorem Own.free {m:Nat} {owner:Array (Option Nat)} {done:List Int} (O:Own m owner done) (h:done.length≤m):∃ j,j≤m∧Z9 owner j=false:=by
 by_cases hx:∃ j,j≤m∧Z9 owner j=false
 ·exact hx
 ·exfalso;have hall:∀ j,j≤m→∃ a,owner.getD j none=some a:=fun j hj=>by
   cases ho:Z9 owner j with
   | false=>exact absurd ⟨j,hj,ho⟩ hx
   | true =>
    unfold Z9 at ho;rw [Jhw (by rw [O.siz]; omega)] at ho;exact Option.isSome_iff_exists.mp ho
  have hnd:((List.range (m + 1)).map fun j=>(owner.getD j none).getD 0).Nodup:=by
   rw [List.Nodup,List.pairwise_map];refine List.Pairwise.imp_of_mem ?_ (List.pairwise_lt_range (n:=m + 1));intro a b ha hb hlt e;obtain ⟨x,ex⟩:=hall a (by have:=List.mem_range.mp ha; omega);obtain ⟨y,ey⟩:=hall b (by have:=List.mem_range.mp hb; omega);rw [ex,ey] at e;have e':x=y:=e;subst e';have:=O.inj a b x ex ey;omega
  have z:=Je3 (r:=List.range done.length) hnd fun x hx2=>by
   obtain ⟨j,hj,e⟩:=List.mem_map.mp hx2;obtain ⟨y,ey⟩:=hall j (by have:=List.mem_range.mp hj; omega);rw [ey] at e;have e':y=x:=e;subst e';exact List.mem_range.mpr (O.lt ey).2
  rw [List.length_map,List.length_range,List.length_range] at z;omega
theorem Own.step {m:Nat} {owner:Array (Option Nat)} {done:List Int} (hm:Msk m) (O:Own m owner done) (h:done.length≤m) (x:Int) :
  ∃ j,layClean.free m owner (turns m) (bits x % (m + 1)) (bits x)=some j∧Own m (owner.setIfInBounds j (some done.length)) (done ++ [x]):=by
 obtain ⟨f,hf,ho⟩:=O.free h;obtain ⟨L,hL,eL⟩:=JqM hm (Jid m x) (Jon x) hf;obtain ⟨k,e,hF⟩:=JlF (owner:=owner) (turns m) (bits x % (m + 1)) (bits x) (Jid m x) ⟨L,by unfold turns; omega,by rw [eL]; exact ho⟩;generalize hj:(YA m k (st m (bits x % (m + 1)) (bits x))).j=j at e;have hjm:j≤m:=by
  have:=Jj0 (m:=m) (k:=k) (JiP m x);have e2:(YA m k (YW m x)).j=j:=hj;omega
 have hjs:j < owner.size:=by rw [O.siz]; omega
 have hj0:owner.getD j none=none:=by
  have z:=hF.1;rw [hj] at z;unfold Z9 at z;rw [Jhw hjs] at z;cases q:owner.getD j none with
  | none=>rfl
  | some a=>rw [q] at z; cases z
 have get:∀ i,(owner.setIfInBounds j (some done.length)).getD i none=if i=j then some done.length else owner.getD i none:=fun i=>by
  rw [Array.getD_eq_getD_getElem?,Array.getElem?_setIfInBounds];by_cases q:i=j
  ·subst q; simp [hjs]
  ·have q':¬ j=i:=fun w=>q w.symm
   rw [if_neg q',if_neg q,Array.getD_eq_getD_getElem?]
 have mono:∀ i,Z9 owner i=true→Z9 (owner.setIfInBounds j (some done.length)) i=true:=fun i q=>by
  unfold Z9 at q ⊢;by_cases hi:i < owner.size
  ·rw [Jhw (by simpa using hi),get];rw [Jhw hi] at q;by_cases w:i=j
   ·rw [if_pos w]; rfl
   ·rw [if_neg w]; exact q
  ·simp [Array.getD,hi]
 refine ⟨j,e,by simpa using O.siz,fun a ha=>?_,fun i a hi=>?_,fun i i' a hi hi'=>?_⟩
 ·by_cases hlt:a < done.length
  ·obtain ⟨i,hi,ei⟩:=O.all a hlt;refine ⟨i,hi,?_⟩;rw [get,if_neg (fun q=>by rw [q,hj0] at ei; cases ei)];exact ei
  ·rw [List.length_append,List.length_singleton] at ha;have:a=done.length:=by omega
   subst this;exact ⟨j,hjm,by rw [get,if_pos rfl]⟩
 ·rw [get] at hi;split at hi
  ·rename_i q;cases hi;refine ⟨x,by simp,?_⟩;rw [q];exact ⟨k,hj,fun k' hk=>mono _ (hF.2 k' hk)⟩
  ·obtain ⟨hh,e1,r⟩:=O.has i a hi;exact ⟨hh,by rw [List.getElem?_append_left (List.getElem?_eq_some_iff.mp e1).1]; exact e1,r.mono mono⟩
 ·rw [get] at hi hi';split at hi <;> split at hi'
  ·rename_i q q'; rw [q,q']
  ·cases hi;have:=(O.lt hi').2;omega
  ·cases hi';have:=(O.lt hi).2;omega
  ·exact O.inj i i' a hi hi'
def Jm2 (m:Nat) (acc:Option (Array (Option Nat)×Nat)) (h:Int):Option (Array (Option Nat)×Nat):=do
 let (owner,k) ← acc;let j ← layClean.free m owner (turns m) (bits h % (m + 1)) (bits h)
 pure (owner.setIfInBounds j (some k),k + 1)
theorem Jm1 {m:Nat} (hm:Msk m):∀ (todo done:List Int) (owner:Array (Option Nat)),Own m owner done→done.length + todo.length≤m→∃ owner',todo.foldl (Jm2 m) (some (owner,done.length))=some (owner',done.length + todo.length)∧Own m owner' (done ++ todo)
 | [],done,owner,O,_=>⟨owner,by simp,by simpa using O⟩
 | x :: todo,done,owner,O,h=>by
  simp only [List.length_cons] at h;obtain ⟨j,e,O2⟩:=O.step hm (by omega) x;obtain ⟨o3,e3,O3⟩:=Jm1 hm todo (done ++ [x]) _ O2 (by rw [List.length_append,List.length_singleton]; omega);refine ⟨o3,?_,by simpa using O3⟩;rw [List.foldl_cons];have e4:Jm2 m (some (owner,done.length)) x=some (owner.setIfInBounds j (some done.length),done.length + 1):=by
   unfold Jm2;simp [e]
  rw [e4];rw [List.length_append,List.length_singleton] at e3;rw [e3];simp only [List.length_cons];congr 2;omega
theorem Jqk {m:Nat} (hm:Msk m) (hashes:Array Int) (h:hashes.size≤m):∃ owner,layClean m hashes=some owner∧Own m owner hashes.toList:=by
 have O0:Own m (Array.replicate (m + 1) none) []:=by
  have g:∀ j,(Array.replicate (m + 1) (none:Option Nat)).getD j none=none:=fun j=>by
   rw [Array.getD_eq_getD_getElem?,Array.getElem?_replicate];split <;> rfl
  refine ⟨by simp,fun a ha=>absurd ha (Nat.not_lt_zero _),fun j a e=>?_,fun j j' a e=>?_⟩
  ·rw [g] at e; cases e
  ·rw [g] at e; cases e
 obtain ⟨owner,e,O⟩:=Jm1 hm hashes.toList [] _ O0 (by simpa using h);refine ⟨owner,?_,by simpa using O⟩;unfold layClean;have e2:(hashes.foldl (init:=some (Array.replicate (m + 1) none,0)) fun acc h=>do
  let (owner,k) ← acc;let j ← layClean.free m owner (turns m) (bits h % (m + 1)) (bits h)
  pure (owner.setIfInBounds j (some k),k + 1))=hashes.toList.foldl (Jm2 m) (some (Array.replicate (m + 1) none,0)):=by
  rw [← Array.foldl_toList];rfl
 rw [e2];have e3:hashes.toList.foldl (Jm2 m) (some (Array.replicate (m + 1) none,0))=some (owner,0 + hashes.toList.length):=e;rw [e3];rfl
theorem Jmf {es:Array (Int×Value)}:∀ {live:List (Nat×Nat)},(∀ x∈live,x.2 < es.size)→((live.map (·.2)).filterMap (es[·]?)).length=live.length ∧
  ∀ z∈(live.map (·.1)).zip ((live.map (·.2)).filterMap (es[·]?)),∃ x∈live,z.1=x.1∧es[x.2]?=some z.2
 | [],_=>⟨rfl,fun z hz=>nomatch hz⟩
 | x :: r,h=>by
  obtain ⟨a,b⟩:=Jmf (live:=r) fun y hy=>h y (List.mem_cons_of_mem _ hy)
  have hx:=h x (List.mem_cons_self ..);have e:es[x.2]?=some es[x.2]:=Array.getElem?_eq_getElem hx;rw [List.map_cons,List.filterMap_cons_some e,List.map_cons,List.zip_cons_cons];refine ⟨by rw [List.length_cons,List.length_cons,a],fun z hz=>?_⟩;rcases List.mem_cons.mp hz with q | q
  ·exact ⟨x,List.mem_cons_self ..,by rw [q],by rw [q]; exact e⟩
  ·obtain ⟨y,hy,e1,e2⟩:=b z q;exact ⟨y,List.mem_cons_of_mem _ hy,e1,e2⟩
theorem Ju6 {m:Nat} (hm:Msk m) (finger moves:Nat) (led plain:Bool) (es:Array (Int×Value)) (h:es.size≤m) :
  ∃ t order,laid m finger moves led plain (es.map (·.1))=some (t,order)∧Tab t (order.filterMap (es[·]?))∧(order.filterMap (es[·]?)).size=es.size∧(∀ e,e∈(order.filterMap (es[·]?)).toList↔e∈es.toList)∧t.mask=m:=by
 obtain ⟨owner,eo,O⟩:=Jqk hm (es.map (·.1)) (by simpa using h);have hlen:(es.map (·.1)).toList.length=es.size:=by simp
 let live:=(List.range (m + 1)).filterMap fun j=>(owner.getD j none).map (j,·)
 have hlive:∀ x,x∈live↔owner.getD x.1 none=some x.2:=fun x=>by
  rw [List.mem_filterMap];constructor
  ·rintro ⟨j,hj,e⟩;obtain ⟨a,ea,e2⟩:=Option.map_eq_some_iff.mp e;rw [← e2];exact ea
  ·intro e;exact ⟨x.1,List.mem_range.mpr (by have:=(O.lt e).1; omega),by rw [e]; rfl⟩
 have hlt:∀ x∈live,x.2 < es.size:=fun x hx=>by rw [← hlen]; exact (O.lt ((hlive x).mp hx)).2
 obtain ⟨zl,zm⟩:=Jmf hlt;have efst:live.map (·.1)=(List.range (m + 1)).filter fun j=>(owner.getD j none).isSome:=by
  show ((List.range (m + 1)).filterMap fun j=>(owner.getD j none).map (j,·)).map (·.1)=_;rw [List.map_filterMap]
  induction List.range (m + 1) with
  | nil=>rfl
  | cons a r ih =>
   cases ho:owner.getD a none with
   | none=>simp only [List.filterMap_cons,List.filter_cons,ho,Option.map_none,Option.isSome_none,Bool.false_eq_true,if_false]; exact ih
   | some b=>simp only [List.filterMap_cons,List.filter_cons,ho,Option.map_some,Option.isSome_some,if_true]; rw [ih]
 have hocc:∀ j,Z9 owner j=true→j≤m→Zd (live.map (·.1)).toArray j=true:=fun j q hj=>by
  unfold Zd;rw [List.contains_iff_mem,List.toList_toArray,efst,List.mem_filter];refine ⟨List.mem_range.mpr (by omega),?_⟩;unfold Z9 at q;rw [Jhw (by rw [O.siz]; omega)] at q;exact q
 have hcount:live.length=es.size:=by
  have n1:(live.map (·.2)).Nodup:=by
   rw [List.Nodup,List.pairwise_map];refine List.Pairwise.imp_of_mem (R:=fun x y=>x.1 < y.1) ?_ ?_
   ·intro x y hx hy hxy e;have e1:=(hlive x).mp hx;have e2:=(hlive y).mp hy;rw [← e] at e2;have:=O.inj _ _ _ e1 e2;omega
   ·have z:(live.map (·.1)).Pairwise (· < ·):=by rw [efst]; exact List.pairwise_lt_range.sublist List.filter_sublist
    exact List.pairwise_map.mp z
  have a1:=Je3 n1 (r:=List.range es.size) fun x hx=>by
   obtain ⟨y,hy,e⟩:=List.mem_map.mp hx;rw [← e];exact List.mem_range.mpr (hlt y hy)
  have a2:=Je3 (l:=List.range es.size) (r:=live.map (·.2)) List.nodup_range fun x hx=>by
   obtain ⟨j,hj,e⟩:=O.all x (by rw [hlen]; exact List.mem_range.mp hx);exact List.mem_map.mpr ⟨(j,x),(hlive _).mpr e,rfl⟩
  rw [List.length_map,List.length_range] at a1 a2;omega
 have efm:((live.map (·.2)).toArray.filterMap (es[·]?)).toList=(live.map (·.2)).filterMap (es[·]?):=by rw [Array.toList_filterMap]
 have esz:((live.map (·.2)).toArray.filterMap (es[·]?)).size=es.size:=by rw [← Array.length_toList,efm,zl,hcount]
 refine ⟨{ mask:=m,place:=(live.map (·.1)).toArray,dummies:=#[],finger,led,moves,plain },(live.map (·.2)).toArray,?_,⟨hm,rfl,?_,?_,?_,?_,?_⟩,esz,fun e=>?_,rfl⟩
 ·unfold laid;rw [eo];rfl
 ·rw [esz];show (live.map (·.1)).toArray.size=es.size;rw [List.size_toArray,List.length_map,hcount]
 ·rw [JkF];show (live.map (·.1)).toArray.toList.Pairwise _;rw [List.toList_toArray,efst];exact List.pairwise_lt_range.sublist List.filter_sublist
 ·intro j hj;have hj':j∈(live.map (·.1)).toArray.toList:=hj;rw [List.toList_toArray] at hj';obtain ⟨x,hx,e⟩:=List.mem_map.mp hj';rw [← e];exact (O.lt ((hlive x).mp hx)).1
 ·rw [esz]; exact h
 ·intro z hz;rw [efm] at hz;have hz':z∈(live.map (·.1)).zip ((live.map (·.2)).filterMap (es[·]?)):=by simpa using hz
  obtain ⟨x,hx,e1,e2⟩:=zm z hz';obtain ⟨hh,e3,r⟩:=O.has _ _ ((hlive x).mp hx);have e4:hh=z.2.1:=by
   rw [Array.getElem?_toList,Array.getElem?_map,e2] at e3;exact (Option.some.inj e3).symm
  rw [e1,← e4];obtain ⟨k,ek,ak⟩:=r;refine ⟨k,ek,fun k' hk=>hocc _ (ak k' hk) ?_⟩;have:=Jj0 (m:=m) (k:=k') (JiP m hh);show (YA m k' (YW m hh)).j≤m;omega
 ·rw [efm,List.mem_filterMap];constructor
  ·rintro ⟨a,_,q⟩;exact List.mem_of_getElem? (by rw [Array.getElem?_toList]; exact q)
  ·intro he;obtain ⟨a,ha,q⟩:=List.mem_iff_getElem.mp he;have ha':a < es.size:=by simpa using ha
   obtain ⟨j,hj,e⟩:=O.all a (by rw [hlen]; exact ha');refine ⟨a,List.mem_map.mpr ⟨(j,a),(hlive _).mpr e,rfl⟩,?_⟩;rw [Array.getElem?_eq_getElem ha'];simpa using q
end HS
namespace HS
open PySem PySem.SetTable L2
section
variable {prog:Program} {w:World} {A:Around} {E:Value→Shared→Prop} {s:Shared}
abbrev TK (prog:Program) (w:World):=IsTupleKey (YE prog w)
abbrev hsh (prog:Program) (w:World) (ks:List J0):Int:=tupleKeyHash (YE prog w) ks
theorem JnM (n:Nat) {v:Value} (h:carriedByValue v=true):ofAClassStatement n v=pure false:=by
 cases v with
 | ref a=>simp [carriedByValue] at h
 | _=>first | rfl | simp [ofAClassStatement] | (unfold ofAClassStatement; rfl)
theorem JiD {ks:List J0} {a:Addr} {Q:Bool→Shared→Prop} (hk:TK prog w s.heap ks a) (h:Q false s):wpAny (model prog w) A (ofAClassStatement 8 (.ref a)) Q E s:=by
 obtain ⟨o,items,n,ho,hc,hd,hi⟩:=hk;unfold ofAClassStatement;refine wpAny_bind (PySem.W.Looks.here (show PySem.W.Looks _ s.heap (typeOf (.ref a)) (.type "tuple") from hc ▸ (PySem.W.Looks.ld ho).andThen .now) ?_);dsimp only;rw [if_pos (by decide)];refine wpAny_bind (wpAny_pure ?_);rw [if_neg (by decide)];refine wpAny_bind (wpAny_seqItems ho hd ?_);dsimp only;refine wpAny_bind ?_;rw [← Array.forIn_toList];refine wpAny_forIn_list _ (fun rest r s'=>r=(none,())∧s'=s∧∀ v∈rest,carriedByValue v=true) _ ?_ ?_ _ _ ⟨rfl,rfl,hi.byValue⟩
 ·rintro v rest r s' ⟨hr,rfl,hall⟩;rw [JnM _ (hall v List.mem_cons_self)];refine wpAny_bind (wpAny_pure ?_);rw [if_neg (by decide)];exact wpAny_pure ⟨rfl,rfl,fun u hu'=>hall u (List.mem_cons_of_mem _ hu')⟩
 ·rintro r s' ⟨hr,rfl,_⟩;subst hr;exact wpAny_pure h
theorem Jtc {ks:List J0} {x:Addr} {stored:List Value} {Q:Bool→Shared→Prop} (hk:TK prog w s.heap ks x) (hall:∀ v∈stored,∃ a k',v=.ref a∧TK prog w s.heap k' a) (h:Q false s) :
  wpAny (model prog w) A (searchCouldBeSeen (.ref x) stored) Q E s:=by
 unfold searchCouldBeSeen;refine wpAny_bind ?_;refine wpAny_forIn_list _ (fun rest r s'=>r=(none,())∧s'=s∧∀ v∈rest,∃ a k',v=.ref a∧TK prog w s.heap k' a) _ ?_ ?_ _ _ ⟨rfl,rfl,hall⟩
 ·rintro v rest r s' ⟨hr,rfl,hall⟩;obtain ⟨a,k',rfl,hk'⟩:=hall v List.mem_cons_self;have rest_ok:∀ v∈rest,∃ a k',v=Value.ref a∧TK prog w s'.heap k' a:=fun u hu'=>hall u (List.mem_cons_of_mem _ hu')
  dsimp only;split
  ·exact wpAny_pure ⟨rfl,rfl,rest_ok⟩
  ·refine wpAny_bind (wpAny_eqIsQuiet_tuple hk ?_);rw [if_neg (by decide)];refine wpAny_bind (wpAny_eqIsQuiet_tuple hk' ?_);rw [if_neg (by decide)];refine wpAny_bind (JiD hk ?_);rw [if_neg (by decide)];refine wpAny_bind (JiD hk' ?_);rw [if_neg (by decide)];exact wpAny_pure ⟨rfl,rfl,rest_ok⟩
 ·rintro r s' ⟨hr,rfl,_⟩;subst hr;exact wpAny_pure h
structure JfT (prog:Program) (w:World) (h:Heap) (S:Addr) (es:Array (Int×Value)) (t:SetTable) (D:List (List J0)):Prop where
 tab:Tab t es
 full:es.size * 5 < t.mask * 3
 els:∀ e∈es.toList,∃ ks∈D,∃ a,e=(hsh prog w ks,.ref a)∧TK prog w h ks a
 all:∀ ks∈D,∃ a,(hsh prog w ks,.ref a)∈es.toList∧TK prog w h ks a
 siz:es.size=D.length
theorem JoF {S x:Addr} {ks:List J0} {o:Obj} {es:Array (Int×Value)} {ep:Nat} {t:SetTable} {D:List (List J0)} {Q:SetFound→Shared→Prop} (hu:A.units < cLine) (ho:s.heap.get? S=some o) (hd:o.data=.set es ep t)
  (SA:JfT prog w s.heap S es t D) (hk:TK prog w s.heap ks x) :
  ∀ (k fuel:Nat) (sd:Option Probe),k < fuel→k < 10 * turns t.mask→JcN t.mask (Zd t.place) (sd.getD (t.probeStart (hsh prog w ks))) k→(sd.getD (t.probeStart (hsh prog w ks))).dummy=none →
   ((∃ n i a,n < k∧t.slot (YA t.mask n (sd.getD (t.probeStart (hsh prog w ks)))).j=.live i∧es.toList[i]?=some (hsh prog w ks,.ref a)∧TK prog w s.heap ks a)→Q (.there none) s) →
   ((∀ n i a,n < k→t.slot (YA t.mask n (sd.getD (t.probeStart (hsh prog w ks)))).j=.live i→es.toList[i]?=some (hsh prog w ks,.ref a)→TK prog w s.heap ks a→False)→Q (.free (YA t.mask k (sd.getD (t.probeStart (hsh prog w ks)))).j false) s) →
   wpAny (model prog w) A (setSearchFrom S (.ref x) (hsh prog w ks) true fuel sd) Q E s:=by
 intro k
 induction k using Nat.strongRecOn with
 | _ k ih =>
  intro fuel sd hf hb hF hdm h1 h2;obtain ⟨fuel,rfl⟩:∃ f,fuel=f + 1:=⟨fuel - 1,by omega⟩
  unfold setSearchFrom;refine wpAny_bind (wpAny_setState_of ho hd SA.tab.fits ?_);dsimp only;have hg:¬ t.gaveWay=true:=by
   unfold SetTable.gaveWay;rcases SA.tab.msk with e | e | e <;> rw [e] <;> decide
  rw [if_neg hg];have spec:=Jn7 (t:=t) (hashAt:=fun i=>(es[i]?.map (·.1)).getD 0) (h:=hsh prog w ks) (fun j=>JrW SA.tab.ris) (fun j=>JjE SA.tab.ris SA.tab.dum) k (10 * turns t.mask) (sd.getD (t.probeStart (hsh prog w ks))) hb hF hdm;split
  ·rename_i met hmet;rcases spec with ⟨n,i,a1,a2,a3,a4,a5⟩ | ⟨a1,a2⟩
   ·have e:=Option.some.inj (hmet.symm.trans a5);subst e;dsimp only;obtain ⟨hi,hpl⟩:=JtB SA.tab.ris SA.tab.dum a2;have hie:i < es.size:=by rw [← SA.tab.siz]; exact hi
    obtain ⟨k',hk'D,b,eb,hkb⟩:=SA.els es[i] (by simp);have hei:es[i]?=some (hsh prog w k',.ref b):=by rw [Array.getElem?_eq_getElem hie,eb]
    have heL:es.toList[i]?=some (hsh prog w k',.ref b):=by rw [Array.getElem?_toList]; exact hei
    have hhash:hsh prog w k'=hsh prog w ks:=by
     rw [hei] at a3;exact a3
    have eI:∀ j,YA t.mask j (YA t.mask (n + 1) (sd.getD (t.probeStart (hsh prog w ks))))=YA t.mask (n + 1 + j) (sd.getD (t.probeStart (hsh prog w ks))):=fun j=>(JeD t.mask (n + 1) j _).symm
    have again:k'≠ks→wpAny (model prog w) A (setSearchFrom S (.ref x) (hsh prog w ks) true fuel (some (YA t.mask (n + 1) (sd.getD (t.probeStart (hsh prog w ks)))))) Q E s:=fun he=>by
     have ek:n + 1 + (k - (n + 1))=k:=by omega
     refine ih (k - (n + 1)) (by omega) fuel (some (YA t.mask (n + 1) (sd.getD (t.probeStart (hsh prog w ks))))) (by omega) (by omega) ⟨?_,fun j hj=>?_⟩ ?_ (fun q=>?_) (fun q=>?_)
     ·show Zd t.place (YA t.mask _ (YA t.mask (n + 1) _)).j=false;rw [eI,ek]; exact hF.1
     ·show Zd t.place (YA t.mask _ (YA t.mask (n + 1) _)).j=true;rw [eI]; exact hF.2 _ (by omega)
     ·show (YA t.mask (n + 1) _).dummy=none;rw [JhO]; exact hdm
     ·obtain ⟨n2,i2,c,c1,c2,c3,c4⟩:=q;have c2':t.slot (YA t.mask n2 (YA t.mask (n + 1) (sd.getD (t.probeStart (hsh prog w ks))))).j=.live i2:=c2;rw [eI] at c2';exact h1 ⟨_,i2,c,by omega,c2',c3,c4⟩
     ·show Q (.free (YA t.mask _ (YA t.mask (n + 1) (sd.getD (t.probeStart (hsh prog w ks))))).j false) s;rw [eI,ek];refine h2 fun n2 i2 c c1 c2 c3 c4=>?_
      rcases Nat.lt_trichotomy n2 n with g | g | g
      ·exact a4 n2 i2 g c2 (by rw [← Array.getElem?_toList,c3]; rfl)
      ·subst g;rw [a2] at c2;cases c2;rw [heL] at c3;have e5:=congrArg (fun z=>z.2) (Option.some.inj c3);have e6:b=c:=Value.ref.inj e5;subst e6;exact he (hkb.inj c4)
      ·refine q (n2 - (n + 1)) i2 c (by omega) ?_ c3 c4;show t.slot (YA t.mask _ (YA t.mask (n + 1) _)).j=_;rw [eI,show n + 1 + (n2 - (n + 1))=n2 by omega];exact c2
    cases hl:t.led
    ·rw [if_pos (by rfl)];refine wpAny_bind (Jtc hk (fun v hv=>?_) ?_)
     ·obtain ⟨e,he,rfl⟩:=List.mem_map.mp hv;have he2:e∈es.toList:=by
       have:=Array.mem_toList_iff.mp he;exact Array.mem_toList_iff.mpr (Array.mem_filter.mp this).1
      obtain ⟨k2,_,b2,rfl,hb2⟩:=SA.els e he2;exact ⟨b2,k2,rfl,hb2⟩
     ·rw [if_neg (by decide)];rw [hei];dsimp only;refine wpAny_bind (wpAny_holding (wpAny_eqBool_tuple hu hkb hk ?_));refine wpAny_bind (wpAny_setState_of ho hd SA.tab.fits ?_);dsimp only;by_cases he:k'=ks
      ·subst he;rw [decide_eq_true rfl,if_pos (by decide)];exact wpAny_pure (h1 ⟨n,i,b,a1,a2,heL,hkb⟩)
      ·rw [decide_eq_false he,if_neg (by decide)];have hsm:t.sameMemory t.moves t.mask=some true:=by unfold SetTable.sameMemory; rw [if_pos (by simp)]
       rw [hsm];dsimp only;rw [if_pos rfl,a2];dsimp only;rw [hei];dsimp only;refine wpAny_bind (wpAny_isSame_ref_self ?_);rw [if_pos rfl];refine wpAny_bind (wpAny_pure ?_);dsimp only;rw [if_neg (by decide)];exact again he
    ·rw [if_neg (by decide)];rw [hei];dsimp only;refine wpAny_bind (wpAny_holding (wpAny_eqBool_tuple hu hkb hk ?_));refine wpAny_bind (wpAny_setState_of ho hd SA.tab.fits ?_);dsimp only;by_cases he:k'=ks
     ·subst he;rw [decide_eq_true rfl,if_pos (by decide)];exact wpAny_pure (h1 ⟨n,i,b,a1,a2,heL,hkb⟩)
     ·rw [decide_eq_false he,if_neg (by decide)];have hsm:t.sameMemory t.moves t.mask=some true:=by unfold SetTable.sameMemory; rw [if_pos (by simp)]
      rw [hsm];dsimp only;rw [if_pos rfl,a2];dsimp only;rw [hei];dsimp only;refine wpAny_bind (wpAny_isSame_ref_self ?_);rw [if_pos rfl];refine wpAny_bind (wpAny_pure ?_);dsimp only;rw [if_neg (by decide)];exact again he
   ·have e:=Option.some.inj (hmet.symm.trans a2);subst e;exact wpAny_pure (h2 fun n i a hn hs he hka=>a1 n i hn hs (by
     show (es[i]?.map (·.1)).getD 0=_;rw [← Array.getElem?_toList,he]; rfl))
  ·rename_i hmet;exfalso;rcases spec with ⟨n,i,a1,a2,a3,a4,a5⟩ | ⟨a1,a2⟩
   ·exact hmet _ a5
   ·exact hmet _ a2
open Classical in
noncomputable def dd (D:List (List J0)) (ks:List J0):List (List J0):=if ks∈D then D else D ++ [ks]
theorem TK.stay {h h':Heap} {S a:Addr} {o:Obj} {ks:List J0} {es:Array (Int×Value)} {ep:Nat} {t:SetTable} (hk:TK prog w h ks a) (ho:h.get? S=some o) (hd:o.data=.set es ep t) (hs:Heap.SameBut S h h'):TK prog w h' ks a:=by
 obtain ⟨o',items,n,ho',hc,hd',hi⟩:=hk;have hne:a≠S:=by
  rintro rfl;obtain rfl:o'=o:=Option.some.inj (ho'.symm.trans ho);rw [hd] at hd';exact nomatch hd'
 exact ⟨o',items,n,(hs.2 a hne).trans ho',hc,hd',hi⟩
theorem JtE {M:Model} {ks:List J0} {a:Addr} {Q:Bool→Shared→Prop} (hk:TK prog w s.heap ks a) (h:∀ b,Q b s):wpAny (model prog w) A (hashByValue 8 (.ref a)) Q E s:=by
 have hT:=hk.typeIs;obtain ⟨o,items,n,ho,hc,hd,hi⟩:=hk;unfold hashByValue;refine wpAny_bind (wpAny_specialOf hT F.slot_tuple_hash.lookup ?_);dsimp only;refine wpAny_bind (wpAny_seqItems ho hd ?_);refine wpAny_bind ?_;show wpAny _ _ (forIn items _ _) _ _ s;rw [← Array.forIn_toList];refine wpAny_forIn_list _ (fun rest r s'=>r=(none,())∧s'=s∧∀ v∈rest,carriedByValue v=true) _ ?_ ?_ _ _ ⟨rfl,rfl,hi.byValue⟩
 ·rintro v rest r s' ⟨hr,rfl,hall⟩;have hb:∃ b,hashByValue 7 v=pure b:=by
   have hv:=hall v List.mem_cons_self;cases v <;> first | exact ⟨_,rfl⟩ | (simp [carriedByValue] at hv; done)
  obtain ⟨b,eb⟩:=hb;rw [eb];refine wpAny_bind (wpAny_pure ?_);cases b with
  | true =>
   rw [if_neg (by decide)];exact wpAny_pure ⟨rfl,rfl,fun u hu'=>hall u (List.mem_cons_of_mem _ hu')⟩
  | false =>
   rw [if_pos (by decide)];exact wpAny_pure (wpAny_pure (h _))
 ·rintro r s' ⟨hr,rfl,_⟩;subst hr;exact wpAny_pure (h _)
theorem Jq6 {S x:Addr} {ks:List J0} {o:Obj} {es es1:Array (Int×Value)} {ep:Nat} {t t1:SetTable} {D:List (List J0)} {Q:Bool→Shared→Prop} (ho:s.heap.get? S=some o) (hex:o.ExactSet) (hd:o.data=.set es ep t)
  (SA:JfT prog w s.heap S es t D) (hk:TK prog w s.heap ks x) (hn:D.length < 64) (T1:Tab t1 es1) (hsz:es1.size=es.size + 1) (hmk:t1.mask=t.mask) (hmem:∀ e,e∈es1.toList↔e∈es.toList∨e=(hsh prog w ks,.ref x))
  (h:∀ b h' es' ep' t' o',Heap.SameBut S s.heap h'→h'.get? S=some o'→o'.ExactSet→o'.data=.set es' ep' t'→JfT prog w h' S es' t' (D ++ [ks])→Q b { s with heap:=h' }) :
  wpAny (model prog w) A (do
   storeSet S es1 t1
   if (!false && t1.tooFull)=true then do
    setRelay S (grown (es.size + 1))
    pure true
   else pure true) Q E s:=by
 have hes:=SA.siz;have bound:∀ n,n≤1000→n≤sizeLine:=fun n hn=>by rw [sizeLine_eq]; omega
 have mk:∀ {h':Heap} {es':Array (Int×Value)} {t':SetTable},Heap.SameBut S s.heap h'→Tab t' es'→es'.size * 5 < t'.mask * 3→es'.size=es1.size→(∀ e,e∈es'.toList↔e∈es1.toList)→JfT prog w h' S es' t' (D ++ [ks]):=fun {h' es' t'} hs T f z m=>by
  refine ⟨T,f,fun e he=>?_,fun k2 hk2=>?_,by rw [z,hsz,hes,List.length_append]; rfl⟩
  ·rcases (hmem e).mp ((m e).mp he) with q | q
   ·obtain ⟨k2,a1,a,a2,a3⟩:=SA.els e q;exact ⟨k2,List.mem_append_left _ a1,a,a2,a3.stay ho hd hs⟩
   ·exact ⟨ks,List.mem_append_right _ (List.mem_singleton.mpr rfl),x,q,hk.stay ho hd hs⟩
  ·rcases List.mem_append.mp hk2 with q | q
   ·obtain ⟨a,a1,a2⟩:=SA.all k2 q;exact ⟨a,(m _).mpr ((hmem _).mpr (.inl a1)),a2.stay ho hd hs⟩
   ·rw [List.mem_singleton.mp q];exact ⟨x,(m _).mpr ((hmem _).mpr (.inr rfl)),hk.stay ho hd hs⟩
 refine wpAny_bind (wpAny_storeSet_of ho hd ?_ (bound _ (by omega)));have hg:∀ {hh:Heap} {o:Obj} {es es':Array (Int×Value)} {ep:Nat} {t t':SetTable},hh.get? S=some o→o.data=.set es ep t→(hh.update S (Obj.putSet es' t')).get? S=some { o with data:=.set es' (ep + 1) t' }:=fun {hh o es es' ep t t'} ho hd=>by
  have z:=Heap.get?_update_self (Obj.putSet es' t') ho (by rw [putSet_of es' t' hd]; rfl);rw [putSet_of es' t' hd] at z;exact z
 have ho1:=hg (es':=es1) (t':=t1) ho hd;have hs1:=Heap.SameBut.update s.heap S (Obj.putSet es1 t1);have hfill:t1.fill=es1.size:=by unfold SetTable.fill; rw [T1.dum,T1.siz]; rfl
 by_cases hf:t1.tooFull=true
 ·rw [if_pos (by rw [hf]; rfl)];have hfull:=SA.full;unfold SetTable.tooFull at hf;rw [hfill,decide_eq_true_eq,hmk] at hf;obtain ⟨m',hm',hw,hcap⟩:∃ m',Msk m'∧sizeAbove (grown (es.size + 1))=m' + 1∧es1.size * 5 < m' * 3:=by
   rcases SA.tab.msk with e | e | e
   ·refine ⟨31,.inr (.inl rfl),?_,by omega⟩;have e4:es.size=4:=by omega
    rw [e4]; decide
   ·refine ⟨127,.inr (.inr rfl),?_,by omega⟩;have e4:es.size=18:=by omega
    rw [e4]; decide
   ·omega
  have hm127:m'≤127:=by rcases hm' with e | e | e <;> omega
  obtain ⟨t2,order,e2,T2,z2,m2,_⟩:=Ju6 hm' t1.finger (t1.movedTo m') t1.led t1.plain es1 (by omega);have erel:t1.relaid (es1.map (·.1)) (grown (es.size + 1))=some (t2,order):=by
   unfold SetTable.relaid;rw [hw];exact e2
  unfold setRelay;refine wpAny_bind (wpAny_bind (wpAny_setState_of (s:={ s with heap:=s.heap.update S (Obj.putSet es1 t1) }) ho1 rfl T1.fits ?_));dsimp only;rw [if_neg (by rw [hw]; exact Nat.not_lt.mpr (bound _ (by omega)))];refine wpAny_bind ?_;rw [erel];show wpAny _ _ (if ((order.filterMap (es1[·]?)).size != es1.size)=true then _ else _) _ _ _;rw [if_neg (by rw [z2]; simp)];refine wpAny_pure ?_;dsimp only;refine wpAny_storeSet_of (s:={ s with heap:=s.heap.update S (Obj.putSet es1 t1) }) ho1 rfl ?_ (bound _ (by omega));have hs2:=hs1.trans (Heap.SameBut.update (s.heap.update S (Obj.putSet es1 t1)) S (Obj.putSet (order.filterMap (es1[·]?)) t2));exact wpAny_pure (h _ _ _ _ _ _ hs2 (hg ho1 rfl) hex rfl (mk hs2 T2 (by rw [z2]; have:=T2.cap; omega) z2 m2))
 ·rw [if_neg (by simpa using hf)];refine wpAny_pure (h _ _ es1 _ t1 _ hs1 ho1 hex rfl (mk hs1 T1 ?_ rfl fun _=>Iff.rfl));unfold SetTable.tooFull at hf;rw [hfill,decide_eq_true_eq] at hf;omega
theorem JtK {S x:Addr} {ks:List J0} {o:Obj} {es:Array (Int×Value)} {ep:Nat} {t:SetTable} {D:List (List J0)} {Q:Bool→Shared→Prop} (hu:A.units < cLine) (ho:s.heap.get? S=some o) (hex:o.ExactSet) (hd:o.data=.set es ep t)
  (SA:JfT prog w s.heap S es t D) (hk:TK prog w s.heap ks x) (hn:D.length < 64)
  (h:∀ b h' tk es' ep' t' o',Heap.SameBut S s.heap h'→h'.get? S=some o'→o'.ExactSet→o'.data=.set es' ep' t'→JfT prog w h' S es' t' (dd D ks)→Q b { s with heap:=h',toks:=tk }) :
  wpAny (model prog w) A (setAdd S (.ref x)) Q E s:=by
 unfold setAdd;refine wpAny_holding (wpAny_bind (wpAny_pyHash_tuple hu hk ?_));unfold setAddHashed setAddHashedIn;refine wpAny_holding (wpAny_bind (wpAny_setState_of ho hd SA.tab.fits ?_));dsimp only;have hbs:byScan (.ref x) es=false:=rfl;rw [hbs,if_neg (by decide)];obtain ⟨k,hk1,hF⟩:=SA.tab.first (hsh prog w ks);have hm:t.mask≤127:=by rcases SA.tab.msk with e | e | e <;> omega
 have SA2:JfT prog w ({ s with toks:=s.toks + (ks.length + 1) }:Shared).heap S es t D:=SA;refine wpAny_bind (JoF (s:={ s with toks:=s.toks + (ks.length + 1) }) hu ho hd SA2 hk k 100000 none (by unfold turns at hk1; omega) hk1 hF rfl ?_ ?_)
 ·rintro ⟨n,i,a,g1,g2,g3,g4⟩;dsimp only;have hin:ks∈D:=by
   obtain ⟨k2,hk2,b,e,hb⟩:=SA.els _ (List.mem_of_getElem? g3);have e6:a=b:=Value.ref.inj (congrArg (fun z=>z.2) e);subst e6;rw [IsTupleKey.inj g4 hb];exact hk2
  have e:dd D ks=D:=by unfold dd; exact if_pos hin
  exact wpAny_pure (h _ s.heap _ es ep t o (Heap.SameBut.refl S s.heap) ho hex hd (by rw [e]; exact SA))
 ·intro hno;dsimp only;have hnin:ks∉D:=fun hin=>by
   obtain ⟨a,ha,hka⟩:=SA.all ks hin;obtain ⟨i,hi⟩:=List.mem_iff_getElem?.mp ha;obtain ⟨n,hn1,hn2⟩:=SA.tab.met hF hi rfl;exact hno n i a hn1 hn2 hi hka
  have edd:dd D ks=D ++ [ks]:=by unfold dd; exact if_neg hnin
  refine wpAny_bind (wpAny_setState_of ho hd SA.tab.fits ?_);dsimp only;have hc:es.size + 1≤t.mask:=by
   have:=SA.full;rcases SA.tab.msk with e | e | e <;> omega
  have hmem:∀ (p:Nat) e,e∈(insertAt es p (hsh prog w ks,Value.ref x)).toList↔e∈es.toList∨e=(hsh prog w ks,.ref x):=fun p e=>by
   rw [(SetTable.insertAt_perm es p _).mem_iff,Array.toList_push,List.mem_append,List.mem_singleton]
  have hsz:∀ p:Nat,(insertAt es p (hsh prog w ks,Value.ref x)).size=es.size + 1:=fun p=>by
   rw [← Array.length_toList,(SetTable.insertAt_perm es p _).length_eq,Array.length_toList,Array.size_push]
  have fin:=fun (b:Bool)=>Jq6 (prog:=prog) (w:=w) (A:=A) (E:=E) (s:={ s with toks:=s.toks + (ks.length + 1) }) (Q:=Q) ho hex hd SA2 hk hn (SA.tab.put (x:=.ref x) b hF hc) (hsz _) rfl (hmem _) fun b h' es' ep' t' o' a1 a2 a3 a4 a5=>h b h' _ es' ep' t' o' a1 a2 a3 a4 (by rw [edd]; exact a5)
  have ep2:=Jug SA.tab (YA t.mask k (YW t.mask (hsh prog w ks))).j;have ep3:t.put (YA t.mask k ((none:Option Probe).getD (t.probeStart (hsh prog w ks)))).j=_:=ep2;rw [ep3];dsimp only;by_cases hp:t.plain=true
  ·rw [if_pos hp];refine wpAny_bind (JtE (M:=model prog w) hk fun b=>?_);cases b with
   | true=>exact fin t.plain
   | false=>exact fin false
  ·rw [if_neg hp];refine wpAny_bind (wpAny_pure ?_);exact fin t.plain
end
end HS
set_option maxHeartbeats 3200000
namespace HS
open PySem PySem.SetTable L2
section
variable {prog:Program} {w:World} {A:Around} {E:Value→Shared→Prop} {s:Shared} {R:Result→Shared→Prop}
theorem Jrt {S I l:Addr} {items:Array Value} (hh:A.in1.handled=none) (hlI:l≠I) (hSI:S≠I) (hSl:S≠l) (J:Nat→Heap→Prop)
  (hJ:∀ i j h h',J i h→h.IsListIter I l j→(∀ b o,b≠I→h.get? b=some o→h'.get? b=some o)→J i h')
  (hadd:∀ i v (s':Shared) (E':Value→Shared→Prop) (Q:Bool→Shared→Prop),items[i]?=some v→J i s'.heap→(∀ b h' tk,Heap.SameBut S s'.heap h'→J (i + 1) h'→Q b { s' with heap:=h',toks:=tk })→wpAny (model prog w) A.in1 (setAdd S v) Q E' s') :
  ∀ (k i:Nat) (h:Heap) (tk:Nat),items.size - i=k→i≤items.size→h.IsListIter I l i→h.IsList l items→J i h →
   (∀ h' tk',(∀ b o,b≠S→b≠I→h.get? b=some o→h'.get? b=some o)→J items.size h'→R (.ok (.ret .none)) { s with heap:=h',toks:=tk' }) →
   codeAny (model prog w) A (.builtin "set.update.loop" ⟨[.ref S,.ref I],[]⟩) R { s with heap:=h,toks:=tk }:=by
 have W:=Walks.list (prog:=prog) (w:=w) hh I l hlI items;intro k
 induction k with
 | zero =>
  intro i h tk e0 e1 it li j hR;obtain rfl:i=items.size:=by omega
  refine codeAny_builtin PyProof.Rows.F.entry_set_update_loop (by
   rw [Around.under_plainId PyProof.Rows.F.plain_set_update_loop _];show wpAny _ A.in1 (pyNext (.ref I) >>= _) _ _ _;refine wpAny_bind (W.done _ _ _ ⟨it,li⟩ fun h' tk' kk=>?_);exact wpAny_pure (hR h' tk' (fun b o _ hb e=>kk b o (by simpa using hb) e) (hJ _ _ _ _ j it fun b o hb e=>kk b o (by simpa using hb) e)))
 | succ k ih =>
  intro i h tk e0 e1 it li j hR;have hlt:i < items.size:=by omega
  refine codeAny_builtin PyProof.Rows.F.entry_set_update_loop (by
   rw [Around.under_plainId PyProof.Rows.F.plain_set_update_loop _];show wpAny _ A.in1 (pyNext (.ref I) >>= _) _ _ _;refine wpAny_bind (W.item i _ _ _ hlt ⟨it,li⟩ fun v h1 tk1 hv st1 kk=>?_);have j1:J i h1:=hJ _ _ _ _ j it fun b o hb e=>kk b o (by simpa using hb) e
   show wpAny _ A.in1 (holding [v] (setAdd S v) >>= _) _ _ _;refine wpAny_bind (wpAny_holding (hadd i v { s with heap:=h1,toks:=tk1 } _ _ hv j1 fun b h2 tk2 sb j2=>?_));have it2:h2.IsListIter I l (i + 1):=st1.1.at fun o e=>(sb.2 I (Ne.symm hSI)).trans e
   have li2:h2.IsList l items:=st1.2.at fun o e=>(sb.2 l (Ne.symm hSl)).trans e
   refine wpAny_pure ⟨plainId_quiet PyProof.Rows.F.plain_set_update_loop _,ih (i + 1) h2 tk2 (by omega) hlt it2 li2 j2 fun h3 tk3 keep j3=>hR h3 tk3 (fun b o hb hbI e=>keep b o hb hbI ((sb.2 b hb).trans (kk b o (by simpa using hbI) e))) j3⟩)
theorem JiK {l:Addr} {items:Array Value} {Q:Value→Shared→Prop} (hh:A.handled=none) (hl:s.heap.IsList l items) (J:Addr→Nat→Heap→Prop)
  (h0:∀ (led:Bool) (h':Heap),h'.get? s.heap.objs.size=some { cls:=.type "set",dict:=none,data:=.set #[] 0 (.fresh 0 0 led) }→(∀ b o,s.heap.get? b=some o→h'.get? b=some o)→J s.heap.objs.size 0 h')
  (hJ:∀ S I i j h h',J S i h→h.IsListIter I l j→(∀ b o,b≠I→h.get? b=some o→h'.get? b=some o)→J S i h')
  (hadd:∀ S i v (A':Around) (s':Shared) (E':Value→Shared→Prop) (Q':Bool→Shared→Prop),A'.units≤A.units + 4→items[i]?=some v→J S i s'.heap→(∀ b h' tk,Heap.SameBut S s'.heap h'→J S (i + 1) h'→Q' b { s' with heap:=h',toks:=tk })→wpAny (model prog w) A' (setAdd S v) Q' E' s')
  (h:∀ (h':Heap) (tk:Nat),J s.heap.objs.size items.size h'→(∀ b o,b < s.heap.objs.size→s.heap.get? b=some o→h'.get? b=some o)→Q (.ref s.heap.objs.size) { s with heap:=h',toks:=tk }) :
  wpAny (model prog w) A (call (.type "set") [.ref l]) Q E s:=by
 obtain ⟨c,tl,hmro⟩:=F.called_set.mro;have made:=F.called_set.made;have sub:=F.called_set.sub;refine wpAny_call (codeAny_of_tree (wpAny_pure ⟨Code.quiet_builtin _ (by decide +kernel),codeAny_builtin F.entry_type_call ?_⟩));rw [Around.under_plain (weight_type_call_type "set" [.ref l] []) rfl];have n1:=F.called_set.notType;have n2:=F.called_set.canCreate;have n3:=F.typeCall_set_1 (.ref l)
 repeat (any_goals (first | assumption | wp_step))
 let fresh (led:Bool):Obj:={ cls:=.type "set",dict:=none,data:=.set #[] 0 (.fresh 0 0 led) }
 refine codeAny_mono (code_set_new_1 (.ref l) (E:=E) (Q₁:=fun obj s1=>∃ led,obj=.ref s.heap.objs.size∧s1={ s with heap:=s.heap.push (fresh led) }) fun led=>⟨led,rfl,rfl⟩) fun r s1 hr=>?_
 rcases r with e | f
 ·exact hr
 cases f with
 | ret obj =>
  obtain ⟨led,rfl,rfl⟩:=hr;have gS:(s.heap.push (fresh led)).get? s.heap.objs.size=some (fresh led):=Heap.get?_push_size _ rfl;have tS:Shared.TypeIs { s with heap:=s.heap.push (fresh led) } (.ref s.heap.objs.size) "set":=⟨_,gS,rfl⟩
  have i1:=F.called_set.init.lookup;have i2:=F.called_set.init.bind (.ref s.heap.objs.size)
  repeat (any_goals (first | assumption | wp_step))
  refine codeAny_mono (codeAny_call_builtin (R:=wants (fun r s2=>r=.none∧∃ h' tk,s2={ s with heap:=h',toks:=tk }∧J s.heap.objs.size items.size h'∧∀ b o,b < s.heap.objs.size→s.heap.get? b=some o→h'.get? b=some o) E)
   F.called_set.init.plain F.entry_set_init (check_set_init_1 tS ?_)) fun r2 s2 hr2=>?_
  ·obtain ⟨ol,gl,cl,nl,dl⟩:=hl;obtain ⟨k1,k2,k3,k4⟩:=ol;simp only at cl dl;subst cl dl;have gl1:(s.heap.push (fresh led)).get? l=some { cls:=.type "list",dict:=k2,data:=.seq items nl,slots:=k4 }:=Heap.get?_push_of_some _ gl;have z1:=F.sub_list_set;have z2:=F.sub_list_frozenset;have z3:(Value.type "list" == Value.type "dict")=false:=by decide
   have ll:(s.heap.push (fresh led)).IsList l items:=⟨_,gl1,rfl,nl,rfl⟩
   have lS:l < s.heap.objs.size:=Heap.lt_size gl;unfold Builtin.«set.__init__» noKeywords Builtin.Frozenset.updateFrom;generalize pe:pyIter=PI
   wp_walk
   subst pe;refine wpAny_pyIter_list ll (wpAny_bind (wpAny_runValue ?_));have szp:(s.heap.push (fresh led)).objs.size=s.heap.objs.size + 1:=Heap.size_push ..;refine Jrt (s:={ s with heap:=s.heap.push (fresh led) }) (I:=(s.heap.push (fresh led)).objs.size) (l:=l) (items:=items) (by simp [hh]) (Nat.ne_of_lt (by rw [szp]; exact Nat.lt_succ_of_lt lS)) (Nat.ne_of_lt (by rw [szp]; exact Nat.lt_succ_self _)) (Nat.ne_of_gt lS) (J s.heap.objs.size) (fun i j h h'=>hJ _ _ i j h h')
    (fun i v s' E' Q' hv j q=>hadd _ i v _ s' E' Q' (by show A.units + 1 + 1 + 1≤A.units + 4; omega) hv j q) (items.size - 0) 0 _ _ rfl (Nat.zero_le _) ⟨_,Heap.get?_push_size _ rfl,rfl,rfl⟩ (ll.push _) ?_ ?_
   ·exact h0 led _ (Heap.get?_push_of_some _ gS) fun b o e=>Heap.get?_push_of_some _ (Heap.get?_push_of_some _ e)
   ·intro h' tk' keep j;refine wpAny_pure (wpAny_pure ⟨rfl,h',tk',rfl,j,fun b o hb e=>keep b o (Nat.ne_of_lt hb) (Nat.ne_of_lt (by rw [szp]; exact Nat.lt_succ_of_lt hb)) (Heap.get?_push_of_some _ (Heap.get?_push_of_some _ e))⟩)
  ·rcases r2 with e | f2
   ·exact hr2
   cases f2 with
   | ret r =>
    obtain ⟨rfl,h',tk,rfl,j,keep⟩:=hr2
    repeat (any_goals (first | assumption | wp_step))
    exact h _ _ j keep
   | _=>exact hr2.elim
 | _=>exact hr.elim
end
end HS
namespace L2
open PySem PySem.Spec PyProof.Rows HS
open Classical in
noncomputable def dg {α:Type} (D:List α) (x:α):List α:=if x∈D then D else D ++ [x]
theorem Jph {α:Type} {D:List α} {x:α} (h:x∈D):dg D x=D:=by unfold dg; exact if_pos h
theorem Jj6 {α:Type} {D:List α} {x:α} (h:¬ x∈D):dg D x=D ++ [x]:=by unfold dg; exact if_neg h
noncomputable def JhZ {α:Type} (l:List α):List α:=l.foldl dg []
theorem Jiq {α:Type}:∀ (l D:List α),(l.foldl dg D).length≤D.length + l.length
 | [],D=>Nat.le_refl _
 | x :: l,D=>by
  rw [List.foldl_cons];have z:=Jiq l (dg D x);by_cases h:x∈D
  ·rw [Jph h] at z ⊢; simp only [List.length_cons]; omega
  ·rw [Jj6 h] at z ⊢; rw [List.length_append] at z; simp only [List.length_cons,List.length_nil] at z ⊢; omega
theorem Jod {α:Type} (l:List α):(JhZ l).length≤l.length:=by have:=Jiq l []; simpa [JhZ] using this
theorem Jj3 {α:Type}:∀ (l D:List α),(D ++ l).Nodup→l.foldl dg D=D ++ l
 | [],D,_=>by simp
 | x :: l,D,h=>by
  have hx:¬ x∈D:=fun q=>by
   rw [List.nodup_append] at h;exact h.2.2 x q x (List.mem_cons_self ..) rfl
  rw [List.foldl_cons,Jj6 hx,Jj3 l (D ++ [x]) (by simpa using h)];simp
theorem Jj5 {α:Type} {l:List α} (h:l.Nodup):(JhZ l).length=l.length:=by unfold JhZ; rw [Jj3 l [] (by simpa using h)]; simp
theorem JhR {α:Type} {l:List α} {i:Nat} {x:α} (h:l[i]?=some x):(l.take (i + 1)).foldl dg []=dg ((l.take i).foldl dg []) x:=by
 rw [List.take_succ,h];simp
def szO (a:Addr) (n:Nat):HO:=.ext fun h=>∃ o es ep t,h.get? a=some o∧o.ExactSet∧o.data=.set es ep t∧t.fits es.size=true∧es.size=n∧n≤1000
theorem Jpy {P:Program} {w:World} {H:Hp} {h:Heap} {a:Addr} {n:Nat} {o:Obj} {es:Array (Int×Value)} {ep:Nat} {t:SetTable} (h1:h.get? a=some o) (h2:o.ExactSet) (h3:o.data=.set es ep t) (h4:t.fits es.size=true) (h5:es.size=n) (h6:n≤1000) :
  YL P w H h a (szO a n):=⟨⟨o,es,ep,t,h1,h2,h3,h4,h5,h6⟩,⟨o,h1⟩,fun g1 g2 ⟨o,es,ep,t,e1,r⟩ k=>⟨o,es,ep,t,k o e1,r⟩⟩
section
variable {X:Cx}
theorem JnR:Yx X (.builtin "len") (fun xs H Q=>∃ a n,xs=[.ref a]∧H a=some (szO a n)∧Q (.int n) H):=by
 intro pins s σ H xs us Q I r h;obtain ⟨a,n,rfl,hn,q⟩:=h;obtain ⟨u,rfl,ru⟩:=JI.one r;cases ru;obtain ⟨⟨o,es,ep,t,e1,e2,e3,e4,rfl,e6⟩,_⟩:=(show YL X.prog X.w H s.heap a (szO a n) from I.hok a _ hn)
 exact call_len_set e1 e2 e3 e4 (by omega) ⟨.int es.size,H,(I.tok _).tok _,⟨_,rfl⟩,q⟩
theorem Jet:∀ {vs:List V} {us:List Value} {i:Nat} {x:V},JI vs us→vs[i]?=some x→∃ u,us[i]?=some u∧JT x u
 | _,_,i,x,.nil,h=>by simp at h
 | _,_,0,x,.cons r t,h=>by
  cases h;exact ⟨_,rfl,r⟩
 | _,_,i + 1,x,.cons r t,h=>Jet (i:=i) t (by simpa using h)
def JgJ (K:PySem.W.Frag) (H:Hp) (vs:List V) (kss:List (List J0)):Prop:=vs.length=kss.length∧∀ (i:Nat) v ks,vs[i]?=some v→kss[i]?=some ks→∃ a,v=.ref a∧JL K H a (ks.map kV)
theorem Jm7 {P:Program} {w:World}:∀ {ks:List J0} {us:List Value},JI (ks.map kV) us→ItemsAre (YE P w) ks us
 | [],_,r=>by cases r; exact .nil
 | k :: ks,_,r=>by
  cases r with
  | cons r rr=>exact .cons (JjY r) (Jm7 rr)
theorem Jot {pins:List (Addr×Obj)} {σ:St} {H:Hp} {s:Shared} {a:Addr} {ks:List J0} (I:Jo X pins σ H s) (h:JL X.K H a (ks.map kV)):TK X.prog X.w s.heap ks a:=by
 obtain ⟨its,r,⟨o,e,c,n,d⟩,_⟩:=I.tuple h;exact ⟨o,its.toArray,n,e,c,d,by simpa using Jm7 r⟩
theorem Jko {prog:Program} {w:World} {h h':Heap} {ks:List J0} {a:Addr} (hk:TK prog w h ks a) (k:∀ o,h.get? a=some o→(∃ its n,o.data=.seq its n)→h'.get? a=some o):TK prog w h' ks a:=by
 obtain ⟨o,its,n,e,c,d,i⟩:=hk;exact ⟨o,its,n,k o e ⟨its,n,d⟩,c,d,i⟩
def JsA (K:PySem.W.Frag):List V→Hp→VK→Prop:=fun xs H Q=>∃ l vs kss,xs=[.ref l]∧JC K H l vs∧JgJ K H vs kss∧kss.length≤64∧∀ p,H p=none→Q (.ref p) (upd H p (szO p (JhZ kss).length))
theorem JqN (hc:X.calm=true) (hu:X.A.units + 64 < cLine):Yx X (.type "set") (JsA X.K):=by
 intro pins s σ H xs us Q I r h;obtain ⟨l,vs,kss,rfl,hl,⟨tl,tt⟩,hz,q⟩:=h;obtain ⟨u,rfl,ru⟩:=JI.one r;cases ru;obtain ⟨its,rv,pl,_⟩:=I.list hl;have rlen:=rv.length;have at_:∀ (i:Nat) v,its.toArray[i]?=some v→∃ ks a,kss[i]?=some ks∧v=.ref a∧TK X.prog X.w s.heap ks a:=fun i v hv=>by
  have hi:i < its.length:=by
   have:=(Array.getElem?_eq_some_iff.mp hv).1;simpa using this
  obtain ⟨x,hx⟩:∃ x,vs[i]?=some x:=⟨vs[i],List.getElem?_eq_getElem (by omega)⟩
  obtain ⟨ks,hks⟩:∃ ks,kss[i]?=some ks:=⟨kss[i],List.getElem?_eq_getElem (by omega)⟩
  obtain ⟨a,rfl,ha⟩:=tt i x ks hx hks;obtain ⟨u,hu1,hu2⟩:=Jet rv hx;have e:v=u:=by
   rw [List.getElem?_toArray] at hv;exact Option.some.inj (hv.symm.trans hu1)
  subst e;cases (show v=.ref a from hu2);exact ⟨ks,a,hks,rfl,Jot I ha⟩
 have hsz:its.toArray.size=kss.length:=by rw [List.size_toArray]; omega
 refine JiK (J:=fun S i h'=>(∀ b o,b < s.heap.objs.size→s.heap.get? b=some o→(∃ its n,o.data=.seq its n)→h'.get? b=some o)∧∃ o es ep t,h'.get? S=some o∧o.ExactSet∧o.data=.set es ep t∧JfT X.prog X.w h' S es t ((kss.take i).foldl dg []))
  (I.ok.hd hc) pl.isList ?_ ?_ ?_ ?_
 ·intro led h' g keep;refine ⟨fun b o _ e _=>keep b o e,_,#[],0,_,g,⟨rfl,rfl,rfl⟩,rfl,⟨.inl rfl,rfl,rfl,fun a b _ hb=>absurd hb (Nat.not_lt_zero _),fun j hj=>by simp [SetTable.fresh] at hj,Nat.zero_le _,fun z hz=>by simp [SetTable.fresh] at hz⟩,?_,fun e he=>by simp at he,fun ks hks=>?_,rfl⟩
  ·show 0 * 5 < 7 * 3
   decide
  ·rw [List.take_zero] at hks; exact nomatch hks
 ·rintro S Ia i j h1 h2 ⟨k1,o,es,ep,t,e1,e2,e3,SA⟩ ⟨oi,i1,i2,i3⟩ keep;have seq:∀ b o',h1.get? b=some o'→(∃ its n,o'.data=.seq its n)→h2.get? b=some o':=fun b o' e ⟨its,n,d⟩=>keep b o' (by
   rintro rfl;rw [i1] at e; cases e;rw [i3] at d; cases d) e
  refine ⟨fun b o' hb e d=>seq b o' (k1 b o' hb e d) d,o,es,ep,t,keep S o (by
   rintro rfl;rw [i1] at e1; cases e1;rw [i3] at e3; cases e3) e1,e2,e3,SA.tab,SA.full,fun e he=>?_,fun ks hks=>?_,SA.siz⟩
  ·obtain ⟨ks,a1,a,a2,a3⟩:=SA.els e he;exact ⟨ks,a1,a,a2,Jko a3 fun o' e' d=>seq _ _ e' d⟩
  ·obtain ⟨a,a1,a2⟩:=SA.all ks hks;exact ⟨a,a1,Jko a2 fun o' e' d=>seq _ _ e' d⟩
 ·rintro S i v A' s' E' Q' hA hv ⟨k1,o,es,ep,t,e1,e2,e3,SA⟩ hQ;obtain ⟨ks,a,hks,rfl,hk⟩:=at_ i v hv;have hk':TK X.prog X.w s'.heap ks a:=Jko hk fun o' e' d=>k1 a o' (Heap.lt_size e') e' d
  have hlt:((kss.take i).foldl dg []).length < 64:=by
   have z:=Jiq (kss.take i) [];have z2:=(List.getElem?_eq_some_iff.mp hks).1;rw [List.length_take] at z;simp only [List.length_nil] at z;omega
  refine JtK (by omega) e1 e2 e3 SA hk' hlt fun b h' tk es' ep' t' o' sb g1 g2 g3 g4=>hQ b h' tk sb ⟨fun b' o2 hb e d=>?_,o',es',ep',t',g1,g2,g3,?_⟩
  ·have z:=k1 b' o2 hb e d;have hne:b'≠S:=by
    rintro rfl;rw [e1] at z; cases z;obtain ⟨its,n,d⟩:=d;rw [e3] at d; cases d
   exact (sb.2 b' hne).trans z
  ·rw [JhR hks];have e:dg ((kss.take i).foldl dg []) ks=dd ((kss.take i).foldl dg []) ks:=by unfold dg dd; split <;> rfl
   rw [e];exact g4
 ·rintro h' tk ⟨_,o,es,ep,t,e1,e2,e3,SA⟩ keep;rw [hsz,List.take_length] at SA;have hf:H s.heap.objs.size=none:=I.hok.fresh (Nat.le_refl _);refine ⟨.ref s.heap.objs.size,_,I.laid (fun b u e=>keep b u (Heap.lt_size e) e) (Nat.le_refl _) (Jpy e1 e2 e3 SA.tab.fits SA.siz ?_),rfl,q _ hf⟩;have:=Jod kss;show (JhZ kss).length≤1000;omega
def JsB (K:PySem.W.Frag):List V→Hp→VK→Prop:=fun xs H Q=>∃ l ss,xs=[.ref l]∧JC K H l (ss.map V.str)∧ss.length≤64∧∀ p,H p=none→Q (.ref p) (upd H p (szO p (JhZ ss).length))
theorem JqO (hc:X.calm=true):Yx X (.type "set") (JsB X.K):=by
 intro pins s σ H xs us Q I r h;obtain ⟨l,ss,rfl,hl,hz,q⟩:=h;obtain ⟨u,rfl,ru⟩:=JI.one r;cases ru;obtain ⟨its,rv,pl,_⟩:=I.list hl;have rlen:=rv.length;rw [List.length_map] at rlen;have at_:∀ (i:Nat) v,its.toArray[i]?=some v→∃ x t,ss[i]?=some x∧v=.str x t:=fun i v hv=>by
  have hi:i < its.length:=by
   have:=(Array.getElem?_eq_some_iff.mp hv).1;simpa using this
  obtain ⟨x,hx⟩:∃ x,ss[i]?=some x:=⟨ss[i],List.getElem?_eq_getElem (by omega)⟩
  obtain ⟨u,hu1,hu2⟩:=Jet (i:=i) (x:=.str x) rv (by rw [List.getElem?_map,hx]; rfl);have e:v=u:=by
   rw [List.getElem?_toArray] at hv;exact Option.some.inj (hv.symm.trans hu1)
  subst e;obtain ⟨t,e⟩:=hu2;exact ⟨x,t,hx,e⟩
 have hsz:its.toArray.size=ss.length:=by rw [List.size_toArray]; omega
 refine JiK (J:=fun S i h'=>∃ f,h'.SetOf (YE X.prog X.w) S f ((ss.take i).foldl dg []).length∧∀ x:Str,f (.inr x)=true↔x∈(ss.take i).foldl dg []) (I.ok.hd hc) pl.isList ?_ ?_ ?_ ?_
 ·intro led h' g keep;refine ⟨fun _=>false,⟨_,#[],0,_,g,⟨rfl,rfl,rfl⟩,rfl,fun e he=>by simp at he,fun k=>by simp,by decide,rfl,rfl⟩,fun x=>?_⟩;rw [List.take_zero];simp
 ·rintro S Ia i j h1 h2 ⟨f,⟨o,es,ep,t,e1,e2,e3,r⟩,hf⟩ ⟨oi,i1,i2,i3⟩ keep;refine ⟨f,⟨o,es,ep,t,keep S o ?_ e1,e2,e3,r⟩,hf⟩;rintro rfl;rw [i1] at e1; cases e1;rw [i3] at e3; cases e3
 ·rintro S i v A' s' E' Q' hA hv ⟨f,hS,hf⟩ hQ;obtain ⟨x,t,hx,rfl⟩:=at_ i v hv;have hlt:((ss.take i).foldl dg []).length + 1 < scanBound:=by
   have z:=Jiq (ss.take i) [];have z2:=(List.getElem?_eq_some_iff.mp hx).1;rw [List.length_take] at z;simp only [List.length_nil] at z;show _ + 1 < 4096;omega
  unfold setAdd;refine wpAny_holding (wpAny_bind ((YE X.prog X.w).pyHash (JbW X.prog X.w x t) ?_));refine wpAny_setAddHashed_of (knd:=YE X.prog X.w) (s:={ s' with toks:=s'.toks + 1 }) (JbW X.prog X.w x t) rfl hS hlt fun h' sb hS2=>?_
  refine hQ _ h' _ sb ⟨fun k'=>f k' || decide (k'=.inr x),?_,?_⟩
  ·rw [JhR hx];by_cases hin:x∈(ss.take i).foldl dg []
   ·rw [Jph hin];have e:=(hf x).mpr hin;rw [if_pos e] at hS2;exact hS2
   ·rw [Jj6 hin];have e:¬ f (.inr x)=true:=fun w=>hin ((hf x).mp w)
    rw [if_neg e] at hS2;rw [List.length_append];exact hS2
  ·intro y;rw [JhR hx,Bool.or_eq_true,hf y,decide_eq_true_eq];by_cases hin:x∈(ss.take i).foldl dg []
   ·rw [Jph hin];exact ⟨fun z=>z.elim id fun e=>(Sum.inr.inj e) ▸ hin,.inl⟩
   ·rw [Jj6 hin,List.mem_append,List.mem_singleton];exact ⟨fun z=>z.imp id fun e=>Sum.inr.inj e,fun z=>z.imp id fun e=>by rw [e]⟩
 ·rintro h' tk ⟨f,⟨o,es,ep,t,e1,e2,e3,_,_,_,e7,e8⟩,hf⟩ keep;rw [hsz,List.take_length] at e8;have hfr:H s.heap.objs.size=none:=I.hok.fresh (Nat.le_refl _);refine ⟨.ref s.heap.objs.size,_,I.laid (fun b u e=>keep b u (Heap.lt_size e) e) (Nat.le_refl _) (Jpy e1 e2 e3 e7 e8 ?_),rfl,q _ hfr⟩;have:=Jod ss;show (JhZ ss).length≤1000;omega
def Ju8 (K:PySem.W.Frag):List V→Hp→VK→Prop:=fun xs H Q=>JsB K xs H Q∨JsA K xs H Q
theorem JqP (hc:X.calm=true) (hu:X.A.units + 64 < cLine):Yx X (.type "set") (Ju8 X.K):=by
 intro pins s σ H xs us Q I r h;rcases h with h | h
 ·exact JqO hc pins s σ H xs us Q I r h
 ·exact JqN hc hu pins s σ H xs us Q I r h
end
end L2
namespace KS
open PySem PySem.W PyProof.Rows
section
variable {O:KeyOrd} {key:Nat→O.α} {n:Nat}
def Ok (O:KeyOrd) (key:Nat→O.α) (n:Nat) {α:Type} (Post:α→Prop):KasT α→Prop
 | .ret a=>Post a
 | .ask i j k=>i < n∧j < n∧Ok O key n Post (k (O.blt (key i) (key j)))
theorem Ok.bind {α β:Type} {Post:β→Prop} {f:α→KasT β}:∀ {t:KasT α},Ok O key n (fun a=>Ok O key n Post (f a)) t→Ok O key n Post (t.bind f)
 | .ret _,h=>h
 | .ask _ _ _,h=>⟨h.1,h.2.1,Ok.bind h.2.2⟩
theorem Ok.wp {α:Type} {Post:α→Prop} {cmp:Nat→Nat→(Bool→Shared→Prop)→Shared→Prop} {Q:α→Shared→Prop} {s:Shared} (hc:∀ i j C,i < n→j < n→C (O.blt (key i) (key j)) s→cmp i j C s) (hq:∀ a,Post a→Q a s):∀ {t:KasT α},Ok O key n Post t→t.kasWp cmp Q s
 | .ret _,h=>hq _ h
 | .ask i j k,h=>hc i j _ h.1 h.2.1 (Ok.wp hc hq h.2.2)
def Pm (n:Nat) (p:Array Nat):Prop:=p.Perm (List.toArray (List.range n))
theorem Pm.size {p:Array Nat} (h:Pm n p):p.size=n:=by rw [Array.Perm.size_eq h]; simp
theorem Pm.lt {p:Array Nat} (h:Pm n p) (h0:0 < n) (i:Nat):p.getD i 0 < n:=by
 by_cases hi:i < p.size
 ·have hm:p[i]∈p:=Array.getElem_mem hi;have hm2:p[i]∈List.toArray (List.range n):=h.mem_iff.mp hm;rw [List.mem_toArray,List.mem_range] at hm2;simpa [Array.getD,hi] using hm2
 ·simpa [Array.getD,hi] using h0
def Kp (key:Nat→O.α) (p:Array Nat) (i:Nat):O.α:=key (p.getD i 0)
def Srt (O:KeyOrd) (key:Nat→O.α) (p:Array Nat) (m:Nat):Prop:=∀ i j,i≤j→j < m→O.kle (Kp key p i) (Kp key p j)
def Fal (O:KeyOrd) (key:Nat→O.α) (p:Array Nat) (m:Nat):Prop:=∀ i j,i≤j→j < m→O.kle (Kp key p j) (Kp key p i)
theorem JgE {p q:Array Nat} {i j:Nat} (h:p[i]?=q[j]?):p.getD i 0=q.getD j 0:=by rw [Array.getD_eq_getD_getElem?,Array.getD_eq_getD_getElem?,h]
theorem JjJ {p:Array Nat} {i j:Nat} (hj:j≤p.size) (k:Nat):Kp key (kas_rev p i j) k=if i≤k∧k < j then Kp key p (i + j - 1 - k) else Kp key p k:=by
 have e:=getElem?_mirror_all (i:=i) hj k;unfold Kp kas_rev;split
 ·rename_i h;rw [if_pos h] at e;rw [JgE e]
 ·rename_i h;rw [if_neg h] at e;rw [JgE e]
theorem Jhr {p:Array Nat} (i j:Nat) (h:Pm n p):Pm n (kas_rev p i j):=(mirror_perm p i j _).trans h
theorem JuG {p:Array Nat} {s d:Nat} (hs:s < p.size) (hd:d≤s) (k:Nat):Kp key (bubble p s d) k=if k=s - d then Kp key p s else if s - d < k∧k≤s then Kp key p (k - 1) else Kp key p k:=by
 have e:=getElem?_bubble hs d hd k;unfold Kp;by_cases h1:k=s - d
 ·rw [if_pos h1] at e ⊢; rw [JgE e]
 ·rw [if_neg h1] at e ⊢;by_cases h2:s - d < k∧k≤s
  ·rw [if_pos h2] at e ⊢; rw [JgE e]
  ·rw [if_neg h2] at e ⊢; rw [JgE e]
theorem nlt {a b:O.α} (h:¬ O.blt a b=true):O.kle b a:=by
 show O.blt a b=false;simpa using h
theorem Jns {Post:Nat→Prop} {p:Array Nat} (hp:Pm n p) (h0:0 < n):∀ (f a:Nat),1≤a→Srt O key p a→(∀ m,a≤m→m≤a + f→Srt O key p m→(m < a + f→O.klt (Kp key p m) (Kp key p (m - 1)))→Post m)→Ok O key n Post (kas_asc p f a)
 | 0,a,h1,hs,hq=>hq a (Nat.le_refl _) (Nat.le_refl _) hs fun h=>absurd h (Nat.lt_irrefl _)
 | f + 1,a,h1,hs,hq=>by
  refine ⟨hp.lt h0 _,hp.lt h0 _,?_⟩;dsimp only;by_cases hc:O.blt (key (p.getD a 0)) (key (p.getD (a - 1) 0))=true
  ·rw [if_pos hc];exact hq a (Nat.le_refl _) (by omega) hs fun _=>hc
  ·rw [if_neg hc];have hle:O.kle (Kp key p (a - 1)) (Kp key p a):=nlt hc;refine Jns hp h0 f (a + 1) (by omega) (fun i j hij hj=>?_) fun m g1 g2 g3 g4=>hq m (by omega) (by omega) g3 fun h=>g4 (by omega)
   by_cases hja:j < a
   ·exact hs i j hij hja
   ·obtain rfl:j=a:=by omega
    by_cases hia:i=j
    ·subst hia; exact O.kle_refl _
    ·exact O.kle_trans (hs i (j - 1) (by omega) (by omega)) hle
def Dsc (O:KeyOrd) (key:Nat→O.α) (p:Array Nat) (a q:Nat):Prop:=q + 1≤a∧Fal O key p a∧∀ i,a - (q + 1)≤i→i < a→O.kle (Kp key p i) (Kp key p (a - 1))
theorem Dsc.rev {p:Array Nat} {a q:Nat} (ha:a≤p.size) (h:Dsc O key p a q):(∀ k,Kp key (kas_rev p (a - (q + 1)) a) k=Kp key p k):=by
 obtain ⟨h1,h2,h3⟩:=h;have same:∀ i,a - (q + 1)≤i→i < a→Kp key p i=Kp key p (a - 1):=fun i g1 g2=>O.kle_antisymm (h3 i g1 g2) (h2 i (a - 1) (by omega) (by omega))
 intro k;rw [JjJ ha];split
 ·rename_i h;rw [same _ (by omega) (by omega),same k h.1 h.2]
 ·rfl
theorem Dsc.congr {p p':Array Nat} {a q:Nat} (h:Dsc O key p a q) (e:∀ k,Kp key p' k=Kp key p k):Dsc O key p' a q :=
 ⟨h.1,fun i j hij hj=>by rw [e,e]; exact h.2.1 i j hij hj,fun i g1 g2=>by rw [e,e]; exact h.2.2 i g1 g2⟩
theorem Dsc.next {p:Array Nat} {a q:Nat} (h:Dsc O key p a q) (hlt:O.klt (Kp key p a) (Kp key p (a - 1))):Dsc O key p (a + 1) 0:=by
 refine ⟨by omega,fun i j hij hj=>?_,fun i g1 g2=>?_⟩
 ·by_cases hja:j < a
  ·exact h.2.1 i j hij hja
  ·obtain rfl:j=a:=by omega
   by_cases hia:i=j
   ·subst hia; exact O.kle_refl _
   ·have:=h.1;exact O.kle_trans (O.kle_of_klt hlt) (h.2.1 i (j - 1) (by omega) (by omega))
 ·obtain rfl:i=a:=by omega
  exact O.kle_refl _
theorem Dsc.same {p:Array Nat} {a q:Nat} (h:Dsc O key p a q) (e:Kp key p a=Kp key p (a - 1)):Dsc O key p (a + 1) (q + 1):=by
 have h1:=h.1;refine ⟨by omega,fun i j hij hj=>?_,fun i g1 g2=>?_⟩
 ·by_cases hja:j < a
  ·exact h.2.1 i j hij hja
  ·obtain rfl:j=a:=by omega
   by_cases hia:i=j
   ·subst hia; exact O.kle_refl _
   ·rw [e];exact h.2.1 i (j - 1) (by omega) (by omega)
 ·show O.kle (Kp key p i) (Kp key p (a + 1 - 1));rw [Nat.add_sub_cancel,e];by_cases hia:i=a
  ·subst hia; rw [e]; exact O.kle_refl _
  ·exact h.2.2 i (by omega) (by omega)
theorem Jir {Post:Array Nat×Nat×Nat→Prop} (h0:0 < n):∀ (f:Nat) (p:Array Nat) (a q:Nat),Pm n p→a + f≤n→Dsc O key p a q→(∀ p' a' q',Pm n p'→a≤a'→a'≤a + f→Dsc O key p' a' q'→Post (p',a',q'))→Ok O key n Post (kas_desc f p a q)
 | 0,p,a,q,hp,hn,hd,hq=>hq p a q hp (Nat.le_refl _) (Nat.le_refl _) hd
 | f + 1,p,a,q,hp,hn,hd,hq=>by
  have hz:=hp.size;refine ⟨hp.lt h0 _,hp.lt h0 _,?_⟩;dsimp only;by_cases hc:O.blt (key (p.getD a 0)) (key (p.getD (a - 1) 0))=true
  ·rw [if_pos hc];have hd2:=hd.next hc;by_cases hq0:q > 0
   ·rw [if_pos hq0];have e:=hd.rev (by omega);exact Jir h0 f _ (a + 1) 0 (Jhr _ _ hp) (by omega) (hd2.congr e) fun p' a' q' g1 g2 g3 g4=>hq p' a' q' g1 (by omega) (by omega) g4
   ·rw [if_neg hq0];exact Jir h0 f p (a + 1) 0 hp (by omega) hd2 fun p' a' q' g1 g2 g3 g4=>hq p' a' q' g1 (by omega) (by omega) g4
  ·rw [if_neg hc];refine ⟨hp.lt h0 _,hp.lt h0 _,?_⟩;dsimp only;by_cases hc2:O.blt (key (p.getD (a - 1) 0)) (key (p.getD a 0))=true
   ·rw [if_pos hc2];exact hq p a q hp (Nat.le_refl _) (by omega) hd
   ·rw [if_neg hc2];have e:Kp key p a=Kp key p (a - 1):=O.kle_antisymm (nlt hc2) (nlt hc);exact Jir h0 f p (a + 1) (q + 1) hp (by omega) (hd.same e) fun p' a' q' g1 g2 g3 g4=>hq p' a' q' g1 (by omega) (by omega) g4
theorem Jml {Post:Nat×Array Nat→Prop} (h0:0 < n) {a nrem:Nat} {p:Array Nat} (hp:Pm n p) (h1:1≤a) (ha:a≤nrem) (hn:nrem≤n) (hf:Fal O key p a) (hq:∀ m p',Pm n p'→1≤m→m≤nrem→Srt O key p' m→Post (m,p')):Ok O key n Post (kas_tail3 a nrem p):=by
 have hz:=hp.size;unfold kas_tail3;refine Ok.bind (Jns (Jhr 0 a hp) h0 (nrem - a) a h1 (fun i j hij hj=>?_) fun m g1 g2 g3 _=>hq m _ (Jhr 0 a hp) (by omega) (by omega) g3);rw [JjJ (by omega),JjJ (by omega),if_pos ⟨Nat.zero_le _,by omega⟩,if_pos ⟨Nat.zero_le _,hj⟩];exact hf _ _ (by omega) (by omega)
theorem JiI {Post:Nat×Array Nat→Prop} (h0:0 < n) {a nrem:Nat} {p:Array Nat} (hp:Pm n p) (h1:1≤a) (ha:a + 1≤nrem) (hn:nrem≤n) (hf:Fal O key p a) (hlt:O.klt (Kp key p a) (Kp key p (a - 1))) (hq:∀ m p',Pm n p'→1≤m→m≤nrem→Srt O key p' m→Post (m,p')) :
  Ok O key n Post (kas_descPart a nrem p):=by
 have hd:Dsc O key p a 0:=⟨h1,hf,fun i g1 g2=>by
  obtain rfl:i=a - 1:=by omega
  exact O.kle_refl _⟩
 unfold kas_descPart;refine Ok.bind (Jir h0 _ p (a + 1) 0 hp (by omega) (hd.next hlt) fun p' a' q' g1 g2 g3 g4=>?_);have hz:=g1.size;dsimp only;split
 ·refine Jml h0 (Jhr _ _ g1) (by omega) (by omega) hn (fun i j hij hj=>?_) hq;rw [g4.rev (by omega),g4.rev (by omega)];exact g4.2.1 i j hij hj
 ·exact Jml h0 g1 (by omega) (by omega) hn g4.2.1 hq
theorem Jsj {Post:Nat×Array Nat→Prop} (h0:0 < n) {p:Array Nat} (hp:Pm n p) (hq:∀ m p',Pm n p'→1≤m→m≤n→Srt O key p' m→Post (m,p')):Ok O key n Post (kas_count n p):=by
 have hz:=hp.size;unfold kas_count;refine Ok.bind (Jns hp h0 (n - 1) 1 (Nat.le_refl _) (fun i j hij hj=>?_) fun m g1 g2 g3 g4=>?_)
 ·obtain rfl:i=j:=by omega
  exact O.kle_refl _
 ·by_cases hm:(m == n)=true
  ·rw [if_pos hm];exact hq m p hp g1 (by omega) g3
  ·rw [if_neg hm];have hmn:m≠n:=fun e=>hm (by simp [e])
   have hlt:=g4 (by omega);by_cases hm1:m > 1
   ·rw [if_pos hm1];refine ⟨hp.lt h0 _,hp.lt h0 _,?_⟩;dsimp only;by_cases hc:O.blt (key (p.getD 0 0)) (key (p.getD (m - 1) 0))=true
    ·rw [if_pos hc];exact hq m p hp g1 (by omega) g3
    ·rw [if_neg hc];have all:∀ i,i < m→Kp key p i=Kp key p (m - 1):=fun i hi=>by
      refine O.kle_antisymm (g3 i (m - 1) (by omega) (by omega)) ?_;exact O.kle_trans (nlt hc) (g3 0 i (Nat.zero_le _) hi)
     have e:∀ k,Kp key (kas_rev p 0 m) k=Kp key p k:=fun k=>by
      rw [JjJ (by omega)];split
      ·rename_i h;rw [all _ (by omega),all k h.2]
      ·rfl
     refine JiI h0 (Jhr 0 m hp) g1 (by omega) (Nat.le_refl _) (fun i j hij hj=>?_) (by rw [e,e]; exact hlt) hq;rw [e,e,all i (by omega),all j hj];exact O.kle_refl _
   ·rw [if_neg hm1];refine JiI h0 hp g1 (by omega) (Nat.le_refl _) (fun i j hij hj=>?_) hlt hq;obtain rfl:i=j:=by omega
    exact O.kle_refl _
theorem JiX {Post:Nat→Prop} (h0:0 < n) {p:Array Nat} (hp:Pm n p) {k:Nat} (hs:Srt O key p k):∀ (f l r:Nat),l≤r→r≤k→r - l≤f→(∀ i,i < l→O.kle (Kp key p i) (Kp key p k))→(∀ i,r≤i→i < k→O.klt (Kp key p k) (Kp key p i)) →
  (∀ m,m≤k→(∀ i,i < m→O.kle (Kp key p i) (Kp key p k))→(∀ i,m≤i→i < k→O.klt (Kp key p k) (Kp key p i))→Post m)→Ok O key n Post (kas_place p k f l r)
 | 0,l,r,h1,h2,h3,h4,h5,hq=>by
  obtain rfl:l=r:=by omega
  exact hq l h2 h4 h5
 | f + 1,l,r,h1,h2,h3,h4,h5,hq=>by
  unfold kas_place;by_cases hlr:l≥r
  ·rw [if_pos hlr];obtain rfl:l=r:=by omega
   exact hq l h2 h4 h5
  ·rw [if_neg hlr];refine ⟨hp.lt h0 _,hp.lt h0 _,?_⟩;dsimp only;by_cases hc:O.blt (key (p.getD k 0)) (key (p.getD ((l + r) / 2) 0))=true
   ·rw [if_pos hc];refine JiX h0 hp hs f l _ (by omega) (by omega) (by omega) h4 (fun i g1 g2=>?_) hq;exact O.klt_of_klt_of_kle hc (hs ((l + r) / 2) i g1 g2)
   ·rw [if_neg hc];refine JiX h0 hp hs f _ r (by omega) h2 (by omega) (fun i g=>?_) h5 hq;exact O.kle_trans (hs i ((l + r) / 2) (by omega) (by omega)) (nlt hc)
theorem JqW {Post:Array Nat→Prop} (h0:0 < n):∀ (f:Nat) (p:Array Nat) (k:Nat),Pm n p→k + f=n→Srt O key p k→(∀ p',Pm n p'→Srt O key p' n→Post p')→Ok O key n Post (kas_bin f p k)
 | 0,p,k,hp,hk,hs,hq=>hq p hp (by rw [← hk]; exact hs)
 | f + 1,p,k,hp,hk,hs,hq=>by
  have hz:=hp.size;unfold kas_bin;refine Ok.bind (JiX h0 hp hs k 0 k (Nat.zero_le _) (Nat.le_refl _) (by omega) (fun i g=>absurd g (Nat.not_lt_zero _)) (fun i g1 g2=>by omega) fun m g1 g2 g3=>?_);have e:∀ i,Kp key (bubble p k (k - m)) i=if i=m then Kp key p k else if m < i∧i≤k then Kp key p (i - 1) else Kp key p i:=fun i=>by
   have z:=JuG (key:=key) (p:=p) (s:=k) (d:=k - m) (by omega) (by omega) i;rw [show k - (k - m)=m by omega] at z;exact z
  refine JqW h0 f _ (k + 1) ((bubble_perm p k (k - m)).trans hp) (by omega) (fun i j hij hj=>?_) hq;rw [e,e];rcases Nat.lt_trichotomy i m with a | a | a
  ·rw [if_neg (by omega),if_neg (by omega)];rcases Nat.lt_trichotomy j m with b | b | b
   ·rw [if_neg (by omega),if_neg (by omega)];exact hs i j hij (by omega)
   ·rw [if_pos b];exact g2 i a
   ·rw [if_neg (by omega),if_pos ⟨b,by omega⟩];exact hs i (j - 1) (by omega) (by omega)
  ·rw [if_pos a];by_cases b:j=m
   ·rw [if_pos b]; exact O.kle_refl _
   ·rw [if_neg b,if_pos ⟨by omega,by omega⟩];exact O.kle_of_klt (g3 (j - 1) (by omega) (by omega))
  ·rw [if_neg (by omega),if_pos ⟨a,by omega⟩,if_neg (by omega),if_pos ⟨by omega,by omega⟩];exact hs (i - 1) (j - 1) (by omega) (by omega)
theorem Jta {Post:Array Nat→Prop} (h0:0 < n) (hq:∀ p,Pm n p→Srt O key p n→Post p):Ok O key n Post (kas_sort n):=by
 unfold kas_sort;refine Ok.bind (Jsj h0 (Array.Perm.refl _) fun m p g1 g2 g3 g4=>?_);dsimp only;split
 ·rename_i h;have e:max m 1=m:=by omega
  rw [e];exact JqW h0 (n - m) p m g1 (by omega) g4 hq
 ·obtain rfl:m=n:=by omega
  exact hq p g1 g4
end
end KS
namespace KS
open PySem PySem.W PyProof.Rows
def ZG:KeyOrd where
 α:=List Nat×List Nat
 blt a b:=if a.1=b.1 then decide (a.2 < b.2) else decide (a.1 < b.1)
 irrefl a:=by rw [if_pos rfl]; exact strKind.irrefl a.2
 trans a b c h1 h2:=by
  by_cases e1:a.1=b.1
  ·rw [if_pos e1] at h1;by_cases e2:b.1=c.1
   ·rw [if_pos e2] at h2;rw [if_pos (e1.trans e2)];exact strKind.trans _ _ _ h1 h2
   ·rw [if_neg e2] at h2;rw [if_neg (fun e=>e2 (e1.symm.trans e)),e1];exact h2
  ·rw [if_neg e1] at h1;by_cases e2:b.1=c.1
   ·rw [if_pos e2] at h2;rw [if_neg (fun e=>e1 (e.trans e2.symm)),← e2];exact h1
   ·rw [if_neg e2] at h2;have h3:=strKind.trans _ _ _ h1 h2;have hne:¬ a.1=c.1:=fun e=>by
     rw [e] at h3;have:=strKind.irrefl c.1;rw [this] at h3;cases h3
    rw [if_neg hne];exact h3
 negTrans a b c h:=by
  by_cases e1:a.1=b.1
  ·by_cases e2:b.1=c.1
   ·rw [if_pos (e1.trans e2)] at h;rw [if_pos e1,if_pos e2];exact strKind.negTrans _ _ _ h
   ·rw [if_neg (fun e=>e2 (e1.symm.trans e))] at h;rw [if_neg e2,← e1];exact .inr h
  ·by_cases e2:b.1=c.1
   ·rw [if_neg (fun e=>e1 (e.trans e2.symm))] at h;rw [if_neg e1,e2];exact .inl h
   ·rw [if_neg e1,if_neg e2];by_cases e3:a.1=c.1
    ·rw [if_pos e3] at h;cases h4:decide (a.1 < b.1) with
     | true=>exact .inl rfl
     | false =>
      refine .inr ?_;cases h5:decide (b.1 < c.1) with
      | true=>rfl
      | false =>
       rw [← e3] at h5;exact absurd (strKind.total _ _ h4 h5) e1
    ·rw [if_neg e3] at h;exact strKind.negTrans _ _ _ h
 total a b h1 h2:=by
  by_cases e:a.1=b.1
  ·rw [if_pos e] at h1;rw [if_pos e.symm] at h2;exact Prod.ext e (strKind.total _ _ h1 h2)
  ·rw [if_neg e] at h1;rw [if_neg (fun q=>e q.symm)] at h2;exact absurd (strKind.total _ _ h1 h2) e
section
variable {prog:Program} {w:World} {A:Around} {E:Value→Shared→Prop} {s:Shared}
def JfA (h:Heap) (a:Addr) (x y:Str):Prop:=∃ o n t u,h.get? a=some o∧o.cls=.type "tuple"∧o.data=.seq #[.str x t,.str y u] n
def pk (x:Str×Str):ZG.α:=(x.1.cps.toList,x.2.cps.toList)
theorem Joi {x y:Str} (h:x.cps.toList=y.cps.toList):x=y:=by
 cases x; cases y;congr 1;exact Array.toList_inj.mp h
theorem Job {x y:Str} {t u:Tok} {Q:Bool→Shared→Prop} (h:Q (decide (x=y)) s):wpAny (model prog w) A (eqBool (.str x t) (.str y u)) Q E s:=by
 refine (L2.YE prog w).eqBool (L2.JbW prog w x t) (L2.JbW prog w y u) ?_;rw [L2.Jqn];exact h
theorem Jsn {a b:Addr} {p q:Str×Str} {Q:Bool→Shared→Prop} (ha:JfA s.heap a p.1 p.2) (hb:JfA s.heap b q.1 q.2) (h:Q (ZG.blt (pk p) (pk q)) s):wpAny (model prog w) A (keyLt' (tuples' true) (.ref a) (.ref b)) Q E s:=by
 obtain ⟨o,n,t,u,h1,_,h3⟩:=ha;obtain ⟨o',n',t',u',g1,_,g3⟩:=hb;refine kat_lt h1 h3 g1 g3 (kat_cons (Job (kat_go (fun e=>?_) (fun e=>?_))))
 ·have e1:p.1=q.1:=of_decide_eq_true e;refine kat_yes (kat_cons (Job (kat_go (fun e=>?_) (fun e=>?_))))
  ·have e2:p.2=q.2:=of_decide_eq_true e;refine kat_yes (kat_nil ?_);have hf:ZG.blt (pk p) (pk q)=false:=by
    have:pk p=pk q:=by unfold pk; rw [e1,e2]
    rw [this];exact ZG.irrefl _
   rw [hf] at h;exact h
  ·refine kat_no (kat_one _ _ ?_);have hf:ZG.blt (pk p) (pk q)=decide (p.2.cps.toList < q.2.cps.toList):=by
    show (if p.1.cps.toList=q.1.cps.toList then _ else _)=_;rw [if_pos (by rw [e1])];rfl
   rw [hf] at h;exact PySem.P.lt_str h
 ·have e1:¬ p.1=q.1:=of_decide_eq_false e;refine kat_no ?_;have hf:ZG.blt (pk p) (pk q)=decide (p.1.cps.toList < q.1.cps.toList):=by
   show (if p.1.cps.toList=q.1.cps.toList then _ else _)=_;rw [if_neg (fun z=>e1 (Joi z))];rfl
  rw [hf] at h;exact oneLt_str h
def dfl:Str×Str:=(Str.empty,Str.empty)
def ky (ps:List (Str×Str)) (i:Nat):ZG.α:=pk (ps.getD i dfl)
def Jbf (vs:List Value) (p:Array Nat):Array Value:=List.toArray (p.toList.map fun i=>vs.getD i Value.none)
theorem JmL (n:Nat):Pm n (List.toArray (List.range n)):=Array.Perm.refl _
theorem Jp1 (vs:List Value):Jbf vs (List.toArray (List.range vs.length))=vs.toArray:=by
 unfold Jbf;congr 1;apply List.ext_getElem?;intro i;rw [List.getElem?_map];by_cases hi:i < vs.length
 ·simp [hi]
 ·simp [hi]
theorem JpS {a:Addr} {vs:List Value} {ps:List (Str×Str)} {n:Nat} {P:PySem.Fin→Shared→Prop} (ho:s.heap.get? a=some (seqObj "list" vs.toArray n)) (hlen:vs.length=ps.length) (h64:vs.length < 64)
  (hp:∀ (i:Nat) v p,vs[i]?=some v→ps[i]?=some p→∃ b,b≠a∧v=.ref b∧JfA s.heap b p.1 p.2)
  (h:∀ p:Array Nat,Pm vs.length p→Srt ZG (ky ps) p vs.length→P (.done (.ret .none)) { s with heap:=sortedHeap s.heap a vs (Jbf vs p) }) :
  wpAny (model prog w) A (Builtin.«list.sort» ⟨[.ref a],[]⟩) P E s:=by
 have hlt:a < s.heap.objs.size:=Heap.lt_size ho;obtain ⟨e1,g1⟩:∃ e1,(s.heap.update a (Obj.mapSeq fun _=>#[])).get? a=some (seqObj "list" #[] e1):=⟨_,get?_update_seq ho fun _=>#[]⟩
 have big:vs.length≤sizeLine:=by rw [sizeLine_eq]; omega
 rw [list_sort_plain];refine wpAny_bind (listItems_at ho rfl (wpAny_bind (listUpdate_at ho rfl (wpAny_bind (seqEpoch_at g1 rfl (wpAny_bind (wpAny_newTuple (wpAny_bind (wpAny_newList (wpAny_holding ?_))) (by simpa using big))))) (by simpa using big))));generalize hh6:(((s.heap.update a (Obj.mapSeq fun _=>#[])).push (seqObj "tuple" vs.toArray 0)).push (seqObj "list" #[] 0))=h6;have g6:h6.get? a=some (seqObj "list" #[] e1):=by
  rw [← hh6];exact Heap.get?_push_of_some _ (Heap.get?_push_of_some _ g1)
 have keep:∀ b o,b≠a→s.heap.get? b=some o→h6.get? b=some o:=fun b o hb e=>by
  rw [← hh6];refine Heap.get?_push_of_some _ (Heap.get?_push_of_some _ ?_);rw [Heap.get?_update_ne _ _ _ _ hb];exact e
 have hp6:∀ (i:Nat) v p,vs[i]?=some v→ps[i]?=some p→∃ b,v=.ref b∧JfA h6 b p.1 p.2:=fun i v p hv hq=>by
  obtain ⟨b,hb,e,o,n,t,u,z1,z2⟩:=hp i v p hv hq;exact ⟨b,e,o,n,t,u,keep b o hb z1,z2⟩
 have hfin:∀ p:Array Nat,Pm vs.length p→(Jbf vs p).size≤sizeLine + 1:=fun p hpm=>by
  unfold Jbf;rw [List.size_toArray,List.length_map,Array.length_toList,hpm.size];exact Nat.le_succ_of_le big
 have eH:∀ out,h6.update a (Obj.mapSeq fun _=>out)=sortedHeap s.heap a vs out:=fun out=>by rw [← hh6]; rfl
 have sz:vs.toArray.size=vs.length:=List.size_toArray;show wpAny (model prog w) A _ P E { s with heap:=h6 };dsimp only;rw [sz];by_cases h2:vs.length < 2
 ·rw [if_pos h2,if_pos h2];refine wpAny_bind (wpAny_pure ?_);rw [StateT.run_pure];refine wpAny_bind (wpAny_pure ?_);dsimp only;have eo:(arrOf (SortSt.mk' general' (vs.toArray.zip vs.toArray) #[] 7 none)).map (·.2)=Jbf vs (List.toArray (List.range vs.length)):=by
   rw [Jp1];show (vs.toArray.zip vs.toArray).map (·.2)=_;simp [List.map_snd_zip]
  rw [eo];refine wpAny_bind (seqEpoch_at g6 rfl (wpAny_bind (listUpdate_at g6 rfl ?_ (hsz2:=hfin _ (JmL _)))));rw [if_neg (by simp)];show wpAny _ _ _ _ _ { s with heap:=h6.update a (Obj.mapSeq fun _=>Jbf vs (List.toArray (List.range vs.length))) };rw [eH];refine wpAny_pure (h _ (JmL _) fun i j hij hj=>?_);obtain rfl:i=j:=by omega
  exact ZG.kle_refl _
 ·rw [if_neg h2,if_neg h2];have tups:∀ (vs:List Value) (ps:List (Str×Str)),vs.length=ps.length→(∀ (i:Nat) v p,vs[i]?=some v→ps[i]?=some p→∃ b,v=.ref b∧JfA h6 b p.1 p.2)→∃ fs:List Value,KatTups h6 vs fs∧fs.length=vs.length∧∀ v∈fs,∃ x t,v=.str x t:=by
   intro vs
   induction vs with
   | nil=>exact fun ps _ _=>⟨[],.nil,rfl,fun v hv=>nomatch hv⟩
   | cons v r ih =>
    intro ps hl hq;cases ps with
    | nil=>cases hl
    | cons p ps =>
     obtain ⟨b,rfl,o,n,t,u,z1,z2,z3⟩:=hq 0 v p rfl rfl;obtain ⟨fs,y1,y2,y3⟩:=ih ps (by simpa using hl) fun i v' p' a1 a2=>hq (i + 1) v' p' (by simpa using a1) (by simpa using a2)
     refine ⟨.str p.1 t :: fs,.cons z1 z2 z3 rfl y1,by simp [y2],fun v' hv'=>?_⟩;rcases List.mem_cons.mp hv' with rfl | q
     ·exact ⟨_,_,rfl⟩
     ·exact y3 v' q
  obtain ⟨fs,f1,f2,f3⟩:=tups vs ps hlen hp6;refine wpAny_bind (kat_kind (s:={ s with heap:=h6 }) f1 (by omega) (T:=.type "str") (fun v hv=>?_) (by decide) ?_)
  ·obtain ⟨x,t,rfl⟩:=f3 v hv;exact .now
  have ek:(Value.type "str" != Value.type "tuple")=true:=by decide
  rw [ek];refine wpAny_bind (wpAny_mono (kat_run (E:=E) (ks:=vs) (vs:=vs) (G:=fun p s'=>s'={ s with heap:=h6 }∧Pm vs.length p∧Srt ZG (ky ps) p vs.length)
   (Q:=fun st' s'=>∃ p:Array Nat,s'={ s with heap:=h6 }∧Pm vs.length p∧Srt ZG (ky ps) p vs.length∧arrOf st'=p.map (kas_item (vs.toArray.zip vs.toArray))∧failedOf st'=none) rfl (by omega) h64
   (fun p st' s' b1 b2 b3 b4=>⟨p,b4.1,b4.2.1,b4.2.2,b2,b3⟩) ?_) ?_ fun _ _ e=>e)
  ·refine Ok.wp (O:=ZG) (key:=ky ps) (n:=vs.length) (Post:=fun p=>Pm vs.length p∧Srt ZG (ky ps) p vs.length) (fun i j C hi hj hC=>?_) (fun p q=>⟨rfl,q.1,q.2⟩) (Jta (by omega) fun p q1 q2=>⟨q1,q2⟩);have at_:∀ i,i < vs.length→∃ b,vs.getD i Value.none=.ref b∧JfA h6 b (ps.getD i dfl).1 (ps.getD i dfl).2:=fun i hi=>by
    have hi':i < ps.length:=by omega
    obtain ⟨b,e,pb⟩:=hp6 i vs[i] ps[i] (List.getElem?_eq_getElem hi) (List.getElem?_eq_getElem hi');refine ⟨b,?_,?_⟩
    ·rw [List.getD_eq_getElem?_getD,List.getElem?_eq_getElem hi]; exact e
    ·rw [List.getD_eq_getElem?_getD,List.getElem?_eq_getElem hi']; exact pb
   obtain ⟨b,eb,pb⟩:=at_ i hi;obtain ⟨c,ec,pc⟩:=at_ j hj;show wpAny (model prog w) A (keyLt' (tuples' true) (vs.getD i Value.none) (vs.getD j Value.none)) C (fun _ _=>False) { s with heap:=h6 };rw [eb,ec];exact Jsn (s:={ s with heap:=h6 }) pb pc hC
  ·rintro ⟨⟨⟩,st'⟩ s' ⟨p,rfl,q1,q2,q3,q4⟩;dsimp only;have eo:(arrOf st').map (·.2)=Jbf vs p:=kat_snds rfl q3;rw [eo,q4];refine wpAny_bind (seqEpoch_at g6 rfl (wpAny_bind (listUpdate_at g6 rfl ?_ (hsz2:=hfin p q1))));dsimp only;rw [if_neg (by simp)];show wpAny _ _ _ _ _ { s with heap:=h6.update a (Obj.mapSeq fun _=>Jbf vs p) };rw [eH];exact wpAny_pure (h p q1 q2)
theorem Jmt {l:Addr} {vs:List Value} {ps:List (Str×Str)} {Q:Value→Shared→Prop} (hl:s.heap.IsList l vs.toArray) (hlen:vs.length=ps.length) (h64:vs.length < 64)
  (hp:∀ (i:Nat) v p,vs[i]?=some v→ps[i]?=some p→∃ b,v=.ref b∧JfA s.heap b p.1 p.2)
  (h:∀ p:Array Nat,Pm vs.length p→Srt ZG (ky ps) p vs.length→Q (.ref (s.heap.objs.size + 1)) { s with heap:=sortedAll s.heap vs (Jbf vs p) }) :
  wpAny (model prog w) A (call (.builtin "sorted") [.ref l]) Q E s:=by
 have big:vs.length≤sizeLine:=by rw [sizeLine_eq]; omega
 refine Calls.call_function_entry kind_sorted plain_sorted entry_sorted (args_sorted1 _) ?_;unfold Builtin.«sorted»;refine wpAny_bind (m:=checkCount "sorted" 1 1 _) (wpAny_pure (wpAny_bind (collect_list hl (wpAny_bind (wpAny_newList ?_ (by simpa using big))) (by simpa using big))));generalize hh1:((s.heap.push (seqObj "list" #[] 0)).update s.heap.objs.size (Obj.mapSeq (· ++ vs.toArray)))=h1;have z1:h1.objs.size=s.heap.objs.size + 1:=by rw [← hh1,Heap.size_update,size_push']
 have g1:(h1.push (seqObj "list" vs.toArray 0)).get? (s.heap.objs.size + 1)=some (seqObj "list" vs.toArray 0):=by rw [← z1]; exact Heap.get?_push_size _ rfl
 have keep:∀ b o,s.heap.get? b=some o→(h1.push (seqObj "list" vs.toArray 0)).get? b=some o:=fun b o q=>by
  have hb:b < s.heap.objs.size:=Heap.lt_size q;refine Heap.get?_push_of_some _ ?_;rw [← hh1,Heap.get?_update_ne _ _ _ _ (Nat.ne_of_lt hb)];exact Heap.get?_push_of_some _ q
 show wpAny _ _ _ _ _ { s with heap:=h1.push (seqObj "list" vs.toArray 0) };rw [z1];refine wpAny_bind (wpAny_holding (wpAny_call_entry slot_list_sort ⟨_,g1,rfl⟩ entry_list_sort (JpS (s:={ s with heap:=h1.push (seqObj "list" vs.toArray 0) }) g1 hlen h64 (fun i v p hv hq=>?_) fun p q1 q2=>⟨_,rfl,?_⟩) (args_list_sort _)))
 ·obtain ⟨b,e,o,n,t,u,y1,y2⟩:=hp i v p hv hq;exact ⟨b,Nat.ne_of_lt (Nat.lt_succ_of_lt (Heap.lt_size y1)),e,o,n,t,u,keep b o y1,y2⟩
 ·refine wpAny_pure ⟨_,rfl,?_⟩;have z:=h p q1 q2;unfold sortedAll at z;rw [hh1] at z;exact z
end
end KS
namespace L2
open PySem PySem.Spec PyProof.Rows KS
def sle (a b:Str):Prop:=strKind.kle a.cps.toList b.cps.toList
def ple (p q:Str×Str):Prop:=ZG.kle (pk p) (pk q)
theorem JpT {a b c:Str} (h1:sle a b) (h2:sle b c):sle a c:=KeyOrd.kle_trans h1 h2
theorem Jrs {a b:Str} (h1:sle a b) (h2:sle b a):a=b:=Joi (KeyOrd.kle_antisymm h1 h2)
theorem JjI:∀ {p:Str} {l:List Str},risingS p l=true→(∀ x∈l,sle p x)∧l.Pairwise sle
 | p,[],_=>⟨(fun x hx=>nomatch hx),.nil⟩
 | p,x :: r,h=>by
  have h':(!ltCps x.cps.toList p.cps.toList && risingS x r)=true:=h;rw [Bool.and_eq_true] at h';obtain ⟨a,b⟩:=JjI h'.2;have hx:sle p x:=by
   have z:=h'.1;rw [ltCps_eq] at z;show decide (x.cps.toList < p.cps.toList)=false;simpa using z
  refine ⟨fun y hy=>?_,List.pairwise_cons.mpr ⟨a,b⟩⟩;rcases List.mem_cons.mp hy with rfl | hy
  ·exact hx
  ·exact JpT hx (a y hy)
theorem JoC {l:List Str} (h:sortedS l=true):l.Pairwise sle:=by
 cases l with
 | nil=>exact .nil
 | cons x r =>
  obtain ⟨a,b⟩:=JjI (p:=x) (l:=r) h;exact List.pairwise_cons.mpr ⟨a,b⟩
theorem Jll:∀ {us:List Value} {ss:List Str},StrsAre us ss→JI (ss.map V.str) us
 | _,_,.nil=>.nil
 | _,_,.cons x t h=>.cons ⟨t,rfl⟩ (Jll h)
section
variable {X:Cx}
def Juc (K:PySem.W.Frag):List V→Hp→VK→Prop:=fun xs H Q=>∃ (l:Addr) (ss:List Str),xs=[.ref l]∧JC K H l (ss.map V.str)∧ss.length < 64∧∀ (p:Addr) (ss':List Str),H p=none→ss'.Perm ss→ss'.Pairwise sle→Q (.ref p) (upd H p (.lst (ss'.map V.str)))
theorem Jg6:Yx X (.builtin "sorted") (Juc X.K):=by
 intro pins s σ H xs us Q I r h;obtain ⟨l,ss,rfl,hl,hz,q⟩:=h;obtain ⟨u,rfl,ru⟩:=JI.one r;cases ru;obtain ⟨its,rv,pl,_⟩:=I.list hl;have rlen:=rv.length;rw [List.length_map] at rlen;refine sorted_strs pl.isList (Jkp rv) (by omega) fun out ss' a1 a2 a3=>?_
 obtain ⟨e,he⟩:=sortedAll_at s.heap its out;have hf:H (s.heap.objs.size + 1)=none:=I.hok.fresh (Nat.le_succ _);have hv:=Jll a1;refine ⟨.ref (s.heap.objs.size + 1),_,I.laid (t':=s.toks) (o:=.lst (ss'.map V.str)) (fun b u=>sortedAll_old) (Nat.le_succ _) ⟨?_,out.toList,e,hv,he⟩,rfl,q _ ss' hf a2 (JoC a3)⟩;rw [List.length_map,a2.length_eq];exact Nat.le_trans (Nat.le_of_lt hz) (by decide)
def ZI (K:PySem.W.Frag) (H:Hp) (zs:List (V×(Str×Str))):Prop:=∀ z∈zs,∃ a,z.1=.ref a∧JL K H a [.str z.2.1,.str z.2.2]
def Jub (K:PySem.W.Frag):List V→Hp→VK→Prop:=fun xs H Q=>∃ (l:Addr) (zs:List (V×(Str×Str))),xs=[.ref l]∧JC K H l (zs.map (·.1))∧ZI K H zs∧zs.length < 64∧∀ (p:Addr) (zs':List (V×(Str×Str))),H p=none→zs'.Perm zs→(zs'.map (·.2)).Pairwise ple→Q (.ref p) (upd H p (.lst (zs'.map (·.1))))
theorem Jpu:∀ {vs:List V} {us:List Value},JI vs us→∀ (p:List Nat),(∀ i∈p,i < vs.length)→JI (p.map fun i=>vs.getD i .non) (p.map fun i=>us.getD i Value.none):=by
 intro vs us r p
 induction p with
 | nil=>exact fun _=>.nil
 | cons i p ih =>
  intro h;have hi:=h i (List.mem_cons_self ..);obtain ⟨u,hu,ru⟩:=Jet (i:=i) r (List.getElem?_eq_getElem hi);refine .cons ?_ (ih fun j hj=>h j (List.mem_cons_of_mem _ hj));show JT (vs.getD i .non) (us.getD i Value.none);rw [List.getD_eq_getElem?_getD,List.getD_eq_getElem?_getD,hu,List.getElem?_eq_getElem hi];exact ru
theorem JpX {α:Type} {l:List α} {d:α} {p:Array Nat} (h:Pm l.length p):(p.toList.map fun i=>l.getD i d).Perm l:=by
 have h1:p.toList.Perm (List.range l.length):=by
  have:=Array.perm_iff_toList_perm.mp h;simpa using this
 have h2:=h1.map fun i=>l.getD i d
 refine h2.trans (List.Perm.of_eq ?_);apply List.ext_getElem?;intro i;rw [List.getElem?_map];by_cases hi:i < l.length
 ·simp [hi]
 ·simp [hi]
theorem Jpk:Yx X (.builtin "sorted") (Jub X.K):=by
 intro pins s σ H xs us Q I r h;obtain ⟨l,zs,rfl,hl,hp,hz,q⟩:=h;obtain ⟨u,rfl,ru⟩:=JI.one r;cases ru;obtain ⟨its,rv,pl,_⟩:=I.list hl;have rlen:=rv.length;rw [List.length_map] at rlen;refine Jmt (ps:=zs.map (·.2)) pl.isList (by rw [List.length_map]; omega) (by omega) (fun i v p hv hq=>?_) fun p pm so=>?_
 ·rw [List.getElem?_map] at hq;obtain ⟨z,hz1,hz2⟩:=Option.map_eq_some_iff.mp hq;obtain ⟨a,ea,ha⟩:=hp z (List.mem_of_getElem? hz1);obtain ⟨u,hu,ru⟩:=Jet (i:=i) (x:=z.1) rv (by rw [List.getElem?_map,hz1]; rfl);rw [hv] at hu;cases hu;rw [ea] at ru;cases (show v=.ref a from ru);obtain ⟨its',r',⟨o,e,c,n,d⟩,_⟩:=I.tuple ha;cases r' with
  | cons r1 rr =>
   cases rr with
   | cons r2 rr =>
    cases rr;obtain ⟨t,e1⟩:=r1;obtain ⟨t',e2⟩:=r2;subst e1 e2;rw [← hz2];exact ⟨a,rfl,o,n,t,t',e,c,d⟩
 ·obtain ⟨e,he⟩:=sortedAll_at s.heap its (Jbf its p);have hf:H (s.heap.objs.size + 1)=none:=I.hok.fresh (Nat.le_succ _);have pmz:Pm zs.length p:=by rw [rlen]; exact pm
  have hlt:∀ i∈p.toList,i < zs.length:=fun i hi=>by
   have:=(Array.perm_iff_toList_perm.mp pmz).mem_iff.mp hi;simpa using this
  let d:V×(Str×Str):=(.non,dfl)
  have e1:(p.toList.map fun i=>zs.getD i d).map (·.1)=p.toList.map fun i=>(zs.map (·.1)).getD i .non:=by
   rw [List.map_map];refine List.map_congr_left fun i hi=>?_
   have:=hlt i hi;simp [List.getD_eq_getElem?_getD,List.getElem?_eq_getElem this]
  have e2:(p.toList.map fun i=>zs.getD i d).map (·.2)=p.toList.map fun i=>(zs.map (·.2)).getD i dfl:=by
   rw [List.map_map];refine List.map_congr_left fun i hi=>?_
   have:=hlt i hi;simp [List.getD_eq_getElem?_getD,List.getElem?_eq_getElem this]
  have hv:JI ((p.toList.map fun i=>zs.getD i d).map (·.1)) (Jbf its p).toList:=by
   rw [e1];have z:=Jpu rv p.toList (fun i hi=>by rw [List.length_map]; exact hlt i hi);unfold Jbf;rw [List.toList_toArray];exact z
  refine ⟨.ref (s.heap.objs.size + 1),_,I.laid (t':=s.toks) (o:=.lst ((p.toList.map fun i=>zs.getD i d).map (·.1))) (fun b u=>sortedAll_old) (Nat.le_succ _) ⟨?_,(Jbf its p).toList,e,hv,he⟩,rfl,q _ (p.toList.map fun i=>zs.getD i d) hf (JpX pmz) ?_⟩
  ·rw [List.length_map,List.length_map,Array.length_toList,pmz.size];exact Nat.le_trans (Nat.le_of_lt hz) (by decide)
  ·rw [e2,List.pairwise_map,List.pairwise_iff_getElem];intro i j hi hj hij;rw [Array.length_toList] at hi hj;have z:=so i j (Nat.le_of_lt hij) (by rw [← rlen,← pmz.size]; exact hj);unfold Kp ky at z;rw [Array.getD_eq_getD_getElem?,Array.getD_eq_getD_getElem?,Array.getElem?_eq_getElem hi,Array.getElem?_eq_getElem hj] at z;exact z
theorem JlD {P P':Program} {w w':World}:∀ {ks:List J0} {us:List Value},ItemsAre (YE P w) ks us→ItemsAre (YE P' w') ks us
 | _,_,.nil=>.nil
 | _,_,.cons h t=>.cons h (JlD t)
theorem Jpx {P P':Program} {w w':World} {h:Heap} {ks:List J0} {a:Addr} (hk:HS.TK P w h ks a):HS.TK P' w' h ks a:=let ⟨o,its,n,e,c,d,i⟩:=hk; ⟨o,its,n,e,c,d,JlD i⟩
theorem Jvh {A:Around} {s:Shared} {P:Program} {w:World} {x y:List J0} {a b:Addr} (hu:A.units < cLine) (hx:HS.TK P w s.heap x a) (hy:HS.TK P w s.heap y b):SeqAt.EqAt A s (.ref a) (.ref b) (decide (x=y)) :=
 fun prog w E Q hq=>wpAny_eqBool_tuple hu (Jpx hx) (Jpx hy) hq
open Classical in
def JvT (K:PySem.W.Frag) (neg:Bool):R2:=fun x y H Q=>∃ a l vs ks kss,x=.ref a∧y=.ref l∧JL K H a (ks.map kV)∧JC K H l vs∧JgJ K H vs kss∧Q (.bl (if neg then !decide (ks∈kss) else decide (ks∈kss))) H
open Classical in
theorem Jl6 (hu:X.A.units + 1 < cLine):ZV X (compareOp .NotIn) (JvT X.K true):=by
 intro pins s σ H x y v u Q I rx ry h;obtain ⟨a,l,vs,ks,kss,rfl,rfl,ha,hl,⟨tl,tt⟩,q⟩:=h;cases rx;cases ry;obtain ⟨its,rv,pl,_⟩:=I.list hl;have rlen:=rv.length;have hk:=Jot I ha;let e:Value→Bool:=fun u=>match u with
  | .ref b=>decide (HS.TK X.prog X.w s.heap ks b)
  | _=>false
 have at_:∀ (i:Nat) v,its[i]?=some v→∃ k2 b,kss[i]?=some k2∧v=.ref b∧HS.TK X.prog X.w s.heap k2 b:=fun i v hv=>by
  have hi:=(List.getElem?_eq_some_iff.mp hv).1;obtain ⟨x,hx⟩:∃ x,vs[i]?=some x:=⟨vs[i],List.getElem?_eq_getElem (by omega)⟩
  obtain ⟨k2,hk2⟩:∃ k2,kss[i]?=some k2:=⟨kss[i],List.getElem?_eq_getElem (by omega)⟩
  obtain ⟨b,rfl,hb⟩:=tt i x k2 hx hk2;obtain ⟨u,hu1,hu2⟩:=Jet rv hx;rw [hv] at hu1;cases hu1;cases (show v=.ref b from hu2);exact ⟨k2,b,hk2,rfl,Jot I hb⟩
 have same:∀ {k2:List J0} {b:Addr},HS.TK X.prog X.w s.heap k2 b→decide (k2=ks)=decide (HS.TK X.prog X.w s.heap ks b):=fun {k2 b} hb=>by
  refine decide_eq_decide.mpr ⟨fun e=>e ▸ hb,fun h=>IsTupleKey.inj hb h⟩
 refine SeqAt.notIn_listAt e pl.isList (fun w hw=>?_) ⟨.bl _,H,I,rfl,?_⟩
 ·obtain ⟨i,hi⟩:=List.mem_iff_getElem?.mp (show w∈its by simpa using hw);obtain ⟨k2,b,_,rfl,hb⟩:=at_ i w hi;have z:=Jvh (A:=X.A.in1) hu hb hk;rw [same hb] at z;exact z
 ·have e2:its.toArray.any e=decide (ks∈kss):=by
   rw [show its.toArray.any e=its.any e by simp,Bool.eq_iff_iff,List.any_eq_true,decide_eq_true_eq];constructor
   ·rintro ⟨w,hw,he⟩;obtain ⟨i,hi⟩:=List.mem_iff_getElem?.mp hw;obtain ⟨k2,b,h2,rfl,hb⟩:=at_ i w hi;have he':decide (HS.TK X.prog X.w s.heap ks b)=true:=he;rw [← same hb] at he';rw [← of_decide_eq_true he'];exact List.mem_of_getElem? h2
   ·intro hin;obtain ⟨i,hi⟩:=List.mem_iff_getElem?.mp hin;have hlt:=(List.getElem?_eq_some_iff.mp hi).1;obtain ⟨k2,b,h2,h3,hb⟩:=at_ i its[i] (List.getElem?_eq_getElem (by omega));rw [hi] at h2;cases h2;refine ⟨its[i],List.getElem_mem _,?_⟩;rw [h3];exact decide_eq_true hb
  rw [e2];exact q
def Juf (K:PySem.W.Frag):R2:=fun x y H Q=>∃ a l vs,x=.ref a∧y=.ref l∧JC K H a vs∧JC K H l []∧Q (.bl vs.isEmpty) H
theorem Ji0 (hu:X.A.units < cLine):ZV X (compareOp .Eq) (Juf X.K):=by
 intro pins s σ H x y v u Q I rx ry h;obtain ⟨a,l,vs,rfl,rfl,ha,hl,q⟩:=h;cases rx;cases ry;obtain ⟨its,rv,pl,_⟩:=I.list ha;obtain ⟨its2,rv2,pl2,_⟩:=I.list hl;cases rv2;have rlen:=rv.length;cases vs with
 | nil =>
  cases rv;refine SeqAt.eq_listAt (e:=fun _=>true) pl.isList pl2.isList rfl hu (fun j h1 h2=>absurd h1 (Nat.not_lt_zero _)) ⟨.bl _,H,I,rfl,q⟩
 | cons v r=>exact SeqAt.eq_list_lengthsAt pl.isList pl2.isList (by rw [List.size_toArray,← rlen]; rfl) hu ⟨.bl _,H,I,rfl,q⟩
end
section
variable {tc:TT} {te:TE} {σc:St} {D:Addr} {H1:Hp} {Q:Hp→Prop} {K:PySem.W.Frag}
theorem Jj8 {a:Addr} {xs:List V} (Pv:Nat→List V→Hp→Prop) (h00:σc[0]?=some none) (h01:σc[1]?=some none) (hq:∀ i ys H,Pv i ys H→JC K H a xs) (h0:Pv 0 [] (upd H1 D (.lst []))) (hl:∀ i ys H,Pv i ys H→H D=some (.lst ys))
  (hs:∀ i x ys H,xs[i]?=some x→Pv i ys H→∃ b u v,x=.ref b∧JL K H b [u,v]∧tc ((σc.set 0 (some u)).set 1 (some v)) H fun c H3=>if c=true then te ((σc.set 0 (some u)).set 1 (some v)) H3 fun v' H4=>H4 D=some (.lst ys)∧ys.length < sizeLine∧Pv (i + 1) (ys ++ [v']) (upd H4 D (.lst (ys ++ [v']))) else Pv (i + 1) ys H3)
  (hd:∀ ys H,Pv xs.length ys H→Q H):Jes (Itl K a) (Jo4 K 2 (Jo5 (JbF 0) (Jo5 (JbF 1) JuC))) tc te σc D H1 Q:=by
 refine ⟨fun i m ys H=>m=xs.length - i∧i≤xs.length∧Pv i ys H,⟨xs.length,by simp,Nat.zero_le _,h0⟩,?_⟩;rintro i m ys H ⟨rfl,hi,p⟩;refine ⟨hl _ _ _ p,?_⟩;by_cases hlt:i < xs.length
 ·refine .inr ⟨⟨xs,xs[i],hq _ _ _ p,by simp [hlt]⟩,Pv (i + 1),fun zs H' p'=>⟨xs.length - (i + 1),by omega,rfl,hlt,p'⟩,fun x H' y=>?_⟩;obtain ⟨e,y⟩:=y;subst e;have hx:=y xs (hq _ _ _ p);obtain ⟨b,u,v,rfl,hb,z⟩:=hs i x ys _ hx p;exact ⟨b,[u,v],rfl,hb,rfl,u,[v],rfl,v,[],rfl,rfl,((JfX.refl σc).set h00).set h01,z⟩
 ·have e:i=xs.length:=by omega
  subst e;exact .inl ⟨⟨xs,hq _ _ _ p,Nat.le_refl _⟩,hd _ _ p⟩
end
end L2
namespace L2
open PySem PySem.Spec PyProof.Rows
structure Md (K:PySem.W.Frag) (C:Addr) (x qual:Str) (st:Stmt) (ps:List Str) (f:Addr) (fd:FuncData):Prop where
 F:Fun K x qual st f fd
 b:JcQ K fd ps []
 m:Jpq K C x f
theorem Y7 {X:Cx}:JaY (Zb X.prog X.w) X E0:=fun pins σ H s e s' I h=>by
 obtain ⟨ea,C,B,H2,_,_,_,_,q⟩:=h;exact q.elim
section
variable {tc:TT} {te:TE} {σc:St} {D:Addr} {H1:Hp} {Q:Hp→Prop} {K:PySem.W.Frag}
theorem Jjl {a:Addr} {xs:List V} (Pv:Nat→List V→Hp→Prop) (h00:σc[0]?=some none) (hq:∀ i ys H,Pv i ys H→JL K H a xs) (h0:Pv 0 [] (upd H1 D (.lst []))) (hl:∀ i ys H,Pv i ys H→H D=some (.lst ys))
  (hs:∀ i x ys H,xs[i]?=some x→Pv i ys H→tc (σc.set 0 (some x)) H fun b H3=>if b=true then te (σc.set 0 (some x)) H3 fun v H4=>H4 D=some (.lst ys)∧ys.length < sizeLine∧Pv (i + 1) (ys ++ [v]) (upd H4 D (.lst (ys ++ [v]))) else Pv (i + 1) ys H3)
  (hd:∀ ys H,Pv xs.length ys H→Q H):Jes (Itt K a) (JbF 0) tc te σc D H1 Q :=
 Jlb (n:=xs.length) (X1:=fun i x=>xs[i]?=some x) Pv h00 (fun i H hi ⟨ys,p⟩=>⟨⟨xs,xs[i],hq _ _ _ p,by simp [hi]⟩,fun x H' y=>⟨y.1,y.2 xs (hq _ _ _ p)⟩⟩) (fun H ⟨ys,p⟩=>⟨xs,hq _ _ _ p,Nat.le_refl _⟩) h0 hl (fun i x ys H _ hx p=>hs i x ys H hx p) hd
end
theorem JjD {α:Type} {R:α→α→Prop} (anti:∀ a b,R a b→R b a→a=b):∀ {l r:List α},l.Perm r→l.Pairwise R→r.Pairwise R→l=r
 | [],r,p,_,_=>(p.symm.eq_nil).symm
 | x :: l,[],p,_,_=>absurd p.eq_nil (by simp)
 | x :: l,y :: r,p,h1,h2=>by
  have hx:=List.pairwise_cons.mp h1;have hy:=List.pairwise_cons.mp h2;have e:x=y:=by
   have m1:x∈y :: r:=p.mem_iff.mp (List.mem_cons_self ..);have m2:y∈x :: l:=p.mem_iff.mpr (List.mem_cons_self ..);rcases List.mem_cons.mp m1 with q | q
   ·exact q
   ·rcases List.mem_cons.mp m2 with q' | q'
    ·exact q'.symm
    ·exact anti _ _ (hx.1 _ q') (hy.1 _ q)
  subst e;rw [JjD anti (List.perm_cons _ |>.mp p) hx.2 hy.2]
end L2
namespace L2
open PySem PySem.Spec PyProof.Rows
section
variable {X:Cx}
theorem Jn6 {ns:List Int} {us:List Value} (r:JI (ns.map V.int) us):∃ xs:Array (Int×Tok),us.toArray=intItems xs∧ns=xs.toList.map (·.1):=by
 induction ns generalizing us with
 | nil=>cases r; exact ⟨#[],by simp [intItems],rfl⟩
 | cons n ns ih =>
  cases r with
  | cons r1 r2 =>
   obtain ⟨t,rfl⟩:=r1;obtain ⟨xs,h1,h2⟩:=ih r2;refine ⟨((n,t) :: xs.toList).toArray,?_,by rw [h2]; rfl⟩;have e:∀ {a b:List Value},a.toArray=b.toArray→a=b:=fun h=>by simpa using h
   unfold intItems at h1 ⊢;rw [List.map_toArray];have h3:=congrArg Array.toList h1;rw [Array.toList_map] at h3;simp only [List.map_cons];rw [← h3]
def Jva (K:PySem.W.Frag):List V→Hp→VK→Prop:=fun xs H Q=>∃ (l:Addr) (ns:List Int),xs=[.ref l]∧JC K H l (ns.map V.int)∧0 < ns.length∧∀ M,M∈ns→(∀ a∈ns,a≤M)→Q (.int M) H
def Ju9 (K:PySem.W.Frag):List V→Hp→VK→Prop:=fun xs H Q=>∃ (l:Addr) (ns:List Int),xs=[.ref l]∧JC K H l (ns.map V.int)∧0 < ns.length∧∀ M,M∈ns→(∀ a∈ns,M≤a)→Q (.int M) H
theorem JqR (hc:X.calm=true):Yx X (.builtin "max") (Jva X.K):=by
 intro pins s σ H xs us Q I r h;obtain ⟨l,ns,rfl,hl,hne,q⟩:=h;obtain ⟨u,rfl,ru⟩:=JI.one r;cases ru;obtain ⟨its,rv,pl,_⟩:=I.list hl;obtain ⟨zs,e,rfl⟩:=Jn6 rv;have hsz:0 < zs.size:=by rw [List.length_map,Array.length_toList] at hne; exact hne
 have hl':=pl.isList;rw [e] at hl';refine max_intList (I.ok.hd hc) hl' hsz fun v h' tk hv hk=>?_
 obtain ⟨t,rfl⟩:=intItems_at hv;obtain ⟨h1,h2⟩:=argBest_gt (numAt zs) (zs.size - 1);refine ⟨.int (numAt zs _),H,I.kept hk,⟨_,rfl⟩,q _ ?_ fun a ha=>?_⟩
 ·rw [numAt_eq]; exact getD_mem (by rw [List.length_map,Array.length_toList]; omega)
 ·obtain ⟨j,hj,rfl⟩:=mem_getD ha;rw [List.length_map,Array.length_toList] at hj;rw [← numAt_eq]; exact h2 j (by omega)
theorem JqQ (hc:X.calm=true):Yx X (.builtin "min") (Ju9 X.K):=by
 intro pins s σ H xs us Q I r h;obtain ⟨l,ns,rfl,hl,hne,q⟩:=h;obtain ⟨u,rfl,ru⟩:=JI.one r;cases ru;obtain ⟨its,rv,pl,_⟩:=I.list hl;obtain ⟨zs,e,rfl⟩:=Jn6 rv;have hsz:0 < zs.size:=by rw [List.length_map,Array.length_toList] at hne; exact hne
 have hl':=pl.isList;rw [e] at hl';refine min_intList (I.ok.hd hc) hl' hsz fun v h' tk hv hk=>?_
 obtain ⟨t,rfl⟩:=intItems_at hv;obtain ⟨h1,h2⟩:=argBest_lt (numAt zs) (zs.size - 1);refine ⟨.int (numAt zs _),H,I.kept hk,⟨_,rfl⟩,q _ ?_ fun a ha=>?_⟩
 ·rw [numAt_eq]; exact getD_mem (by rw [List.length_map,Array.length_toList]; omega)
 ·obtain ⟨j,hj,rfl⟩:=mem_getD ha;rw [List.length_map,Array.length_toList] at hj;rw [← numAt_eq]; exact h2 j (by omega)
end
end L2
namespace L2
def Jbx:List Int→Int
 | []=>0
 | [a]=>a
 | a :: b :: l=>if a≤Jbx (b :: l) then Jbx (b :: l) else a
def Jbw:List Int→Int
 | []=>0
 | [a]=>a
 | a :: b :: l=>if Jbw (b :: l)≤a then Jbw (b :: l) else a
theorem JhJ:∀ {l:List Int},l≠[]→Jbx l∈l∧∀ x∈l,x≤Jbx l
 | [],h=>absurd rfl h
 | [a],_=>⟨List.mem_singleton.mpr rfl,fun x hx=>by rw [List.mem_singleton.mp hx]; exact Int.le_refl _⟩
 | a :: b :: l,_=>by
  obtain ⟨h1,h2⟩:=JhJ (l:=b :: l) (by simp);show (if a≤Jbx (b :: l) then Jbx (b :: l) else a)∈_∧∀ x∈_,x≤(if a≤Jbx (b :: l) then Jbx (b :: l) else a);by_cases h:a≤Jbx (b :: l)
  ·rw [if_pos h];refine ⟨List.mem_cons_of_mem _ h1,fun x hx=>?_⟩;rcases List.mem_cons.mp hx with q | q
   ·rw [q]; exact h
   ·exact h2 x q
  ·rw [if_neg h];refine ⟨List.mem_cons_self ..,fun x hx=>?_⟩;rcases List.mem_cons.mp hx with q | q
   ·rw [q]; exact Int.le_refl _
   ·have:=h2 x q; omega
theorem JhI:∀ {l:List Int},l≠[]→Jbw l∈l∧∀ x∈l,Jbw l≤x
 | [],h=>absurd rfl h
 | [a],_=>⟨List.mem_singleton.mpr rfl,fun x hx=>by rw [List.mem_singleton.mp hx]; exact Int.le_refl _⟩
 | a :: b :: l,_=>by
  obtain ⟨h1,h2⟩:=JhI (l:=b :: l) (by simp);show (if Jbw (b :: l)≤a then Jbw (b :: l) else a)∈_∧∀ x∈_,(if Jbw (b :: l)≤a then Jbw (b :: l) else a)≤x;by_cases h:Jbw (b :: l)≤a
  ·rw [if_pos h];refine ⟨List.mem_cons_of_mem _ h1,fun x hx=>?_⟩;rcases List.mem_cons.mp hx with q | q
   ·rw [q]; exact h
   ·exact h2 x q
  ·rw [if_neg h];refine ⟨List.mem_cons_self ..,fun x hx=>?_⟩;rcases List.mem_cons.mp hx with q | q
   ·rw [q]; exact Int.le_refl _
   ·have:=h2 x q; omega
theorem JtA {l:List Int} {m:Int} (h1:m∈l) (h2:∀ x∈l,x≤m):m=Jbx l:=by
 have hne:l≠[]:=fun e=>by rw [e] at h1; cases h1
 obtain ⟨h3,h4⟩:=JhJ hne;have:=h2 _ h3;have:=h4 _ h1;omega
theorem Jty {l:List Int} {m:Int} (h1:m∈l) (h2:∀ x∈l,m≤x):m=Jbw l:=by
 have hne:l≠[]:=fun e=>by rw [e] at h1; cases h1
 obtain ⟨h3,h4⟩:=JhI hne;have:=h2 _ h3;have:=h4 _ h1;omega
section
variable {α:Type}
def Y1 (W:α→List α) (g:α→Bool) (c:Int):Nat→α→Bool→Int
 | 0,p,_=>if g p=true then 0 else c + 1
 | t + 1,p,r=>if g p=true then 0 else if (W p).isEmpty=true then c + 1 else
   if r=true then (if (Jbw ((W p).map fun w=>Y1 W g c t w false) + Jbx ((W p).map fun w=>Y1 W g c t w true)) / 2 > Jbw ((W p).map fun w=>Y1 W g c t w false) then (Jbw ((W p).map fun w=>Y1 W g c t w false) + Jbx ((W p).map fun w=>Y1 W g c t w true)) / 2 else Jbw ((W p).map fun w=>Y1 W g c t w false))
   else (if (Jbw ((W p).map fun w=>Y1 W g c t w false) + Jbx ((W p).map fun w=>Y1 W g c t w true) + 1) / 2 < Jbx ((W p).map fun w=>Y1 W g c t w true) then (Jbw ((W p).map fun w=>Y1 W g c t w false) + Jbx ((W p).map fun w=>Y1 W g c t w true) + 1) / 2 else Jbx ((W p).map fun w=>Y1 W g c t w true))
def loA (W:α→List α) (g:α→Bool) (c:Int) (t:Nat) (p:α) (r:Bool):Int:=Jbw ((W p).map fun w=>Y1 W g c t w r)
def hiB (W:α→List α) (g:α→Bool) (c:Int) (t:Nat) (p:α) (r:Bool):Int:=Jbx ((W p).map fun w=>Y1 W g c t w r)
variable {W:α→List α} {g:α→Bool} {c:Int} {t:Nat} {p:α} {r:Bool}
theorem JhD (h:g p=true):Y1 W g c t p r=0:=by
 cases t with
 | zero=>show (if g p=true then 0 else c + 1)=0; rw [if_pos h]
 | succ t=>unfold Y1; rw [if_pos h]
theorem JhC (h:g p=false) (hw:W p=[]):Y1 W g c t p r=c + 1:=by
 cases t with
 | zero=>show (if g p=true then 0 else c + 1)=_; rw [if_neg (by rw [h]; exact Bool.false_ne_true)]
 | succ t=>unfold Y1; rw [if_neg (by rw [h]; exact Bool.false_ne_true),if_pos (by rw [hw]; rfl)]
theorem Jqa (h:g p=false):Y1 W g c 0 p r=c + 1:=by
 show (if g p=true then 0 else c + 1)=_; rw [if_neg (by rw [h]; exact Bool.false_ne_true)]
theorem JlE {l:List α} (h:l≠[]):¬ (l.isEmpty=true):=fun e=>h (List.isEmpty_iff.mp e)
theorem Jqc (h:g p=false) (hw:W p≠[]):Y1 W g c (t + 1) p true=if (loA W g c t p false + hiB W g c t p true) / 2 > loA W g c t p false then (loA W g c t p false + hiB W g c t p true) / 2 else loA W g c t p false:=by
 unfold Y1 loA hiB; rw [if_neg (by rw [h]; exact Bool.false_ne_true),if_neg (JlE hw),if_pos rfl]
theorem Jqb (h:g p=false) (hw:W p≠[]):Y1 W g c (t + 1) p false=if (loA W g c t p false + hiB W g c t p true + 1) / 2 < hiB W g c t p true then (loA W g c t p false + hiB W g c t p true + 1) / 2 else hiB W g c t p true:=by
 unfold Y1 loA hiB; rw [if_neg (by rw [h]; exact Bool.false_ne_true),if_neg (JlE hw),if_neg Bool.false_ne_true]
theorem Jr2 (hw:W p≠[]):(∃ w∈W p,loA W g c t p r=Y1 W g c t w r)∧∀ w∈W p,loA W g c t p r≤Y1 W g c t w r:=by
 have hne:(W p).map (fun w=>Y1 W g c t w r)≠[]:=fun e=>hw (List.map_eq_nil_iff.mp e)
 obtain ⟨h1,h2⟩:=JhI hne;obtain ⟨w,h3,h4⟩:=List.mem_map.mp h1;exact ⟨⟨w,h3,h4.symm⟩,fun w hw=>h2 _ (List.mem_map.mpr ⟨w,hw,rfl⟩)⟩
theorem Jr7 (hw:W p≠[]):(∃ w∈W p,hiB W g c t p r=Y1 W g c t w r)∧∀ w∈W p,Y1 W g c t w r≤hiB W g c t p r:=by
 have hne:(W p).map (fun w=>Y1 W g c t w r)≠[]:=fun e=>hw (List.map_eq_nil_iff.mp e)
 obtain ⟨h1,h2⟩:=JhJ hne;obtain ⟨w,h3,h4⟩:=List.mem_map.mp h1;exact ⟨⟨w,h3,h4.symm⟩,fun w hw=>h2 _ (List.mem_map.mpr ⟨w,hw,rfl⟩)⟩
theorem Jua:∀ (t:Nat) (p:α),Y1 W g c t p true≤Y1 W g c t p false + 1∧Y1 W g c t p false≤Y1 W g c t p true + 1
 | 0,p=>by
  show (if g p=true then 0 else c + 1)≤(if g p=true then 0 else c + 1) + 1∧_;exact ⟨by omega,by show (if g p=true then 0 else c + 1)≤(if g p=true then 0 else c + 1) + 1; omega⟩
 | t + 1,p=>by
  cases hg:g p with
  | true=>rw [JhD hg,JhD hg]; omega
  | false =>
   by_cases hw:W p=[]
   ·rw [JhC hg hw,JhC hg hw]; omega
   ·obtain ⟨⟨w1,m1,e1⟩,_⟩:=Jr2 (W:=W) (g:=g) (c:=c) (t:=t) (p:=p) (r:=false) hw;obtain ⟨_,l2⟩:=Jr7 (W:=W) (g:=g) (c:=c) (t:=t) (p:=p) (r:=true) hw;have b1:=Jua t w1;have b2:=l2 w1 m1;rw [← e1] at b1;rw [Jqc hg hw,Jqb hg hw];constructor <;> split <;> split <;> omega
def Jdi (W:α→List α) (g:α→Bool) (c:Int) (t:Nat) (p:α) (k:Int) (r h:Bool):Option α:=(W p).find? fun w=>decide (Y1 W g c t w r≤k) == h
def after (k:Int) (r:Bool) (b a:Int):Bool×Int×Bool :=
 if b > a then (!r,(if r then k + b else k - b),r) else if a > b then (r,(if r then k - a else k + a),r) else (r,(if r then k - a else k + a),!r)
def JeH (W:α→List α) (g:α→Bool) (c:Int) (t:Nat) (p:α) (k:Int) (r:Bool) (b a:Int):Bool :=
 (Jdi W g c t p (after k r b a).2.1 (after k r b a).2.2 (after k r b a).1).isSome == ((after k r b a).1 == r)
def own (c k:Int) (r:Bool):Int:=if r then k else c - k
def Jh6 (W:α→List α) (g:α→Bool) (c:Int) (t:Nat) (p:α) (k:Int) (r:Bool) (b:Int):Option Int :=
 if JeH W g c t p k r b 0=true then some 0 else if b≤own c k r∧JeH W g c t p k r b b=true then some b else none
def JuH (W:α→List α) (g:α→Bool) (c:Int) (t:Nat) (p:α) (k:Int) (r:Bool):Int :=
 if r then (if k - loA W g c t p false + 1 > 0 then k - loA W g c t p false + 1 else 0) else (if hiB W g c t p true - k > 0 then hiB W g c t p true - k else 0)
theorem JqY {k b:Int}:Jh6 W g c t p k r b=none↔¬ JeH W g c t p k r b 0=true∧¬ (b≤own c k r∧JeH W g c t p k r b b=true):=by
 unfold Jh6;by_cases h0:JeH W g c t p k r b 0=true
 ·rw [if_pos h0]; exact ⟨fun h=>(nomatch h),fun h=>absurd h0 h.1⟩
 ·rw [if_neg h0];by_cases h1:b≤own c k r∧JeH W g c t p k r b b=true
  ·rw [if_pos h1]; exact ⟨fun h=>(nomatch h),fun h=>absurd h1 h.2⟩
  ·rw [if_neg h1]; exact ⟨fun _=>⟨h0,h1⟩,fun _=>rfl⟩
end
end L2
namespace L2
open PySem PySem.Spec PyProof.Rows
theorem Jj {K:PySem.W.Frag} {f:Addr} {x q:Str} {st:Stmt} (h:J6 K f q=J9 x q st):Fun K x q st f (JO K f):=by
 obtain ⟨oc,od,kV,doc,pm,an,cdv,ct,osl,h1,h2,h3,h4⟩:=Jp7 h;exact ⟨⟨oc,od,kV,doc,pm,an,cdv,ct,osl,h1,h2,h3⟩,h4⟩
theorem Yk {K:PySem.W.Frag} {f:Addr} {x q:Str} {st:Stmt} (h:J6 K f q=J9 x q st):PySem.W.keepIn K (.ref f)=true:=(Jj h).kp
def JoX:Sum Int Str→V
 | .inl i=>.int i
 | .inr x=>.str x
theorem JqA {v:Value} {x:Sum Int Str} (h:JgY v=some x):JT (JoX x) v:=by
 unfold JgY at h;split at h
 ·cases h; exact ⟨_,rfl⟩
 ·cases h; exact ⟨_,rfl⟩
 ·cases h
theorem Jj4:∀ {us:List Value} {xs:List (Sum Int Str)},us.map JgY=xs.map some→JI (xs.map JoX) us
 | [],[],_=>.nil
 | u :: us,x :: xs,h=>by
  rw [List.map_cons,List.map_cons,List.cons.injEq] at h;exact .cons (JqA h.1) (Jj4 h.2)
 | [],_ :: _,h=>by cases h
 | _ :: _,[],h=>by cases h
theorem Jut {K:PySem.W.Frag} {n:Str} {xs:List (Sum Int Str)} (h:obT K n=some (true,xs.map some)) (H:Hp):JL K H (Jf K n) (xs.map JoX):=by
 unfold obT at h;split at h
 ·rename_i its m sl e;have h:=Option.some.inj h;have h1:decide (its.size≤1000)=true:=congrArg Prod.fst h;have h2:its.toList.map JgY=xs.map some:=congrArg Prod.snd h;exact .inr ⟨_,its,m,e,rfl,rfl,Nat.le_trans (of_decide_eq_true h1) (by decide),Jj4 h2⟩
 ·cases h
theorem mgV {K:PySem.W.Frag} {h:Heap} {mg:Str→Option Value} {n:Str} {i:Int} (X:K.In h) (G:h.Ns mainGlobals mg) (e:obV K n=some (.inl i)):∃ u,mg n=some u∧JT (.int i) u:=by
 obtain ⟨t,z⟩:=Jtv e;exact ⟨_,PySem.W.mg_of X G z,⟨_,rfl⟩⟩
theorem Jq4 {l:PySem.W.OpenLaw} {n k:Nat} {q:Program} {loose:List Str} {XP:(Str→Option Value)→Heap→Prop} {YP:World→Heap→Prop} {d:DefRec} {C:PySem.W.Frag→Prop} {CX:CXT} {sp:PySem.W.Frag→Sp} {x:Str}
  (hn:l.most=some n) (hn2:n≤sizeLine) (hdf:d.params.defaults=[]) (hr:Zj k callerA)
  (hY:∀ (w:World) (h:Heap),YP w h→∃ K:PySem.W.Frag,K.In h∧C K)
  (F:∀ (w:World) (K:PySem.W.Frag) (mg:Str→Option Value) (fa:Addr) (h:Heap),C K→K.In h→h.Ns mainGlobals mg→mg d.name=some (.ref fa) →
   ∃ fd:FuncData,(∀ (s:Shared) (u:Value),BindsTo s fd ⟨[u],[]⟩ [(x,u)]) ∧
    ∀ base:Heap,K.In base→base.Ns mainGlobals mg→JK l.prog w K mg base CX k fa fd [x] (sp K))
  (hsp:∀ (K:PySem.W.Frag) (H:Hp) (a:Addr) (ns:List Int),ns.length≤n→Jsr H→JC K H a (ns.map V.int)→sp K [.ref a] H (fun v _=>v=.bl true) fun _ _ _=>False)
  (hCX:∀ (H:Hp) (s:Shared) (e:Value) (s':Shared),CX [] H s (fun _ _ _=>False) e s'→False) :
  PySem.W.WalkO q loose XP YP l.row.toRowW d [] (fun f vs=>PySem.call f vs):=by
 refine Att.JnS hn hdf fun w s₀ s₁ mg mb fa o pm cd doc a vs ns G Y ho hd hcd hmg hobj hints hlen hg=>?_
 obtain ⟨K,KX,hC⟩:=hY w _ Y;obtain ⟨fd,hb,hF⟩:=F w K mg fa _ hC KX G.T.g hmg;exact Jr3 KX G.T.g G.T.b G.T.builtins G.T.nolimit hg hobj hints (Nat.le_trans hlen hn2) hr hF hb (fun H hO hS=>hsp K H a ns hlen hO hS) fun H e s'=>hCX H s₁ e s'
end L2
namespace L2
open PySem PySem.Spec PyProof.Rows
def eqL:List V→List V→Bool
 | [],[]=>true
 | x :: xs,y :: ys=>eqV x y && eqL xs ys
 | _,_=>false
def eqN (xs ys:List V) (j:Nat):Bool:=eqV (xs.getD j .non) (ys.getD j .non)
theorem Joa:∀ {xs ys:List V},((List.range (min xs.length ys.length)).all (eqN xs ys) && xs.length == ys.length)=eqL xs ys
 | [],[]=>rfl
 | [],y :: ys=>by simp [eqL]
 | x :: xs,[]=>by simp [eqL]
 | x :: xs,y :: ys=>by
  have ih:=Joa (xs:=xs) (ys:=ys);have e:min (x :: xs).length (y :: ys).length=min xs.length ys.length + 1:=by simp only [List.length_cons]; omega
  rw [e,List.range_succ_eq_map,List.all_cons,List.all_map,eqL,← ih];have e2:((x :: xs).length == (y :: ys).length)=(xs.length == ys.length):=by simp
  rw [e2,Bool.and_assoc];rfl
theorem JiM:∀ {xs:List V} {us:List Value},JI xs us→∀ j (h:j < us.length),JT (xs.getD j .non) us[j]
 | _,_,.nil,j,h=>absurd h (Nat.not_lt_zero _)
 | x :: xs,u :: us,.cons r t,0,h=>r
 | x :: xs,u :: us,.cons r t,j + 1,h=>JiM t j (by simpa using h)
theorem Ji5:∀ {xs:List V},xs.all JbG=true→∀ j,JbG (xs.getD j .non)=true
 | [],_,j=>rfl
 | x :: xs,f,0=>by rw [List.all_cons,Bool.and_eq_true] at f; exact f.1
 | x :: xs,f,j + 1=>by rw [List.all_cons,Bool.and_eq_true] at f; exact Ji5 f.2 j
def Jue (K:PySem.W.Frag) (neg:Bool):R2:=fun x y H Q=>∃ a b xs ys,x=.ref a∧y=.ref b∧JL K H a xs∧JL K H b ys∧xs.all JbG=true∧ys.all JbG=true∧Q (.bl (if neg then !eqL xs ys else eqL xs ys)) H
theorem Jun {X:Cx} (hu:X.A.units < cLine):ZV X (compareOp .NotEq) (Jue X.K true):=by
 intro pins s σ H x y v u Q I rx ry h;obtain ⟨a,b,xs,ys,rfl,rfl,ha,hb,fx,fy,q⟩:=h;cases rx;cases ry;obtain ⟨its,rv,pl,_⟩:=I.tuple ha;obtain ⟨its2,rv2,pl2,_⟩:=I.tuple hb;have z:=SeqAt.RcNeAt.tuples (A:=X.A) (e:=eqN xs ys) pl pl2 hu (fun j h1 h2=>JqD (JiM rv j (by simpa using h1)) (JiM rv2 j (by simpa using h2)) (Ji5 fx j) (Ji5 fy j)) X.prog X.w X.xe (EP X pins σ Q);refine z ⟨.bl _,H,I,rfl,?_⟩;rw [List.size_toArray,List.size_toArray,← rv.length,← rv2.length,Joa];exact q
def JvS (K:PySem.W.Frag):R2:=fun x y H Q=>(∃ b ys,x=.non∧y=.ref b∧JL K H b ys∧Q (.bl true) H)∨Jue K true x y H Q
theorem Juo {X:Cx} (hu:X.A.units < cLine):ZV X (compareOp .NotEq) (JvS X.K):=by
 intro pins s σ H x y v u Q I rx ry h;rcases h with ⟨b,ys,rfl,rfl,hb,q⟩ | h
 ·cases rx;cases ry;obtain ⟨its2,rv2,pl2,_⟩:=I.tuple hb;exact SeqAt.RcNeAt.none_tuple (A:=X.A) pl2 hu X.prog X.w X.xe (EP X pins σ Q) ⟨.bl _,H,I,rfl,q⟩
 ·exact Jun hu pins s σ H x y v u Q I rx ry h
def JuX (te:TE):TE:=fun σ H Q=>te σ H fun v H1=>∃ z,v=.str z∧z.length≤sizeLine∧Q (.str z) H1
theorem Jtk {X:Cx} {e:Expr} {te:TE} {pos:Pos} (he:PE X e te):PE X (.FormattedValue e (-1) none pos) (JuX te):=by
 intro pins s σ H Q I h;refine PyProof.Rows.FormattedValue_plain (JW (he pins s σ H _ I h) fun v s1 ⟨x,H1,I1,r1,z,ez,hz,q⟩=>?_);subst ez;obtain ⟨t,rfl⟩:=r1;exact PyProof.Rows.formatField_str (fun t' tk=>⟨.str z,H1,I1.tok _,⟨_,rfl⟩,q⟩) hz
theorem Jsk {X:Cx}:Yx X (.builtin "isinstance") (fun xs H Q=>∃ (a:Addr) (ys:List V),xs=[.ref a,.ty "tuple"]∧JL X.K H a ys∧Q (.bl true) H):=by
 intro pins s σ H xs us Q I r h;obtain ⟨a,ys,rfl,hs,q⟩:=h;cases r with
 | cons r rr =>
  cases rr with
  | cons r' rr =>
   cases rr;rename_i u u';obtain rfl:u'=.type "tuple":=r';obtain rfl:u=.ref a:=r;obtain ⟨its,_,⟨o,h1,h2,_⟩,_⟩:=I.tuple hs;exact PySem.W.kia_one PySem.W.kitx_tuple I.kIn ⟨o,h1,h2⟩ Jql (fun z=>nomatch z) fun tk=>⟨.bl true,H,I.tok _,rfl,q⟩
theorem cxK {CX:CXT} {P:Program} {w:World} {K:PySem.W.Frag} {mg:Str→Option Value} {base:Heap} {N:List Str} {q:Str} {sc:Scope} {f:Addr} {cd:Value} {A:Around} {o:List Env} {s:Shared} {H:Hp} {E:XK}:(Jae CX P w K mg base N q sc f cd A o s H E).nox.K=K:=rfl
theorem Jdd {CX:CXT} {P:Program} {w:World} {K:PySem.W.Frag} {mg:Str→Option Value} {base:Heap} {N:List Str} {q:Str} {sc:Scope} {f:Addr} {cd:Value} {A:Around} {o:List Env} {s:Shared} {H:Hp} {E:XK}:(Jae CX P w K mg base N q sc f cd A o s H E).K=K:=rfl
end L2
set_option maxHeartbeats 1600000
namespace Pf
open PySem L2
theorem Jmw:Jq ["text"] ["text"] (Jl Jdj):=⟨rfl,rfl,rfl,by decide +kernel,rfl,by decide +kernel,by decide +kernel⟩
theorem Jl0:Jq ["hand"] ["hand"] (Jl JeR):=⟨rfl,rfl,rfl,by decide +kernel,rfl,by decide +kernel,by decide +kernel⟩
theorem JrD:Jq ["hand"] ["hand"] (Jl JkB):=⟨rfl,rfl,rfl,by decide +kernel,rfl,by decide +kernel,by decide +kernel⟩
theorem Jks:Jq ["number", "most"] ["number", "most"] (Jl Jdz):=⟨rfl,rfl,rfl,by decide +kernel,rfl,by decide +kernel,by decide +kernel⟩
theorem Jkt:Jq ["north", "south"] ["north", "south"] (Jl JdC):=⟨rfl,rfl,rfl,by decide +kernel,rfl,by decide +kernel,by decide +kernel⟩
theorem Jmy:Jq ["named", "coins"] ["named", "coins"] (Jl JfZ):=⟨rfl,rfl,rfl,by decide +kernel,rfl,by decide +kernel,by decide +kernel⟩
theorem Jix:Jq ["board", "place", "turns", "north", "south", "ribbon"] ["board", "place", "turns", "north", "south", "ribbon"] (Jl Jb6):=⟨rfl,rfl,rfl,by decide +kernel,rfl,by decide +kernel,by decide +kernel⟩
theorem JrF:Jq ["board", "place", "turns"] ["board", "place", "turns"] (Jl JkD):=⟨rfl,rfl,rfl,by decide +kernel,rfl,by decide +kernel,by decide +kernel⟩
theorem JnH:Jq ["hand", "north", "south"] ["hand", "north", "south"] (Jl JgO):=⟨rfl,rfl,rfl,by decide +kernel,rfl,by decide +kernel,by decide +kernel⟩
theorem Jt5:Jq ["hand", "price", "north", "south", "ribbon"] ["hand", "price", "north", "south", "ribbon"] (Jl JoK):=⟨rfl,rfl,rfl,by decide +kernel,rfl,by decide +kernel,by decide +kernel⟩
theorem Jlp:Jq ["north", "south", "ribbon", "bid", "answer", "bidder"] ["north", "south", "ribbon", "bid", "answer"] (Jl JiV):=⟨rfl,rfl,rfl,by decide +kernel,rfl,by decide +kernel,by decide +kernel⟩
theorem Jhn:Jq ["self", "board", "coins", "turns", "left"] ["self", "board", "coins", "turns"] (Jl Jf5):=⟨rfl,rfl,rfl,by decide +kernel,rfl,by decide +kernel,by decide +kernel⟩
theorem Jao:Jq ["self", "turns", "row", "place", "ribbon"] ["self", "turns"] (Jl JbM):=⟨rfl,rfl,rfl,by decide +kernel,rfl,by decide +kernel,by decide +kernel⟩
theorem Jbe:Jq ["self", "place", "turns", "ribbon", "victor", "leading", "led"] ["self", "place", "turns", "ribbon"] (Jl JcT):=⟨rfl,rfl,rfl,by decide +kernel,rfl,by decide +kernel,by decide +kernel⟩
theorem Jaq:Jq ["self", "place", "turns", "behind"] ["self", "place", "turns"] (Jl Y0):=⟨rfl,rfl,rfl,by decide +kernel,rfl,by decide +kernel,by decide +kernel⟩
theorem Jap:Jq ["self", "place", "turns", "behind"] ["self", "place", "turns"] (Jl YZ):=⟨rfl,rfl,rfl,by decide +kernel,rfl,by decide +kernel,by decide +kernel⟩
theorem Jhg:Jq ["self", "place", "turns", "north", "ribbon"] ["self", "place", "turns", "north", "ribbon"] (Jl Jbq):=⟨rfl,rfl,rfl,by decide +kernel,rfl,by decide +kernel,by decide +kernel⟩
theorem Jkw:Jq ["self", "place", "turns", "north", "ribbon"] ["self", "place", "turns", "north", "ribbon"] (Jl JdH):=⟨rfl,rfl,rfl,by decide +kernel,rfl,by decide +kernel,by decide +kernel⟩
theorem Jgq:Jq ["self", "place", "turns", "north", "ribbon", "victor"] ["self", "place", "turns", "north", "ribbon"] (Jl JdI):=⟨rfl,rfl,rfl,by decide +kernel,rfl,by decide +kernel,by decide +kernel⟩
theorem JbK:Jq ["self", "place", "turns", "north", "ribbon", "bid", "south", "answer"] ["self", "place", "turns", "north", "ribbon", "bid"] (Jl Jb8):=⟨rfl,rfl,rfl,by decide +kernel,rfl,by decide +kernel,by decide +kernel⟩
theorem Ja6:Jq ["self", "place", "turns", "settled", "holder", "leader", "step"] ["self", "place", "turns", "settled", "holder"] (Jl Jbr):=⟨rfl,rfl,rfl,by decide +kernel,rfl,by decide +kernel,by decide +kernel⟩
theorem JfH:Jq ["self", "place", "turns", "north", "ribbon", "hand", "way"] ["self", "place", "turns", "north", "ribbon", "hand"] (Jl JcS):=⟨rfl,rfl,rfl,by decide +kernel,rfl,by decide +kernel,by decide +kernel⟩
theorem Jkv:Jq ["self", "place", "turns", "north", "south", "ribbon", "hand", "word", "heard"] ["self", "place", "turns", "north", "south", "ribbon", "hand", "word", "heard"] (Jl JdE):=⟨rfl,rfl,rfl,by decide +kernel,rfl,by decide +kernel,by decide +kernel⟩
theorem JlY:Jq ["board", "place", "turns", "north", "south", "ribbon"] ["board", "place", "turns", "north", "south", "ribbon"] (Jl JeO):=⟨rfl,rfl,rfl,by decide +kernel,rfl,by decide +kernel,by decide +kernel⟩
theorem JoG:Jq ["book", "now"] ["book", "now"] (Jl Jho):=⟨rfl,rfl,rfl,by decide +kernel,rfl,by decide +kernel,by decide +kernel⟩
theorem Jmz:Jq ["self", "board", "place", "turns", "north", "south", "ribbon"] ["self", "board", "place", "turns", "north", "south", "ribbon"] (Jl Jf3):=⟨rfl,rfl,rfl,by decide +kernel,rfl,by decide +kernel,by decide +kernel⟩
theorem JeN:Jq ["self", "now"] ["self"] (Jl Jcr):=⟨rfl,rfl,rfl,by decide +kernel,rfl,by decide +kernel,by decide +kernel⟩
theorem JiC:Jq ["self", "now"] ["self"] (Jl JgQ):=⟨rfl,rfl,rfl,by decide +kernel,rfl,by decide +kernel,by decide +kernel⟩
theorem Jl1:Jq ["self"] ["self"] (Jl JeS):=⟨rfl,rfl,rfl,by decide +kernel,rfl,by decide +kernel,by decide +kernel⟩
theorem Jl3:Jq ["self"] ["self"] (Jl JeU):=⟨rfl,rfl,rfl,by decide +kernel,rfl,by decide +kernel,by decide +kernel⟩
theorem Jhm:Jq ["self", "now"] ["self"] (Jl Jf2):=⟨rfl,rfl,rfl,by decide +kernel,rfl,by decide +kernel,by decide +kernel⟩
theorem Jgp:Jq ["self", "now"] ["self"] (Jl JdF):=⟨rfl,rfl,rfl,by decide +kernel,rfl,by decide +kernel,by decide +kernel⟩
theorem JeL:Jq ["self", "now", "what"] ["self"] (Jl Jf0):=⟨rfl,rfl,rfl,by decide +kernel,rfl,by decide +kernel,by decide +kernel⟩
theorem Jiy:Jq ["self", "hand", "word"] ["self", "hand", "word"] (Jl Jb7):=⟨rfl,rfl,rfl,by decide +kernel,rfl,by decide +kernel,by decide +kernel⟩
theorem Jl2:Jq ["self", "deed", "moment"] ["self", "deed", "moment"] (Jl JeT):=⟨rfl,rfl,rfl,by decide +kernel,rfl,by decide +kernel,by decide +kernel⟩
theorem JfY:Jq ["self", "hand", "coins", "now", "behind"] ["self", "hand", "coins"] (Jl JgR):=⟨rfl,rfl,rfl,by decide +kernel,rfl,by decide +kernel,by decide +kernel⟩
theorem JaA:Jq ["self", "hand", "coins", "now", "settled", "leader", "behind"] ["self", "hand", "coins"] (Jl JdG):=⟨rfl,rfl,rfl,by decide +kernel,rfl,by decide +kernel,by decide +kernel⟩
theorem JeM:Jq ["self", "hand", "place", "now", "behind"] ["self", "hand", "place"] (Jl Jf1):=⟨rfl,rfl,rfl,by decide +kernel,rfl,by decide +kernel,by decide +kernel⟩
theorem JmA:Jq ["self"] ["self"] (Jl Jf4):=⟨rfl,rfl,rfl,by decide +kernel,rfl,by decide +kernel,by decide +kernel⟩
theorem Jhl:Jq ["things"] ["things"] (Jl JbL):=⟨rfl,rfl,rfl,by decide +kernel,rfl,by decide +kernel,by decide +kernel⟩
theorem Jku:Jq ["place", "places"] ["place", "places"] (Jl JdD):=⟨rfl,rfl,rfl,by decide +kernel,rfl,by decide +kernel,by decide +kernel⟩
theorem JfG:Jq ["places", "place"] ["places"] (Jl JcR):=⟨rfl,rfl,rfl,by decide +kernel,rfl,by decide +kernel,by decide +kernel⟩
theorem Jgn:Jq ["lanes", "places", "lane"] ["lanes", "places"] (Jl JdA):=⟨rfl,rfl,rfl,by decide +kernel,rfl,by decide +kernel,by decide +kernel⟩
theorem Jgo:Jq ["goals", "places", "goal"] ["goals", "places"] (Jl JdB):=⟨rfl,rfl,rfl,by decide +kernel,rfl,by decide +kernel,by decide +kernel⟩
theorem Jl5:Jq ["self", "places", "lanes", "goals"] ["self", "places", "lanes", "goals"] (Jl JeV):=⟨rfl,rfl,rfl,by decide +kernel,rfl,by decide +kernel,by decide +kernel⟩
theorem JgM:Jq ["self", "place"] ["self", "place"] (Jl Ja7):=⟨rfl,rfl,rfl,by decide +kernel,rfl,by decide +kernel,by decide +kernel⟩
theorem Jl4:Jq ["self", "place"] ["self", "place"] (Jl Jcs):=⟨rfl,rfl,rfl,by decide +kernel,rfl,by decide +kernel,by decide +kernel⟩
theorem JiT:Jq ["self", "place"] ["self", "place"] (Jl Jct):=⟨rfl,rfl,rfl,by decide +kernel,rfl,by decide +kernel,by decide +kernel⟩
theorem Ju4:Jq ["_law_script", "_law_k"] ["_law_script", "_law_k"] (Jl JrH):=⟨rfl,rfl,rfl,by decide +kernel,rfl,by decide +kernel,by decide +kernel⟩
theorem JeJ:Jq ["_law_cell", "_law_many", "_law_base", "_law_rest", "_law_mixed", "_law_found", "_law_k"] ["_law_cell", "_law_many", "_law_base"] (Jl JoJ):=⟨rfl,rfl,rfl,by decide +kernel,rfl,by decide +kernel,by decide +kernel⟩
theorem JrB:Jq ["_law_found"] ["_law_found"] (Jl Jkx):=⟨rfl,rfl,rfl,by decide +kernel,rfl,by decide +kernel,by decide +kernel⟩
theorem Zt:Jq ["_law_cell", "_law_many", "_law_letters", "_law_free", "_law_found", "_law_k", "_law_places", "_law_size", "_law_head", "_law_more", "_law_name"] ["_law_cell", "_law_many"] (Jl Jih):=⟨rfl,rfl,rfl,by decide +kernel,rfl,by decide +kernel,by decide +kernel⟩
theorem Z7:Jq ["_law_cell", "_law_draw", "_law_size", "_law_pairs_here", "_law_many", "_law_k", "_law_ends", "_law_pair"] ["_law_cell", "_law_draw", "_law_size"] (Jl JkA):=⟨rfl,rfl,rfl,by decide +kernel,rfl,by decide +kernel,by decide +kernel⟩
theorem JeK:Jq ["_law_cell", "_law_kind", "_law_size", "_law_marks", "_law_found"] ["_law_cell", "_law_kind", "_law_size"] (Jl Jii):=⟨rfl,rfl,rfl,by decide +kernel,rfl,by decide +kernel,by decide +kernel⟩
theorem Jan:Jq ["_law_script", "_law_at_here", "_law_cell", "_law_size", "_law_names_here", "_law_kind", "_law_pairs_here", "_law_goals_here", "_law_lanes"] ["_law_script", "_law_at_here"] (Jl JeQ):=⟨rfl,rfl,rfl,by decide +kernel,rfl,by decide +kernel,by decide +kernel⟩
theorem JrC:Jq ["_law_cell"] ["_law_cell"] (Jl Jky):=⟨rfl,rfl,rfl,by decide +kernel,rfl,by decide +kernel,by decide +kernel⟩
theorem Jte:Jq ["_law_cell"] ["_law_cell"] (Jl JmE):=⟨rfl,rfl,rfl,by decide +kernel,rfl,by decide +kernel,by decide +kernel⟩
theorem Jtd:Jq ["_law_ground_here", "_law_place"] ["_law_ground_here", "_law_place"] (Jl JjH):=⟨rfl,rfl,rfl,by decide +kernel,rfl,by decide +kernel,by decide +kernel⟩
theorem Jt6:Jq ["_law_hand_here"] ["_law_hand_here"] (Jl JoL):=⟨rfl,rfl,rfl,by decide +kernel,rfl,by decide +kernel,by decide +kernel⟩
theorem Jtf:Jq ["_law_cell"] ["_law_cell"] (Jl JmF):=⟨rfl,rfl,rfl,by decide +kernel,rfl,by decide +kernel,by decide +kernel⟩
theorem Jt4:Jq ["_law_ground_here", "_law_place", "_law_left_here"] ["_law_ground_here", "_law_place", "_law_left_here"] (Jl JoH):=⟨rfl,rfl,rfl,by decide +kernel,rfl,by decide +kernel,by decide +kernel⟩
theorem Jbp:Jq ["_law_north", "_law_south", "_law_ribbon", "_law_bid", "_law_reply", "_law_mover", "_law_price", "_law_holder"] ["_law_north", "_law_south", "_law_ribbon", "_law_bid", "_law_reply"] (Jl JiU):=⟨rfl,rfl,rfl,by decide +kernel,rfl,by decide +kernel,by decide +kernel⟩
theorem JgL:Jq ["_law_marks", "_law_words", "_law_found"] ["_law_marks"] (Jl Jig):=⟨rfl,rfl,rfl,by decide +kernel,rfl,by decide +kernel,by decide +kernel⟩
theorem JrE:Jq ["_law_found", "_law_due_here"] ["_law_found", "_law_due_here"] (Jl JkC):=⟨rfl,rfl,rfl,by decide +kernel,rfl,by decide +kernel,by decide +kernel⟩
theorem JnV:Jq ["_law_found", "_law_due_here", "_law_k"] ["_law_found", "_law_due_here"] (Jl JmG):=⟨rfl,rfl,rfl,by decide +kernel,rfl,by decide +kernel,by decide +kernel⟩
theorem Jmx:Jq ["_law_found", "_law_due_here", "_law_k"] ["_law_found", "_law_due_here"] (Jl JkE):=⟨rfl,rfl,rfl,by decide +kernel,rfl,by decide +kernel,by decide +kernel⟩
theorem Jdr:Jq ["_law_ground_here", "_law_now", "_law_place", "_law_left_here", "_law_north", "_law_south", "_law_ribbon", "_law_bid", "_law_mover"] ["_law_ground_here", "_law_now"] (Jl JoM):=⟨rfl,rfl,rfl,by decide +kernel,rfl,by decide +kernel,by decide +kernel⟩
theorem Jaf:Jq ["_law_now", "_law_word", "_law_what", "_law_place", "_law_left_here", "_law_north", "_law_south", "_law_ribbon", "_law_bid", "_law_mover"] ["_law_now", "_law_word", "_law_what"] (Jl JmD):=⟨rfl,rfl,rfl,by decide +kernel,rfl,by decide +kernel,by decide +kernel⟩
theorem JnI:Jq ["_law_own", "_law_his", "_law_cell"] ["_law_own", "_law_his", "_law_cell"] (Jl JgP):=⟨rfl,rfl,rfl,by decide +kernel,rfl,by decide +kernel,by decide +kernel⟩
theorem JlZ:Jq ["_law_bid", "_law_own", "_law_cell"] ["_law_bid", "_law_own", "_law_cell"] (Jl JeP):=⟨rfl,rfl,rfl,by decide +kernel,rfl,by decide +kernel,by decide +kernel⟩
theorem JaZ:Jq ["_law_ground_here", "_law_now", "_law_cell", "_law_place", "_law_left_here", "_law_north", "_law_south", "_law_ribbon", "_law_bid", "_law_mover", "_law_ways_here", "_law_purses"] ["_law_ground_here", "_law_now", "_law_cell"] (Jl JmB):=⟨rfl,rfl,rfl,by decide +kernel,rfl,by decide +kernel,by decide +kernel⟩
theorem JaM:Jq ["_law_script", "_law_ground_here", "_law_at_here", "_law_place", "_law_total_here", "_law_left_here", "_law_north", "_law_ribbon"] ["_law_script", "_law_ground_here", "_law_at_here"] (Jl Jhp):=⟨rfl,rfl,rfl,by decide +kernel,rfl,by decide +kernel,by decide +kernel⟩
theorem JiS:Jq ["_law_game", "_law_ground_here", "_law_now", "_law_log", "_law_won_here"] ["_law_game", "_law_ground_here", "_law_now", "_law_log"] (Jl Jkz):=⟨rfl,rfl,rfl,by decide +kernel,rfl,by decide +kernel,by decide +kernel⟩
theorem Jtg:Jq ["_law_game", "_law_hand_here", "_law_word", "_law_what"] ["_law_game", "_law_hand_here", "_law_word", "_law_what"] (Jl JmH):=⟨rfl,rfl,rfl,by decide +kernel,rfl,by decide +kernel,by decide +kernel⟩
theorem Jif:Jq ["_law_ground_here", "_law_cell", "_law_names_here", "_law_k", "_law_place"] ["_law_ground_here", "_law_cell"] (Jl JmC):=⟨rfl,rfl,rfl,by decide +kernel,rfl,by decide +kernel,by decide +kernel⟩
theorem JjG:Jq ["_law_game", "_law_hand_here", "_law_word", "_law_what", "_law_marks", "e"] ["_law_game", "_law_hand_here", "_law_word", "_law_what"] (Jl JoI):=⟨rfl,rfl,rfl,by decide +kernel,rfl,by decide +kernel,by decide +kernel⟩
theorem Jcj:Jq ["_law_game", "_law_ground_here", "_law_now", "_law_log", "_law_won_here", "_law_hand_here", "_law_word", "_law_what"] ["_law_game", "_law_ground_here", "_law_now", "_law_log"] (Jl JiW):=⟨rfl,rfl,rfl,by decide +kernel,rfl,by decide +kernel,by decide +kernel⟩
theorem Jam:Jq ["_law_script", "_law_ground_here", "_law_board", "_law_now", "_law_game", "_law_ahead", "_law_log", "_law_pick_here", "_law_due_here", "_law_what", "_law_last"] ["_law_script"] (Jl JgN):=⟨rfl,rfl,rfl,by decide +kernel,rfl,by decide +kernel,by decide +kernel⟩
set_option genInjectivity false in
set_option genSizeOf false in
structure Txt (K:PySem.W.Frag) (mg:Str→Option Value) where
 Jn9:Addr
 Jng:FuncData
 JtM:Df K mg "_wall" JnW ["k"] Jn9 Jng
 Jgb:Addr
 Jfh:FuncData
 Jgi:Df K mg "good_name" Jdj ["text"] Jgb Jfh
 Jfr:Addr
 JdN:FuncData
 JaI:Df K mg "check_hand" JeR ["hand"] Jfr JdN
 Jk4:Addr
 Jjb:FuncData
 JeG:Df K mg "other" JkB ["hand"] Jk4 Jjb
 JdT:Addr
 JcZ:FuncData
 ZC:Df K mg "check_up_to" Jdz ["number", "most"] JdT JcZ
 JdW:Addr
 Jc2:FuncData
 Jb2:Df K mg "check_coins" JdC ["north", "south"] JdW Jc2
 Jgc:Addr
 Jfi:FuncData
 Ja3:Df K mg "check_bid" JfZ ["named", "coins"] Jgc Jfi
 Jcd:Addr
 JbO:FuncData
 Jcg:Df K mg "check_standing" Jb6 ["board", "place", "turns", "north", "south", "ribbon"] Jcd JbO
 Jk8:Addr
 Jjf:FuncData
 Jcq:Df K mg "ended" JkD ["board", "place", "turns"] Jk8 Jjf
 Jg1:Addr
 Jf7:FuncData
 JaQ:Df K mg "coins_of" JgO ["hand", "north", "south"] Jg1 Jf7
 Jpa:Addr
 Jnc:FuncData
 Jkk:Df K mg "pay" JoK ["hand", "price", "north", "south", "ribbon"] Jpa Jnc
 Jji:Addr
 JhT:FuncData
 Jg8:Df K mg "settle" JiV ["north", "south", "ribbon", "bid", "answer"] Jji JhT
 Jfp:Addr
 JdL:FuncData
 JcO:Df K mg "turn_begin" JeO ["board", "place", "turns", "north", "south", "ribbon"] Jfp JdL
 JhW:Addr
 JgZ:FuncData
 Jia:Df K mg "told_by" Jho ["book", "now"] JhW JgZ
 JbR:Addr
 Jby:FuncData
 ZW:Df K mg "check_each_once" JbL ["things"] JbR Jby
 JdX:Addr
 Jc3:FuncData
 Jai:Df K mg "check_among" JdD ["place", "places"] JdX Jc3
 Jc9:Addr
 JcG:FuncData
 Jdh:Df K mg "check_places" JcR ["places"] Jc9 JcG
 JdU:Addr
 Jc0:FuncData
 Jd4:Df K mg "check_lanes" JdA ["lanes", "places"] JdU Jc0
 JdV:Addr
 Jc1:FuncData
 Jd5:Df K mg "check_goals" JdB ["goals", "places"] JdV Jc1
 Jsd:Addr
 Jo6:FuncData
 JbU:Df K mg "_law_at" JrH ["_law_script", "_law_k"] Jsd Jo6
 Jo9:Addr
 Jnb:FuncData
 Jiv:Df K mg "_law_row" JoJ ["_law_cell", "_law_many", "_law_base"] Jo9 Jnb
 JkZ:Addr
 Ji6:FuncData
 Jle:Df K mg "_law_whole" Jkx ["_law_found"] JkZ Ji6
 Jk5:Addr
 Jjc:FuncData
 Jli:Df K mg "_law_names" Jih ["_law_cell", "_law_many"] Jk5 Jjc
 Jk3:Addr
 Jja:FuncData
 Jlh:Df K mg "_law_pairs" JkA ["_law_cell", "_law_draw", "_law_size"] Jk3 Jja
 Jk7:Addr
 Jje:FuncData
 Jlj:Df K mg "_law_goals" Jii ["_law_cell", "_law_kind", "_law_size"] Jk7 Jje
 Jjj:Addr
 JhU:FuncData
 Jjv:Df K mg "_law_ground" JeQ ["_law_script", "_law_at_here"] Jjj JhU
 Jk1:Addr
 Ji8:FuncData
 Jlg:Df K mg "_law_total" Jky ["_law_cell"] Jk1 Ji8
 Jnl:Addr
 JkV:FuncData
 JnC:Df K mg "_law_left" JmE ["_law_cell"] Jnl JkV
 Jnh:Addr
 JkR:FuncData
 Jh9:Df K mg "_law_ways" JjH ["_law_ground_here", "_law_place"] Jnh JkR
 Jpc:Addr
 Jne:FuncData
 Jiw:Df K mg "_law_foe" JoL ["_law_hand_here"] Jpc Jne
 Jnm:Addr
 JkW:FuncData
 JnD:Df K mg "_law_hand" JmF ["_law_cell"] Jnm JkW
 Jo7:Addr
 Jm9:FuncData
 Jit:Df K mg "_law_won" JoH ["_law_ground_here", "_law_place", "_law_left_here"] Jo7 Jm9
 Jjh:Addr
 JhS:FuncData
 Jju:Df K mg "_law_turned" JiU ["_law_north", "_law_south", "_law_ribbon", "_law_bid", "_law_reply"] Jjh JhS
 Jk0:Addr
 Ji7:FuncData
 Jlf:Df K mg "_law_which" Jig ["_law_marks"] Jk0 Ji7
 Jk6:Addr
 Jjd:FuncData
 Jdg:Df K mg "_law_holds" JkC ["_law_found", "_law_due_here"] Jk6 Jjd
 Jnn:Addr
 JkX:FuncData
 Jdy:Df K mg "_law_flat" JmG ["_law_found", "_law_due_here"] Jnn JkX
 Jk9:Addr
 Jjg:FuncData
 Jlk:Df K mg "_law_deeds" JkE ["_law_found", "_law_due_here"] Jk9 Jjg
 Jpd:Addr
 Jnf:FuncData
 Jkl:Df K mg "_law_due" JoM ["_law_ground_here", "_law_now"] Jpd Jnf
 Jnk:Addr
 JkU:FuncData
 JnB:Df K mg "_law_next" JmD ["_law_now", "_law_word", "_law_what"] Jnk JkU
 Jg2:Addr
 Jf8:FuncData
 Jg9:Df K mg "_law_bid_pick" JgP ["_law_own", "_law_his", "_law_cell"] Jg2 Jf8
 Jfq:Addr
 JdM:FuncData
 JfD:Df K mg "_law_reply_pick" JeP ["_law_bid", "_law_own", "_law_cell"] Jfq JdM
 Jni:Addr
 JkS:FuncData
 Jnz:Df K mg "_law_pick" JmB ["_law_ground_here", "_law_now", "_law_cell"] Jni JkS
 JhX:Addr
 Jg0:FuncData
 Jib:Df K mg "_law_opening" Jhp ["_law_script", "_law_ground_here", "_law_at_here"] JhX Jg0
 Jk2:Addr
 Ji9:FuncData
 Jiu:Df K mg "_law_shows" Jkz ["_law_game", "_law_ground_here", "_law_now", "_law_log"] Jk2 Ji9
 Jno:Addr
 JkY:FuncData
 Jkm:Df K mg "_law_does" JmH ["_law_game", "_law_hand_here", "_law_word", "_law_what"] Jno JkY
 Jnj:Addr
 JkT:FuncData
 JnA:Df K mg "_law_open" JmC ["_law_ground_here", "_law_cell"] Jnj JkT
 Jo8:Addr
 Jna:FuncData
 Jps:Df K mg "_law_try" JoI ["_law_game", "_law_hand_here", "_law_word", "_law_what"] Jo8 Jna
 Jjk:Addr
 JhV:FuncData
 Jha:Df K mg "_law_at_end" JiW ["_law_game", "_law_ground_here", "_law_now", "_law_log"] Jjk JhV
 Jpb:Addr
 Jnd:FuncData
 JsO:Df K mg "law" JgN ["_law_script"] Jpb Jnd
 JgH:Addr
 JkQ:mg "HANDS" = some (.ref JgH)
 Jic:∀ H:Hp,JL K H JgH [.str "north",.str "south"]
 Jbm:Value
 JcE:mg "MOST_SIGNS" = some Jbm
 Jcu:JT (.int 6) Jbm
 Jbl:Value
 JaG:mg "MOST_TURNS" = some Jbl
 JaB:JT (.int 30) Jbl
 Jbo:Value
 JaH:mg "MOST_COINS" = some Jbo
 JaC:JT (.int 20) Jbo
 JaS:Value
 Jb0:mg "MOST_PLACES" = some JaS
 JbY:JT (.int 12) JaS
 Jbn:Value
 JcF:mg "MOST_LANES" = some Jbn
 Jcv:JT (.int 40) Jbn
 JsF:mg "all" = none
 Zy:mg "len" = none
 Z3:mg "range" = none
 JjU:mg "min" = none
 JgW:mg "max" = none
 Ja2:mg "tuple" = none
 JsD:mg "set" = none
 Je5:mg "sorted" = none
 J7:mg "isinstance" = none
 JsE:mg "int" = none
 Jqd:mg "bool" = none
 JoY:mg "str" = none
 JhE:mg "ValueError" = none
 JjV:mg "list" = none
 Jav:Addr
 JfQ:mg "BidmoverError" = some (.ref Jav)
 Jco:Addr
 JlO:mg "BadName" = some (.ref Jco)
 Y2:Addr
 Jh5:mg "BadHand" = some (.ref Y2)
 J8:Addr
 JcM:mg "OutOfRange" = some (.ref J8)
 JeA:Addr
 Jok:mg "Twice" = some (.ref JeA)
 YM:Addr
 Jh4:mg "NoPlace" = some (.ref YM)
 Yi:Addr
 Jjo:mg "BadBid" = some (.ref Yi)
 Yv:Addr
 Jjn:mg "NoLane" = some (.ref Yv)
 Yl:Addr
 Jjm:mg "NotDue" = some (.ref Yl)
 ZQ:Addr
 Jd2:mg "NothingDone" = some (.ref ZQ)
 JgC:Addr
 Jol:mg "Taken" = some (.ref JgC)
 JhN:Addr
 JqT:mg "Full" = some (.ref JhN)
 Jdu:Addr
 JlN:mg "Missing" = some (.ref Jdu)
 JS:Addr
 JqU:mg "Book" = some (.ref JS)
 JY:Cls K JS
 Jdn:Addr
 Jfo:FuncData
 Jgk:Md K JS "__init__" "Book.__init__" Jf5 ["self", "board", "coins", "turns"] Jdn Jfo
 JbS:Addr
 Jbz:FuncData
 Jaz:Md K JS "needs_with" "Book.needs_with" JbM ["self", "turns"] JbS Jbz
 Jdb:Addr
 JcI:FuncData
 JbH:Md K JS "need_at" "Book.need_at" JcT ["self", "place", "turns", "ribbon"] Jdb JcI
 ZE:Addr
 ZB:FuncData
 Yu:Md K JS "need_where_north_leads" "Book.need_where_north_leads" Y0 ["self", "place", "turns"] ZE ZB
 ZD:Addr
 ZA:FuncData
 Yt:Md K JS "need_where_south_leads" "Book.need_where_south_leads" YZ ["self", "place", "turns"] ZD ZA
 JbA:Addr
 Ja9:FuncData
 YN:Md K JS "check_share" "Book.check_share" Jbq ["self", "place", "turns", "north", "ribbon"] JbA Ja9
 Jd0:Addr
 Jc7:FuncData
 Jak:Md K JS "winner" "Book.winner" JdH ["self", "place", "turns", "north", "ribbon"] Jd0 Jc7
 JhY:Addr
 Jhf:FuncData
 JnE:Md K JS "least" "Book.least" Jhq ["self", "place", "turns", "ribbon"] JhY Jhf
 Jd1:Addr
 Jc8:FuncData
 Jb5:Md K JS "bid_of" "Book.bid_of" JdI ["self", "place", "turns", "north", "ribbon"] Jd1 Jc8
 Jcf:Addr
 JbQ:FuncData
 JaR:Md K JS "answer_of" "Book.answer_of" Jb8 ["self", "place", "turns", "north", "ribbon", "bid"] Jcf JbQ
 JbB:Addr
 Jba:FuncData
 Jax:Md K JS "answer_wins" "Book.answer_wins" Jbr ["self", "place", "turns", "settled", "holder"] JbB Jba
 Jda:Addr
 JcH:FuncData
 Z4:Md K JS "step_of" "Book.step_of" JcS ["self", "place", "turns", "north", "ribbon", "hand"] Jda JcH
 Jn4:Mk K JS Jdn
 YR:YS K JS "board"
 JaX:YS K JS "coins"
 JdK:YS K JS "turns"
 Jah:YS K JS "needs"
 J5:Addr
 Jfy:mg "Moment" = some (.ref J5)
 Ju:Cls K J5
 Jb1:Addr
 Jc4:FuncData
 Jaj:Md K J5 "__init__" "Moment.__init__" JdE ["self", "place", "turns", "north", "south", "ribbon", "hand", "word", "heard"] Jb1 Jc4
 Jds:Mk K J5 Jb1
 YJ:YS K J5 "place"
 YI:YS K J5 "turns"
 YK:YS K J5 "north"
 Zx:YS K J5 "south"
 YC:YS K J5 "ribbon"
 Z2:YS K J5 "hand"
 YH:YS K J5 "word"
 Jau:YS K J5 "heard"
 JZ:Addr
 JqS:mg "Game" = some (.ref JZ)
 JM:Cls K JZ
 Jdm:Addr
 Jfm:FuncData
 Jgj:Md K JZ "__init__" "Game.__init__" Jf3 ["self", "board", "place", "turns", "north", "south", "ribbon"] Jdm Jfm
 JcJ:Addr
 Jcb:FuncData
 Jbi:Md K JZ "standing" "Game.standing" Jcr ["self"] JcJ Jcb
 Jg3:Addr
 Jf9:FuncData
 ZK:Md K JZ "due" "Game.due" JgQ ["self"] Jg3 Jf9
 Jfs:Addr
 JdO:FuncData
 JaJ:Md K JZ "named" "Game.named" JeS ["self"] Jfs JdO
 Jfu:Addr
 JdQ:FuncData
 JcP:Md K JZ "deeds" "Game.deeds" JeU ["self"] Jfu JdQ
 Jgf:Addr
 Jfl:FuncData
 Zs:Md K JZ "over" "Game.over" Jf2 ["self"] Jgf Jfl
 JdY:Addr
 Jc5:FuncData
 Jb3:Md K JZ "winner" "Game.winner" JdF ["self"] JdY Jc5
 Jgd:Addr
 Jfj:FuncData
 Ja4:Md K JZ "told" "Game.told" Jf0 ["self"] Jgd Jfj
 Jce:Addr
 JbP:FuncData
 Y6:Md K JZ "check_due" "Game.check_due" Jb7 ["self", "hand", "word"] Jce JbP
 Jft:Addr
 JdP:FuncData
 ZN:Md K JZ "go_on" "Game.go_on" JeT ["self", "deed", "moment"] Jft JdP
 Jg4:Addr
 Jga:FuncData
 Jer:Md K JZ "bid" "Game.bid" JgR ["self", "hand", "coins"] Jg4 Jga
 JdZ:Addr
 Jc6:FuncData
 Jb4:Md K JZ "answer" "Game.answer" JdG ["self", "hand", "coins"] JdZ Jc6
 Jge:Addr
 Jfk:FuncData
 Ja5:Md K JZ "step" "Game.step" Jf1 ["self", "hand", "place"] Jge Jfk
 Jgg:Addr
 Jfn:FuncData
 Jdo:Md K JZ "back" "Game.back" Jf4 ["self"] Jgg Jfn
 Jn3:Mk K JZ Jdm
 JaW:YS K JZ "board"
 Je4:YS K JZ "book"
 JaF:YS K JZ "done"
 Yp:YS K JZ "moments"
 JP:Addr
 Jom:mg "Board" = some (.ref JP)
 YQ:Cls K JP
 JcL:Addr
 JdS:FuncData
 JfE:Md K JP "__init__" "Board.__init__" JeV ["self", "places", "lanes", "goals"] JcL JdS
 Jbb:Addr
 JaP:FuncData
 Yc:Md K JP "check_place" "Board.check_place" Ja7 ["self", "place"] Jbb JaP
 Jfv:Addr
 JdR:FuncData
 YT:Md K JP "ways" "Board.ways" Jcs ["self", "place"] Jfv JdR
 JcK:Addr
 Jcc:FuncData
 Jbj:Md K JP "is_goal" "Board.is_goal" Jct ["self", "place"] JcK Jcc
 Jm0:Mk K JP JcL
 Jbh:YS K JP "places"
 JcW:YS K JP "lanes"
 JcX:YS K JP "goals"
 Jkh:ExC K Y2
 Jd3:ExC K J8
 Y5:ExC K Yi
 JlK:PySem.W.exmOne K (.ref Yi) (.ref Jav)=some true
 JlB:PySem.W.kitOne K (.ref Yi) (.type "ValueError")=some true
 Jeh:PySem.W.kitOne K (.ref Yi) (.ref Jco)=some false
 Jei:PySem.W.kitOne K (.ref Yi) (.ref Y2)=some false
 JcD:PySem.W.kitOne K (.ref Yi) (.ref J8)=some false
 JfN:PySem.W.kitOne K (.ref Yi) (.ref JeA)=some false
 Jef:PySem.W.kitOne K (.ref Yi) (.ref YM)=some false
 Jff:PySem.W.kitOne K (.ref Yi) (.ref Yi)=some true
 Jfe:PySem.W.kitOne K (.ref Yi) (.ref Yv)=some false
 Jfd:PySem.W.kitOne K (.ref Yi) (.ref Yl)=some false
 Jcn:PySem.W.kitOne K (.ref Yi) (.ref ZQ)=some false
 JfO:PySem.W.kitOne K (.ref Yi) (.ref JgC)=some false
 JgB:PySem.W.kitOne K (.ref Yi) (.ref JhN)=some false
 Jeg:PySem.W.kitOne K (.ref Yi) (.ref Jdu)=some false
 Y3:ExC K Yl
 JlI:PySem.W.exmOne K (.ref Yl) (.ref Jav)=some true
 Jlz:PySem.W.kitOne K (.ref Yl) (.type "ValueError")=some true
 Jd9:PySem.W.kitOne K (.ref Yl) (.ref Jco)=some false
 Jea:PySem.W.kitOne K (.ref Yl) (.ref Y2)=some false
 JcB:PySem.W.kitOne K (.ref Yl) (.ref J8)=some false
 JfJ:PySem.W.kitOne K (.ref Yl) (.ref JeA)=some false
 Jd7:PySem.W.kitOne K (.ref Yl) (.ref YM)=some false
 Je9:PySem.W.kitOne K (.ref Yl) (.ref Yi)=some false
 Je8:PySem.W.kitOne K (.ref Yl) (.ref Yv)=some false
 Je7:PySem.W.kitOne K (.ref Yl) (.ref Yl)=some true
 Jcl:PySem.W.kitOne K (.ref Yl) (.ref ZQ)=some false
 JfK:PySem.W.kitOne K (.ref Yl) (.ref JgC)=some false
 Jgz:PySem.W.kitOne K (.ref Yl) (.ref JhN)=some false
 Jd8:PySem.W.kitOne K (.ref Yl) (.ref Jdu)=some false
 Y4:ExC K Yv
 JlJ:PySem.W.exmOne K (.ref Yv) (.ref Jav)=some true
 JlA:PySem.W.kitOne K (.ref Yv) (.type "ValueError")=some true
 Jed:PySem.W.kitOne K (.ref Yv) (.ref Jco)=some false
 Jee:PySem.W.kitOne K (.ref Yv) (.ref Y2)=some false
 JcC:PySem.W.kitOne K (.ref Yv) (.ref J8)=some false
 JfL:PySem.W.kitOne K (.ref Yv) (.ref JeA)=some false
 Jeb:PySem.W.kitOne K (.ref Yv) (.ref YM)=some false
 Jfc:PySem.W.kitOne K (.ref Yv) (.ref Yi)=some false
 Jfb:PySem.W.kitOne K (.ref Yv) (.ref Yv)=some true
 Jfa:PySem.W.kitOne K (.ref Yv) (.ref Yl)=some false
 Jcm:PySem.W.kitOne K (.ref Yv) (.ref ZQ)=some false
 JfM:PySem.W.kitOne K (.ref Yv) (.ref JgC)=some false
 JgA:PySem.W.kitOne K (.ref Yv) (.ref JhN)=some false
 Jec:PySem.W.kitOne K (.ref Yv) (.ref Jdu)=some false
 JgI:ExC K ZQ
 Jsp:ExC K JeA
 Jkg:ExC K YM
 Jpo:ExC K Jco
def hs:Bool→Str
 | true => "north"
 | false => "south"
theorem JhQ (b:Bool):decide (V.str (hs b)=V.str "north")=b:=by cases b <;> decide +kernel
def Jg5 (ns:List Int) (k:Int):Int:=if k < ns.length then ns.getD k.toNat 0 else 0
def YG (z:Str):Prop:=z.length≤1000∧∀ c∈z.cps.toList,c < 16 ^ 8
theorem JfF {z:Str} (h:YG z):(reprText z).length≤10002:=Nat.le_trans (PySem.StrLaws.reprText_len z h.2) (by have:=h.1; omega)
def Jsv (z:Str):Bool:=decide (z.length≤1000) && z.cps.toList.all fun c=>decide (c < 16 ^ 8)
theorem JsQ {z:Str} (h:Jsv z=true):YG z:=by
 unfold Jsv at h;rw [Bool.and_eq_true] at h;exact ⟨of_decide_eq_true h.1,fun c hc=>of_decide_eq_true (List.all_eq_true.mp h.2 c hc)⟩
def Jaw (z:Str):Bool:=z == "north" || z == "south"
theorem Zq (b:Bool):Jaw (hs b)=true:=by cases b <;> decide +kernel
theorem JeE {z:Str} (h:Jaw z=true):∃ b,z=hs b:=by
 unfold Jaw at h;rcases Bool.or_eq_true_iff.mp h with q | q
 ·exact ⟨true,beq_iff_eq.mp q⟩
 ·exact ⟨false,beq_iff_eq.mp q⟩
theorem Jqt (z:Str):inV (.str z) [.str "north",.str "south"]=Jaw z:=by
 have h:∀ a b:Str,(a == b)=(b == a):=fun a b=>by rw [Bool.eq_iff_iff,beq_iff_eq,beq_iff_eq]; exact eq_comm
 show ((("north" : Str) == z) || ((("south" : Str) == z) || false))=(z == "north" || z == "south")
 rw [Bool.or_false,h "north" z,h "south" z]
theorem Ze (b:Bool):YG (hs b):=JsQ (by cases b <;> decide +kernel)
theorem lt1 (a b:Nat):decide ([a] < [b])=decide (a < b):=by
 rw [Bool.eq_iff_iff,decide_eq_true_eq,decide_eq_true_eq];constructor
 ·intro h;cases h with
  | rel h=>exact h
  | cons h=>cases h
 ·exact fun h=>.rel h
def Jal (c:Nat):Bool:=decide (97≤c) && decide (c≤122)
def Jac (z:Str):Bool:=decide (1≤z.length) && decide (z.length≤6) && z.cps.toList.all Jal
theorem Jm8 {z:Str} (h:Jac z=true):tm 6 z:=by
 unfold Jac at h;rw [Bool.and_eq_true,Bool.and_eq_true,decide_eq_true_eq,decide_eq_true_eq] at h;refine ⟨h.1.2,fun c hc=>?_⟩;have z:=List.all_eq_true.mp h.2 c hc;unfold Jal at z;rw [Bool.and_eq_true,decide_eq_true_eq,decide_eq_true_eq] at z;have:c≤122:=z.2;omega
theorem YO {z:Str} (h:Jac z=true):YG z:=(Jm8 h).mono (by decide)
structure Jdf (ps:List Str) (zs:List (Str×Str)) (gs:List Str):Prop where
 p1:1≤ps.length
 p2:ps.length≤12
 p3:∀ p∈ps,Jac p=true
 p4:ps.Nodup
 l1:zs.length≤40
 l2:∀ z∈zs,z.1∈ps∧z.2∈ps
 l3:zs.Nodup
 g1:∀ g∈gs,g∈ps
 g2:gs.Nodup
theorem Jdf.glen {ps:List Str} {zs:List (Str×Str)} {gs:List Str} (G:Jdf ps zs gs):gs.length≤12:=by
 have:∀ {l r:List Str},l.Nodup→(∀ x∈l,x∈r)→l.length≤r.length:=by
  intro l
  induction l with
  | nil=>exact fun _ _=>Nat.zero_le _
  | cons x l ih =>
   intro r hn hs
   classical
   have hx:=hs x (List.mem_cons_self ..);have h1:=List.nodup_cons.mp hn;obtain ⟨r1,r2,rfl⟩:=List.append_of_mem hx;have z:=ih (r:=r1 ++ r2) h1.2 fun y hy=>by
    have:=hs y (List.mem_cons_of_mem _ hy);simp only [List.mem_append,List.mem_cons] at this ⊢;rcases this with q | q | q
    ·exact .inl q
    ·subst q; exact absurd hy h1.1
    ·exact .inr q
   simp only [List.length_append,List.length_cons] at z ⊢;omega
 exact Nat.le_trans (this G.g2 G.g1) G.p2
theorem Jfg (z:Str) (ps:List Str):inV (.str z) (ps.map V.str)=decide (z∈ps):=by
 rw [Bool.eq_iff_iff,decide_eq_true_eq];unfold inV;rw [List.any_eq_true];constructor
 ·rintro ⟨v,hv,e⟩;obtain ⟨y,hy,rfl⟩:=List.mem_map.mp hv;have e':(y == z)=true:=e;rw [← beq_iff_eq.mp e'];exact hy
 ·intro h;exact ⟨.str z,List.mem_map.mpr ⟨z,h,rfl⟩,beq_iff_eq.mpr rfl⟩
theorem Jdv (ps:List Str):(ps.map V.str).all JbG=true:=by
 rw [List.all_map,List.all_eq_true];exact fun _ _=>rfl
def JkH (p:Str×Str):List J0:=[.inr p.1,.inr p.2]
theorem JrL {p q:Str×Str} (h:JkH p=JkH q):p=q:=by
 unfold JkH at h;simp only [List.cons.injEq,Sum.inr.injEq,and_true] at h;exact Prod.ext h.1 h.2
theorem JnJ {zs:List (Str×Str)} (h:zs.Nodup):(zs.map JkH).Nodup:=by
 rw [List.Nodup,List.pairwise_map];exact List.Pairwise.imp (fun hne e=>hne (JrL e)) h
theorem JoQ {K:PySem.W.Frag} {H:Hp} {zs:List (V×(Str×Str))} (h:ZI K H zs):JgJ K H (zs.map (·.1)) ((zs.map (·.2)).map JkH):=by
 refine ⟨by simp,fun i v ks hv hk=>?_⟩;rw [List.getElem?_map] at hv;obtain ⟨z,hz,rfl⟩:=Option.map_eq_some_iff.mp hv;rw [List.getElem?_map,List.getElem?_map,hz] at hk;have hk':JkH z.2=ks:=Option.some.inj hk;rw [← hk'];exact h z (List.mem_of_getElem? hz)
theorem JaO {K:PySem.W.Frag} {H H':Hp} {zs:List (V×(Str×Str))} (h:ZI K H zs) (e:Jh H H'):ZI K H' zs:=fun z hz=>let ⟨a,h1,h2⟩:=h z hz; ⟨a,h1,e.tup h2⟩
def JbI (K:PySem.W.Frag) (C:Addr) (H:Hp) (b:Addr) (ps:List Str) (zs:List (V×(Str×Str))) (gs:List Str):Prop :=
 ∃ dx tp tl tg,H b=some (.ins C dx [("places",.ref tp),("lanes",.ref tl),("goals",.ref tg)])∧H tp=some (.tup (ps.map V.str))∧H tl=some (.tup (zs.map (·.1)))∧ZI K H zs∧H tg=some (.tup (gs.map V.str))
theorem JbI.same {K:PySem.W.Frag} {C:Addr} {H H':Hp} {b:Addr} {ps:List Str} {zs:List (V×(Str×Str))} {gs:List Str} (h:JbI K C H b ps zs gs) (e:Jh H H'):JbI K C H' b ps zs gs :=
 let ⟨dx,tp,tl,tg,h1,h2,h3,h4,h5⟩:=h; ⟨dx,tp,tl,tg,e _ _ h1,e _ _ h2,e _ _ h3,JaO h4 e,e _ _ h5⟩
def YY (b:Addr) (H H':Hp):Prop:=∀ a u,a≠b→H a=some u→H' a=some u
theorem YY.of {b:Addr} {H H':Hp} (e:Jh H H'):YY b H H':=fun a u _ h=>e a u h
theorem YY.trans {b:Addr} {H H' H2:Hp} (e:YY b H H') (e2:YY b H' H2):YY b H H2:=fun a u hn h=>e2 a u hn (e a u hn h)
theorem YY.put {b:Addr} {H:Hp} {o:HO}:YY b H (upd H b o):=fun a u hn h=>by rw [JB hn]; exact h
theorem YY.seq {K:PySem.W.Frag} {b l C dx:Addr} {fs:List (Str×V)} {H H':Hp} {xs:List V} (e:YY b H H') (hb:H b=some (.ins C dx fs)) (h:JC K H l xs):JC K H' l xs:=by
 rcases h with (h | ⟨o,h⟩) | h
 ·exact .inl (.inl (e _ _ (Jat h hb (fun z=>nomatch z)) h))
 ·exact .inl (.inr ⟨o,e _ _ (Jat h hb (fun z=>nomatch z)) h⟩)
 ·exact .inr h
theorem YY.tup {K:PySem.W.Frag} {b l C dx:Addr} {fs:List (Str×V)} {H H':Hp} {xs:List V} (e:YY b H H') (hb:H b=some (.ins C dx fs)) (h:JL K H l xs):JL K H' l xs:=by
 rcases h with (h | ⟨o,h⟩) | h
 ·exact .inl (.inl (e _ _ (Jat h hb (fun z=>nomatch z)) h))
 ·exact .inl (.inr ⟨o,e _ _ (Jat h hb (fun z=>nomatch z)) h⟩)
 ·exact .inr h
def Js5:Sp:=fun vs H Q _=>∃ z:Str,vs=[.str z]∧z.length≤1000∧∀ H',Jh H H'→Q (.bl (Jac z)) H'
def JsY (K:PySem.W.Frag):Sp:=fun vs H Q _=>∃ l:Addr,vs=[.ref l]∧((∃ ss:List Str,JC K H l (ss.map V.str)∧ss.length≤64∧ss.Nodup)∨(∃ (us:List V) (kss:List (List J0)),JC K H l us∧JgJ K H us kss∧kss.length≤64∧kss.Nodup))∧∀ H',Jh H H'→Q .non H'
def Jrr (K:PySem.W.Frag) (k:Addr):Sp:=fun vs H Q E=>∃ (z:Str) (t:Addr) (ps:List Str),vs=[.str z,.ref t]∧YG z∧(JC K H t (ps.map V.str)∨JL K H t (ps.map V.str))∧(z∈ps→Q .non H)∧(z∉ps→E (.ref k) none H)
def JoA (K:PySem.W.Frag):Sp:=fun vs H Q _=>∃ (l:Addr) (ps:List Str),vs=[.ref l]∧JC K H l (ps.map V.str)∧1≤ps.length∧ps.length≤12∧(∀ p∈ps,Jac p=true)∧ps.Nodup∧∀ H',Jh H H'→Q .non H'
def JpO (K:PySem.W.Frag):Sp:=fun vs H Q _=>∃ (l lp:Addr) (zs:List (V×(Str×Str))) (ps:List Str),vs=[.ref l,.ref lp]∧JC K H l (zs.map (·.1))∧ZI K H zs∧JC K H lp (ps.map V.str)∧(∀ p∈ps,YG p)∧zs.length≤40∧(∀ z∈zs,z.2.1∈ps∧z.2.2∈ps)∧(zs.map (·.2)).Nodup∧∀ H',Jh H H'→Q .non H'
def JpP (K:PySem.W.Frag):Sp:=fun vs H Q _=>∃ (l lp:Addr) (gs ps:List Str),vs=[.ref l,.ref lp]∧JC K H l (gs.map V.str)∧JC K H lp (ps.map V.str)∧(∀ p∈ps,YG p)∧gs.length≤64∧(∀ g∈gs,g∈ps)∧gs.Nodup∧∀ H',Jh H H'→Q .non H'
def JnU (K:PySem.W.Frag) (C:Addr):Sp:=fun vs H Q _=>∃ (b lp ll lg dx:Addr) (ps:List Str) (zs:List (V×(Str×Str))) (gs:List Str),vs=[.ref b,.ref lp,.ref ll,.ref lg]∧H b=some (.ins C dx [])∧JC K H lp (ps.map V.str)∧JC K H ll (zs.map (·.1))∧ZI K H zs∧JC K H lg (gs.map V.str)∧Jdf ps (zs.map (·.2)) gs ∧
 ∀ H' ps' zs' gs',YY b H H'→ps'.Perm ps→ps'.Pairwise sle→zs'.Perm zs→(zs'.map (·.2)).Pairwise ple→gs'.Perm gs→gs'.Pairwise sle→JbI K C H' b ps' zs' gs'→Q .non H'
def JpN (K:PySem.W.Frag) (C k:Addr):Sp:=fun vs H Q E=>∃ (b:Addr) (z:Str) (ps:List Str) (zs:List (V×(Str×Str))) (gs:List Str),vs=[.ref b,.str z]∧YG z∧JbI K C H b ps zs gs∧(z∈ps→Q .non H)∧(z∉ps→E (.ref k) none H)
def Jy (zs:List (Str×Str)) (p:Str):List Str:=(zs.filter fun z=>decide (z.1=p)).map (·.2)
def JsT (K:PySem.W.Frag) (C k:Addr):Sp:=fun vs H Q E=>∃ (b:Addr) (z:Str) (ps:List Str) (zs:List (V×(Str×Str))) (gs:List Str),vs=[.ref b,.str z]∧YG z∧zs.length≤40∧JbI K C H b ps zs gs∧(z∈ps→∀ t H',Jh H H'→H' t=some (.tup ((Jy (zs.map (·.2)) z).map V.str))→Q (.ref t) H')∧(z∉ps→E (.ref k) none H)
def JpH (K:PySem.W.Frag) (C k:Addr):Sp:=fun vs H Q E=>∃ (b:Addr) (z:Str) (ps:List Str) (zs:List (V×(Str×Str))) (gs:List Str),vs=[.ref b,.str z]∧YG z∧JbI K C H b ps zs gs∧(z∈ps→Q (.bl (decide (z∈gs))) H)∧(z∉ps→E (.ref k) none H)
def Ju3 (K:PySem.W.Frag):Sp:=fun vs H Q _=>∃ (a:Addr) (ns:List Int) (k:Int),vs=[.ref a,.int k]∧JC K H a (ns.map V.int)∧0≤k∧Q (.int (Jg5 ns k)) H
def JoB (K:PySem.W.Frag):Sp:=fun vs H Q _=>∃ (a:Addr) (ns:List Int),vs=[.ref a]∧JC K H a (ns.map V.int)∧ns.length≤63∧∀ H',Q (.bl true) H'
def JtW:Sp:=fun vs H Q _=>∃ (c:Int) (n:Nat) (b:Int),vs=[.int c,.int n,.int b]∧n≤1000∧0 < b∧b < 1000000∧∀ (p:Addr) (xs:List Int) (H':Hp),H p=none→Jh H H'→H' p=some (.lst (xs.map V.int))→xs.length=n→(∀ x∈xs,0≤x∧x < b)→Q (.ref p) H'
theorem JhB {α:Type}:∀ {l r:List α},l.Nodup→(∀ x∈l,x∈r)→l.length≤r.length
 | [],_,_,_=>Nat.zero_le _
 | x :: l,r,hn,hs=>by
  have hx:=hs x (List.mem_cons_self ..);have h1:=List.nodup_cons.mp hn;obtain ⟨r1,r2,rfl⟩:=List.append_of_mem hx;have z:=JhB (l:=l) (r:=r1 ++ r2) h1.2 fun y hy=>by
   have:=hs y (List.mem_cons_of_mem _ hy);simp only [List.mem_append,List.mem_cons] at this ⊢;rcases this with q | q | q
   ·exact .inl q
   ·subst q; exact absurd hy h1.1
   ·exact .inr q
  simp only [List.length_append,List.length_cons] at z ⊢;omega
theorem JeB {xs:List Int} {e:Int} (h0:0≤e) (h1:e < xs.length):∃ y,atI (xs.map V.int) e=some (.int y)∧y∈xs:=by
 obtain ⟨j,rfl⟩:∃ j:Nat,e=(j:Int):=⟨e.toNat,by omega⟩
 have hj:j < xs.length:=by omega
 exact ⟨xs[j],Zr (by rw [List.getElem?_map,List.getElem?_eq_getElem hj]; rfl),List.getElem_mem hj⟩
def LT:Str := "abcdefghijklmnopqrstuvwxyz"
theorem Jly {j:Int} (h0:0≤j) (h1:j < 26):atI LT.cps.toList j=some (97 + j.toNat):=by
 obtain ⟨i,rfl⟩:∃ i:Nat,j=(i:Int):=⟨j.toNat,by omega⟩
 have hi:i < 26:=by omega
 refine Zr ?_;rw [Int.toNat_natCast];have z:∀ i,i < 26→LT.cps.toList[i]?=some (97 + i):=by decide +kernel
 exact z i hi
theorem Jq1:LT.length≤sizeLine:=by decide +kernel
theorem Jmu {j:Nat} (h:j < 26):Jal (97 + j)=true:=by
 unfold Jal;rw [decide_eq_true (by omega),decide_eq_true (by omega)]; rfl
theorem JjZ:∀ {ys:List Str},(∀ y∈ys,∃ c,y=⟨#[c]⟩∧Jal c=true)→(Str.join Str.empty ys).length=ys.length∧∀ c∈(Str.join Str.empty ys).cps.toList,Jal c=true
 | [],_=>⟨rfl,fun c hc=>by simp [Str.join,Str.empty] at hc⟩
 | [y],h=>by
  obtain ⟨c,rfl,hc⟩:=h y (List.mem_cons_self ..);exact ⟨rfl,fun d hd=>by
   have e:d=c:=by simpa [Str.join] using hd
   rw [e]; exact hc⟩
 | y :: x :: r,h=>by
  obtain ⟨c,rfl,hc⟩:=h y (List.mem_cons_self ..);obtain ⟨a,b⟩:=JjZ (ys:=x :: r) fun q hq=>h q (List.mem_cons_of_mem _ hq)
  have e:Str.join Str.empty (⟨#[c]⟩ :: x :: r)=(⟨#[c]⟩:Str) ++ Str.empty ++ Str.join Str.empty (x :: r):=rfl;rw [e];refine ⟨?_,fun d hd=>?_⟩
  ·rw [strLen_append,strLen_append,a];simp only [List.length_cons];show 1 + 0 + _=_;omega
  ·rcases PyProof.Rows.mem_cps_append.mp hd with q | q
   ·rcases PyProof.Rows.mem_cps_append.mp q with q | q
    ·have e2:d=c:=by simpa using q
     rw [e2]; exact hc
    ·simp [Str.empty] at q
   ·exact b d q
def nam (hd:Str) (j:Nat):Str:=hd ++ ⟨#[97 + j]⟩
theorem JrY {hd:Str} {j:Nat} (h1:hd.length≤5) (h2:∀ c∈hd.cps.toList,Jal c=true) (hj:j < 26):Jac (nam hd j)=true:=by
 unfold Jac nam;have e:(hd ++ (⟨#[97 + j]⟩:Str)).length=hd.length + 1:=by rw [strLen_append]; rfl
 rw [Bool.and_eq_true,Bool.and_eq_true,decide_eq_true_eq,decide_eq_true_eq,e,List.all_eq_true];refine ⟨⟨by omega,by omega⟩,fun c hc=>?_⟩;rcases PyProof.Rows.mem_cps_append.mp hc with q | q
 ·exact h2 c q
 ·have e2:c=97 + j:=by simpa using q
  rw [e2]; exact Jmu hj
theorem Jtw {hd:Str} {i j:Nat} (h:nam hd i=nam hd j):i=j:=by
 have e:(hd.cps ++ #[97 + i])=(hd.cps ++ #[97 + j]):=congrArg Str.cps h;have e2:=congrArg Array.toList e;rw [Array.toList_append,Array.toList_append] at e2;have e3:=List.append_cancel_left e2;simp at e3;omega
theorem JrZ {hd:Str} {x:Int} {ss:List Str} (h:ss.length < 26) (hx:∀ m:Nat,m < 26→nam hd ((x + m) % 26).toNat∈ss):False:=by
 have nd:((List.range 26).map fun m=>nam hd ((x + (m:Nat)) % 26).toNat).Nodup:=by
  rw [List.Nodup,List.pairwise_map];refine List.Pairwise.imp_of_mem ?_ (List.pairwise_lt_range (n:=26));intro a b ha hb hlt e;have e2:=Jtw e;have:=List.mem_range.mp ha;have:=List.mem_range.mp hb;have h1:=Int.emod_nonneg (x + (a:Nat)) (b:=26) (by decide);have h2:=Int.emod_nonneg (x + (b:Nat)) (b:=26) (by decide);omega
 have z:=JhB (r:=ss) nd fun y hy=>by
  obtain ⟨m,hm,rfl⟩:=List.mem_map.mp hy;exact hx m (List.mem_range.mp hm)
 rw [List.length_map,List.length_range] at z;omega
theorem Joh {xs:List Int} {k:Int} (h0:0≤k) (h1:k≤xs.length):((ZR (xs.map V.int) none (some k)).length:Int)=k:=by
 unfold ZR;rw [List.length_map,HT.JmI];show ((List.take ((if k < 0 then _ else _) - 0) _).length:Int)=k;rw [if_neg (by omega),List.length_take,List.length_drop,List.length_map];omega
theorem Jnp {xs:List Int} {lo hi:Option Int}:∃ ys:List Int,ZR (xs.map V.int) lo hi=ys.map V.int∧∀ y∈ys,y∈xs:=by
 refine ⟨(xs.drop (HT.Yz xs.length 0 lo)).take (HT.Yz xs.length xs.length hi - HT.Yz xs.length 0 lo),?_,fun y hy=>List.mem_of_mem_drop (List.mem_of_mem_take hy)⟩;unfold ZR;rw [List.length_map,List.map_take,List.map_drop]
def Jrg:Sp:=fun vs H Q _=>∃ (c:Int) (n:Nat),vs=[.int c,.int n]∧1≤n∧n≤12∧∀ (p:Addr) (ss:List Str) (H':Hp),H p=none→Jh H H'→H' p=some (.lst (ss.map V.str))→ss.length=n→(∀ s∈ss,Jac s=true)→ss.Nodup→Q (.ref p) H'
def Jq2 (K:PySem.W.Frag) (H:Hp) (zs:List (V×(Int×Int))):Prop:=∀ z∈zs,∃ a,z.1=.ref a∧JL K H a [.int z.2.1,.int z.2.2]
def JhP (p:Int×Int):List J0:=[.inl p.1,.inl p.2]
theorem Jr5 {p q:Int×Int} (h:JhP p=JhP q):p=q:=by
 unfold JhP at h;simp only [List.cons.injEq,Sum.inl.injEq,and_true] at h;exact Prod.ext h.1 h.2
theorem JnO {K:PySem.W.Frag} {H:Hp} {zs:List (V×(Int×Int))} (h:Jq2 K H zs):JgJ K H (zs.map (·.1)) ((zs.map (·.2)).map JhP):=by
 refine ⟨by simp,fun i v ks hv hk=>?_⟩;rw [List.getElem?_map] at hv;obtain ⟨z,hz,rfl⟩:=Option.map_eq_some_iff.mp hv;rw [List.getElem?_map,List.getElem?_map,hz] at hk;have hk':JhP z.2=ks:=Option.some.inj hk;rw [← hk'];exact h z (List.mem_of_getElem? hz)
structure PW (K:PySem.W.Frag) (H0:Hp) (pl:Addr) (size:Nat) (H:Hp) (zs:List (V×(Int×Int))):Prop where
 sm:Jh H0 H
 at_:H pl=some (.lst (zs.map (·.1)))
 ip:Jq2 K H zs
 nd:(zs.map (·.2)).Nodup
 rg:∀ z∈zs,(0≤z.2.1∧z.2.1 < size)∧(0≤z.2.2∧z.2.2 < size)
theorem PW.add {K:PySem.W.Frag} {H0:Hp} {pl:Addr} {size:Nat} {H H':Hp} {zs:List (V×(Int×Int))} (h:PW K H0 pl size H zs) (n0:H0 pl=none) (e:Jh H H') {t:Addr} {a b:Int} (ht:H' t=some (.tup [.int a,.int b]))
  (hn:(a,b)∉zs.map (·.2)) (hr:(0≤a∧a < size)∧(0≤b∧b < size)):PW K H0 pl size (upd H' pl (.lst (zs.map (·.1) ++ [.ref t]))) (zs ++ [(.ref t,(a,b))]):=by
 have hp':=e _ _ h.at_;have tup:∀ {a:Addr} {xs:List V},JL K H' a xs→JL K (upd H' pl (.lst (zs.map (·.1) ++ [.ref t]))) a xs:=fun {a xs} q=>by
  rcases q with (q | ⟨o,q⟩) | q
  ·exact .inl (.inl (by rw [JB (Jat q hp' (fun z=>nomatch z))]; exact q))
  ·exact .inl (.inr ⟨o,by rw [JB (Jat q hp' (fun z=>nomatch z))]; exact q⟩)
  ·exact .inr q
 refine ⟨fun b' u q=>?_,by rw [Ji,List.map_append]; rfl,fun z hz=>?_,?_,fun z hz=>?_⟩
 ·rw [JB (JD q n0)]; exact e _ _ (h.sm _ _ q)
 ·rcases List.mem_append.mp hz with q | q
  ·obtain ⟨c,h1,h2⟩:=h.ip z q;exact ⟨c,h1,tup (e.tup h2)⟩
  ·rw [List.mem_singleton.mp q];exact ⟨t,rfl,tup (JL.of ht)⟩
 ·rw [List.map_append,List.nodup_append];refine ⟨h.nd,by simp,fun x hx y hy q=>?_⟩;have hy':y=(a,b):=by simpa using hy
  rw [q,hy'] at hx;exact hn hx
 ·rcases List.mem_append.mp hz with q | q
  ·exact h.rg z q
  ·rw [List.mem_singleton.mp q]; exact hr
def Jrd (K:PySem.W.Frag):Sp:=fun vs H Q _=>∃ (c d:Int) (n:Nat),vs=[.int c,.int d,.int n]∧1≤n∧n≤12∧∀ (p:Addr) (zs:List (V×(Int×Int))) (H':Hp),H p=none→PW K H p n H' zs→zs.length≤40→Q (.ref p) H'
section
variable {P:Program} {w:World} {K:PySem.W.Frag} {mg:Str→Option Value} {base:Heap}
theorem Jbg (T:Txt K mg):JK P w K mg base YB 1 T.Jsd T.Jo6 ["_law_script", "_law_k"] (Ju3 K):=by
 refine T.JbU.F.ok Ju4 (fun vs H Q E h=>?_) (fun cdv A outer s H vs Q E hr h=>?_)
 ·obtain ⟨a,ns,k,rfl,_⟩:=h;rfl
 ·obtain ⟨a,ns,k,rfl,hS,h0,q⟩:=h;refine ⟨_,(@Jd _ _ _ _ _ (@JH _ _ _ _ _ _ _ _ (@Js _ _ _ _ _ _ _ _ (@Jen _) (@pv _ 1 _ _ rfl (.inl rfl) rfl rfl) (@JF _ _ _ _ _ _ _ _ _ (@Yh _) rfl T.Zy PySem.boot_len (@Ja _ _ _ _ _ (@pv _ 0 _ _ rfl (.inl rfl) rfl rfl) (@Jc _) rfl) (by decide) (by decide) rfl rfl) (JE _)) (@Jg _ _ _ (@Jn _ _ _ _ (@JG _ _ _ _ _ _ _ (@JU _) (@pv _ 0 _ _ rfl (.inl rfl) rfl rfl) (@pv _ 1 _ _ rfl (.inl rfl) rfl rfl) (fun _ _=>rfl)))) (@Jp _)) (@Jg _ _ _ (@Jn _ _ _ _ (@Je _ _ _ _)))),?_⟩;refine ⟨_,rfl,_,rfl,a,_,rfl,.inl hS,_,_,rfl,rfl,_,rfl,?_⟩;rw [List.length_map];refine YV (fun c=>?_) (fun c=>?_)
  ·have c':k < ns.length:=of_decide_eq_true c;refine ⟨_,rfl,_,rfl,a,_,k,.int (Jg5 ns k),rfl,rfl,hS,?_,q⟩;obtain ⟨j,rfl⟩:∃ j:Nat,k=(j:Int):=⟨k.toNat,by omega⟩
   have hj:j < ns.length:=by omega
   refine Zr ?_;rw [List.getElem?_map];unfold Jg5;rw [if_pos c',Int.toNat_natCast,List.getD_eq_getElem?_getD,List.getElem?_eq_getElem hj];rfl
  ·have c':¬ k < ns.length:=fun z=>c (decide_eq_true z)
   have e:Jg5 ns k=0:=by unfold Jg5; rw [if_neg c']
   rw [e] at q;exact q
theorem JjO (T:Txt K mg):JK P w K mg base YB 1 T.Jo9 T.Jnb ["_law_cell", "_law_many", "_law_base"] JtW:=by
 refine T.Jiv.F.ok JeJ (fun vs H Q E h=>?_) (fun cdv A outer s H vs Q E hr h=>?_)
 ·obtain ⟨_,_,_,rfl,_⟩:=h;rfl
 ·obtain ⟨c,n,b,rfl,hn,hb0,hb1,q⟩:=h;refine ⟨_,(@Jd _ _ _ _ _ (@Jr _ _ 3 _ _ _ _ JeJ.nd rfl (Or.inl rfl) (@Jm _ _ _ _ _ _ _ _ (@YU _) (@pv _ 0 _ _ rfl (.inl rfl) rfl rfl) (@Je _ _ _ _)) rfl (.inl rfl)) (@Jd _ _ _ _ _ (@Jr _ _ 4 _ _ _ _ JeJ.nd rfl (Or.inl rfl) (@Jm _ _ _ _ _ _ _ _ (@JV _) (@pv _ 0 _ _ rfl (.inl rfl) rfl rfl) (@Je _ _ _ _)) rfl (.inl rfl)) (@Jd _ _ _ _ _ (@Jr _ _ 5 _ _ _ _ JeJ.nd rfl (Or.inl rfl) (@YX _ _ _ _ (@Jc _)) rfl (.inl rfl)) (@Jd _ _ _ _ _ (@Zn _ _ _ _ _ _ _ _ PassesOwn.never rfl (@ZL _ _ _ _ _ _ rfl T.Z3 (@Ja _ _ _ _ _ (@pv _ 1 _ _ rfl (.inl rfl) rfl rfl) (@Jc _) rfl) rfl) (@JQ _ _ 6 _ JeJ.nd rfl (Or.inl rfl) (.inl rfl)) (@Jd _ _ _ _ _ (@Jr _ _ 4 _ _ _ _ JeJ.nd rfl (Or.inl rfl) (@Jm _ _ _ _ _ _ _ _ (@JV _) (@Jm _ _ _ _ _ _ _ _ (@J3 _) (@Jm _ _ _ _ _ _ _ _ (@J3 _) (@Jm _ _ _ _ _ _ _ _ (@JaU _) (@pv _ 4 _ _ rfl (.inl rfl) rfl rfl) (@Je _ _ _ _)) (@Jm _ _ _ _ _ _ _ _ (@JaU _) (@Je _ _ _ _) (@pv _ 6 _ _ rfl (.inl rfl) rfl rfl))) (@Je _ _ _ _)) (@Je _ _ _ _)) rfl (.inl rfl)) (@Jd _ _ _ _ _ (@JH _ _ _ _ _ _ _ _ (@Js _ _ _ _ _ _ _ _ (@Yg _) (@Jm _ _ _ _ _ _ _ _ (@JV _) (@pv _ 0 _ _ rfl (.inl rfl) rfl rfl) (@Je _ _ _ _)) (@Je _ _ _ _) (JE _)) (@Jg _ _ _ (@JJ _ _ _ _ (@JbC _ _ _ _ _ _ _ _ _ _ _ _ PySem.F.plainAttrs_list PySem.F.slot_list_append PySem.F.type_list_append (@Zp _) (@pv _ 5 _ _ rfl (.inl rfl) rfl rfl) (@Ja _ _ _ _ _ (@Jm _ _ _ _ _ _ _ _ (@JV _) (@pv _ 3 _ _ rfl (.inl rfl) rfl rfl) (@pv _ 2 _ _ rfl (.inl rfl) rfl rfl)) (@Jc _) rfl) rfl rfl rfl rfl rfl) rfl)) (@Jg _ _ _ (@JJ _ _ _ _ (@JbC _ _ _ _ _ _ _ _ _ _ _ _ PySem.F.plainAttrs_list PySem.F.slot_list_append PySem.F.type_list_append (@Zp _) (@pv _ 5 _ _ rfl (.inl rfl) rfl rfl) (@Ja _ _ _ _ _ (@Jm _ _ _ _ _ _ _ _ (@JV _) (@Jm _ _ _ _ _ _ _ _ (@J3 _) (@Jm _ _ _ _ _ _ _ _ (@YU _) (@pv _ 4 _ _ rfl (.inl rfl) rfl rfl) (@Je _ _ _ _)) (@Jm _ _ _ _ _ _ _ _ (@JV _) (@Jm _ _ _ _ _ _ _ _ (@JaU _) (@pv _ 4 _ _ rfl (.inl rfl) rfl rfl) (@Je _ _ _ _)) (@Je _ _ _ _))) (@pv _ 2 _ _ rfl (.inl rfl) rfl rfl)) (@Jc _) rfl) rfl rfl rfl rfl rfl) rfl))) (@Jg _ _ _ (@Jr _ _ 3 _ _ _ _ JeJ.nd rfl (Or.inl rfl) (@Jm _ _ _ _ _ _ _ _ (@YU _) (@pv _ 3 _ _ rfl (.inl rfl) rfl rfl) (@pv _ 2 _ _ rfl (.inl rfl) rfl rfl)) rfl (.inl rfl))))) (by intro _; rfl)) (@Jg _ _ _ (@Jn _ _ _ _ (@pv _ 5 _ _ rfl (.inl rfl) rfl rfl))))))),?_⟩
  try dsimp only [cxK,Jdd]
  refine ⟨_,rfl,_,_,rfl,rfl,⟨by decide,by decide⟩,_,rfl,_,_,rfl,rfl,(by show (0:Int) < 2147483647; decide),by show 0≤sizeLine; decide,fun p hp=>?_⟩;have hs0:n < sizeLine:=Nat.lt_of_le_of_lt hn (by decide);refine ⟨_,rfl,(n:Int),rfl,by omega,by omega,?_⟩;refine ZY (n:=n) (fun i σ H2=>∃ (r m:Int) (xs:List Int) (v:Option V),Jh H H2∧H2 p=some (.lst (xs.map V.int))∧xs.length=i∧(∀ x∈xs,0≤x∧x < b)∧σ=[some (.int c),some (.int n),some (.int b),some (.int r),some (.int m),some (.ref p),v])
   ⟨_,_,[],none,Jh.upd hp,Ji,rfl,(fun x hx=>nomatch hx),rfl⟩ ?_ ?_
  ·rintro i σ H2 hi ⟨r,m,xs,v,e,hx,hl,hr,rfl⟩;have add:∀ x:Int,0≤x∧x < b→Jh H (upd H2 p (.lst (xs.map V.int ++ [.int x])))∧upd H2 p (.lst (xs.map V.int ++ [.int x])) p=some (.lst ((xs ++ [x]).map V.int))∧(xs ++ [x]).length=i + 1∧∀ y∈xs ++ [x],0≤y∧y < b:=fun x h=>by
    refine ⟨fun b' u q=>?_,by rw [Ji,List.map_append]; rfl,by simp [hl],fun y hy=>?_⟩
    ·rw [JB (JD q hp)]; exact e b' u q
    ·rcases List.mem_append.mp hy with z | z
     ·exact hr y z
     ·rw [List.mem_singleton.mp z]; exact h
   refine ⟨_,rfl,_,_,rfl,rfl,.inr ⟨by decide,by decide⟩,_,rfl,_,_,rfl,rfl,.inl ⟨by decide,by decide⟩,_,_,rfl,rfl,_,_,rfl,rfl,_,_,rfl,rfl,(by show (0:Int) < 2147483647; decide),?_⟩;have hxl:(xs.map V.int).length < sizeLine:=by rw [List.length_map]; omega
   refine ⟨_,rfl,_,_,rfl,rfl,(by show (0:Int) < 2; decide),rfl,_,rfl,YV (fun _=>?_) (fun _=>?_)⟩
   ·refine ⟨_,rfl,.inl ⟨rfl,_,JC.of hx⟩,_,rfl,_,rfl,_,_,rfl,rfl,hb0,p,_,_,rfl,rfl,hx,hxl,?_⟩;refine ⟨_,rfl,_,rfl,_,_,rfl,rfl,⟨hb0,by show b < 1073741824; omega⟩,?_⟩;obtain ⟨a1,a2,a3,a4⟩:=add (r % b) ⟨Int.emod_nonneg _ (by omega),Int.emod_lt_of_pos _ hb0⟩;exact ⟨_,_,xs ++ [r % b],_,a1,a2,a3,a4,rfl⟩
   ·refine ⟨_,rfl,.inl ⟨rfl,_,JC.of hx⟩,_,rfl,_,_,rfl,rfl,⟨by decide,by decide⟩,_,rfl,_,_,rfl,rfl,.inr ⟨by decide,by decide⟩,_,_,rfl,rfl,(by show (0:Int) < 2147483647; decide),_,_,rfl,rfl,_,rfl,_,_,rfl,rfl,hb0,p,_,_,rfl,rfl,hx,hxl,?_⟩;refine ⟨_,rfl,_,rfl,_,_,rfl,rfl,⟨hb0,by show b < 1073741824; omega⟩,?_⟩;obtain ⟨a1,a2,a3,a4⟩:=add (((m * 48271 + 7 * (0 + (i:Int)) + 11) % 2147483647 / 8 + (m * 48271 + 7 * (0 + (i:Int)) + 11) % 2147483647 * 69621 % 2147483647) % b) ⟨Int.emod_nonneg _ (by omega),Int.emod_lt_of_pos _ hb0⟩;exact ⟨_,_,_,_,a1,a2,a3,a4,rfl⟩
  ·rintro σ H2 ⟨r,m,xs,v,e,hx,hl,hr,rfl⟩;exact ⟨_,rfl,q p xs H2 hp e hx hl hr⟩
theorem JmU (T:Txt K mg):JK P w K mg base YB 1 T.Jgb T.Jfh ["text"] Js5:=by
 refine T.Jgi.F.ok Jmw (fun vs H Q E h=>?_) (fun cdv A outer s H vs Q E hr h=>?_)
 ·obtain ⟨_,rfl,_⟩:=h;rfl
 ·obtain ⟨z,rfl,hz,q⟩:=h;have hzl:z.length≤sizeLine:=Nat.le_trans hz (by decide);refine ⟨_,(@Jd _ _ _ _ _ (@JH _ _ _ _ _ _ _ _ (@PW.pt _ _ _ (@ZX _ _ _ _ _ _ _ (@Js _ _ _ _ _ _ _ _ (@Jen _) (@JF _ _ _ _ _ _ _ _ _ (@Jh3 _) rfl T.Zy PySem.boot_len (@Ja _ _ _ _ _ (@pv _ 0 _ _ rfl (.inl rfl) rfl rfl) (@Jc _) rfl) (by decide) (by decide) rfl rfl) (@Je _ _ _ _) (JE _)) (@ZT _ _ _ _ (@Js _ _ _ _ _ _ _ _ (@Jeo _) (@JF _ _ _ _ _ _ _ _ _ (@Jh3 _) rfl T.Zy PySem.boot_len (@Ja _ _ _ _ _ (@pv _ 0 _ _ rfl (.inl rfl) rfl rfl) (@Jc _) rfl) (by decide) (by decide) rfl rfl) (@Ja1 _ _ _ _ _ rfl T.JcE T.Jcu (by decide)) (JE _))))) (@Jg _ _ _ (@Jn _ _ _ _ (@Jay _ _ _ _))) (@Jp _)) (@Jg _ _ _ (@Jn _ _ _ _ (@JF _ _ _ _ _ _ _ _ _ (@Jsl _ rfl) rfl T.JsF PyProof.Rows.boot_all (@Ja _ _ _ _ _ (@JgU _ _ _ _ _ _ _ 1 ["sign"] [] _ _ _ _ ["text"] ((Jl Jdj).names) (by decide +kernel) (@Jui _ _ _ _ (@pv _ 0 _ _ rfl (.inl rfl) rfl rfl)) (fun _ _ _ _=>(@JaT _ _ _ _ _ _ _ _ _ 0 (by decide +kernel) rfl rfl)) (fun _ _ _ _=>(@Jev _)) (fun _ _ _ _=>(@JrO _ _ _ _ _ _ _ _ _ _ _ _ (@Jls _) (@Jls _) (@Jz _ _ _ _) (@Z8 _ _ _ _ _ _ _ _ _ 0 rfl rfl (by decide) (by decide)) (@Jz _ _ _ _) (by with_unfolding_all rfl))) rfl rfl rfl (by intro _; rfl)) (@Jc _) rfl) (by decide) (by decide) rfl rfl)))),?_⟩;refine ⟨_,rfl,z,rfl,hzl,_,_,rfl,rfl,_,rfl,YV (fun c=>YD ?_) (fun c=>?_)⟩
  ·have c':(z.length:Int) < 1:=of_decide_eq_true c;have e:Jac z=false:=by unfold Jac; rw [decide_eq_false (by omega)]; rfl
   rw [← e];exact q H (Jh.refl _)
  refine ⟨_,rfl,z,rfl,hzl,_,_,rfl,rfl,_,rfl,YV (fun d=>?_) (fun d=>?_)⟩
  ·have d':(6:Int) < z.length:=of_decide_eq_true d;have e:Jac z=false:=by unfold Jac; rw [decide_eq_false (p:=z.length≤6) (by omega),Bool.and_false]; rfl
   rw [← e];exact q H (Jh.refl _)
  have c':¬ (z.length:Int) < 1:=fun w=>c (decide_eq_true w)
  have d':¬ (6:Int) < z.length:=fun w=>d (decide_eq_true w)
  have e:Jac z=z.cps.toList.all Jal:=by unfold Jac; rw [decide_eq_true (by omega),decide_eq_true (by omega)]; rfl
  refine ⟨_,rfl,z,rfl,fun D hD=>?_⟩;refine Jma (fun i v=>∃ c,z.cps[i]?=some c∧v=.bl (Jal c)) rfl hD hzl (fun i c H2 hc e2 Q' hQ=>?_) (fun ys H2 e2 hD2 hl hF=>?_)
  ·refine ⟨_,rfl,_,_,rfl,rfl,_,rfl,?_⟩;have e1:(!decide ([c] < [97]))=decide (97≤c):=by rw [lt1,Bool.eq_iff_iff]; simp
   have e2:(!decide ([122] < [c]))=decide (c≤122):=by rw [lt1,Bool.eq_iff_iff]; simp
   by_cases h1:97≤c
   ·refine YF (e1.trans (decide_eq_true h1)) ⟨_,_,rfl,rfl,?_⟩;refine hQ _ ⟨c,hc,congrArg V.bl (e2.trans ?_)⟩;unfold Jal;rw [decide_eq_true h1]; rfl
   ·refine Yb (e1.trans (decide_eq_false h1)) (hQ _ ⟨c,hc,congrArg V.bl ?_⟩);unfold Jal;rw [decide_eq_false h1]; rfl
  ·have hys:ys=(z.cps.toList.map Jal).map V.bl:=by
    apply List.ext_getElem?;intro i;by_cases hi:i < ys.length
    ·obtain ⟨c,h1,h2⟩:=hF i _ (List.getElem?_eq_getElem hi);rw [List.getElem?_eq_getElem hi,h2,List.getElem?_map,List.getElem?_map,Array.getElem?_toList,h1];rfl
    ·rw [List.getElem?_eq_none (by omega),List.getElem?_eq_none];rw [List.length_map,List.length_map,Array.length_toList];have e9:z.cps.size=z.length:=rfl;omega
   refine ⟨D,z.cps.toList.map Jal,rfl,by rw [← hys]; exact JC.of hD2,?_⟩;have e3:(z.cps.toList.map Jal).all id=Jac z:=by rw [e,List.all_map]; rfl
   rw [e3];exact q H2 e2
theorem Jbu (T:Txt K mg):JK P w K mg base YB 1 T.JbR T.Jby ["things"] (JsY K):=by
 refine T.ZW.F.ok Jhl (fun vs H Q E h=>?_) (fun cdv A outer s H vs Q E hr h=>?_)
 ·obtain ⟨_,rfl,_⟩:=h;rfl
 ·obtain ⟨l,rfl,hl,q⟩:=h;refine ⟨_,(@Jg _ _ _ (@JH _ _ _ _ _ _ _ _ (@Js _ _ _ _ _ _ _ _ (@Jen _) (@JF _ _ _ _ _ _ _ _ _ (@JnR _) rfl T.Zy PySem.boot_len (@Ja _ _ _ _ _ (@ZM _ _ _ _ _ _ _ _ _ (@JqP _ rfl hr.units) rfl T.JsD PyProof.Rows.boot_set (@Ja _ _ _ _ _ (@pv _ 0 _ _ rfl (.inl rfl) rfl rfl) (@Jc _) rfl) (by decide) (by decide) rfl rfl) (@Jc _) rfl) (by decide) (by decide) rfl rfl) (@JF _ _ _ _ _ _ _ _ _ (@Yh _) rfl T.Zy PySem.boot_len (@Ja _ _ _ _ _ (@pv _ 0 _ _ rfl (.inl rfl) rfl rfl) (@Jc _) rfl) (by decide) (by decide) rfl rfl) (JE _)) (@Jg _ _ _ (@JgS _ _)) (@Jp _))),?_⟩;rcases hl with ⟨ss,hS,hz,nd⟩ | ⟨us,kss,hS,tt,hz,nd⟩
  ·refine ⟨_,rfl,.inl ⟨l,ss,rfl,hS,hz,fun p hp=>⟨p,_,rfl,Ji,_,rfl,l,_,rfl,.inl ((Jh.upd hp).seq hS),_,_,rfl,rfl,_,rfl,Yb (decide_eq_false ?_) (q _ (Jh.upd hp))⟩⟩⟩;rw [Jj5 nd,List.length_map];exact Int.lt_irrefl _
  ·refine ⟨_,rfl,.inr ⟨l,us,kss,rfl,hS,tt,hz,fun p hp=>⟨p,_,rfl,Ji,_,rfl,l,_,rfl,.inl ((Jh.upd hp).seq hS),_,_,rfl,rfl,_,rfl,Yb (decide_eq_false ?_) (q _ (Jh.upd hp))⟩⟩⟩;rw [Jj5 nd,tt.1];exact Int.lt_irrefl _
theorem JbD (T:Txt K mg):JK P w K mg base (Zb P w) 1 T.JdX T.Jc3 ["place", "places"] (Jrr K T.YM):=by
 refine T.Jai.F.ok1 Jku (fun vs H Q E h=>?_) (fun cdv A outer s H vs Q E hr h=>?_)
 ·obtain ⟨_,_,_,rfl,_⟩:=h;rfl
 ·obtain ⟨z,t,ps,rfl,ht,hS,q1,q2⟩:=h;refine ⟨_,(@Jg _ _ _ (@JH _ _ _ _ _ _ _ _ (@Js _ _ _ _ _ _ _ _ (@Jcy _) (@pv _ 0 _ _ rfl (.inl rfl) rfl rfl) (@pv _ 1 _ _ rfl (.inl rfl) rfl rfl) (by with_unfolding_all rfl)) (@Jg _ _ _ (@Jbs _ _ _ _ _ _ _ _ _ T.Jkg T.Jh4 Jck (@Jex _ _ _ _ _ _ (PJ.cons (@JgT _ _ _ _ (@pv _ 0 _ _ rfl (.inl rfl) rfl rfl)) (PJ.cons (@Jz _ _ _ _) PJ.nil)) rfl) rfl rfl (by decide) rfl)) (@Jp _))),?_⟩;refine ⟨_,rfl,_,rfl,t,_,rfl,hS,rfl,Jdv ps,_,rfl,?_⟩;rw [if_pos rfl,Jfg];by_cases hin:z∈ps
  ·exact Yb (by rw [decide_eq_true hin]; rfl) (q1 hin)
  ·have hz:=JfF ht;have e1:(Str.empty ++ reprText z).length=(reprText z).length:=by rw [strLen_append]; exact Nat.zero_add _
   refine YF (by rw [decide_eq_false hin]; rfl) ⟨_,rfl,z,rfl,Nat.le_trans hz (by decide),_,rfl,by rw [e1]; exact Nat.le_trans hz (by decide),_,rfl,?_,?_,q2 hin⟩
   all_goals
    rw [strLen_append,e1];refine Nat.le_trans (Nat.add_le_add_right hz _) (by decide)
theorem JjQ (T:Txt K mg):JK P w K mg base YB 2 T.Jc9 T.JcG ["places"] (JoA K):=by
 refine T.Jdh.F.ok JfG (fun vs H Q E h=>?_) (fun cdv A outer s H vs Q E hr h=>?_)
 ·obtain ⟨_,_,rfl,_⟩:=h;rfl
 ·obtain ⟨l,ps,rfl,hS,h1,h2,h3,h4,q⟩:=h;refine ⟨_,(@Jd _ _ _ _ _ (@JH _ _ _ _ _ _ _ _ (@PW.pt _ _ _ (@ZX _ _ _ _ _ _ _ (@Js _ _ _ _ _ _ _ _ (@Jen _) (@JF _ _ _ _ _ _ _ _ _ (@Yh _) rfl T.Zy PySem.boot_len (@Ja _ _ _ _ _ (@pv _ 0 _ _ rfl (.inl rfl) rfl rfl) (@Jc _) rfl) (by decide) (by decide) rfl rfl) (@Je _ _ _ _) (JE _)) (@ZT _ _ _ _ (@Js _ _ _ _ _ _ _ _ (@Jeo _) (@JF _ _ _ _ _ _ _ _ _ (@Yh _) rfl T.Zy PySem.boot_len (@Ja _ _ _ _ _ (@pv _ 0 _ _ rfl (.inl rfl) rfl rfl) (@Jc _) rfl) (by decide) (by decide) rfl rfl) (@Ja1 _ _ _ _ _ rfl T.Jb0 T.JbY (by decide)) (JE _))))) (@Jg _ _ _ (@JgS _ _)) (@Jp _)) (@Jd _ _ _ _ _ (@Zn _ _ _ _ _ _ _ _ PassesOwn.never rfl (@Ja0 _ _ _ _ (@pv _ 0 _ _ rfl (.inl rfl) rfl rfl)) (@JQ _ _ 1 _ JfG.nd rfl (Or.inl rfl) (.inl rfl)) (@Jg _ _ _ (@JH _ _ _ _ _ _ _ _ (@ZU _ _ _ _ (@Zf _ _ _ (@Jk _ _ _ _ _ _ _ _ _ _ _ _ _ _ _ T.Jgi (JmU T) (hr.mono (by decide)) Jt (@Ja _ _ _ _ _ (@pv _ 1 _ _ rfl (.inl rfl) rfl rfl) (@Jc _) rfl) rfl (by decide) rfl rfl) (by intro _; rfl))) (@Jg _ _ _ (@JgS _ _)) (@Jp _))) (by intro _; rfl)) (@Jg _ _ _ (@JJ _ _ _ _ (@Jk _ _ _ _ _ _ _ _ _ _ _ _ _ _ _ T.ZW (Jbu T) (hr.mono (by decide)) Jt (@Ja _ _ _ _ _ (@pv _ 0 _ _ rfl (.inl rfl) rfl rfl) (@Jc _) rfl) rfl (by decide) rfl rfl) rfl)))),?_⟩;refine ⟨_,rfl,l,_,rfl,.inl hS,_,_,rfl,rfl,_,rfl,Yb (decide_eq_false (by rw [List.length_map]; omega)) ?_⟩;refine ⟨_,rfl,l,_,rfl,.inl hS,_,_,rfl,rfl,_,rfl,Yb (decide_eq_false (by rw [List.length_map]; omega)) ?_⟩;refine ⟨_,rfl,l,rfl,⟨_,hS⟩,JcY (xs:=ps.map V.str) (fun i σ H2=>Jh H H2∧∃ v,σ=[some (.ref l),v]) ⟨Jh.refl _,none,rfl⟩ (fun i σ H2 _ h=>h.1.seq hS) ?_ ?_⟩
  ·rintro i x σ H2 hx ⟨e2,v,rfl⟩;obtain ⟨p,hp,rfl⟩:=List.mem_map.mp (List.mem_of_getElem? hx);refine ⟨_,rfl,p,rfl,Nat.le_trans (Jm8 (h3 p hp)).1 (by decide),fun H3 e3=>⟨_,rfl,Yb (by rw [h3 p hp]; rfl) ?_⟩⟩;exact ⟨e2.trans e3,_,rfl⟩
  ·rintro σ H2 ⟨e2,v,rfl⟩;exact ⟨_,rfl,l,rfl,.inl ⟨ps,e2.seq hS,by omega,h4⟩,fun H3 e3=>q H3 (e2.trans e3)⟩
theorem JkK (T:Txt K mg):JK P w K mg base YB 2 T.JdU T.Jc0 ["lanes", "places"] (JpO K):=by
 refine T.Jd4.F.ok Jgn (fun vs H Q E h=>?_) (fun cdv A outer s H vs Q E hr h=>?_)
 ·obtain ⟨_,_,_,_,rfl,_⟩:=h;rfl
 ·obtain ⟨l,lp,zs,ps,rfl,hS,hP,hp,ht,h1,h2,h3,q⟩:=h;refine ⟨_,(@Jd _ _ _ _ _ (@JH _ _ _ _ _ _ _ _ (@Js _ _ _ _ _ _ _ _ (@Jeo _) (@JF _ _ _ _ _ _ _ _ _ (@Yh _) rfl T.Zy PySem.boot_len (@Ja _ _ _ _ _ (@pv _ 0 _ _ rfl (.inl rfl) rfl rfl) (@Jc _) rfl) (by decide) (by decide) rfl rfl) (@Ja1 _ _ _ _ _ rfl T.JcF T.Jcv (by decide)) (JE _)) (@Jg _ _ _ (@JgS _ _)) (@Jp _)) (@Jd _ _ _ _ _ (@Zn _ _ _ _ _ _ _ _ PassesOwn.never rfl (@Ja0 _ _ _ _ (@pv _ 0 _ _ rfl (.inl rfl) rfl rfl)) (@JQ _ _ 2 _ Jgn.nd rfl (Or.inl rfl) (.inl rfl)) (@Jd _ _ _ _ _ (@JJ _ _ _ _ (@Jk _ _ _ _ _ _ _ _ _ _ _ _ _ _ _ T.Jai (JbD T) (hr.mono (by decide)) Y7 (@Ja _ _ _ _ _ (@JG _ _ _ _ _ _ _ (@JX _) (@pv _ 2 _ _ rfl (.inl rfl) rfl rfl) (@Je _ _ _ _) (fun _ _=>rfl)) (@Ja _ _ _ _ _ (@pv _ 1 _ _ rfl (.inl rfl) rfl rfl) (@Jc _) rfl) rfl) rfl (by decide) rfl rfl) rfl) (@Jg _ _ _ (@JJ _ _ _ _ (@Jk _ _ _ _ _ _ _ _ _ _ _ _ _ _ _ T.Jai (JbD T) (hr.mono (by decide)) Y7 (@Ja _ _ _ _ _ (@JG _ _ _ _ _ _ _ (@JX _) (@pv _ 2 _ _ rfl (.inl rfl) rfl rfl) (@Je _ _ _ _) (fun _ _=>rfl)) (@Ja _ _ _ _ _ (@pv _ 1 _ _ rfl (.inl rfl) rfl rfl) (@Jc _) rfl) rfl) rfl (by decide) rfl rfl) rfl))) (by intro _; rfl)) (@Jg _ _ _ (@JJ _ _ _ _ (@Jk _ _ _ _ _ _ _ _ _ _ _ _ _ _ _ T.ZW (Jbu T) (hr.mono (by decide)) Jt (@Ja _ _ _ _ _ (@pv _ 0 _ _ rfl (.inl rfl) rfl rfl) (@Jc _) rfl) rfl (by decide) rfl rfl) rfl)))),?_⟩;refine ⟨_,rfl,l,_,rfl,.inl hS,_,_,rfl,rfl,_,rfl,Yb (decide_eq_false (by rw [List.length_map]; omega)) ?_⟩;refine ⟨_,rfl,l,rfl,⟨_,hS⟩,JcY (xs:=zs.map (·.1)) (fun i σ H2=>H2=H∧∃ v,σ=[some (.ref l),some (.ref lp),v]) ⟨rfl,none,rfl⟩ (fun i σ H2 _ h=>by rw [h.1]; exact hS) ?_ ?_⟩
  ·rintro i x σ H2 hx ⟨rfl,v,rfl⟩;obtain ⟨z,hz,rfl⟩:=List.mem_map.mp (List.mem_of_getElem? hx);obtain ⟨a,ea,ha⟩:=hP z hz;obtain ⟨i1,i2⟩:=h2 z hz;refine ⟨_,rfl,a,_,_,.str z.2.1,ea,rfl,ha,rfl,_,rfl,z.2.1,lp,ps,rfl,ht _ i1,.inl hp,fun _=>?_,fun hn=>absurd i1 hn⟩;exact ⟨_,rfl,a,_,_,.str z.2.2,ea,rfl,ha,rfl,_,rfl,z.2.2,lp,ps,rfl,ht _ i2,.inl hp,fun _=>⟨rfl,_,rfl⟩,fun hn=>absurd i2 hn⟩
  ·rintro σ H2 ⟨rfl,v,rfl⟩;exact ⟨_,rfl,l,rfl,.inr ⟨_,_,hS,JoQ hP,by rw [List.length_map,List.length_map]; omega,JnJ h3⟩,fun H3 e3=>q H3 e3⟩
theorem JkL (T:Txt K mg):JK P w K mg base YB 2 T.JdV T.Jc1 ["goals", "places"] (JpP K):=by
 refine T.Jd5.F.ok Jgo (fun vs H Q E h=>?_) (fun cdv A outer s H vs Q E hr h=>?_)
 ·obtain ⟨_,_,_,_,rfl,_⟩:=h;rfl
 ·obtain ⟨l,lp,gs,ps,rfl,hS,hp,ht,h1,h2,h3,q⟩:=h;refine ⟨_,(@Jd _ _ _ _ _ (@Zn _ _ _ _ _ _ _ _ PassesOwn.never rfl (@Ja0 _ _ _ _ (@pv _ 0 _ _ rfl (.inl rfl) rfl rfl)) (@JQ _ _ 2 _ Jgo.nd rfl (Or.inl rfl) (.inl rfl)) (@Jg _ _ _ (@JJ _ _ _ _ (@Jk _ _ _ _ _ _ _ _ _ _ _ _ _ _ _ T.Jai (JbD T) (hr.mono (by decide)) Y7 (@Ja _ _ _ _ _ (@pv _ 2 _ _ rfl (.inl rfl) rfl rfl) (@Ja _ _ _ _ _ (@pv _ 1 _ _ rfl (.inl rfl) rfl rfl) (@Jc _) rfl) rfl) rfl (by decide) rfl rfl) rfl)) (by intro _; rfl)) (@Jg _ _ _ (@JJ _ _ _ _ (@Jk _ _ _ _ _ _ _ _ _ _ _ _ _ _ _ T.ZW (Jbu T) (hr.mono (by decide)) Jt (@Ja _ _ _ _ _ (@pv _ 0 _ _ rfl (.inl rfl) rfl rfl) (@Jc _) rfl) rfl (by decide) rfl rfl) rfl))),?_⟩;refine ⟨_,rfl,l,rfl,⟨_,hS⟩,JcY (xs:=gs.map V.str) (fun i σ H2=>H2=H∧∃ v,σ=[some (.ref l),some (.ref lp),v]) ⟨rfl,none,rfl⟩ (fun i σ H2 _ h=>by rw [h.1]; exact hS) ?_ ?_⟩
  ·rintro i x σ H2 hx ⟨rfl,v,rfl⟩;obtain ⟨g,hg,rfl⟩:=List.mem_map.mp (List.mem_of_getElem? hx);exact ⟨_,rfl,_,rfl,g,lp,ps,rfl,ht _ (h2 g hg),.inl hp,fun _=>⟨rfl,_,rfl⟩,fun hn=>absurd (h2 g hg) hn⟩
  ·rintro σ H2 ⟨rfl,v,rfl⟩;exact ⟨_,rfl,l,rfl,.inl ⟨gs,hS,h1,h3⟩,fun H3 e3=>q H3 e3⟩
theorem Jl9 (T:Txt K mg):JK P w K mg base YB 3 T.JcL T.JdS ["self", "places", "lanes", "goals"] (JnU K T.JP):=by
 refine T.JfE.F.ok Jl5 (fun vs H Q E h=>?_) (fun cdv A outer s H vs Q E hr h=>?_)
 ·obtain ⟨_,_,_,_,_,_,_,_,rfl,_⟩:=h;rfl
 ·obtain ⟨b,lp,ll,lg,dx,ps,zs,gs,rfl,hb,hp,hl,hP,hg,G,q⟩:=h;refine ⟨_,(@Jd _ _ _ _ _ (@JJ _ _ _ _ (@Jk _ _ _ _ _ _ _ _ _ _ _ _ _ _ _ T.Jdh (JjQ T) (hr.mono (by decide)) Jt (@Ja _ _ _ _ _ (@pv _ 1 _ _ rfl (.inl rfl) rfl rfl) (@Jc _) rfl) rfl (by decide) rfl rfl) rfl) (@Jd _ _ _ _ _ (@JJ _ _ _ _ (@Jk _ _ _ _ _ _ _ _ _ _ _ _ _ _ _ T.Jd4 (JkK T) (hr.mono (by decide)) Jt (@Ja _ _ _ _ _ (@pv _ 2 _ _ rfl (.inl rfl) rfl rfl) (@Ja _ _ _ _ _ (@pv _ 1 _ _ rfl (.inl rfl) rfl rfl) (@Jc _) rfl) rfl) rfl (by decide) rfl rfl) rfl) (@Jd _ _ _ _ _ (@JJ _ _ _ _ (@Jk _ _ _ _ _ _ _ _ _ _ _ _ _ _ _ T.Jd5 (JkL T) (hr.mono (by decide)) Jt (@Ja _ _ _ _ _ (@pv _ 3 _ _ rfl (.inl rfl) rfl rfl) (@Ja _ _ _ _ _ (@pv _ 1 _ _ rfl (.inl rfl) rfl rfl) (@Jc _) rfl) rfl) rfl (by decide) rfl rfl) rfl) (@Jd _ _ _ _ _ (@Zu _ _ _ _ _ _ _ _ (@pv _ 0 _ _ rfl (.inl rfl) rfl rfl) (@ZM _ _ _ _ _ _ _ _ _ (@ZS _) rfl T.Ja2 PyProof.Rows.boot_tuple (@Ja _ _ _ _ _ (@JF _ _ _ _ _ _ _ _ _ (@Jg6 _) rfl T.Je5 PyProof.Rows.boot_sorted (@Ja _ _ _ _ _ (@pv _ 1 _ _ rfl (.inl rfl) rfl rfl) (@Jc _) rfl) (by decide) (by decide) rfl rfl) (@Jc _) rfl) (by decide) (by decide) rfl rfl) rfl) (@Jd _ _ _ _ _ (@Zu _ _ _ _ _ _ _ _ (@pv _ 0 _ _ rfl (.inl rfl) rfl rfl) (@ZM _ _ _ _ _ _ _ _ _ (@ZS _) rfl T.Ja2 PyProof.Rows.boot_tuple (@Ja _ _ _ _ _ (@JF _ _ _ _ _ _ _ _ _ (@Jpk _) rfl T.Je5 PyProof.Rows.boot_sorted (@Ja _ _ _ _ _ (@pv _ 2 _ _ rfl (.inl rfl) rfl rfl) (@Jc _) rfl) (by decide) (by decide) rfl rfl) (@Jc _) rfl) (by decide) (by decide) rfl rfl) rfl) (@Jg _ _ _ (@Zu _ _ _ _ _ _ _ _ (@pv _ 0 _ _ rfl (.inl rfl) rfl rfl) (@ZM _ _ _ _ _ _ _ _ _ (@ZS _) rfl T.Ja2 PyProof.Rows.boot_tuple (@Ja _ _ _ _ _ (@JF _ _ _ _ _ _ _ _ _ (@Jg6 _) rfl T.Je5 PyProof.Rows.boot_sorted (@Ja _ _ _ _ _ (@pv _ 3 _ _ rfl (.inl rfl) rfl rfl) (@Jc _) rfl) (by decide) (by decide) rfl rfl) (@Jc _) rfl) (by decide) (by decide) rfl rfl) rfl))))))),?_⟩;have ht:∀ p∈ps,YG p:=fun p h=>YO (G.p3 p h)
  have hzl:zs.length≤40:=by have:=G.l1; rwa [List.length_map] at this
  have hl2:∀ z∈zs,z.2.1∈ps∧z.2.2∈ps:=fun z hz=>G.l2 z.2 (List.mem_map.mpr ⟨z,hz,rfl⟩)
  have hgl:=G.glen;refine ⟨_,rfl,lp,ps,rfl,hp,G.p1,G.p2,G.p3,G.p4,fun H1 e1=>?_⟩;refine ⟨_,rfl,_,rfl,ll,lp,zs,ps,rfl,e1.seq hl,JaO hP e1,e1.seq hp,ht,hzl,hl2,G.l3,fun H2 e2=>?_⟩;have e12:=e1.trans e2;refine ⟨_,rfl,_,rfl,lg,lp,gs,ps,rfl,e12.seq hg,e12.seq hp,ht,by omega,G.g1,G.g2,fun H3 e3=>?_⟩;have e13:=e12.trans e3;have hb3:=e13 _ _ hb;refine ⟨_,rfl,lp,ps,rfl,e13.seq hp,by have:=G.p2; omega,fun p4 ps' n4 pp ps4=>⟨p4,_,rfl,.inl ⟨JC.of Ji,fun t5 n5=>?_⟩⟩⟩;have e35:=(Jh.upd (o:=.lst (ps'.map V.str)) n4).trans (Jh.upd (o:=.tup (ps'.map V.str)) n5);refine ⟨_,rfl,b,_,dx,_,rfl,e35 _ _ hb3,T.YQ,T.Jbh,by decide,?_⟩;have b6:=(YY.of (b:=b) (e13.trans e35)).trans (YY.put (o:=.ins T.JP dx (Yr "places" (.ref t5) [])));have t5b:t5≠b:=fun e=>by
   have z:=(Jh.upd (o:=.lst (ps'.map V.str)) n4) _ _ hb3;rw [e,z] at n5; cases n5
  have hp6:upd (upd (upd H3 p4 (.lst (ps'.map V.str))) t5 (.tup (ps'.map V.str))) b (.ins T.JP dx (Yr "places" (.ref t5) [])) t5=some (.tup (ps'.map V.str)):=by rw [JB t5b,Ji]
  have hb6:upd (upd (upd H3 p4 (.lst (ps'.map V.str))) t5 (.tup (ps'.map V.str))) b (.ins T.JP dx (Yr "places" (.ref t5) [])) b=some (.ins T.JP dx [("places",.ref t5)]):=Ji;generalize upd (upd (upd H3 p4 (.lst (ps'.map V.str))) t5 (.tup (ps'.map V.str))) b (.ins T.JP dx (Yr "places" (.ref t5) []))=H6 at b6 hp6 hb6;refine ⟨_,rfl,ll,zs,rfl,b6.seq hb hl,fun z hz=>let ⟨a,h1,h2⟩:=hP z hz; ⟨a,h1,b6.tup hb h2⟩,by omega,fun p7 zs' n7 zp zs7=>⟨p7,_,rfl,.inl ⟨JC.of Ji,fun t8 n8=>?_⟩⟩⟩;have e68:=(Jh.upd (o:=.lst (zs'.map (·.1))) n7).trans (Jh.upd (o:=.tup (zs'.map (·.1))) n8);refine ⟨_,rfl,b,_,dx,_,rfl,e68 _ _ hb6,T.YQ,T.JcW,by show 1 < 1000; decide,?_⟩;have b9:=(b6.trans (YY.of e68)).trans (YY.put (o:=.ins T.JP dx (Yr "lanes" (.ref t8) [("places",.ref t5)])));have t8b:t8≠b:=fun e=>by
   have z:=(Jh.upd (o:=.lst (zs'.map (·.1))) n7) _ _ hb6;rw [e,z] at n8; cases n8
  have hl9:upd (upd (upd H6 p7 (.lst (zs'.map (·.1)))) t8 (.tup (zs'.map (·.1)))) b (.ins T.JP dx (Yr "lanes" (.ref t8) [("places",.ref t5)])) t8=some (.tup (zs'.map (·.1))):=by rw [JB t8b,Ji]
  have hp9:upd (upd (upd H6 p7 (.lst (zs'.map (·.1)))) t8 (.tup (zs'.map (·.1)))) b (.ins T.JP dx (Yr "lanes" (.ref t8) [("places",.ref t5)])) t5=some (.tup (ps'.map V.str)):=by rw [JB t5b]; exact e68 _ _ hp6
  have hb9:upd (upd (upd H6 p7 (.lst (zs'.map (·.1)))) t8 (.tup (zs'.map (·.1)))) b (.ins T.JP dx (Yr "lanes" (.ref t8) [("places",.ref t5)])) b=some (.ins T.JP dx [("places",.ref t5),("lanes",.ref t8)]):=Ji;generalize upd (upd (upd H6 p7 (.lst (zs'.map (·.1)))) t8 (.tup (zs'.map (·.1)))) b (.ins T.JP dx (Yr "lanes" (.ref t8) [("places",.ref t5)]))=H9 at b9 hl9 hp9 hb9;refine ⟨_,rfl,lg,gs,rfl,b9.seq hb hg,by omega,fun p10 gs' n10 gp gs10=>⟨p10,_,rfl,.inl ⟨JC.of Ji,fun t11 n11=>?_⟩⟩⟩;have e911:=(Jh.upd (o:=.lst (gs'.map V.str)) n10).trans (Jh.upd (o:=.tup (gs'.map V.str)) n11);refine ⟨_,rfl,b,_,dx,_,rfl,e911 _ _ hb9,T.YQ,T.JcX,by show 2 < 1000; decide,?_⟩;have b12:=(b9.trans (YY.of e911)).trans (YY.put (o:=.ins T.JP dx (Yr "goals" (.ref t11) [("places",.ref t5),("lanes",.ref t8)])));have t11b:t11≠b:=fun e=>by
   have z:=(Jh.upd (o:=.lst (gs'.map V.str)) n10) _ _ hb9;rw [e,z] at n11; cases n11
  refine q _ ps' zs' gs' b12 pp ps4 zp zs7 gp gs10 ⟨dx,t5,t8,t11,Ji,?_,?_,fun z hz=>?_,?_⟩
  ·rw [JB t5b]; exact e911 _ _ hp9
  ·rw [JB t8b]; exact e911 _ _ hl9
  ·obtain ⟨a,h1,h2⟩:=hP z (zp.mem_iff.mp hz);exact ⟨a,h1,b12.tup hb h2⟩
  ·rw [JB t11b,Ji]
theorem Zv (T:Txt K mg):JK P w K mg base (Zb P w) 2 T.Jbb T.JaP ["self", "place"] (JpN K T.JP T.YM):=by
 refine T.Yc.F.ok1 JgM (fun vs H Q E h=>?_) (fun cdv A outer s H vs Q E hr h=>?_)
 ·obtain ⟨_,_,_,_,_,rfl,_⟩:=h;rfl
 ·obtain ⟨b,z,ps,zs,gs,rfl,ht,⟨dx,tp,tl,tg,hb,hp,_⟩,q1,q2⟩:=h;refine ⟨_,(@Jg _ _ _ (@JJ _ _ _ _ (@Jk _ _ _ _ _ _ _ _ _ _ _ _ _ _ _ T.Jai (JbD T) (hr.mono (by decide)) Yw (@Ja _ _ _ _ _ (@pv _ 1 _ _ rfl (.inl rfl) rfl rfl) (@Ja _ _ _ _ _ (@Jw _ _ _ _ _ (@pv _ 0 _ _ rfl (.inl rfl) rfl rfl) rfl) (@Jc _) rfl) rfl) rfl (by decide) rfl rfl) rfl)),?_⟩;exact ⟨_,rfl,_,rfl,b,_,dx,_,.ref tp,rfl,hb,T.YQ,T.Jbh,rfl,z,tp,ps,rfl,ht,.inr (JL.of hp),q1,q2⟩
theorem Ji2 (T:Txt K mg):JK P w K mg base (Zb P w) 3 T.JcK T.Jcc ["self", "place"] (JpH K T.JP T.YM):=by
 refine T.Jbj.F.ok1 JiT (fun vs H Q E h=>?_) (fun cdv A outer s H vs Q E hr h=>?_)
 ·obtain ⟨_,_,_,_,_,rfl,_⟩:=h;rfl
 ·obtain ⟨b,z,ps,zs,gs,rfl,ht,B,q1,q2⟩:=h;refine ⟨_,(@Jd _ _ _ _ _ (@JJ _ _ _ _ (@J2 _ _ _ _ _ _ _ _ _ _ _ _ _ _ _ _ _ _ _ _ (@pv _ 0 _ _ rfl (.inl rfl) rfl rfl) T.YQ T.Yc.m (Zv T) (hr.mono (by decide)) T.Yc.b .nil Yw (@Ja _ _ _ _ _ (@pv _ 1 _ _ rfl (.inl rfl) rfl rfl) (@Jc _) rfl) rfl rfl rfl) rfl) (@Jg _ _ _ (@Jn _ _ _ _ (@JkI _ _ _ _ _ _ _ _ (@Jlt _) (@pv _ 1 _ _ rfl (.inl rfl) rfl rfl) (@Jw _ _ _ _ _ (@pv _ 0 _ _ rfl (.inl rfl) rfl rfl) rfl) (by with_unfolding_all rfl))))),?_⟩;obtain ⟨dx,tp,tl,tg,hb,hp,hl,hP,hg⟩:=id B;refine ⟨_,rfl,b,dx,_,rfl,hb,rfl,_,rfl,b,z,ps,zs,gs,rfl,ht,B,fun hin=>?_,q2⟩;refine ⟨_,rfl,_,rfl,b,_,dx,_,.ref tg,rfl,hb,T.YQ,T.JcX,rfl,tg,_,rfl,.inr (JL.of hg),rfl,Jdv gs,?_⟩;rw [if_neg Bool.false_ne_true,Jfg];exact q1 hin
theorem JaV (T:Txt K mg):JK P w K mg base (Zb P w) 3 T.Jfv T.JdR ["self", "place"] (JsT K T.JP T.YM):=by
 refine T.YT.F.ok1 Jl4 (fun vs H Q E h=>?_) (fun cdv A outer s H vs Q E hr h=>?_)
 ·obtain ⟨_,_,_,_,_,rfl,_⟩:=h;rfl
 ·obtain ⟨b,z,ps,zs,gs,rfl,ht,hlen,B,q1,q2⟩:=h;refine ⟨_,(@Jd _ _ _ _ _ (@JJ _ _ _ _ (@J2 _ _ _ _ _ _ _ _ _ _ _ _ _ _ _ _ _ _ _ _ (@pv _ 0 _ _ rfl (.inl rfl) rfl rfl) T.YQ T.Yc.m (Zv T) (hr.mono (by decide)) T.Yc.b .nil Yw (@Ja _ _ _ _ _ (@pv _ 1 _ _ rfl (.inr (.inl rfl)) rfl rfl) (@Jc _) rfl) rfl rfl rfl) rfl) (@Jg _ _ _ (@Jn _ _ _ _ (@ZM _ _ _ _ _ _ _ _ _ (@ZS _) rfl T.Ja2 PyProof.Rows.boot_tuple (@Ja _ _ _ _ _ (@JgU _ _ _ _ _ _ _ 1 ["lane", "place"] [1] _ _ _ _ ["self", "place"] ((Jl Jcs).names) (by decide +kernel) (@JeZ _ _ _ _ (@Jw _ _ _ _ _ (@pv _ 0 _ _ rfl (.inl rfl) rfl rfl) rfl)) (fun _ _ _ _=>(@JaT _ _ _ _ _ _ _ _ _ 0 (by decide +kernel) rfl rfl)) (fun _ _ _ _=>(@Jik _ _ _ (@Js _ _ _ _ _ _ _ _ (@Yg _) (@JG _ _ _ _ _ _ _ (show IxR _ (JoN K) from (@JX _)) (@Z8 _ _ _ _ _ _ _ _ _ 0 rfl rfl (by decide) (by decide)) (@Je _ _ _ _) (fun _ _=>rfl)) (@Jbt _ _ _ _ _ _ _ _ _ 1 rfl rfl (by decide) (by decide)) (JE _)))) (fun _ _ _ _=>(@JG _ _ _ _ _ _ _ (show IxR _ (JoN K) from (@JX _)) (@Z8 _ _ _ _ _ _ _ _ _ 0 rfl rfl (by decide) (by decide)) (@Je _ _ _ _) (fun _ _=>rfl))) rfl rfl rfl (by intro _; rfl)) (@Jc _) rfl) (by decide) (by decide) rfl rfl)))),?_⟩;obtain ⟨dx,tp,tl,tg,hb,hp,hl,hP,hg⟩:=id B;refine ⟨_,rfl,b,dx,_,rfl,hb,rfl,_,rfl,b,z,ps,zs,gs,rfl,ht,B,fun hin=>?_,q2⟩;refine ⟨_,rfl,b,_,dx,_,.ref tl,rfl,hb,T.YQ,T.JcW,rfl,tl,rfl,⟨_,JL.of hl⟩,fun D hD=>?_⟩;refine Jjl (xs:=zs.map (·.1)) (fun i ys H2=>Jh H H2∧H2 D=some (.lst ys)∧ys=(Jy ((zs.map (·.2)).take i) z).map V.str) rfl (fun i ys H2 p=>JL.of (p.1 _ _ hl)) ?_ (fun i ys H2 p=>p.2.1) ?_ ?_
  ·exact ⟨Jh.upd hD,Ji,by simp [Jy]⟩
  ·rintro i x ys H2 hx ⟨e2,hy,rfl⟩;rw [List.getElem?_map] at hx;obtain ⟨y,hy1,rfl⟩:=Option.map_eq_some_iff.mp hx;obtain ⟨a,ea,ha⟩:=hP y (List.mem_of_getElem? hy1);have ha2:=e2.tup ha;have step:(zs.map (·.2)).take (i + 1)=(zs.map (·.2)).take i ++ [y.2]:=by
    rw [List.take_succ,List.getElem?_map,hy1]; rfl
   have wstep:Jy ((zs.map (·.2)).take (i + 1)) z=Jy ((zs.map (·.2)).take i) z ++ (if y.2.1=z then [y.2.2] else []):=by
    unfold Jy;rw [step,List.filter_append,List.map_append];by_cases h:y.2.1=z
    ·simp [h]
    ·simp [h]
   have wl:(Jy ((zs.map (·.2)).take i) z).length≤40:=by
    unfold Jy;rw [List.length_map];refine Nat.le_trans (List.length_filter_le _ _) ?_;rw [List.length_take,List.length_map];omega
   refine ⟨_,rfl,a,_,_,.str y.2.1,ea,rfl,ha2,rfl,_,rfl,rfl,_,rfl,?_⟩;by_cases h:y.2.1=z
   ·refine YF (by rw [h]; exact decide_eq_true rfl) ⟨_,rfl,a,_,_,.str y.2.2,ea,rfl,ha2,rfl,hy,by rw [List.length_map]; exact Nat.lt_of_le_of_lt wl (by decide),fun b' u e=>?_,Ji,?_⟩
    ·rw [JB (JD e hD)]; exact e2 b' u e
    ·rw [wstep,if_pos h,List.map_append]; rfl
   ·refine Yb (decide_eq_false (fun e=>h (V.str.inj e))) ⟨e2,hy,?_⟩;rw [wstep,if_neg h,List.append_nil]
  ·rintro ys H2 ⟨e2,hy,rfl⟩;rw [List.length_map] at hy;rw [show zs.length=(zs.map (·.2)).length by simp,List.take_length] at hy;refine ⟨D,_,rfl,.inl ⟨JC.of hy,fun t n=>?_⟩⟩;exact q1 hin t _ (e2.trans (Jh.upd n)) Ji
theorem JrT (T:Txt K mg):JK P w K mg base YB 2 T.Jk5 T.Jjc ["_law_cell", "_law_many"] Jrg:=by
 refine T.Jli.F.ok Zt (fun vs H Q E h=>?_) (fun cdv A outer s H vs Q E hr h=>?_)
 ·obtain ⟨_,_,rfl,_⟩:=h;rfl
 ·obtain ⟨c,n,rfl,hn1,hn2,q⟩:=h;refine ⟨_,(@Jd _ _ _ _ _ (@Jr _ _ 2 _ _ _ _ Zt.nd rfl (Or.inr rfl) (@Jz _ _ _ _) rfl (by first | exact .inl rfl | exact .inr rfl | assumption)) (@Jd _ _ _ _ _ (@J4 _ _ _ (@Jr _ _ 3 _ _ _ _ Zt.nd rfl (Or.inl rfl) (@Jk _ _ _ _ _ _ _ _ _ _ _ _ _ _ _ T.Jiv (JjO T) (hr.mono (by decide)) Jt (@Ja _ _ _ _ _ (@Jm _ _ _ _ _ _ _ _ (@YU _) (@pv _ 0 _ _ rfl (.inl rfl) rfl rfl) (@Je _ _ _ _)) (@Ja _ _ _ _ _ (@Jm _ _ _ _ _ _ _ _ (@JaU _) (@Je _ _ _ _) (@pv _ 1 _ _ rfl (.inl rfl) rfl rfl)) (@Ja _ _ _ _ _ (@Je _ _ _ _) (@Jc _) rfl) rfl) rfl) rfl (by decide) rfl rfl) rfl (.inl rfl))) (@Jd _ _ _ _ _ (@Jr _ _ 4 _ _ _ _ Zt.nd rfl (Or.inl rfl) (@YX _ _ _ _ (@Jc _)) rfl (.inl rfl)) (@Jd _ _ _ _ _ (@Zn _ _ _ _ _ _ _ _ PassesOwn.never rfl (@ZL _ _ _ _ _ _ rfl T.Z3 (@Ja _ _ _ _ _ (@pv _ 1 _ _ rfl (.inl rfl) rfl rfl) (@Jc _) rfl) rfl) (@JQ _ _ 5 _ Zt.nd rfl (Or.inl rfl) (.inl rfl)) (@Jd _ _ _ _ _ (@Jr _ _ 6 _ _ _ _ Zt.nd rfl (Or.inl rfl) (@Je0 _ _ _ _ _ _ _ _ _ _ (@Jie _) (@pv _ 3 _ _ rfl (.inl rfl) rfl rfl) (@Jeu _ _ _ (@Jm _ _ _ _ _ _ _ _ (@JaU _) (@Je _ _ _ _) (@pv _ 5 _ _ rfl (.inl rfl) rfl rfl))) (@Jeu _ _ _ (@Jm _ _ _ _ _ _ _ _ (@J3 _) (@Jm _ _ _ _ _ _ _ _ (@JaU _) (@Je _ _ _ _) (@pv _ 5 _ _ rfl (.inl rfl) rfl rfl)) (@Je _ _ _ _)))) rfl (.inl rfl)) (@Jd _ _ _ _ _ (@Jr _ _ 7 _ _ _ _ Zt.nd rfl (Or.inl rfl) (@Jm _ _ _ _ _ _ _ _ (@J3 _) (@Je _ _ _ _) (@Jm _ _ _ _ _ _ _ _ (@JV _) (@JG _ _ _ _ _ _ _ (@JU _) (@pv _ 3 _ _ rfl (.inl rfl) rfl rfl) (@Jm _ _ _ _ _ _ _ _ (@J3 _) (@Jm _ _ _ _ _ _ _ _ (@JaU _) (@Je _ _ _ _) (@pv _ 5 _ _ rfl (.inl rfl) rfl rfl)) (@Je _ _ _ _)) (fun _ _=>rfl)) (@Je _ _ _ _))) rfl (.inl rfl)) (@Jd _ _ _ _ _ (@J4 _ _ _ (@JH _ _ _ _ _ _ _ _ (@Js _ _ _ _ _ _ _ _ (@Yg _) (@Jm _ _ _ _ _ _ _ _ (@JV _) (@pv _ 0 _ _ rfl (.inl rfl) rfl rfl) (@Je _ _ _ _)) (@Je _ _ _ _) (JE _)) (@Jd _ _ _ _ _ (@Jr _ _ 6 _ _ _ _ Zt.nd rfl (Or.inl rfl) (@Je0 _ _ _ _ _ _ _ _ _ _ (@Jie _) (@pv _ 3 _ _ rfl (.inl rfl) rfl rfl) (@Jij _) (@Jeu _ _ _ (@Je _ _ _ _))) rfl (.inl rfl)) (@Jd _ _ _ _ _ (@Jr _ _ 7 _ _ _ _ Zt.nd rfl (Or.inl rfl) (@Jm _ _ _ _ _ _ _ _ (@J3 _) (@Je _ _ _ _) (@Jm _ _ _ _ _ _ _ _ (@JV _) (@JG _ _ _ _ _ _ _ (@JU _) (@pv _ 3 _ _ rfl (.inl rfl) rfl rfl) (@Je _ _ _ _) (fun _ _=>rfl)) (@Je _ _ _ _))) rfl (.inl rfl)) (@Jg _ _ _ (@Jht _ _ _ _ _ _ (@Jm _ _ _ _ _ _ _ _ (@JV _) (@Jm _ _ _ _ _ _ _ _ (@J3 _) (@JG _ _ _ _ _ _ _ (@JU _) (@pv _ 3 _ _ rfl (.inl rfl) rfl rfl) (@Je _ _ _ _) (fun _ _=>rfl)) (@Jm _ _ _ _ _ _ _ _ (@JaU _) (@Je _ _ _ _) (@pv _ 5 _ _ rfl (.inl rfl) rfl rfl))) (@Je _ _ _ _)) (@Juj _ _ _ _ _ _ _ (@pv _ 6 _ _ rfl (.inl rfl) rfl rfl) (@Jm _ _ _ _ _ _ _ _ (@JV _) (@JG _ _ _ _ _ _ _ (@JU _) (@pv _ 3 _ _ rfl (.inl rfl) rfl rfl) (@Je _ _ _ _) (fun _ _=>rfl)) (@pv _ 7 _ _ rfl (.inl rfl) rfl rfl)) (@Jru _) (by intro _; rfl)) rfl rfl rfl)))) (@Jp _))) (@Jd _ _ _ _ _ (@J4 _ _ _ (@JH _ _ _ _ _ _ _ _ (@Js _ _ _ _ _ _ _ _ (@Yg _) (@Jm _ _ _ _ _ _ _ _ (@JV _) (@pv _ 0 _ _ rfl (.inl rfl) rfl rfl) (@Je _ _ _ _)) (@Je _ _ _ _) (JE _)) (@Jd _ _ _ _ _ (@Jr _ _ 6 _ _ _ _ Zt.nd rfl (Or.inl rfl) (@Jm _ _ _ _ _ _ _ _ (@Jum _) (@YX _ _ _ _ (@Ja _ _ _ _ _ (@Jm _ _ _ _ _ _ _ _ (@JV _) (@Jm _ _ _ _ _ _ _ _ (@J3 _) (@JG _ _ _ _ _ _ _ (@JU _) (@pv _ 3 _ _ rfl (.inl rfl) rfl rfl) (@Je _ _ _ _) (fun _ _=>rfl)) (@Jm _ _ _ _ _ _ _ _ (@YU _) (@pv _ 5 _ _ rfl (.inl rfl) rfl rfl) (@Je _ _ _ _))) (@Je _ _ _ _)) (@Jc _) rfl)) (@Je _ _ _ _)) rfl (.inl rfl)) (@Jg _ _ _ (@Jr _ _ 7 _ _ _ _ Zt.nd rfl (Or.inl rfl) (@Jm _ _ _ _ _ _ _ _ (@J3 _) (@Je _ _ _ _) (@Jm _ _ _ _ _ _ _ _ (@JV _) (@Jm _ _ _ _ _ _ _ _ (@J3 _) (@pv _ 5 _ _ rfl (.inl rfl) rfl rfl) (@JG _ _ _ _ _ _ _ (@JU _) (@pv _ 3 _ _ rfl (.inl rfl) rfl rfl) (@Je _ _ _ _) (fun _ _=>rfl))) (@Je _ _ _ _))) rfl (.inl rfl)))) (@Jp _))) (@Jd _ _ _ _ _ (@J4 _ _ _ (@Jr _ _ 8 _ _ _ _ Zt.nd rfl (Or.inl rfl) (@JbC _ _ _ _ _ _ _ _ _ _ _ _ PySem.F.plainAttrs_str PySem.F.slot_str_join PySem.F.type_str_join (@Jtx _) (@Jz _ _ _ _) (@Ja _ _ _ _ _ (@JgU _ _ _ _ _ _ _ 1 ["_law_x", "_law_letters"] [2] _ _ _ _ ["_law_cell", "_law_many", "_law_letters", "_law_free", "_law_found", "_law_k", "_law_places", "_law_size", "_law_head", "_law_more", "_law_name"] ((Jl Jih).names) (by decide +kernel) (@Ja0 _ _ _ _ (@Je0 _ _ _ _ _ _ _ _ _ _ (@Jie _) (@pv _ 6 _ _ rfl (.inl rfl) rfl rfl) (@Jij _) (@Jeu _ _ _ (@Jm _ _ _ _ _ _ _ _ (@Zg _) (@pv _ 7 _ _ rfl (.inl rfl) rfl rfl) (@Je _ _ _ _))))) (fun _ _ _ _=>(@JaT _ _ _ _ _ _ _ _ _ 0 (by decide +kernel) rfl rfl)) (fun _ _ _ _=>(@Jev _)) (fun _ _ _ _=>(@JG _ _ _ _ _ _ _ (@Jm5 _) (@Jbt _ _ _ _ _ _ _ _ _ 1 rfl rfl (by decide) (by decide)) (@Z8 _ _ _ _ _ _ _ _ _ 0 rfl rfl (by decide) (by decide)) (fun _ _=>rfl))) rfl rfl rfl (by intro _; rfl)) (@Jc _) rfl) rfl rfl rfl rfl rfl) rfl (.inl rfl))) (@Jg _ _ _ (@Zn _ _ _ _ _ _ _ _ PassesOwn.never rfl (@ZL _ _ _ _ _ _ rfl T.Z3 (@Ja _ _ _ _ _ (@Je _ _ _ _) (@Jc _) rfl) rfl) (@JQ _ _ 9 _ Zt.nd rfl (Or.inl rfl) (.inl rfl)) (@Jd _ _ _ _ _ (@Jr _ _ 10 _ _ _ _ Zt.nd rfl (Or.inl rfl) (@Jm _ _ _ _ _ _ _ _ (@JoT _) (@pv _ 8 _ _ rfl (.inl rfl) rfl rfl) (@JG _ _ _ _ _ _ _ (@Jm5 _) (@pv _ 2 _ _ rfl (.inr (.inl rfl)) rfl rfl) (@Jm _ _ _ _ _ _ _ _ (@JV _) (@Jm _ _ _ _ _ _ _ _ (@J3 _) (@JG _ _ _ _ _ _ _ (@JU _) (@pv _ 6 _ _ rfl (.inl rfl) rfl rfl) (@Jm _ _ _ _ _ _ _ _ (@Zg _) (@pv _ 7 _ _ rfl (.inl rfl) rfl rfl) (@Je _ _ _ _)) (fun _ _=>rfl)) (@pv _ 9 _ _ rfl (.inl rfl) rfl rfl)) (@Je _ _ _ _)) (fun _ _=>rfl))) rfl (.inl rfl)) (@Jg _ _ _ (@JH _ _ _ _ _ _ _ _ (@Js _ _ _ _ _ _ _ _ (@Jcy _) (@pv _ 10 _ _ rfl (.inl rfl) rfl rfl) (@pv _ 4 _ _ rfl (.inl rfl) rfl rfl) (by with_unfolding_all rfl)) (@Jd _ _ _ _ _ (@JJ _ _ _ _ (@JbC _ _ _ _ _ _ _ _ _ _ _ _ PySem.F.plainAttrs_list PySem.F.slot_list_append PySem.F.type_list_append (@Zp _) (@pv _ 4 _ _ rfl (.inl rfl) rfl rfl) (@Ja _ _ _ _ _ (@pv _ 10 _ _ rfl (.inl rfl) rfl rfl) (@Jc _) rfl) rfl rfl rfl rfl rfl) rfl) (@Jg _ _ _ (@JrK _ _))) (@Jp _)))) (by intro _; rfl)))))))) (by intro _; rfl)) (@Jg _ _ _ (@Jn _ _ _ _ (@pv _ 4 _ _ rfl (.inl rfl) rfl rfl))))))),?_⟩
  try dsimp only [cxK,Jdd]
  refine ⟨fun σ1 H1=>∃ (pf:Addr) (fs:List Int),Jh H H1∧H1 pf=some (.lst (fs.map V.int))∧fs.length=7 * n∧(∀ x∈fs,0≤x∧x < 26)∧σ1=[some (.int c),some (.int n),some (.str LT),some (.ref pf),none,none,none,none,none,none,none],
   ⟨_,rfl,_,_,rfl,rfl,⟨by decide,by decide⟩,_,rfl,_,_,rfl,rfl,.inl ⟨by decide,by decide⟩,c / 4,7 * n,26,congrArg (fun z=>[V.int (c / 4),V.int z,V.int 26]) (by omega:7 * (n:Int)=((7 * n:Nat):Int)),by omega,by decide,by decide,fun pf fs H1 h1 e1 h2 h3 h4=>⟨pf,fs,e1,h2,h3,h4,rfl⟩⟩,?_⟩
  rintro σ1 H1 ⟨pf,fs,e1,hf,hfl,hfr,rfl⟩;refine ⟨by show 0≤sizeLine; decide,fun pl hpl=>?_⟩;have npl:H pl=none:=by
   cases hd:H pl with
   | none=>rfl
   | some u=>rw [e1 _ _ hd] at hpl; cases hpl
  have sl:=hfl;refine ⟨_,rfl,(n:Int),rfl,by omega,by omega,?_⟩;refine ZY (n:=n) (fun i σ H2=>∃ (ss:List Str) (v5 v6 v7 v8 v9 v10:Option V),Jh H1 H2∧H2 pl=some (.lst (ss.map V.str))∧ss.length=i∧(∀ s∈ss,Jac s=true)∧ss.Nodup∧σ=[some (.int c),some (.int n),some (.str LT),some (.ref pf),some (.ref pl),v5,v6,v7,v8,v9,v10])
   ⟨[],none,none,none,none,none,none,Jh.upd hpl,Ji,rfl,(fun s hs=>nomatch hs),List.nodup_nil,rfl⟩ ?_ ?_
  ·rintro i σ H2 hi ⟨ss,v5,v6,v7,v8,v9,v10,e2,hs2,hsl,hsg,hsn,rfl⟩;have hf2:=JC.of (K:=K) (e2 _ _ hf);have at_:∀ {H':Hp} {e:Int},Jh H2 H'→0≤e→e < 7 * n→∃ y,(0≤y∧y < 26)∧atI (fs.map V.int) e=some (.int y):=fun {H' e} _ h0 h1=>by
    obtain ⟨y,h2,h3⟩:=JeB (xs:=fs) (e:=e) h0 (by omega);exact ⟨y,hfr y h3,h2⟩
   refine ⟨_,rfl,_,rfl,_,_,rfl,rfl,.inl ⟨by decide,by decide⟩,_,rfl,_,rfl,_,_,rfl,rfl,.inl ⟨by decide,by decide⟩,_,_,rfl,rfl,_,rfl,pf,_,rfl,hf2,fun p1 n1=>?_⟩;obtain ⟨ys1,ey1,my1⟩:=Jnp (xs:=fs) (lo:=some (7 * (0 + (i:Int)))) (hi:=some (7 * (0 + (i:Int)) + 6));have ly1:ys1.length=6:=by
    have z:=congrArg List.length ey1;rw [List.length_map] at z;rw [← z];unfold ZR;rw [List.length_map];have a1:HT.Yz fs.length 0 (some (7 * (0 + (i:Int))))=7 * i:=by
     rw [show (7 * (0 + (i:Int)))=((7 * i:Nat):Int) by omega,HT.JnX];omega
    have a2:HT.Yz fs.length fs.length (some (7 * (0 + (i:Int)) + 6))=7 * i + 6:=by
     rw [show (7 * (0 + (i:Int)) + 6)=((7 * i + 6:Nat):Int) by omega,HT.JnX];omega
    rw [a1,a2,List.length_take,List.length_drop,List.length_map];omega
   have e3:=Jh.upd (o:=.lst (ZR (fs.map V.int) (some (7 * (0 + (i:Int)))) (some (7 * (0 + (i:Int)) + 6)))) n1;have h3:upd H2 p1 (.lst (ZR (fs.map V.int) (some (7 * (0 + (i:Int)))) (some (7 * (0 + (i:Int)) + 6)))) p1=some (.lst (ys1.map V.int)):=by rw [Ji,ey1]
   generalize upd H2 p1 (.lst (ZR (fs.map V.int) (some (7 * (0 + (i:Int)))) (some (7 * (0 + (i:Int)) + 6))))=H3 at e3 h3;obtain ⟨y1,yr1,ya1⟩:=at_ e3 (e:=7 * (0 + (i:Int)) + 6) (by omega) (by omega);refine ⟨_,rfl,_,rfl,_,_,rfl,rfl,.inl ⟨by decide,by decide⟩,_,_,rfl,rfl,pf,_,_,.int y1,rfl,rfl,e3.seq hf2,ya1,_,_,rfl,rfl,(by show (0:Int) < 6; decide),_,_,rfl,rfl,?_⟩;refine ⟨fun σ1 H4=>∃ (pp:Addr) (xs:List Int) (sz:Int),Jh H2 H4∧H4 pp=some (.lst (xs.map V.int))∧xs.length=6∧(∀ x∈xs,0≤x∧x < 26)∧1≤sz∧sz≤6∧σ1=[some (.int c),some (.int n),some (.str LT),some (.ref pf),some (.ref pl),some (.int (0 + (i:Int))),some (.ref pp),some (.int sz),v8,v9,v10],?_,?_⟩
   ·refine ⟨_,rfl,_,_,rfl,rfl,(by show (0:Int) < 4; decide),rfl,_,rfl,YV (fun _=>?_) (fun _=>?_)⟩
    ·refine ⟨_,rfl,_,rfl,pf,_,rfl,e3.seq hf2,fun p4 n4=>?_⟩;obtain ⟨ys2,ey2,my2⟩:=Jnp (xs:=fs) (lo:=none) (hi:=some 6);have ly2:ys2.length=6:=by
      have z:=congrArg List.length ey2;rw [List.length_map] at z;have z2:=Joh (xs:=fs) (k:=6) (by decide) (by omega);omega
     have n42:H2 p4=none:=by
      cases hd:H2 p4 with
      | none=>rfl
      | some u=>rw [e3 _ _ hd] at n4; cases n4
     have e4:=e3.trans (Jh.upd (o:=.lst (ZR (fs.map V.int) none (some 6))) n4);obtain ⟨y6,yr6,ya6⟩:=at_ e4 (e:=6) (by omega) (by omega);refine ⟨_,rfl,pf,_,_,.int y6,rfl,rfl,e4.seq hf2,ya6,_,_,rfl,rfl,(by show (0:Int) < 6; decide),_,_,rfl,rfl,?_⟩;obtain ⟨y0,yr0,ya0⟩:=at_ e4 (e:=0) (by omega) (by omega);obtain ⟨yo,yro,yao⟩:=at_ e4 (e:=1) (by omega) (by omega);have hsz1:1≤1 + y6 % 6∧1 + y6 % 6≤6:=by omega
     refine ⟨_,rfl,pf,_,_,.int yo,rfl,rfl,e4.seq hf2,yao,_,rfl,_,_,rfl,rfl,.inl ⟨by decide,by decide⟩,_,_,rfl,rfl,_,_,rfl,rfl,(by show (0:Int) < 26; decide),?_⟩;have hj0:=Int.emod_nonneg y0 (b:=1 + y6 % 6) (by omega);have hj1:=Int.emod_lt_of_pos y0 (b:=1 + y6 % 6) (by omega);refine ⟨_,rfl,_,rfl,pf,_,_,.int y0,rfl,rfl,e4.seq hf2,ya0,_,rfl,_,_,rfl,rfl,(by show (0:Int) < 1 + y6 % 6; omega),p4,_,_,(y0 % (1 + y6 % 6)).toNat,rfl,rfl,Ji,?_,?_⟩
     ·rw [ey2,List.length_map,ly2];unfold ixN;rw [if_pos hj0,if_pos (by omega)]
     ·refine ⟨p4,ys2.set (y0 % (1 + y6 % 6)).toNat ((yo + 5 * (0 + (i:Int))) % 26),1 + y6 % 6,fun b u e=>?_,?_,by rw [List.length_set]; exact ly2,fun x hx=>?_,hsz1.1,hsz1.2,rfl⟩
      ·rw [JB (JD e n42)]; exact e4 b u e
      ·rw [Ji,ey2,List.map_set]
      ·rcases List.mem_or_eq_of_mem_set hx with w | w
       ·exact hfr x (my2 x w)
       ·rw [w]; omega
    ·exact ⟨p1,ys1,1 + y1 % 6,e3,h3,ly1,fun x hx=>hfr x (my1 x hx),by omega,by omega,rfl⟩
   rintro σ1 H4 ⟨pp,xs,sz,e4,hx4,lx4,rx4,s41,s42,rfl⟩;refine ⟨fun σ1 H4=>∃ (pp:Addr) (xs:List Int) (sz:Int),Jh H2 H4∧H4 pp=some (.lst (xs.map V.int))∧xs.length=6∧(∀ x∈xs,0≤x∧x < 26)∧1≤sz∧sz≤6∧σ1=[some (.int c),some (.int n),some (.str LT),some (.ref pf),some (.ref pl),some (.int (0 + (i:Int))),some (.ref pp),some (.int sz),v8,v9,v10],?_,?_⟩
   ·refine ⟨_,rfl,_,_,rfl,rfl,(by show (0:Int) < 4; decide),rfl,_,rfl,YV (fun _=>?_) (fun _=>⟨pp,xs,sz,e4,hx4,lx4,rx4,s41,s42,rfl⟩)⟩;obtain ⟨yo,yro,yao⟩:=at_ e4 (e:=1) (by omega) (by omega);refine ⟨_,rfl,pf,_,_,.int yo,rfl,rfl,e4.seq hf2,yao,_,rfl,_,_,rfl,rfl,⟨by decide,by decide⟩,_,_,rfl,rfl,_,_,rfl,rfl,(by show (0:Int) < 26; decide),by show 1≤sizeLine; decide,fun p5 n5=>?_⟩;have e5:=e4.trans (Jh.upd (o:=.lst [.int ((yo + (0 + (i:Int)) / 6) % 26)]) n5);refine ⟨p5,6,_,rfl,rfl,Ji,by decide,by decide,by show 1 * 6≤sizeLine; decide,fun p6 n6=>?_⟩;have e6:=e5.trans (Jh.upd (o:=.lst (List.replicate (6:Int).toNat [V.int ((yo + (0 + (i:Int)) / 6) % 26)]).flatten) n6);obtain ⟨y0,yr0,ya0⟩:=at_ e6 (e:=0) (by omega) (by omega);refine ⟨_,rfl,_,rfl,pf,_,_,.int y0,rfl,rfl,e6.seq hf2,ya0,_,_,rfl,rfl,_,_,rfl,rfl,(by show (0:Int) < 6; decide),_,_,rfl,rfl,?_⟩;refine ⟨p6,List.replicate 6 ((yo + (0 + (i:Int)) / 6) % 26),_,e6,?_,by simp,fun x hx=>?_,?_,?_,rfl⟩
    ·rw [Ji]; rfl
    ·rw [(List.mem_replicate.mp hx).2]; omega
    ·omega
    ·omega
   clear hx4 lx4 rx4 s41 s42 e4 pp xs sz H4 e3 h3 H3 ya1 yr1 y1 ly1 my1 ey1 ys1;rintro σ1 H4 ⟨pp,xs,sz,e4,hx4,lx4,rx4,s41,s42,rfl⟩;refine ⟨fun σ1 H5=>∃ hd:Str,Jh H2 H5∧H5 pp=some (.lst (xs.map V.int))∧hd.length≤5∧(∀ c∈hd.cps.toList,Jal c=true)∧σ1=[some (.int c),some (.int n),some (.str LT),some (.ref pf),some (.ref pl),some (.int (0 + (i:Int))),some (.ref pp),some (.int sz),some (.str hd),v9,v10],?_,?_⟩
   ·refine ⟨rfl,_,rfl,_,rfl,_,_,rfl,rfl,_,rfl,pp,_,rfl,JC.of hx4,fun p5 n5=>⟨p5,rfl,⟨_,JC.of Ji⟩,fun D hD=>?_⟩⟩;have e5:=Jh.upd (o:=.lst (ZR (xs.map V.int) none (some (sz - 1)))) n5;have hcl:=Joh (xs:=xs) (k:=sz - 1) (by omega) (by omega);refine JlL (xs:=ZR (xs.map V.int) none (some (sz - 1))) (fun _ v=>∃ c,v=.str ⟨#[c]⟩∧Jal c=true) rfl (JC.of Ji) hD (by have:sizeLine=16777216:=sizeLine_eq; omega) (fun i x H6 hx6 e6 Q' hQ=>?_) (fun ys H6 e6 hD6 hl6 hF=>?_)
    ·obtain ⟨j,hj,rfl⟩:=List.mem_map.mp (Jtz (List.mem_of_getElem? hx6));obtain ⟨hj0,hj1⟩:=rx4 j hj;exact ⟨_,rfl,_,rfl,_,_,_,rfl,rfl,Jq1,Jly hj0 hj1,hQ _ ⟨_,rfl,Jmu (by omega)⟩⟩
    ·obtain ⟨zs,rfl,hz⟩:∃ zs:List Str,ys=zs.map V.str∧∀ y∈zs,∃ c,y=⟨#[c]⟩∧Jal c=true:=by
      clear hD6 hl6
      induction ys with
      | nil=>exact ⟨[],rfl,fun u hu=>nomatch hu⟩
      | cons v r ih =>
       obtain ⟨zs,rfl,hz⟩:=ih fun i v' e=>hF (i + 1) v' (by simpa using e)
       obtain ⟨d,rfl,hu⟩:=hF 0 v rfl;refine ⟨⟨#[d]⟩ :: zs,rfl,fun u' h'=>?_⟩;rcases List.mem_cons.mp h' with rfl | h'
       ·exact ⟨d,rfl,hu⟩
       ·exact hz u' h'
     rw [List.length_map] at hl6;obtain ⟨j1,j2⟩:=JjZ hz;have ej:Txt.join Str.empty zs=Str.join Str.empty zs:=StrLaws.glued_eq_join _ _;have hsum:(zs.map (·.length)).sum=zs.length:=PyProof.Rows.sumLen_of_ones zs fun u hu=>by
      obtain ⟨d,rfl,_⟩:=hz u hu;rfl
     refine ⟨_,D,zs,rfl,rfl,JC.of hD6,by show _ + zs.length * 0≤_; omega,Txt.join Str.empty zs,(e4.trans e5).trans e6,e6 _ _ (e5 _ _ hx4),?_,?_,rfl⟩
     ·rw [ej,j1]; omega
     ·rw [ej]; exact j2
   rintro σ1 H5 ⟨hd,e5,hx5,hd1,hd2,rfl⟩;obtain ⟨x,hxa,hxm⟩:=JeB (xs:=xs) (e:=sz - 1) (by omega) (by omega);have hs5:=e5 _ _ hs2;refine ⟨26,rfl,by decide,by decide,ZY (n:=26) (fun j σ H6=>H6=H5∧(∀ m:Nat,m < j→nam hd ((x + m) % 26).toNat∈ss)∧∃ v9 v10,σ=[some (.int c),some (.int n),some (.str LT),some (.ref pf),some (.ref pl),some (.int (0 + (i:Int))),some (.ref pp),some (.int sz),some (.str hd),v9,v10]) ⟨rfl,fun m hm=>absurd hm (Nat.not_lt_zero _),_,_,rfl⟩ ?_ ?_⟩
   ·rintro j σ H6 hj ⟨rfl,hin,v9,v10,rfl⟩;have m0:=Int.emod_nonneg (x + (0 + (j:Int))) (b:=26) (by decide);have m1:=Int.emod_lt_of_pos (x + (0 + (j:Int))) (b:=26) (by decide);have en:(x + (0 + (j:Int))) % 26=(x + (j:Nat)) % 26:=by rw [Int.zero_add]
    refine ⟨_,rfl,_,rfl,_,rfl,_,rfl,_,_,rfl,rfl,pp,_,_,.int x,rfl,rfl,JC.of hx5,hxa,_,rfl,_,_,rfl,rfl,_,_,rfl,rfl,(by show (0:Int) < 26; decide),_,_,_,rfl,rfl,Jq1,Jly m0 m1,_,_,rfl,rfl,?_,?_⟩
    ·show hd.length + 1≤sizeLine;have:sizeLine=16777216:=sizeLine_eq;omega
    ·refine ⟨_,rfl,_,rfl,pl,_,rfl,.inl (JC.of hs5),rfl,Jdv ss,_,rfl,?_⟩;rw [if_pos rfl,Jfg];show if (!decide (nam hd ((x + (0 + (j:Int))) % 26).toNat∈ss))=true then _ else _;rw [en];by_cases hmem:nam hd ((x + (j:Nat)) % 26).toNat∈ss
     ·refine Yb (by rw [decide_eq_true hmem]; rfl) ⟨rfl,fun m hm=>?_,_,_,rfl⟩;by_cases hmj:m=j
      ·rw [hmj]; exact hmem
      ·exact hin m (by omega)
     ·refine YF (by rw [decide_eq_false hmem]; rfl) ?_;refine ⟨_,rfl,.inl ⟨rfl,_,JC.of hs5⟩,_,rfl,pl,_,_,rfl,rfl,hs5,by rw [List.length_map]; have:sizeLine=16777216:=sizeLine_eq; omega,?_⟩;refine ⟨ss ++ [nam hd ((x + (j:Nat)) % 26).toNat],_,_,_,_,_,_,fun b u e=>?_,?_,by simp [hsl],fun s hs=>?_,?_,rfl⟩
      ·rw [JB (JD e hpl)]; exact e5 b u (e2 b u e)
      ·rw [Ji,List.map_append];rfl
      ·rcases List.mem_append.mp hs with w | w
       ·exact hsg s w
       ·rw [List.mem_singleton.mp w];exact JrY hd1 hd2 (by rw [en] at m0 m1; omega)
      ·rw [List.nodup_append];refine ⟨hsn,by simp,fun a ha b hb e=>?_⟩;rw [List.mem_singleton] at hb;subst hb e;exact hmem ha
   ·rintro σ H6 ⟨rfl,hin,_⟩;exact (JrZ (x:=x) (ss:=ss) (by omega) fun m hm=>hin m hm).elim
  ·rintro σ H2 ⟨ss,v5,v6,v7,v8,v9,v10,e2,hs2,hsl,hsg,hsn,rfl⟩;exact ⟨_,rfl,q pl ss H2 npl (e1.trans e2) hs2 hsl hsg hsn⟩
theorem JrS (T:Txt K mg):JK P w K mg base YB 2 T.Jk3 T.Jja ["_law_cell", "_law_draw", "_law_size"] (Jrd K):=by
 refine T.Jlh.F.ok Z7 (fun vs H Q E h=>?_) (fun cdv A outer s H vs Q E hr h=>?_)
 ·obtain ⟨_,_,_,rfl,_⟩:=h;rfl
 ·obtain ⟨c,d,n,rfl,hn1,hn2,q⟩:=h;have hu:=Jio hr;have szl:sizeLine=16777216:=sizeLine_eq;refine ⟨_,(@Jd _ _ _ _ _ (@Jr _ _ 3 _ _ _ _ Z7.nd rfl (Or.inl rfl) (@YX _ _ _ _ (@Jc _)) rfl (.inl rfl)) (@Jd _ _ _ _ _ (@Jr _ _ 4 _ _ _ _ Z7.nd rfl (Or.inl rfl) (@Jm _ _ _ _ _ _ _ _ (@JV _) (@Jm _ _ _ _ _ _ _ _ (@YU _) (@pv _ 0 _ _ rfl (.inl rfl) rfl rfl) (@Je _ _ _ _)) (@Je _ _ _ _)) rfl (.inl rfl)) (@Jd _ _ _ _ _ (@J4 _ _ _ (@JH _ _ _ _ _ _ _ _ (@Js _ _ _ _ _ _ _ _ (@Yg _) (@Jm _ _ _ _ _ _ _ _ (@JV _) (@pv _ 0 _ _ rfl (.inl rfl) rfl rfl) (@Je _ _ _ _)) (@Je _ _ _ _) (JE _)) (@Jg _ _ _ (@Zn _ _ _ _ _ _ _ _ PassesOwn.never rfl (@ZL _ _ _ _ _ _ rfl T.Z3 (@Ja _ _ _ _ _ (@Jm _ _ _ _ _ _ _ _ (@Zg _) (@pv _ 2 _ _ rfl (.inl rfl) rfl rfl) (@Je _ _ _ _)) (@Jc _) rfl) rfl) (@JQ _ _ 5 _ Z7.nd rfl (Or.inl rfl) (.inl rfl)) (@Jd _ _ _ _ _ (@JJ _ _ _ _ (@JbC _ _ _ _ _ _ _ _ _ _ _ _ PySem.F.plainAttrs_list PySem.F.slot_list_append PySem.F.type_list_append (@Zp _) (@pv _ 3 _ _ rfl (.inl rfl) rfl rfl) (@Ja _ _ _ _ _ (@Yn _ _ _ _ _ (@Ja _ _ _ _ _ (@pv _ 5 _ _ rfl (.inl rfl) rfl rfl) (@Ja _ _ _ _ _ (@Jm _ _ _ _ _ _ _ _ (@J3 _) (@pv _ 5 _ _ rfl (.inl rfl) rfl rfl) (@Je _ _ _ _)) (@Jc _) rfl) rfl)) (@Jc _) rfl) rfl rfl rfl rfl rfl) rfl) (@Jg _ _ _ (@JJ _ _ _ _ (@JbC _ _ _ _ _ _ _ _ _ _ _ _ PySem.F.plainAttrs_list PySem.F.slot_list_append PySem.F.type_list_append (@Zp _) (@pv _ 3 _ _ rfl (.inl rfl) rfl rfl) (@Ja _ _ _ _ _ (@Yn _ _ _ _ _ (@Ja _ _ _ _ _ (@pv _ 5 _ _ rfl (.inl rfl) rfl rfl) (@Ja _ _ _ _ _ (@JF _ _ _ _ _ _ _ _ _ (@Jdw _ rfl) rfl T.JgW PyProof.Rows.boot_max (@Ja _ _ _ _ _ (@Je _ _ _ _) (@Ja _ _ _ _ _ (@Jm _ _ _ _ _ _ _ _ (@Zg _) (@pv _ 5 _ _ rfl (.inl rfl) rfl rfl) (@Je _ _ _ _)) (@Jc _) rfl) rfl) (by decide) (by decide) rfl rfl) (@Jc _) rfl) rfl)) (@Jc _) rfl) rfl rfl rfl rfl rfl) rfl))) (by intro _; rfl))) (@Jp _))) (@Jd _ _ _ _ _ (@J4 _ _ _ (@JH _ _ _ _ _ _ _ _ (@Js _ _ _ _ _ _ _ _ (@Yg _) (@Jm _ _ _ _ _ _ _ _ (@JV _) (@pv _ 0 _ _ rfl (.inl rfl) rfl rfl) (@Je _ _ _ _)) (@Je _ _ _ _) (JE _)) (@Jg _ _ _ (@Zn _ _ _ _ _ _ _ _ PassesOwn.never rfl (@JpY _ _ _ _ _ _ _ rfl T.Z3 (@Ja _ _ _ _ _ (@Je _ _ _ _) (@Ja _ _ _ _ _ (@Jm _ _ _ _ _ _ _ _ (@Zg _) (@pv _ 2 _ _ rfl (.inl rfl) rfl rfl) (@Je _ _ _ _)) (@Jc _) rfl) rfl) rfl rfl) (@JQ _ _ 5 _ Z7.nd rfl (Or.inl rfl) (.inl rfl)) (@Jd _ _ _ _ _ (@JJ _ _ _ _ (@JbC _ _ _ _ _ _ _ _ _ _ _ _ PySem.F.plainAttrs_list PySem.F.slot_list_append PySem.F.type_list_append (@Zp _) (@pv _ 3 _ _ rfl (.inl rfl) rfl rfl) (@Ja _ _ _ _ _ (@Yn _ _ _ _ _ (@Ja _ _ _ _ _ (@pv _ 5 _ _ rfl (.inl rfl) rfl rfl) (@Ja _ _ _ _ _ (@Jm _ _ _ _ _ _ _ _ (@J3 _) (@pv _ 5 _ _ rfl (.inl rfl) rfl rfl) (@Je _ _ _ _)) (@Jc _) rfl) rfl)) (@Jc _) rfl) rfl rfl rfl rfl rfl) rfl) (@Jg _ _ _ (@JJ _ _ _ _ (@JbC _ _ _ _ _ _ _ _ _ _ _ _ PySem.F.plainAttrs_list PySem.F.slot_list_append PySem.F.type_list_append (@Zp _) (@pv _ 3 _ _ rfl (.inl rfl) rfl rfl) (@Ja _ _ _ _ _ (@Yn _ _ _ _ _ (@Ja _ _ _ _ _ (@pv _ 5 _ _ rfl (.inl rfl) rfl rfl) (@Ja _ _ _ _ _ (@Je _ _ _ _) (@Jc _) rfl) rfl)) (@Jc _) rfl) rfl rfl rfl rfl rfl) rfl))) (by intro _; rfl))) (@Jp _))) (@Jd _ _ _ _ _ (@J4 _ _ _ (@JH _ _ _ _ _ _ _ _ (@Js _ _ _ _ _ _ _ _ (@Yg _) (@Jm _ _ _ _ _ _ _ _ (@JV _) (@pv _ 0 _ _ rfl (.inl rfl) rfl rfl) (@Je _ _ _ _)) (@Je _ _ _ _) (JE _)) (@Jg _ _ _ (@Jr _ _ 4 _ _ _ _ Z7.nd rfl (Or.inl rfl) (@Jm _ _ _ _ _ _ _ _ (@JaU _) (@Je _ _ _ _) (@JF _ _ _ _ _ _ _ _ _ (@Jdw _ rfl) rfl T.JgW PyProof.Rows.boot_max (@Ja _ _ _ _ _ (@Je _ _ _ _) (@Ja _ _ _ _ _ (@Jm _ _ _ _ _ _ _ _ (@Zg _) (@pv _ 2 _ _ rfl (.inl rfl) rfl rfl) (@Je _ _ _ _)) (@Jc _) rfl) rfl) (by decide) (by decide) rfl rfl)) rfl (.inl rfl))) (@Jp _))) (@Jd _ _ _ _ _ (@J4 _ _ _ (@JH _ _ _ _ _ _ _ _ (@Js _ _ _ _ _ _ _ _ (@Yg _) (@Jm _ _ _ _ _ _ _ _ (@JV _) (@pv _ 0 _ _ rfl (.inl rfl) rfl rfl) (@Je _ _ _ _)) (@Je _ _ _ _) (JE _)) (@Jg _ _ _ (@Jr _ _ 4 _ _ _ _ Z7.nd rfl (Or.inl rfl) (@Jm _ _ _ _ _ _ _ _ (@JV _) (@Jm _ _ _ _ _ _ _ _ (@J3 _) (@Jm _ _ _ _ _ _ _ _ (@YU _) (@pv _ 0 _ _ rfl (.inl rfl) rfl rfl) (@Je _ _ _ _)) (@Je _ _ _ _)) (@Je _ _ _ _)) rfl (.inl rfl))) (@Jp _))) (@Jd _ _ _ _ _ (@J4 _ _ _ (@Jr _ _ 6 _ _ _ _ Z7.nd rfl (Or.inl rfl) (@Jk _ _ _ _ _ _ _ _ _ _ _ _ _ _ _ T.Jiv (JjO T) (hr.mono (by decide)) Jt (@Ja _ _ _ _ _ (@pv _ 1 _ _ rfl (.inl rfl) rfl rfl) (@Ja _ _ _ _ _ (@Jm _ _ _ _ _ _ _ _ (@JaU _) (@Je _ _ _ _) (@pv _ 4 _ _ rfl (.inl rfl) rfl rfl)) (@Ja _ _ _ _ _ (@pv _ 2 _ _ rfl (.inl rfl) rfl rfl) (@Jc _) rfl) rfl) rfl) rfl (by decide) rfl rfl) rfl (.inl rfl))) (@Jd _ _ _ _ _ (@Zn _ _ _ _ _ _ _ _ PassesOwn.never rfl (@ZL _ _ _ _ _ _ rfl T.Z3 (@Ja _ _ _ _ _ (@pv _ 4 _ _ rfl (.inl rfl) rfl rfl) (@Jc _) rfl) rfl) (@JQ _ _ 5 _ Z7.nd rfl (Or.inl rfl) (.inl rfl)) (@Jd _ _ _ _ _ (@Jr _ _ 7 _ _ _ _ Z7.nd rfl (Or.inl rfl) (@Yn _ _ _ _ _ (@Ja _ _ _ _ _ (@JG _ _ _ _ _ _ _ (@JU _) (@pv _ 6 _ _ rfl (.inl rfl) rfl rfl) (@Jm _ _ _ _ _ _ _ _ (@JaU _) (@Je _ _ _ _) (@pv _ 5 _ _ rfl (.inl rfl) rfl rfl)) (fun _ _=>rfl)) (@Ja _ _ _ _ _ (@JG _ _ _ _ _ _ _ (@JU _) (@pv _ 6 _ _ rfl (.inl rfl) rfl rfl) (@Jm _ _ _ _ _ _ _ _ (@J3 _) (@Jm _ _ _ _ _ _ _ _ (@JaU _) (@Je _ _ _ _) (@pv _ 5 _ _ rfl (.inl rfl) rfl rfl)) (@Je _ _ _ _)) (fun _ _=>rfl)) (@Jc _) rfl) rfl)) rfl (.inl rfl)) (@Jd _ _ _ _ _ (@J4 _ _ _ (@JH _ _ _ _ _ _ _ _ (@Js _ _ _ _ _ _ _ _ (@Yg _) (@Jm _ _ _ _ _ _ _ _ (@JV _) (@pv _ 0 _ _ rfl (.inl rfl) rfl rfl) (@Je _ _ _ _)) (@Je _ _ _ _) (JE _)) (@Jg _ _ _ (@Jr _ _ 7 _ _ _ _ Z7.nd rfl (Or.inl rfl) (@Yn _ _ _ _ _ (@Ja _ _ _ _ _ (@Jm _ _ _ _ _ _ _ _ (@J3 _) (@Je _ _ _ _) (@Jm _ _ _ _ _ _ _ _ (@YU _) (@pv _ 5 _ _ rfl (.inl rfl) rfl rfl) (@Je _ _ _ _))) (@Ja _ _ _ _ _ (@JG _ _ _ _ _ _ _ (@JU _) (@pv _ 6 _ _ rfl (.inl rfl) rfl rfl) (@pv _ 5 _ _ rfl (.inl rfl) rfl rfl) (fun _ _=>rfl)) (@Jc _) rfl) rfl)) rfl (.inl rfl))) (@Jp _))) (@Jg _ _ _ (@J4 _ _ _ (@JH _ _ _ _ _ _ _ _ (@Js _ _ _ _ _ _ _ _ (@Jl6 _ hu) (@pv _ 7 _ _ rfl (.inl rfl) rfl rfl) (@pv _ 3 _ _ rfl (.inl rfl) rfl rfl) (by with_unfolding_all rfl)) (@Jg _ _ _ (@JJ _ _ _ _ (@JbC _ _ _ _ _ _ _ _ _ _ _ _ PySem.F.plainAttrs_list PySem.F.slot_list_append PySem.F.type_list_append (@Zp _) (@pv _ 3 _ _ rfl (.inl rfl) rfl rfl) (@Ja _ _ _ _ _ (@pv _ 7 _ _ rfl (.inl rfl) rfl rfl) (@Jc _) rfl) rfl rfl rfl rfl rfl) rfl)) (@Jp _)))))) (by intro _; rfl)) (@Jg _ _ _ (@Jn _ _ _ _ (@pv _ 3 _ _ rfl (.inl rfl) rfl rfl))))))))))),?_⟩
  try dsimp only [cxK,Jdd]
  refine ⟨by show 0≤sizeLine; decide,fun pl hpl=>?_⟩;have W0:PW K H pl n (upd H pl (.lst [])) []:=⟨Jh.upd hpl,Ji,(fun z hz=>nomatch hz),List.nodup_nil,(fun z hz=>nomatch hz)⟩
  generalize upd H pl (.lst [])=H1 at W0;refine ⟨_,rfl,_,_,rfl,rfl,⟨by decide,by decide⟩,_,_,rfl,rfl,(by show (0:Int) < 9; decide),?_⟩;refine ⟨fun σ1 H2=>∃ zs v5,PW K H pl n H2 zs∧(c % 4=0→zs.length≤22)∧(c % 4≠0→zs=[])∧σ1=[some (.int c),some (.int d),some (.int n),some (.ref pl),some (.int (c / 4 % 9)),v5,none,none],?_,?_⟩
  ·refine ⟨_,rfl,_,_,rfl,rfl,(by show (0:Int) < 4; decide),rfl,_,rfl,YV (fun c0=>?_) (fun c0=>⟨[],none,W0,fun _=>Nat.zero_le _,fun _=>rfl,rfl⟩)⟩;have c0':c % 4=0:=V.int.inj (of_decide_eq_true c0);refine ⟨_,rfl,_,_,rfl,rfl,(n:Int) - 1,rfl,by omega,by omega,?_⟩;rw [show ((n:Int) - 1).toNat=n - 1 by omega];refine ZY (n:=n - 1) (fun i σ H2=>∃ zs v5,PW K H pl n H2 zs∧zs.length=2 * i∧(∀ z∈zs,z.2.1 < i)∧σ=[some (.int c),some (.int d),some (.int n),some (.ref pl),some (.int (c / 4 % 9)),v5,none,none]) ⟨[],none,W0,rfl,(fun z hz=>nomatch hz),rfl⟩ ?_ ?_
   ·rintro i σ H2 hi ⟨zs,v5,W,hl,hz,rfl⟩;refine ⟨_,rfl,.inl ⟨rfl,_,JC.of W.at_⟩,_,rfl,_,rfl,_,_,rfl,rfl,by show 2≤sizeLine; omega,fun t1 n1=>⟨pl,_,_,rfl,rfl,(Jh.upd n1) _ _ W.at_,by rw [List.length_map]; omega,?_⟩⟩;have W1:=W.add hpl (Jh.upd n1) (t:=t1) (a:=0 + (i:Int)) (b:=0 + (i:Int) + 1) Ji (fun q=>by
     obtain ⟨z,h1,h2⟩:=List.mem_map.mp q;have:=hz z h1;rw [h2] at this;have:(0:Int) + i < i:=this;omega) ⟨by omega,by omega⟩
    refine ⟨_,rfl,.inl ⟨rfl,_,JC.of W1.at_⟩,_,rfl,_,rfl,_,_,rfl,rfl,_,_,rfl,by show 2≤sizeLine; omega,fun t2 n2=>⟨pl,_,_,rfl,rfl,(Jh.upd n2) _ _ W1.at_,by rw [List.length_map,List.length_append]; show _ + 1 < _; omega,?_⟩⟩;have W2:=W1.add hpl (Jh.upd n2) (t:=t2) (a:=0 + (i:Int)) (b:=if 0 + (i:Int) - 1 > 0 then 0 + (i:Int) - 1 else 0) Ji (fun q=>by
     rw [List.map_append,List.mem_append] at q;rcases q with q | q
     ·obtain ⟨z,h1,h2⟩:=List.mem_map.mp q;have:=hz z h1;rw [h2] at this;have:(0:Int) + i < i:=this;omega
     ·have e:=congrArg Prod.snd (List.mem_singleton.mp q);have e:(if 0 + (i:Int) - 1 > 0 then 0 + (i:Int) - 1 else 0)=0 + (i:Int) + 1:=e;split at e <;> omega) ⟨by omega,by split <;> omega⟩
    exact ⟨_,_,W2,by simp [hl]; omega,fun z hz2=>by
     rcases List.mem_append.mp hz2 with q | q
     ·rcases List.mem_append.mp q with q | q
      ·have:=hz z q; show z.2.1 < ((i + 1:Nat):Int); omega
      ·rw [List.mem_singleton.mp q]; show (0:Int) + i < ((i + 1:Nat):Int); omega
     ·rw [List.mem_singleton.mp q]; show (0:Int) + i < ((i + 1:Nat):Int); omega,rfl⟩
   ·rintro σ H2 ⟨zs,v5,W,hl,hz,rfl⟩;exact ⟨zs,v5,W,fun _=>by omega,fun h=>absurd c0' h,rfl⟩
  rintro σ1 H2 ⟨zs,v5,W,l1,l2,rfl⟩;refine ⟨fun σ1 H2=>∃ zs v5,PW K H pl n H2 zs∧(c % 4=0∨c % 4=1→zs.length≤22)∧(c % 4≠0→c % 4≠1→zs=[])∧σ1=[some (.int c),some (.int d),some (.int n),some (.ref pl),some (.int (c / 4 % 9)),v5,none,none],?_,?_⟩
  ·refine ⟨_,rfl,_,_,rfl,rfl,(by show (0:Int) < 4; decide),rfl,_,rfl,YV (fun c1=>?_) (fun c1=>⟨zs,v5,W,fun h=>l1 (h.elim id fun e=>absurd (decide_eq_true (congrArg V.int e)) c1),fun h _=>l2 h,rfl⟩)⟩;have c1':c % 4=1:=V.int.inj (of_decide_eq_true c1);obtain rfl:zs=[]:=l2 (by omega);refine ⟨_,rfl,_,_,rfl,rfl,1,(n:Int) - 1,rfl,⟨by omega,by omega,by omega,by omega⟩,?_⟩;rw [show ((n:Int) - 1 - 1).toNat=n - 2 by omega];refine ZY (n:=n - 2) (fun i σ H2=>∃ zs v5,PW K H pl n H2 zs∧zs.length=2 * i∧(∀ z∈zs,z.2.1 < 1 + i)∧σ=[some (.int c),some (.int d),some (.int n),some (.ref pl),some (.int (c / 4 % 9)),v5,none,none]) ⟨[],v5,W,rfl,(fun z hz=>nomatch hz),rfl⟩ ?_ ?_
   ·rintro i σ H2 hi ⟨zs,v5,W,hl,hz,rfl⟩;refine ⟨_,rfl,.inl ⟨rfl,_,JC.of W.at_⟩,_,rfl,_,rfl,_,_,rfl,rfl,by show 2≤sizeLine; omega,fun t1 n1=>⟨pl,_,_,rfl,rfl,(Jh.upd n1) _ _ W.at_,by rw [List.length_map]; omega,?_⟩⟩;have W1:=W.add hpl (Jh.upd n1) (t:=t1) (a:=1 + (i:Int)) (b:=1 + (i:Int) + 1) Ji (fun q=>by
     obtain ⟨z,h1,h2⟩:=List.mem_map.mp q;have:=hz z h1;rw [h2] at this;have:(1:Int) + i < 1 + i:=this;omega) ⟨by omega,by omega⟩
    refine ⟨_,rfl,.inl ⟨rfl,_,JC.of W1.at_⟩,_,rfl,by show 2≤sizeLine; omega,fun t2 n2=>⟨pl,_,_,rfl,rfl,(Jh.upd n2) _ _ W1.at_,by rw [List.length_map,List.length_append]; show _ + 1 < _; omega,?_⟩⟩;have W2:=W1.add hpl (Jh.upd n2) (t:=t2) (a:=1 + (i:Int)) (b:=0) Ji (fun q=>by
     rw [List.map_append,List.mem_append] at q;rcases q with q | q
     ·obtain ⟨z,h1,h2⟩:=List.mem_map.mp q;have:=hz z h1;rw [h2] at this;have:(1:Int) + i < 1 + i:=this;omega
     ·have e:=congrArg Prod.snd (List.mem_singleton.mp q);have e:(0:Int)=1 + (i:Int) + 1:=e;omega) ⟨by omega,by omega⟩
    exact ⟨_,_,W2,by simp [hl]; omega,fun z hz2=>by
     rcases List.mem_append.mp hz2 with q | q
     ·rcases List.mem_append.mp q with q | q
      ·have:=hz z q; show z.2.1 < 1 + ((i + 1:Nat):Int); omega
      ·rw [List.mem_singleton.mp q]; show (1:Int) + i < 1 + ((i + 1:Nat):Int); omega
     ·rw [List.mem_singleton.mp q]; show (1:Int) + i < 1 + ((i + 1:Nat):Int); omega,rfl⟩
   ·rintro σ H2 ⟨zs,v5,W,hl,hz,rfl⟩;exact ⟨zs,v5,W,fun _=>by omega,fun h h'=>absurd c1' h',rfl⟩
  clear l1 l2 W v5 zs H2;rintro σ1 H2 ⟨zs,v5,W,l1,l2,rfl⟩;have m9:0≤c / 4 % 9∧c / 4 % 9≤8:=by omega
  refine ⟨fun σ1 H3=>∃ m:Int,H3=H2∧0≤m∧zs.length + m≤40∧(c % 4=2→m≤2 * ((n:Int) - 2)∨m=0)∧σ1=[some (.int c),some (.int d),some (.int n),some (.ref pl),some (.int m),v5,none,none],?_,?_⟩
  ·refine ⟨_,rfl,_,_,rfl,rfl,(by show (0:Int) < 4; decide),rfl,_,rfl,YV (fun c2=>?_) (fun c2=>⟨_,rfl,m9.1,?_,fun h=>absurd (decide_eq_true (congrArg V.int h)) c2,rfl⟩)⟩
   ·have c2':c % 4=2:=V.int.inj (of_decide_eq_true c2);obtain rfl:zs=[]:=l2 (by omega) (by omega);refine ⟨_,rfl,_,_,rfl,rfl,_,_,rfl,_,_,rfl,rfl,.inl ⟨by decide,by decide⟩,_,rfl,?_,?_,fun _=>?_,rfl⟩
    ·split <;> omega
    ·show ((0:Nat):Int) + _≤40;split <;> omega
    ·split <;> omega
   ·by_cases h:c % 4=0∨c % 4=1
    ·have:=l1 h; omega
    ·rw [l2 (fun e=>h (.inl e)) (fun e=>h (.inr e))];show ((0:Nat):Int) + _≤40;omega
  rintro σ1 H3 ⟨m,rfl,hm0,hm1,hm2,rfl⟩;refine ⟨fun σ1 H4=>∃ m:Nat,H4=H3∧zs.length + m≤40∧(c % 4=2→m≤2 * (n - 2))∧σ1=[some (.int c),some (.int d),some (.int n),some (.ref pl),some (.int m),v5,none,none],?_,?_⟩
  ·refine ⟨_,rfl,_,_,rfl,rfl,(by show (0:Int) < 4; decide),rfl,_,rfl,YV (fun c3=>?_) (fun c3=>⟨m.toNat,rfl,by omega,fun h=>by have:=hm2 h; omega,by rw [Int.toNat_of_nonneg hm0]⟩)⟩;have c3':c % 4=3:=V.int.inj (of_decide_eq_true c3);obtain rfl:zs=[]:=l2 (by omega) (by omega);refine ⟨_,rfl,_,_,rfl,rfl,⟨by decide,by decide⟩,_,_,rfl,rfl,_,_,rfl,rfl,(by show (0:Int) < 41; decide),((c / 4 + 40) % 41).toNat,rfl,?_,fun h=>by omega,?_⟩
   ·show 0 + _≤40;omega
   ·rw [Int.toNat_of_nonneg (by omega)]; rfl
  clear hm2 hm1 hm0 m;rintro σ1 H4 ⟨m,rfl,hm1,hm2,rfl⟩;refine ⟨fun σ1 H5=>∃ (pe:Addr) (es:List Int),PW K H pl n H5 zs∧JC K H5 pe (es.map V.int)∧pe≠pl∧es.length=2 * m∧(∀ x∈es,0≤x∧x < n)∧σ1=[some (.int c),some (.int d),some (.int n),some (.ref pl),some (.int m),v5,some (.ref pe),none],
   ⟨_,rfl,_,rfl,_,_,rfl,rfl,.inl ⟨by decide,by decide⟩,_,rfl,d,2 * m,n,congrArg (fun z=>[V.int d,V.int z,V.int n]) (by omega:2 * (m:Int)=((2 * m:Nat):Int)),by omega,by omega,by omega,fun pe es H4 h1 e4 h2 h3 h4=>?_⟩,?_⟩
  ·exact ⟨pe,es,⟨W.sm.trans e4,e4 _ _ W.at_,fun z hz=>let ⟨a,g1,g2⟩:=W.ip z hz; ⟨a,g1,e4.tup g2⟩,W.nd,W.rg⟩,JC.of h2,(fun e=>by rw [e,W.at_] at h1; cases h1),h3,h4,rfl⟩
  rintro σ1 H4 ⟨pe,es,W4,he,hne,hel,her,rfl⟩;refine ⟨_,rfl,(m:Int),rfl,by omega,by omega,?_⟩;refine ZY (n:=m) (fun i σ H5=>∃ zs' v5 v7,PW K H pl n H5 zs'∧JC K H5 pe (es.map V.int)∧zs'.length≤zs.length + i∧σ=[some (.int c),some (.int d),some (.int n),some (.ref pl),some (.int m),v5,some (.ref pe),v7]) ⟨zs,v5,none,W4,he,by omega,rfl⟩ ?_ ?_
  ·rintro i σ H5 hi ⟨zs',v5,v7,W5,he5,hl5,rfl⟩;obtain ⟨x1,a1,g1⟩:=JeB (xs:=es) (e:=2 * (0 + (i:Int))) (by omega) (by omega);obtain ⟨x2,a2,g2⟩:=JeB (xs:=es) (e:=2 * (0 + (i:Int)) + 1) (by omega) (by omega);refine ⟨_,rfl,_,rfl,_,_,rfl,rfl,.inl ⟨by decide,by decide⟩,pe,_,_,.int x1,rfl,rfl,he5,a1,_,rfl,_,rfl,_,_,rfl,rfl,.inl ⟨by decide,by decide⟩,_,_,rfl,rfl,pe,_,_,.int x2,rfl,rfl,he5,a2,by show 2≤sizeLine; omega,fun t n1=>?_⟩;have e6:=Jh.upd (o:=.tup [.int x1,.int x2]) n1;refine ⟨fun σ1 H6=>∃ t a b,Jh H5 H6∧H6 t=some (.tup [.int a,.int b])∧((0≤a∧a < n)∧(0≤b∧b < n))∧σ1=[some (.int c),some (.int d),some (.int n),some (.ref pl),some (.int m),some (.int (0 + (i:Int))),some (.ref pe),some (.ref t)],?_,?_⟩
   ·refine ⟨_,rfl,_,_,rfl,rfl,(by show (0:Int) < 4; decide),rfl,_,rfl,YV (fun c2=>?_) (fun c2=>⟨t,x1,x2,e6,Ji,⟨her x1 g1,her x2 g2⟩,rfl⟩)⟩;have c2':c % 4=2:=V.int.inj (of_decide_eq_true c2);have hmm:=hm2 c2';obtain ⟨x3,a3,g3⟩:=JeB (xs:=es) (e:=0 + (i:Int)) (by omega) (by omega);refine ⟨_,rfl,_,_,rfl,rfl,⟨by decide,by decide⟩,_,_,rfl,rfl,_,rfl,_,rfl,pe,_,_,.int x3,rfl,rfl,e6.seq he5,a3,by show 2≤sizeLine; omega,fun t2 n2=>?_⟩;exact ⟨t2,1 + (0 + (i:Int)) / 2,x3,e6.trans (Jh.upd n2),Ji,⟨by omega,her x3 g3⟩,rfl⟩
   rintro σ1 H6 ⟨t,a,b,e6,ht,hab,rfl⟩;refine ⟨fun σ1 H7=>∃ zs' v5 v7,PW K H pl n H7 zs'∧JC K H7 pe (es.map V.int)∧zs'.length≤zs.length + (i + 1)∧σ1=[some (.int c),some (.int d),some (.int n),some (.ref pl),some (.int m),v5,some (.ref pe),v7],?_,fun σ' H' h=>h⟩;have W6:PW K H pl n H6 zs':=⟨W5.sm.trans e6,e6 _ _ W5.at_,fun z hz=>let ⟨a,g1,g2⟩:=W5.ip z hz; ⟨a,g1,e6.tup g2⟩,W5.nd,W5.rg⟩
   classical
   refine ⟨_,rfl,_,rfl,t,pl,_,JhP (a,b),_,rfl,rfl,JL.of ht,JC.of W6.at_,JnO W6.ip,_,rfl,?_⟩;have emem:(JhP (a,b)∈(zs'.map (·.2)).map JhP)↔(a,b)∈zs'.map (·.2):=by
    constructor
    ·intro h;obtain ⟨y,h1,h2⟩:=List.mem_map.mp h;rw [← Jr5 h2]; exact h1
    ·exact fun h=>List.mem_map.mpr ⟨_,h,rfl⟩
   by_cases hin:(a,b)∈zs'.map (·.2)
   ·refine Yb (by rw [if_pos rfl,decide_eq_true (emem.mpr hin)]; rfl) ⟨zs',_,_,W6,e6.seq he5,by omega,rfl⟩
   ·refine YF (by rw [if_pos rfl,decide_eq_false (fun h=>hin (emem.mp h))]; rfl) ?_;refine ⟨_,rfl,.inl ⟨rfl,_,JC.of W6.at_⟩,_,rfl,pl,_,_,rfl,rfl,W6.at_,by rw [List.length_map]; omega,?_⟩;refine ⟨_,_,_,W6.add hpl (Jh.refl _) ht hin hab,?_,by simp; omega,rfl⟩;rcases e6.seq he5 with (h | ⟨o,h⟩) | h
    ·exact .inl (.inl (by rw [JB hne]; exact h))
    ·exact .inl (.inr ⟨o,by rw [JB hne]; exact h⟩)
    ·exact .inr h
  ·rintro σ H5 ⟨zs',v5,v7,W5,he5,hl5,rfl⟩;exact ⟨_,rfl,q pl zs' H5 hpl W5 (by omega)⟩
end
def Jrm:Sp:=fun vs H Q _=>∃ (c kd:Int) (n:Nat),vs=[.int c,.int kd,.int n]∧1≤n∧n≤12∧∀ (p:Addr) (gs:List Int) (H':Hp),H p=none→Jh H H'→H' p=some (.lst (gs.map V.int))→gs.Nodup→(∀ g∈gs,0≤g∧g < n)→Q (.ref p) H'
def nm (ps:List Str) (x:Int):Str:=ps.getD x.toNat Str.empty
theorem Jmc {ps:List Str} {x:Int} (h0:0≤x) (h1:x < ps.length):atI (ps.map V.str) x=some (.str (nm ps x)):=by
 obtain ⟨j,rfl⟩:∃ j:Nat,x=(j:Int):=⟨x.toNat,by omega⟩
 have hj:j < ps.length:=by omega
 refine Zr ?_;unfold nm;rw [List.getElem?_map,List.getD_eq_getElem?_getD,Int.toNat_natCast,List.getElem?_eq_getElem hj];rfl
theorem JjT {ps:List Str} {x:Int} (h0:0≤x) (h1:x < ps.length):nm ps x∈ps:=by
 have hj:x.toNat < ps.length:=by omega
 unfold nm;rw [List.getD_eq_getElem?_getD,List.getElem?_eq_getElem hj];exact List.getElem_mem hj
theorem JmZ {ps:List Str} (nd:ps.Nodup) {x y:Int} (h0:0≤x) (h1:x < ps.length) (g0:0≤y) (g1:y < ps.length) (e:nm ps x=nm ps y):x=y:=by
 have hx:x.toNat < ps.length:=by omega
 have hy:y.toNat < ps.length:=by omega
 unfold nm at e;rw [List.getD_eq_getElem?_getD,List.getD_eq_getElem?_getD,List.getElem?_eq_getElem hx,List.getElem?_eq_getElem hy] at e;have e:ps[x.toNat]=ps[y.toNat]:=e;have z:x.toNat=y.toNat:=by
  rcases Nat.lt_trichotomy x.toNat y.toNat with h | h | h
  ·exact absurd e (List.pairwise_iff_getElem.mp nd _ _ hx hy h)
  ·exact h
  ·exact absurd e.symm (List.pairwise_iff_getElem.mp nd _ _ hy hx h)
 omega
def nm2 (ps:List Str) (p:Int×Int):Str×Str:=(nm ps p.1,nm ps p.2)
theorem Jlx {α β:Type} {f:α→β}:∀ {l:List α},l.Nodup→(∀ a∈l,∀ b∈l,f a=f b→a=b)→(l.map f).Nodup:=by
 intro l h hi;rw [List.Nodup,List.pairwise_map];exact List.Pairwise.imp_of_mem (fun ha hb hne e=>hne (hi _ ha _ hb e)) h
structure Ground (K:PySem.W.Frag) (H:Hp) (t:Addr) (ps:List Str) (zs:List (V×(Str×Str))) (gs:List Str):Prop where
 good:Jdf ps (zs.map (·.2)) gs
 at_:∃ pn pl pg,H t=some (.tup [.ref pn,.ref pl,.ref pg])∧H pn=some (.lst (ps.map V.str))∧H pl=some (.lst (zs.map (·.1)))∧ZI K H zs∧H pg=some (.lst (gs.map V.str))
theorem Ground.same {K:PySem.W.Frag} {H H':Hp} {t:Addr} {ps:List Str} {zs:List (V×(Str×Str))} {gs:List Str} (G:Ground K H t ps zs gs) (e:Jh H H'):Ground K H' t ps zs gs :=
 ⟨G.good,let ⟨pn,pl,pg,h1,h2,h3,h4,h5⟩:=G.at_; ⟨pn,pl,pg,e _ _ h1,e _ _ h2,e _ _ h3,JaO h4 e,e _ _ h5⟩⟩
def JpJ (K:PySem.W.Frag):Sp:=fun vs H Q _=>∃ (a:Addr) (ns:List Int) (k:Int),vs=[.ref a,.int k]∧JC K H a (ns.map V.int)∧0≤k∧∀ t ps zs gs H',Jh H H'→Ground K H' t ps zs gs→Q (.ref t) H'
section
variable {P:Program} {w:World} {K:PySem.W.Frag} {mg:Str→Option Value} {base:Heap}
theorem JrU (T:Txt K mg):JK P w K mg base YB 2 T.Jk7 T.Jje ["_law_cell", "_law_kind", "_law_size"] Jrm:=by
 refine T.Jlj.F.ok JeK (fun vs H Q E h=>?_) (fun cdv A outer s H vs Q E hr h=>?_)
 ·obtain ⟨_,_,_,rfl,_⟩:=h;rfl
 ·obtain ⟨c,kd,n,rfl,hn1,hn2,q⟩:=h;have szl:sizeLine=16777216:=sizeLine_eq;refine ⟨_,(@Jd _ _ _ _ _ (@J4 _ _ _ (@Jr _ _ 3 _ _ _ _ JeK.nd rfl (Or.inr rfl) (@Jk _ _ _ _ _ _ _ _ _ _ _ _ _ _ _ T.Jiv (JjO T) (hr.mono (by decide)) Jt (@Ja _ _ _ _ _ (@Jm _ _ _ _ _ _ _ _ (@YU _) (@pv _ 0 _ _ rfl (.inl rfl) rfl rfl) (@Je _ _ _ _)) (@Ja _ _ _ _ _ (@pv _ 2 _ _ rfl (.inl rfl) rfl rfl) (@Ja _ _ _ _ _ (@Je _ _ _ _) (@Jc _) rfl) rfl) rfl) rfl (by decide) rfl rfl) rfl (by first | exact .inl rfl | exact .inr rfl | assumption))) (@Jd _ _ _ _ _ (@J4 _ _ _ (@JoO _ _ _ _ _ _ _ _ _ _ 4 1 ["_law_k", "_law_marks"] [3] _ _ _ _ ["_law_cell", "_law_kind", "_law_size", "_law_marks", "_law_found"] ((Jl Jii).names) (by decide +kernel) JeK.nd rfl (@ZL _ _ _ _ _ _ rfl T.Z3 (@Ja _ _ _ _ _ (@pv _ 2 _ _ rfl (.inl rfl) rfl rfl) (@Jc _) rfl) rfl) (fun _ _ _ _=>(@JaT _ _ _ _ _ _ _ _ _ 0 (by decide +kernel) rfl rfl)) (fun _ _ _ _=>(@Jik _ _ _ (@Js _ _ _ _ _ _ _ _ (@Yg _) (@JG _ _ _ _ _ _ _ (show IxR _ (Jhs K) from (@JU _)) (@Jbt _ _ _ _ _ _ _ _ _ 1 rfl rfl (by decide) (by decide)) (@Z8 _ _ _ _ _ _ _ _ _ 0 rfl rfl (by decide) (by decide)) (fun _ _=>rfl)) (@Je _ _ _ _) (JE _)))) (fun _ _ _ _=>(@Z8 _ _ _ _ _ _ _ _ _ 0 rfl rfl (by decide) (by decide))) rfl rfl rfl rfl rfl (by intro _; rfl))) (@Jd _ _ _ _ _ (@J4 _ _ _ (@JH _ _ _ _ _ _ _ _ (@PW.pt _ _ _ (@JmN _ _ _ _ _ _ _ (@Js _ _ _ _ _ _ _ _ (@Jen _) (@pv _ 1 _ _ rfl (.inl rfl) rfl rfl) (@Je _ _ _ _) (JE _)) (@JkG _ _ _ _ (@Js _ _ _ _ _ _ _ _ (@Jil _) (@Jm _ _ _ _ _ _ _ _ (@JV _) (@pv _ 0 _ _ rfl (.inl rfl) rfl rfl) (@Je _ _ _ _)) (@Je _ _ _ _) (JE _))))) (@Jg _ _ _ (@Jr _ _ 4 _ _ _ _ JeK.nd rfl (Or.inl rfl) (@YX _ _ _ _ (@Ja _ _ _ _ _ (@Jm _ _ _ _ _ _ _ _ (@Zg _) (@pv _ 2 _ _ rfl (.inl rfl) rfl rfl) (@Je _ _ _ _)) (@Jc _) rfl)) rfl (.inl rfl))) (@Jp _))) (@Jd _ _ _ _ _ (@J4 _ _ _ (@JH _ _ _ _ _ _ _ _ (@PW.pt _ _ _ (@JmN _ _ _ _ _ _ _ (@Js _ _ _ _ _ _ _ _ (@Yg _) (@Jm _ _ _ _ _ _ _ _ (@JV _) (@pv _ 0 _ _ rfl (.inl rfl) rfl rfl) (@Je _ _ _ _)) (@Je _ _ _ _) (JE _)) (@JkG _ _ _ _ (@Js _ _ _ _ _ _ _ _ (@Ji0 _ hr.units0) (@pv _ 4 _ _ rfl (.inl rfl) rfl rfl) (@YX _ _ _ _ (@Jc _)) (JE _))))) (@Jg _ _ _ (@Jr _ _ 4 _ _ _ _ JeK.nd rfl (Or.inl rfl) (@YX _ _ _ _ (@Ja _ _ _ _ _ (@Jm _ _ _ _ _ _ _ _ (@Zg _) (@pv _ 2 _ _ rfl (.inl rfl) rfl rfl) (@Je _ _ _ _)) (@Jc _) rfl)) rfl (.inl rfl))) (@Jp _))) (@Jg _ _ _ (@Jn _ _ _ _ (@pv _ 4 _ _ rfl (.inl rfl) rfl rfl))))))),?_⟩;refine ⟨fun σ1 H1=>∃ (pm:Addr) (ms:List Int),Jh H H1∧JC K H1 pm (ms.map V.int)∧ms.length=n∧σ1=[some (.int c),some (.int kd),some (.int n),some (.ref pm),none],
   ⟨_,rfl,_,_,rfl,rfl,⟨by decide,by decide⟩,_,rfl,_,n,_,rfl,by omega,by decide,by decide,fun pm ms H1 h1 e1 h2 h3 h4=>⟨pm,ms,e1,JC.of h2,h3,rfl⟩⟩,?_⟩
  rintro σ1 H1 ⟨pm,ms,e1,hm,hml,rfl⟩;have fresh:∀ {p:Addr} {H':Hp},Jh H H'→H' p=none→H p=none:=fun {p H'} e h=>by
   cases hd:H p with
   | none=>rfl
   | some u=>rw [e _ _ hd] at h; cases h
  let R:St→Hp→Prop:=fun σ1 H2=>∃ (p:Addr) (gs:List Int),H p=none∧Jh H H2∧H2 p=some (.lst (gs.map V.int))∧gs.Nodup∧(∀ g∈gs,0≤g∧g < n)∧σ1=[some (.int c),some (.int kd),some (.int n),some (.ref pm),some (.ref p)]
  have one:∀ {p:Addr} {H2:Hp},Jh H H2→H2 p=none→R [some (.int c),some (.int kd),some (.int n),some (.ref pm),some (.ref p)] (upd H2 p (.lst [.int ((n:Int) - 1)])):=fun {p H2} e2 np =>
   ⟨p,[(n:Int) - 1],fresh e2 np,e2.trans (Jh.upd np),Ji,by simp,fun g hg=>by rw [List.mem_singleton.mp hg]; omega,rfl⟩
  refine ⟨R,?_,?_⟩
  ·refine ⟨_,rfl,(n:Int),rfl,by omega,by omega,fun D hD=>?_⟩;rw [show ((n:Int)).toNat=n from Int.toNat_natCast n];refine Jj7 (n:=n) (fun i ys H2=>Jh H1 H2∧H2 D=some (.lst ys)∧∃ gs:List Int,ys=gs.map V.int∧gs.length≤i∧gs.Nodup∧∀ g∈gs,0≤g∧g < i) rfl ⟨Jh.upd hD,Ji,[],rfl,Nat.le_refl _,List.nodup_nil,fun g hg=>nomatch hg⟩ (fun i ys H2 p=>p.2.1) ?_ ?_
   ·rintro i ys H2 hi ⟨e2,hy,gs,rfl,hgl,hgn,hgr⟩;obtain ⟨x,a1,_⟩:=JeB (xs:=ms) (e:=0 + (i:Int)) (by omega) (by omega);refine ⟨_,rfl,_,rfl,pm,_,_,.int x,rfl,rfl,e2.seq hm,a1,rfl,_,rfl,YV (fun _=>?_) (fun _=>?_)⟩
    ·refine ⟨_,rfl,hy,by rw [List.length_map]; omega,fun b u e=>?_,Ji,gs ++ [0 + (i:Int)],by rw [List.map_append]; rfl,by simp; omega,?_,fun g hg=>?_⟩
     ·rw [JB (JD e hD)]; exact e2 b u e
     ·rw [List.nodup_append];refine ⟨hgn,by simp,fun x hx y hy e=>?_⟩;rw [List.mem_singleton] at hy;have:=hgr x hx;omega
     ·rcases List.mem_append.mp hg with w | w
      ·have:=hgr g w; omega
      ·rw [List.mem_singleton.mp w]; omega
    ·exact ⟨e2,hy,gs,rfl,by omega,hgn,fun g hg=>by have:=hgr g hg; omega⟩
   ·rintro ys H2 ⟨e2,hy,gs,rfl,_,hgn,hgr⟩;exact ⟨D,gs,fresh e1 hD,e1.trans e2,hy,hgn,hgr,rfl⟩
  rintro σ1 H2 ⟨p2,gs2,np2,e2,hp2,nd2,rg2,rfl⟩;refine ⟨R,?_,?_⟩
  ·refine ⟨_,rfl,_,_,rfl,rfl,_,rfl,YV (fun _=>?_) (fun _=>Yo ⟨p2,gs2,np2,e2,hp2,nd2,rg2,rfl⟩)⟩;refine ⟨_,rfl,_,_,rfl,rfl,(by show (0:Int) < 3; decide),rfl,_,rfl,YV (fun _=>?_) (fun _=>⟨p2,gs2,np2,e2,hp2,nd2,rg2,rfl⟩)⟩;exact ⟨_,rfl,_,_,rfl,rfl,by show 1≤sizeLine; omega,fun p np=>one e2 np⟩
  clear rg2 nd2 hp2 e2 np2 gs2 p2 H2;rintro σ1 H2 ⟨p2,gs2,np2,e2,hp2,nd2,rg2,rfl⟩;refine ⟨R,?_,?_⟩
  ·refine ⟨_,rfl,_,_,rfl,rfl,(by show (0:Int) < 3; decide),rfl,_,rfl,YV (fun _=>?_) (fun _=>Yo ⟨p2,gs2,np2,e2,hp2,nd2,rg2,rfl⟩)⟩;refine ⟨_,rfl,by show 0≤sizeLine; omega,fun l nl=>⟨p2,l,_,rfl,rfl,(Jh.upd nl).seq (JC.of hp2),JC.of Ji,_,rfl,YV (fun _=>?_) (fun _=>?_)⟩⟩
   ·exact ⟨_,rfl,_,_,rfl,rfl,by show 1≤sizeLine; omega,fun p np=>one (e2.trans (Jh.upd nl)) np⟩
   ·exact ⟨p2,gs2,np2,e2.trans (Jh.upd nl),(Jh.upd nl) _ _ hp2,nd2,rg2,rfl⟩
  clear rg2 nd2 hp2 e2 np2 gs2 p2 H2;rintro σ1 H2 ⟨p2,gs2,np2,e2,hp2,nd2,rg2,rfl⟩;exact ⟨_,rfl,q p2 gs2 H2 np2 e2 hp2 nd2 rg2⟩
theorem Jlr {K:PySem.W.Frag} {H:Hp} {D:Addr} {ys ys':List V} {zs:List (V×(Str×Str))} (h:ZI K H zs) (hD:H D=some (.lst ys)):ZI K (upd H D (.lst ys')) zs:=fun z hz=>by
 obtain ⟨a,h1,h2⟩:=h z hz;refine ⟨a,h1,?_⟩;rcases h2 with (q | ⟨o,q⟩) | q
 ·exact .inl (.inl (by rw [JB (Jat q hD (fun z=>nomatch z))]; exact q))
 ·exact .inl (.inr ⟨o,by rw [JB (Jat q hD (fun z=>nomatch z))]; exact q⟩)
 ·exact .inr q
theorem Jp5 (T:Txt K mg):JK P w K mg base YB 3 T.Jjj T.JhU ["_law_script", "_law_at_here"] (JpJ K):=by
 refine T.Jjv.F.ok Jan (fun vs H Q E h=>?_) (fun cdv A outer s H vs Q E hr h=>?_)
 ·obtain ⟨_,_,_,rfl,_⟩:=h;rfl
 ·obtain ⟨a,ns,k,rfl,hS,h0,q⟩:=h;have szl:sizeLine=16777216:=sizeLine_eq;refine ⟨_,(@Jd _ _ _ _ _ (@J4 _ _ _ (@Jr _ _ 2 _ _ _ _ Jan.nd rfl (Or.inl rfl) (@Jk _ _ _ _ _ _ _ _ _ _ _ _ _ _ _ T.JbU (Jbg T) (hr.mono (by decide)) Jt (@Ja _ _ _ _ _ (@pv _ 0 _ _ rfl (.inl rfl) rfl rfl) (@Ja _ _ _ _ _ (@Jm _ _ _ _ _ _ _ _ (@J3 _) (@pv _ 1 _ _ rfl (.inl rfl) rfl rfl) (@Je _ _ _ _)) (@Jc _) rfl) rfl) rfl (by decide) rfl rfl) rfl (.inl rfl))) (@Jd _ _ _ _ _ (@J4 _ _ _ (@Jr _ _ 3 _ _ _ _ Jan.nd rfl (Or.inl rfl) (@JG _ _ _ _ _ _ _ (@JU _) (@YX _ _ _ _ (@Ja _ _ _ _ _ (@Je _ _ _ _) (@Ja _ _ _ _ _ (@Je _ _ _ _) (@Ja _ _ _ _ _ (@Je _ _ _ _) (@Ja _ _ _ _ _ (@Je _ _ _ _) (@Ja _ _ _ _ _ (@Je _ _ _ _) (@Ja _ _ _ _ _ (@Je _ _ _ _) (@Ja _ _ _ _ _ (@Je _ _ _ _) (@Jc _) rfl) rfl) rfl) rfl) rfl) rfl) rfl)) (@Jm _ _ _ _ _ _ _ _ (@JV _) (@pv _ 2 _ _ rfl (.inl rfl) rfl rfl) (@Je _ _ _ _)) (fun _ _=>rfl)) rfl (.inl rfl))) (@Jd _ _ _ _ _ (@J4 _ _ _ (@JH _ _ _ _ _ _ _ _ (@Js _ _ _ _ _ _ _ _ (@Yg _) (@Jm _ _ _ _ _ _ _ _ (@JV _) (@Jm _ _ _ _ _ _ _ _ (@YU _) (@pv _ 2 _ _ rfl (.inl rfl) rfl rfl) (@Je _ _ _ _)) (@Je _ _ _ _)) (@Je _ _ _ _) (JE _)) (@Jg _ _ _ (@Jr _ _ 3 _ _ _ _ Jan.nd rfl (Or.inl rfl) (@Jm _ _ _ _ _ _ _ _ (@J3 _) (@Je _ _ _ _) (@Jm _ _ _ _ _ _ _ _ (@JV _) (@Jm _ _ _ _ _ _ _ _ (@YU _) (@pv _ 2 _ _ rfl (.inl rfl) rfl rfl) (@Je _ _ _ _)) (@Je _ _ _ _))) rfl (.inl rfl))) (@Jp _))) (@Jd _ _ _ _ _ (@J4 _ _ _ (@Jr _ _ 4 _ _ _ _ Jan.nd rfl (Or.inr rfl) (@Jk _ _ _ _ _ _ _ _ _ _ _ _ _ _ _ T.Jli (JrT T) (hr.mono (by decide)) Jt (@Ja _ _ _ _ _ (@Jk _ _ _ _ _ _ _ _ _ _ _ _ _ _ _ T.JbU (Jbg T) (hr.mono (by decide)) Jt (@Ja _ _ _ _ _ (@pv _ 0 _ _ rfl (.inl rfl) rfl rfl) (@Ja _ _ _ _ _ (@Jm _ _ _ _ _ _ _ _ (@J3 _) (@pv _ 1 _ _ rfl (.inl rfl) rfl rfl) (@Je _ _ _ _)) (@Jc _) rfl) rfl) rfl (by decide) rfl rfl) (@Ja _ _ _ _ _ (@pv _ 3 _ _ rfl (.inl rfl) rfl rfl) (@Jc _) rfl) rfl) rfl (by decide) rfl rfl) rfl (by first | exact .inl rfl | exact .inr rfl | assumption))) (@Jd _ _ _ _ _ (@J4 _ _ _ (@Jr _ _ 5 _ _ _ _ Jan.nd rfl (Or.inl rfl) (@Jk _ _ _ _ _ _ _ _ _ _ _ _ _ _ _ T.JbU (Jbg T) (hr.mono (by decide)) Jt (@Ja _ _ _ _ _ (@pv _ 0 _ _ rfl (.inl rfl) rfl rfl) (@Ja _ _ _ _ _ (@pv _ 1 _ _ rfl (.inl rfl) rfl rfl) (@Jc _) rfl) rfl) rfl (by decide) rfl rfl) rfl (.inl rfl))) (@Jd _ _ _ _ _ (@J4 _ _ _ (@Jr _ _ 6 _ _ _ _ Jan.nd rfl (Or.inl rfl) (@Jk _ _ _ _ _ _ _ _ _ _ _ _ _ _ _ T.Jlh (JrS T) (hr.mono (by decide)) Jt (@Ja _ _ _ _ _ (@pv _ 5 _ _ rfl (.inl rfl) rfl rfl) (@Ja _ _ _ _ _ (@Jk _ _ _ _ _ _ _ _ _ _ _ _ _ _ _ T.JbU (Jbg T) (hr.mono (by decide)) Jt (@Ja _ _ _ _ _ (@pv _ 0 _ _ rfl (.inl rfl) rfl rfl) (@Ja _ _ _ _ _ (@Jm _ _ _ _ _ _ _ _ (@J3 _) (@pv _ 1 _ _ rfl (.inl rfl) rfl rfl) (@Je _ _ _ _)) (@Jc _) rfl) rfl) rfl (by decide) rfl rfl) (@Ja _ _ _ _ _ (@pv _ 3 _ _ rfl (.inl rfl) rfl rfl) (@Jc _) rfl) rfl) rfl) rfl (by decide) rfl rfl) rfl (.inl rfl))) (@Jd _ _ _ _ _ (@J4 _ _ _ (@Jr _ _ 7 _ _ _ _ Jan.nd rfl (Or.inl rfl) (@Jk _ _ _ _ _ _ _ _ _ _ _ _ _ _ _ T.Jlj (JrU T) (hr.mono (by decide)) Jt (@Ja _ _ _ _ _ (@Jk _ _ _ _ _ _ _ _ _ _ _ _ _ _ _ T.JbU (Jbg T) (hr.mono (by decide)) Jt (@Ja _ _ _ _ _ (@pv _ 0 _ _ rfl (.inl rfl) rfl rfl) (@Ja _ _ _ _ _ (@Jm _ _ _ _ _ _ _ _ (@J3 _) (@pv _ 1 _ _ rfl (.inl rfl) rfl rfl) (@Je _ _ _ _)) (@Jc _) rfl) rfl) rfl (by decide) rfl rfl) (@Ja _ _ _ _ _ (@Jm _ _ _ _ _ _ _ _ (@JV _) (@pv _ 5 _ _ rfl (.inl rfl) rfl rfl) (@Je _ _ _ _)) (@Ja _ _ _ _ _ (@pv _ 3 _ _ rfl (.inl rfl) rfl rfl) (@Jc _) rfl) rfl) rfl) rfl (by decide) rfl rfl) rfl (.inl rfl))) (@Jd _ _ _ _ _ (@J4 _ _ _ (@JoO _ _ _ _ _ _ _ _ _ _ 8 2 ["_law_a", "_law_b", "_law_names_here"] [4] _ _ _ _ ["_law_script", "_law_at_here", "_law_cell", "_law_size", "_law_names_here", "_law_kind", "_law_pairs_here", "_law_goals_here", "_law_lanes"] ((Jl JeQ).names) (by decide +kernel) Jan.nd rfl (@Ja0 _ _ _ _ (@pv _ 6 _ _ rfl (.inl rfl) rfl rfl)) (fun _ _ _ _=>(show PG _ _ (Jo4 K 2 _) from Jgr rfl (@Ye _ _ _ _ _ (@JaT _ _ _ _ _ _ _ _ _ 0 (by decide +kernel) rfl rfl) (@Ye _ _ _ _ _ (@JaT _ _ _ _ _ _ _ _ _ 1 (by decide +kernel) rfl rfl) (@Jew _) rfl) rfl))) (fun _ _ _ _=>(@Jev _)) (fun _ _ _ _=>(@Yn _ _ _ _ _ (@Ja _ _ _ _ _ (@JG _ _ _ _ _ _ _ (show IxR _ (Jhs K) from (@JU _)) (@Jbt _ _ _ _ _ _ _ _ _ 2 rfl rfl (by decide) (by decide)) (@Z8 _ _ _ _ _ _ _ _ _ 0 rfl rfl (by decide) (by decide)) (fun _ _=>rfl)) (@Ja _ _ _ _ _ (@JG _ _ _ _ _ _ _ (show IxR _ (Jhs K) from (@JU _)) (@Jbt _ _ _ _ _ _ _ _ _ 2 rfl rfl (by decide) (by decide)) (@Z8 _ _ _ _ _ _ _ _ _ 1 rfl rfl (by decide) (by decide)) (fun _ _=>rfl)) (@Jc _) rfl) rfl))) rfl rfl rfl rfl rfl (by intro _; rfl))) (@Jg _ _ _ (@Jn _ _ _ _ (@Yn _ _ _ _ _ (@Ja _ _ _ _ _ (@pv _ 4 _ _ rfl (.inr (.inl rfl)) rfl rfl) (@Ja _ _ _ _ _ (@pv _ 8 _ _ rfl (.inl rfl) rfl rfl) (@Ja _ _ _ _ _ (@JgU _ _ _ _ _ _ _ 1 ["_law_k", "_law_names_here"] [4] _ _ _ _ ["_law_script", "_law_at_here", "_law_cell", "_law_size", "_law_names_here", "_law_kind", "_law_pairs_here", "_law_goals_here", "_law_lanes"] ((Jl JeQ).names) (by decide +kernel) (@Ja0 _ _ _ _ (@pv _ 7 _ _ rfl (.inl rfl) rfl rfl)) (fun _ _ _ _=>(@JaT _ _ _ _ _ _ _ _ _ 0 (by decide +kernel) rfl rfl)) (fun _ _ _ _=>(@Jev _)) (fun _ _ _ _=>(@JG _ _ _ _ _ _ _ (show IxR _ (Jhs K) from (@JU _)) (@Jbt _ _ _ _ _ _ _ _ _ 1 rfl rfl (by decide) (by decide)) (@Z8 _ _ _ _ _ _ _ _ _ 0 rfl rfl (by decide) (by decide)) (fun _ _=>rfl))) rfl rfl rfl (by intro _; rfl)) (@Jc _) rfl) rfl) rfl)))))))))))),?_⟩
  try dsimp only [cxK,Jdd]
  refine ⟨fun σ1 H1=>∃ c:Int,H1=H∧σ1=[some (.ref a),some (.int k),some (.int c),none,none,none,none,none,none],
   ⟨_,rfl,_,rfl,_,_,rfl,rfl,a,ns,_,rfl,hS,by omega,_,rfl,rfl⟩,?_⟩
  rintro σ1 H1 ⟨c,rfl,rfl⟩;refine ⟨fun σ1 H2=>∃ n:Nat,Jh H1 H2∧1≤n∧n≤12∧σ1=[some (.ref a),some (.int k),some (.int c),some (.int n),none,none,none,none,none],?_,?_⟩
  ·refine ⟨by show 7≤sizeLine; omega,fun l nl=>?_⟩;obtain ⟨n,hn,h1,h2⟩:∃ n:Nat,atI [V.int 4,V.int 3,V.int 5,V.int 6,V.int 2,V.int 5,V.int 1] (c % 7)=some (.int n)∧1≤n∧n≤12:=by
    have h:c % 7=0∨c % 7=1∨c % 7=2∨c % 7=3∨c % 7=4∨c % 7=5∨c % 7=6:=by omega
    rcases h with h | h | h | h | h | h | h <;> rw [h]
    ·exact ⟨4,rfl,by decide,by decide⟩
    ·exact ⟨3,rfl,by decide,by decide⟩
    ·exact ⟨5,rfl,by decide,by decide⟩
    ·exact ⟨6,rfl,by decide,by decide⟩
    ·exact ⟨2,rfl,by decide,by decide⟩
    ·exact ⟨5,rfl,by decide,by decide⟩
    ·exact ⟨1,rfl,by decide,by decide⟩
   exact ⟨_,rfl,_,_,rfl,rfl,(by show (0:Int) < 7; decide),l,_,_,.int n,rfl,rfl,JC.of Ji,hn,n,Jh.upd nl,h1,h2,rfl⟩
  rintro σ1 H2 ⟨n,e2,hn1,hn2,rfl⟩;refine ⟨fun σ1 H3=>∃ n:Nat,H3=H2∧1≤n∧n≤12∧σ1=[some (.ref a),some (.int k),some (.int c),some (.int n),none,none,none,none,none],?_,?_⟩
  ·refine ⟨_,rfl,_,_,rfl,rfl,⟨by decide,by decide⟩,_,_,rfl,rfl,(by show (0:Int) < 6; decide),rfl,_,rfl,YV (fun _=>?_) (fun _=>⟨n,rfl,hn1,hn2,rfl⟩)⟩;refine ⟨_,rfl,_,_,rfl,rfl,⟨by decide,by decide⟩,_,_,rfl,rfl,(by show (0:Int) < 12; decide),_,_,rfl,rfl,(1 + c / 42 % 12).toNat,rfl,by omega,by omega,?_⟩;rw [Int.toNat_of_nonneg (by omega)]; rfl
  clear hn1 hn2 n;rintro σ1 H3 ⟨n,rfl,hn1,hn2,rfl⟩;refine ⟨fun σ1 H4=>∃ (pn:Addr) (ps:List Str),Jh H1 H4∧H4 pn=some (.lst (ps.map V.str))∧ps.length=n∧(∀ s∈ps,Jac s=true)∧ps.Nodup∧σ1=[some (.ref a),some (.int k),some (.int c),some (.int n),some (.ref pn),none,none,none,none],
   ⟨_,rfl,_,rfl,_,_,rfl,rfl,a,ns,_,rfl,e2.seq hS,by omega,_,rfl,_,n,rfl,hn1,hn2,fun pn ps H4 h1 e4 h2 h3 h4 h5=>⟨pn,ps,e2.trans e4,h2,h3,h4,h5,rfl⟩⟩,?_⟩
  rintro σ1 H4 ⟨pn,ps,e4,hpn,hpl,hpg,hpd,rfl⟩;refine ⟨fun σ1 H5=>∃ kd:Int,H5=H4∧σ1=[some (.ref a),some (.int k),some (.int c),some (.int n),some (.ref pn),some (.int kd),none,none,none],
   ⟨_,rfl,_,rfl,a,ns,_,rfl,e4.seq hS,h0,_,rfl,rfl⟩,?_⟩
  rintro σ1 H5 ⟨kd,rfl,rfl⟩;refine ⟨fun σ1 H6=>∃ (pp:Addr) (zs:List (V×(Int×Int))),PW K H5 pp n H6 zs∧zs.length≤40∧σ1=[some (.ref a),some (.int k),some (.int c),some (.int n),some (.ref pn),some (.int kd),some (.ref pp),none,none],
   ⟨_,rfl,_,rfl,_,rfl,_,_,rfl,rfl,a,ns,_,rfl,e4.seq hS,by omega,_,rfl,kd,_,n,rfl,hn1,hn2,fun pp zs H6 h1 W hl=>⟨pp,zs,W,hl,rfl⟩⟩,?_⟩
  rintro σ1 H6 ⟨pp,zs,W,hzl,rfl⟩;have e6:=e4.trans W.sm;refine ⟨fun σ1 H7=>∃ (pg:Addr) (gs:List Int),Jh H6 H7∧H7 pg=some (.lst (gs.map V.int))∧gs.Nodup∧(∀ g∈gs,0≤g∧g < n)∧σ1=[some (.ref a),some (.int k),some (.int c),some (.int n),some (.ref pn),some (.int kd),some (.ref pp),some (.ref pg),none],
   ⟨_,rfl,_,rfl,_,_,rfl,rfl,a,ns,_,rfl,e6.seq hS,by omega,_,rfl,_,_,rfl,rfl,(by show (0:Int) < 4; decide),_,rfl,_,_,n,rfl,hn1,hn2,fun pg gs H7 h1 e7 h2 h3 h4=>⟨pg,gs,e7,h2,h3,h4,rfl⟩⟩,?_⟩
  rintro σ1 H7 ⟨pg,gs,e7,hpgs,hgd,hgr,rfl⟩;have e17:=e6.trans e7;have hpn7:=e7 _ _ (W.sm _ _ hpn);have hpp7:=e7 _ _ W.at_;refine ⟨fun σ1 H8=>∃ (pl:Addr) (ls:List (V×(Str×Str))),Jh H7 H8∧H8 pl=some (.lst (ls.map (·.1)))∧ZI K H8 ls∧ls.map (·.2)=(zs.map (·.2)).map (nm2 ps)∧σ1=[some (.ref a),some (.int k),some (.int c),some (.int n),some (.ref pn),some (.int kd),some (.ref pp),some (.ref pg),some (.ref pl)],?_,?_⟩
  ·refine ⟨_,rfl,pp,rfl,⟨_,JC.of hpp7⟩,fun D hD=>?_⟩;refine Jj8 (xs:=zs.map (·.1)) (fun i ys H8=>Jh H7 H8∧H8 D=some (.lst ys)∧∃ ls:List (V×(Str×Str)),ys=ls.map (·.1)∧ZI K H8 ls∧ls.map (·.2)=((zs.take i).map (·.2)).map (nm2 ps)) rfl rfl (fun i ys H8 p=>JC.of (p.1 _ _ hpp7)) ⟨Jh.upd hD,Ji,[],rfl,(fun z hz=>nomatch hz),rfl⟩ (fun i ys H8 p=>p.2.1) ?_ ?_
   ·rintro i x ys H8 hx ⟨e8,hy,ls,rfl,hP,hls⟩;rw [List.getElem?_map] at hx;obtain ⟨z,hz,rfl⟩:=Option.map_eq_some_iff.mp hx;obtain ⟨b,eb,hb⟩:=W.ip z (List.mem_of_getElem? hz);obtain ⟨r1,r2⟩:=W.rg z (List.mem_of_getElem? hz);refine ⟨b,.int z.2.1,.int z.2.2,eb,(e7.trans e8).tup hb,?_⟩;simp only [JeI,if_true];have hll:ls.length≤40:=by
     have z:=congrArg List.length hls;rw [List.length_map,List.length_map,List.length_map,List.length_take] at z;omega
    refine ⟨_,rfl,_,rfl,pn,_,_,_,rfl,rfl,JC.of (e8 _ _ hpn7),Jmc r1.1 (by omega),_,rfl,_,rfl,pn,_,_,_,rfl,rfl,JC.of (e8 _ _ hpn7),Jmc r2.1 (by omega),by show 2≤sizeLine; omega,fun t nt=>?_⟩;have e9:=Jh.upd (o:=.tup [.str (nm ps z.2.1),.str (nm ps z.2.2)]) nt;refine ⟨e9 _ _ hy,by rw [List.length_map]; omega,fun b u e=>?_,Ji,ls ++ [(.ref t,nm2 ps z.2)],by rw [List.map_append]; rfl,fun z' hz'=>?_,?_⟩
    ·rw [JB (JD e hD)]; exact e9 _ _ (e8 b u e)
    ·rcases List.mem_append.mp hz' with q | q
     ·exact Jlr (JaO hP e9) (e9 _ _ hy) z' q
     ·rw [List.mem_singleton.mp q];exact Jlr (zs:=[(.ref t,nm2 ps z.2)]) (fun z' hz'=>by rw [List.mem_singleton.mp hz']; exact ⟨t,rfl,JL.of Ji⟩) (e9 _ _ hy) _ (List.mem_singleton.mpr rfl)
    ·rw [List.map_append,hls,List.take_succ,hz,List.map_append,List.map_append]; rfl
   ·rintro ys H8 ⟨e8,hy,ls,rfl,hP,hls⟩;rw [List.length_map,List.take_length] at hls;exact ⟨D,ls,e8,hy,hP,hls,rfl⟩
  rintro σ1 H8 ⟨pl,ls,e8,hll,hP,hls,rfl⟩;refine ⟨_,rfl,_,rfl,_,rfl,pg,rfl,⟨_,JC.of (e8 _ _ hpgs)⟩,fun D hD=>?_⟩;refine JlL (xs:=gs.map V.int) (fun i v=>∃ g,gs[i]?=some g∧v=.str (nm ps g)) rfl (JC.of (e8 _ _ hpgs)) hD ?_ (fun i x H9 hx e9 Q' hQ=>?_) (fun ys H9 e9 hy hyl hF=>?_)
  ·rw [List.length_map];have:gs.length≤n:=by
    have z:=JhB (r:=(List.range n).map fun (i:Nat)=>(i:Int)) hgd fun x hx=>by
     have:=hgr x hx;exact List.mem_map.mpr ⟨x.toNat,List.mem_range.mpr (by omega),by omega⟩
    simpa using z
   omega
  ·rw [List.getElem?_map] at hx;obtain ⟨g,hg,rfl⟩:=Option.map_eq_some_iff.mp hx;have:=hgr g (List.mem_of_getElem? hg);exact ⟨_,rfl,_,rfl,pn,_,_,_,rfl,rfl,JC.of (e9 _ _ (e8 _ _ hpn7)),Jmc this.1 (by omega),hQ _ ⟨g,hg,rfl⟩⟩
  ·have eys:ys=(gs.map (nm ps)).map V.str:=by
    apply List.ext_getElem?;intro i;by_cases hi:i < ys.length
    ·obtain ⟨g,h1,h2⟩:=hF i _ (List.getElem?_eq_getElem hi);rw [List.getElem?_eq_getElem hi,h2,List.getElem?_map,List.getElem?_map,h1];rfl
    ·rw [List.getElem?_eq_none (by omega),List.getElem?_eq_none];rw [List.length_map] at hyl;rw [List.length_map,List.length_map];omega
   subst eys;refine ⟨by show 3≤sizeLine; omega,fun t nt=>q t ps ls (gs.map (nm ps)) _ ((e17.trans e8).trans (e9.trans (Jh.upd nt))) ⟨⟨by omega,by omega,hpg,hpd,?_,?_,?_,?_,?_⟩,pn,pl,D,Ji,?_,?_,?_,?_⟩⟩
   ·rw [hls,List.length_map,List.length_map]; exact hzl
   ·intro z hz;rw [hls] at hz;obtain ⟨y,hy1,rfl⟩:=List.mem_map.mp hz;obtain ⟨z',hz',rfl⟩:=List.mem_map.mp hy1;obtain ⟨r1,r2⟩:=W.rg z' hz';exact ⟨JjT r1.1 (by omega),JjT r2.1 (by omega)⟩
   ·rw [hls];refine Jlx W.nd fun x hx y hy e=>?_
    obtain ⟨z',hz',rfl⟩:=List.mem_map.mp hx;obtain ⟨z2,hz2,rfl⟩:=List.mem_map.mp hy;obtain ⟨r1,r2⟩:=W.rg z' hz';obtain ⟨r3,r4⟩:=W.rg z2 hz2;have e1:=congrArg Prod.fst e;have e2:=congrArg Prod.snd e;exact Prod.ext (JmZ hpd r1.1 (by omega) r3.1 (by omega) e1) (JmZ hpd r2.1 (by omega) r4.1 (by omega) e2)
   ·intro g hg;obtain ⟨x,hx,rfl⟩:=List.mem_map.mp hg;have:=hgr x hx;exact JjT this.1 (by omega)
   ·refine Jlx hgd fun x hx y hy e=>?_
    have h1:=hgr x hx;have h2:=hgr y hy;exact JmZ hpd h1.1 (by omega) h2.1 (by omega) e
   ·exact (e9.trans (Jh.upd nt)) _ _ (e8 _ _ hpn7)
   ·exact (e9.trans (Jh.upd nt)) _ _ hll
   ·exact JaO hP (e9.trans (Jh.upd nt))
   ·exact (Jh.upd nt) _ _ hy
end
def rf (x:Str):List V:=[.str "refused",.str x]
def Zl (z:Str) (n:Int) (zs:List (Str×Str)) (gs:List Str):V:=if z∈gs then .str "north" else if n=0∨Jy zs z=[] then .str "south" else .non
theorem JqF {z:Str} {n:Int} {zs zs':List (Str×Str)} {gs gs':List Str} (h1:zs'.Perm zs) (h2:gs'.Perm gs):Zl z n zs' gs'=Zl z n zs gs:=by
 unfold Zl;have e1:(z∈gs')↔(z∈gs):=h2.mem_iff;have e2:(Jy zs' z=[])↔(Jy zs z=[]):=by
  have hp:(Jy zs' z).Perm (Jy zs z):=(h1.filter _).map _;constructor
  ·intro e; rw [e] at hp; exact hp.symm.eq_nil
  ·intro e; rw [e] at hp; exact hp.eq_nil
 simp only [e1,e2]
def JsU (k:Addr):Sp:=fun vs H Q E=>∃ n m:Int,vs=[.int n,.int m]∧(0≤m∧m≤30)∧(0≤n∧n≤m→Q .non H)∧(¬ (0≤n∧n≤m)→E (.ref k) none H)
def Jrp (K:PySem.W.Frag) (C k1 k2:Addr):Sp:=fun vs H Q E=>∃ (b:Addr) (z:Str) (n:Int) (ps:List Str) (zs:List (V×(Str×Str))) (gs:List Str),vs=[.ref b,.str z,.int n]∧YG z∧zs.length≤40∧JbI K C H b ps zs gs ∧
 (z∉ps→E (.ref k1) none H)∧(z∈ps→¬ (0≤n∧n≤30)→E (.ref k2) none H)∧(z∈ps→0≤n∧n≤30→∀ H',Jh H H'→Q (Zl z n (zs.map (·.2)) gs) H')
def Jca (n s:Int) (r:Bool) (b a:Int):List V :=
 if b > a then (if r then [.str (hs false),.int (n + b),.int (s - b),.str (hs true)] else [.str (hs true),.int (n - b),.int (s + b),.str (hs false)])
 else if a > b then (if r then [.str (hs true),.int (n - a),.int (s + a),.str (hs true)] else [.str (hs false),.int (n + a),.int (s - a),.str (hs false)])
 else (if r then [.str (hs true),.int (n - a),.int (s + a),.str (hs false)] else [.str (hs false),.int (n + a),.int (s - a),.str (hs true)])
def JnF:Sp:=fun vs H Q _=>∃ (b:Bool) (n s:Int),vs=[.str (hs b),.int n,.int s]∧Q (.int (if b then n else s)) H
def JmR (b:Bool) (c n s:Int) (r:Bool):List V:=if b then [.str (hs b),.int (n - c),.int (s + c),.str (hs r)] else [.str (hs b),.int (n + c),.int (s - c),.str (hs r)]
def JtX:Sp:=fun vs H Q _=>∃ (b:Bool) (c n s:Int) (r:Bool),vs=[.str (hs b),.int c,.int n,.int s,.str (hs r)]∧∀ p H',Jh H H'→H' p=some (.tup (JmR b c n s r))→Q (.ref p) H'
theorem JiY (n s:Int) (r:Bool) (b a:Int):Jca n s r b a=if b > a then JmR (!r) b n s r else if a > b then JmR r a n s r else JmR r a n s (!r):=by
 unfold Jca JmR;cases r <;> rfl
def ZH (n s:Int):Prop:=0≤n∧0≤s∧n + s≤20
instance (n s:Int):Decidable (ZH n s):=by unfold ZH; exact inferInstance
def Jfz (n s:Int) (r:Bool) (b a:Int):Prop:=(0≤b∧b≤(if r then s else n))∧(0≤a∧a≤(if r then n else s))
instance (n s:Int) (r:Bool) (b a:Int):Decidable (Jfz n s r b a):=by unfold Jfz; exact inferInstance
def JlW (k:Addr):Sp:=fun vs H Q E=>∃ z:Str,vs=[.str z]∧YG z∧(Jaw z=true→Q .non H)∧(Jaw z=false→E (.ref k) none H)
def Jre (k:Addr):Sp:=fun vs H Q E=>∃ z:Str,vs=[.str z]∧YG z∧(∀ b,z=hs b→Q (.str (hs (!b))) H)∧(Jaw z=false→E (.ref k) none H)
def Jkq (k:Addr):Sp:=fun vs H Q E=>∃ n s:Int,vs=[.int n,.int s]∧(ZH n s→Q .non H)∧(¬ ZH n s→E (.ref k) none H)
def Jmq (k:Addr):Sp:=fun vs H Q E=>∃ n s:Int,vs=[.int n,.int s]∧(0≤n∧n≤s→Q .non H)∧(¬ (0≤n∧n≤s)→E (.ref k) none H)
def JpF (k1 k2 k3:Addr):Sp:=fun vs H Q E=>∃ (n s:Int) (z:Str) (b a:Int),vs=[.int n,.int s,.str z,.int b,.int a]∧YG z∧(¬ ZH n s→E (.ref k1) none H)∧(ZH n s→Jaw z=false→E (.ref k2) none H) ∧
 (∀ r,z=hs r→ZH n s→¬ Jfz n s r b a→E (.ref k3) none H)∧(∀ r,z=hs r→ZH n s→Jfz n s r b a→∀ p H',Jh H H'→H' p=some (.tup (Jca n s r b a))→Q (.ref p) H')
theorem tcT {σ:St} {H:Hp} {F G:Hp→Prop} (h:F H):JeI σ H (fun b H3=>if b=true then F H3 else G H3):=by
 show if true=true then F H else G H;rw [if_pos rfl];exact h
abbrev Y8 (zs:List (Str×Str)) (gs:List Str) (c:Int) (t:Nat) (p:Str) (r:Bool):Int:=Y1 (Jy zs) (fun p=>decide (p∈gs)) c t p r
abbrev loB (zs:List (Str×Str)) (gs:List Str) (c:Int) (t:Nat) (p:Str) (r:Bool):Int:=loA (Jy zs) (fun p=>decide (p∈gs)) c t p r
abbrev hiC (zs:List (Str×Str)) (gs:List Str) (c:Int) (t:Nat) (p:Str) (r:Bool):Int:=hiB (Jy zs) (fun p=>decide (p∈gs)) c t p r
theorem Jch {ps:List Str} {zs:List (Str×Str)} {gs:List Str} (G:Jdf ps zs gs) {p w:Str} (h:w∈Jy zs p):w∈ps:=by
 unfold Jy at h;obtain ⟨z,hz,rfl⟩:=List.mem_map.mp h;exact (G.l2 z (List.mem_filter.mp hz).1).2
theorem Jhj {ps:List Str} {zs:List (Str×Str)} {gs:List Str} (G:Jdf ps zs gs) (p:Str):(Jy zs p).length≤40:=by
 unfold Jy;rw [List.length_map];exact Nat.le_trans (List.length_filter_le _ _) G.l1
theorem Jdf.perm {ps ps':List Str} {zs zs':List (Str×Str)} {gs gs':List Str} (G:Jdf ps zs gs) (p:ps'.Perm ps) (z:zs'.Perm zs) (g:gs'.Perm gs):Jdf ps' zs' gs' :=
 ⟨by rw [p.length_eq]; exact G.p1,by rw [p.length_eq]; exact G.p2,fun x h=>G.p3 x (p.mem_iff.mp h),p.nodup_iff.mpr G.p4,by rw [z.length_eq]; exact G.l1,
  fun x h=>let q:=G.l2 x (z.mem_iff.mp h); ⟨p.mem_iff.mpr q.1,p.mem_iff.mpr q.2⟩,z.nodup_iff.mpr G.l3,fun x h=>p.mem_iff.mpr (G.g1 x (g.mem_iff.mp h)),g.nodup_iff.mpr G.g2⟩
structure Bd (K:PySem.W.Frag) (C:Addr) (H:Hp) (b:Addr) (ps:List Str) (zs:List (V×(Str×Str))) (gs:List Str):Prop where
 B:JbI K C H b ps zs gs
 G:Jdf ps (zs.map (·.2)) gs
theorem Bd.same {K:PySem.W.Frag} {C:Addr} {H H':Hp} {b:Addr} {ps:List Str} {zs:List (V×(Str×Str))} {gs:List Str} (h:Bd K C H b ps zs gs) (e:Jh H H'):Bd K C H' b ps zs gs:=⟨h.B.same e,h.G⟩
theorem Bd.zl {K:PySem.W.Frag} {C:Addr} {H:Hp} {b:Addr} {ps:List Str} {zs:List (V×(Str×Str))} {gs:List Str} (h:Bd K C H b ps zs gs):zs.length≤40:=by have:=h.G.l1; rwa [List.length_map] at this
theorem YY.bd {K:PySem.W.Frag} {C C' dx:Addr} {H H':Hp} {b k:Addr} {ps:List Str} {zs:List (V×(Str×Str))} {gs:List Str} {fs:List (Str×V)} (h:Bd K C H b ps zs gs) (e:YY k H H') (hk:H k=some (.ins C' dx fs)) (hn:k≠b):Bd K C H' b ps zs gs:=by
 obtain ⟨⟨d,tp,tl,tg,h1,h2,h3,h4,h5⟩,G⟩:=h;exact ⟨⟨d,tp,tl,tg,e _ _ (fun z=>hn z.symm) h1,e _ _ (Jat h2 hk (fun z=>nomatch z)) h2,e _ _ (Jat h3 hk (fun z=>nomatch z)) h3,fun z hz=>let ⟨a,q1,q2⟩:=h4 z hz; ⟨a,q1,e.tup hk q2⟩,e _ _ (Jat h5 hk (fun z=>nomatch z)) h5⟩,G⟩
def Jbc (p:Str) (r:Bool):List J0:=[.inr p,.inr (hs r)]
theorem Zh {a b:Bool} (h:hs a=hs b):a=b:=by cases a <;> cases b <;> first | rfl | (exact absurd h (by decide +kernel))
theorem Jnr {p q:Str} {r s:Bool} (h:Jbc p r=Jbc q s):p=q∧r=s:=by
 unfold Jbc at h;simp only [List.cons.injEq,Sum.inr.injEq,and_true] at h;exact ⟨h.1,Zh h.2⟩
def JfU (H:Hp) (a:Addr) (ps:List Str) (f:Str→Bool→Int):Prop:=∃ kvs:List (List J0×V),H a=some (.dT kvs)∧∀ p∈ps,∀ r,ZF kvs (Jbc p r)=some (.int (f p r))
theorem JfU.same {H H':Hp} {a:Addr} {ps:List Str} {f:Str→Bool→Int} (h:JfU H a ps f) (e:Jh H H'):JfU H' a ps f:=let ⟨kvs,h1,h2⟩:=h; ⟨kvs,e _ _ h1,h2⟩
structure Bk (K:PySem.W.Frag) (C CB:Addr) (H:Hp) (k b:Addr) (ps:List Str) (zs:List (V×(Str×Str))) (gs:List Str) (c:Int) (t n:Nat):Prop where
 B:Bd K C H b ps zs gs
 c0:0≤c
 c1:c≤20
 t1:t≤30
 at_:∃ (dx l:Addr) (rs:List Addr),H k=some (.ins CB dx [("board",.ref b),("coins",.int c),("turns",.int t),("needs",.ref l)])∧H l=some (.lst (rs.map V.ref))∧rs.length=n∧∀ (i:Nat) a,rs[i]?=some a→JfU H a ps (Y8 (zs.map (·.2)) gs c i)
theorem Bk.same {K:PySem.W.Frag} {C CB:Addr} {H H':Hp} {k b:Addr} {ps:List Str} {zs:List (V×(Str×Str))} {gs:List Str} {c:Int} {t n:Nat} (h:Bk K C CB H k b ps zs gs c t n) (e:Jh H H'):Bk K C CB H' k b ps zs gs c t n :=
 ⟨h.B.same e,h.c0,h.c1,h.t1,let ⟨dx,l,rs,h1,h2,h3,h4⟩:=h.at_; ⟨dx,l,rs,e _ _ h1,e _ _ h2,h3,fun i a q=>(h4 i a q).same e⟩⟩
section
variable (K:PySem.W.Frag) (C CB:Addr)
def JtZ:Sp:=fun vs H Q _=>∃ (k b:Addr) (z:Str) (m:Nat) (ps:List Str) (zs:List (V×(Str×Str))) (gs:List Str) (c:Int) (t n:Nat),vs=[.ref k,.str z,.int ((m:Int) + 1)]∧Bk K C CB H k b ps zs gs c t n∧m < n∧z∈ps∧Jy (zs.map (·.2)) z≠[] ∧
 ∀ H',Jh H H'→Q (.int (loB (zs.map (·.2)) gs c m z false)) H'
def JtY:Sp:=fun vs H Q _=>∃ (k b:Addr) (z:Str) (m:Nat) (ps:List Str) (zs:List (V×(Str×Str))) (gs:List Str) (c:Int) (t n:Nat),vs=[.ref k,.str z,.int ((m:Int) + 1)]∧Bk K C CB H k b ps zs gs c t n∧m < n∧z∈ps∧Jy (zs.map (·.2)) z≠[] ∧
 ∀ H',Jh H H'→Q (.int (hiC (zs.map (·.2)) gs c m z true)) H'
def Js0:Sp:=fun vs H Q _=>∃ (k b:Addr) (z:Str) (m:Nat) (r:Bool) (ps:List Str) (zs:List (V×(Str×Str))) (gs:List Str) (c:Int) (t n:Nat),vs=[.ref k,.str z,.int m,.str (hs r)]∧Bk K C CB H k b ps zs gs c t n∧m≤n∧m≤30∧z∈ps ∧
 ∀ H',Jh H H'→Q (.int (Y8 (zs.map (·.2)) gs c m z r)) H'
def Jrf:Sp:=fun vs H Q _=>∃ (k b:Addr) (m:Nat) (ps:List Str) (zs:List (V×(Str×Str))) (gs:List Str) (c:Int) (t n:Nat),vs=[.ref k,.int m]∧Bk K C CB H k b ps zs gs c t n∧m≤n∧m≤30 ∧
 ∀ a H',Jh H H'→JfU H' a ps (Y8 (zs.map (·.2)) gs c m)→Q (.ref a) H'
def Jmr (x:Addr):Sp:=fun vs H Q E=>∃ (k b dx:Addr) (c t:Int) (ps:List Str) (zs:List (V×(Str×Str))) (gs:List Str),vs=[.ref k,.ref b,.int c,.int t]∧H k=some (.ins CB dx [])∧k≠b∧Bd K C H b ps zs gs ∧
 (¬ (0≤c∧c≤20)→E (.ref x) none H)∧(0≤c∧c≤20→¬ (0≤t∧t≤30)→E (.ref x) none H) ∧
 (0≤c∧c≤20→0≤t∧t≤30→∀ H',YY k H H'→Bk K C CB H' k b ps zs gs c t.toNat (t.toNat + 1)→Q .non H')
def Jkr (ps:List Str) (c:Int) (t:Nat) (z:Str) (m north:Int) (x:Str):Prop:=z∈ps∧(0≤m∧m≤t)∧(0≤north∧north≤c)∧Jaw x=true
def Jgm (kP kR kH:Addr) (ps:List Str) (c:Int) (t:Nat) (z:Str) (m north:Int) (x:Str) (H:Hp) (E:XK):Prop :=
 (z∉ps→E (.ref kP) none H)∧(z∈ps→¬ (0≤m∧m≤t)→E (.ref kR) none H)∧(z∈ps→0≤m∧m≤t→¬ (0≤north∧north≤c)→E (.ref kR) none H)∧(z∈ps→0≤m∧m≤t→0≤north∧north≤c→Jaw x=false→E (.ref kH) none H)
theorem Jdq {kP kR kH:Addr} {ps:List Str} {c:Int} {t:Nat} {z:Str} {m north:Int} {x:Str} {H:Hp} {E:XK} (h:Jkr ps c t z m north x):Jgm kP kR kH ps c t z m north x H E :=
 ⟨fun z=>absurd h.1 z,fun _ z=>absurd h.2.1 z,fun _ _ z=>absurd h.2.2.1 z,fun _ _ _ z=>by rw [h.2.2.2] at z; cases z⟩
def Jrc (kP kR kH:Addr):Sp:=fun vs H Q E=>∃ (k b:Addr) (z x:Str) (m north:Int) (ps:List Str) (zs:List (V×(Str×Str))) (gs:List Str) (c:Int) (t:Nat),vs=[.ref k,.str z,.int m,.int north,.str x]∧YG z∧YG x∧Bk K C CB H k b ps zs gs c t (t + 1) ∧
 Jgm kP kR kH ps c t z m north x H E∧(Jkr ps c t z m north x→Q .non H)
def JpB (kP kR kH:Addr):Sp:=fun vs H Q E=>∃ (k b:Addr) (z x:Str) (m north:Int) (ps:List Str) (zs:List (V×(Str×Str))) (gs:List Str) (c:Int) (t:Nat),vs=[.ref k,.str z,.int m,.int north,.str x]∧YG z∧YG x∧Bk K C CB H k b ps zs gs c t (t + 1) ∧
 Jgm kP kR kH ps c t z m north x H E∧(z∈ps→(0≤m∧m≤t)→(0≤north∧north≤c)→∀ r,x=hs r→∀ H',Jh H H'→Q (.str (hs (decide (Y8 (zs.map (·.2)) gs c m.toNat z r≤north)))) H')
def Jul:Option Int→V
 | none=>.non
 | some i=>.int i
def JiZ:Option Str→V
 | none=>.non
 | some i=>.str i
def Yq (zs:List (Str×Str)) (gs:List Str) (m:Nat) (z:Str):Prop:=z∈gs∨m=0∨Jy zs z=[]
instance (zs:List (Str×Str)) (gs:List Str) (m:Nat) (z:Str):Decidable (Yq zs gs m z):=by unfold Yq; exact inferInstance
theorem Jdc {z:Str} {m:Nat} {zs:List (Str×Str)} {gs:List Str}:(Yq zs gs m z→∃ x,Zl z (m:Int) zs gs=.str x)∧(¬ Yq zs gs m z→Zl z (m:Int) zs gs=.non):=by
 unfold Zl Yq;by_cases hg:z∈gs
 ·rw [if_pos hg]; exact ⟨fun _=>⟨_,rfl⟩,fun h=>absurd (.inl hg) h⟩
 ·rw [if_neg hg];by_cases h0:(m:Int)=0∨Jy zs z=[]
  ·rw [if_pos h0];refine ⟨fun _=>⟨_,rfl⟩,fun h=>absurd (.inr ?_) h⟩;rcases h0 with h0 | h0
   ·exact .inl (by omega)
   ·exact .inr h0
  ·rw [if_neg h0];refine ⟨fun h=>?_,fun _=>rfl⟩;rcases h with h | h | h
   ·exact absurd h hg
   ·exact absurd (.inl (by omega)) h0
   ·exact absurd (.inr h) h0
abbrev gB (gs:List Str):Str→Bool:=fun p=>decide (p∈gs)
def Jg7 (zs:List (Str×Str)) (gs:List Str) (c:Int) (m:Nat) (z:Str) (k:Int) (r:Bool):V :=
 if Yq zs gs m z then .non else if decide (Y8 zs gs c m z r≤k)=!r then .int (JuH (Jy zs) (gB gs) c (m - 1) z k r) else .non
def Jjr (zs:List (Str×Str)) (gs:List Str) (c:Int) (m:Nat) (z:Str) (k:Int) (r:Bool) (b:Int):V :=
 if Yq zs gs m z then .non else Jul (Jh6 (Jy zs) (gB gs) c (m - 1) z k r b)
def Jem (zs:List (Str×Str)) (gs:List Str) (c:Int) (m:Nat) (z:Str) (k:Int) (r h:Bool):V :=
 if Yq zs gs m z then .non else JiZ (Jdi (Jy zs) (gB gs) c (m - 1) z k r h)
theorem Jn8 {α:Type} {f:α→Bool} {w:α}:∀ {l:List α} {i:Nat},l[i]?=some w→(∀ x∈l.take i,f x=false)→f w=true→l.find? f=some w
 | [],i,h,_,_=>by simp at h
 | a :: l,0,h,_,hw=>by
  have:a=w:=by simpa using h
  subst this;rw [List.find?_cons,hw]
 | a :: l,i + 1,h,hn,hw=>by
  rw [List.find?_cons,hn a (by simp)];exact Jn8 (by simpa using h) (fun x hx=>hn x (by simp [hx])) hw
theorem JoR (n s:Int) (r:Bool) (b a:Int):∃ s',Jca n s r b a=[.str (hs (after n r b a).1),.int (after n r b a).2.1,.int s',.str (hs (after n r b a).2.2)]:=by
 unfold Jca after;by_cases h1:b > a
 ·rw [if_pos h1,if_pos h1]; cases r <;> exact ⟨_,rfl⟩
 ·rw [if_neg h1,if_neg h1];by_cases h2:a > b
  ·rw [if_pos h2,if_pos h2]; cases r <;> exact ⟨_,rfl⟩
  ·rw [if_neg h2,if_neg h2]; cases r <;> exact ⟨_,rfl⟩
theorem Jnt {n c:Int} {r:Bool} {b a:Int} (hn:0≤n∧n≤c) (hb:0≤b) (hb2:b≤own c n (!r)) (ha:0≤a) (ha2:a≤own c n r):0≤(after n r b a).2.1∧(after n r b a).2.1≤c:=by
 unfold after;unfold own at hb2 ha2;by_cases h1:b > a
 ·rw [if_pos h1]; cases r <;> simp at hb2 ha2 ⊢ <;> omega
 ·rw [if_neg h1];by_cases h2:a > b
  ·rw [if_pos h2]; cases r <;> simp at hb2 ha2 ⊢ <;> omega
  ·rw [if_neg h2]; cases r <;> simp at hb2 ha2 ⊢ <;> omega
def JpQ (kP kR kH:Addr):Sp:=fun vs H Q E=>∃ (k b:Addr) (z x:Str) (m north:Int) (ps:List Str) (zs:List (V×(Str×Str))) (gs:List Str) (c:Int) (t:Nat),vs=[.ref k,.str z,.int m,.int north,.str x]∧YG z∧YG x∧Bk K C CB H k b ps zs gs c t (t + 1) ∧
 Jgm kP kR kH ps c t z m north x H E∧(z∈ps→(0≤m∧m≤t)→(0≤north∧north≤c)→∀ r,x=hs r→∀ H',Jh H H'→Q (Jg7 (zs.map (·.2)) gs c m.toNat z north r) H')
def Jow (kP kR kH:Addr):Sp:=fun vs H Q E=>∃ (k b:Addr) (z x y:Str) (m north:Int) (ps:List Str) (zs:List (V×(Str×Str))) (gs:List Str) (c:Int) (t:Nat),vs=[.ref k,.str z,.int m,.int north,.str x,.str y]∧YG z∧YG x∧YG y∧Bk K C CB H k b ps zs gs c t (t + 1) ∧
 Jgm kP kR kH ps c t z m north x H E∧(Jkr ps c t z m north x→Jaw y=false→E (.ref kH) none H)∧(z∈ps→(0≤m∧m≤t)→(0≤north∧north≤c)→∀ r h,x=hs r→y=hs h→∀ H',Jh H H'→Q (Jem (zs.map (·.2)) gs c m.toNat z north r h) H')
def Jrq:Sp:=fun vs H Q _=>∃ (k b p:Addr) (z:Str) (m:Nat) (l r h:Bool) (n s:Int) (ps:List Str) (zs:List (V×(Str×Str))) (gs:List Str) (c:Int) (t:Nat),vs=[.ref k,.str z,.int ((m:Int) + 1),.ref p,.str (hs h)]∧H p=some (.tup [.str (hs l),.int n,.int s,.str (hs r)])∧Bk K C CB H k b ps zs gs c t (t + 1) ∧
 z∈ps∧m + 1≤t∧(0≤n∧n≤c)∧¬ Yq (zs.map (·.2)) gs (m + 1) z∧∀ H',Jh H H'→Q (.bl ((Jdi (Jy (zs.map (·.2))) (gB gs) c m z n r l).isSome == (l == h))) H'
def Jms (kP kR kH kB:Addr):Sp:=fun vs H Q E=>∃ (k b:Addr) (z x:Str) (m north bid:Int) (ps:List Str) (zs:List (V×(Str×Str))) (gs:List Str) (c:Int) (t:Nat),vs=[.ref k,.str z,.int m,.int north,.str x,.int bid]∧YG z∧YG x∧Bk K C CB H k b ps zs gs c t (t + 1) ∧
 Jgm kP kR kH ps c t z m north x H E∧(z∈ps→(0≤m∧m≤t)→(0≤north∧north≤c)→∀ r,x=hs r→¬ (0≤bid∧bid≤own c north (!r))→E (.ref kB) none H) ∧
 (z∈ps→(0≤m∧m≤t)→(0≤north∧north≤c)→∀ r,x=hs r→0≤bid∧bid≤own c north (!r)→∀ H',Jh H H'→Q (Jjr (zs.map (·.2)) gs c m.toNat z north r bid) H')
end
section
variable {P:Program} {w:World} {K:PySem.W.Frag} {mg:Str→Option Value} {base:Heap}
theorem Z1 (T:Txt K mg):JK P w K mg base (Zb P w) 1 T.JdT T.JcZ ["number", "most"] (JsU T.J8):=by
 refine T.ZC.F.ok1 Jks (fun vs H Q E h=>?_) (fun cdv A outer s H vs Q E hr h=>?_)
 ·obtain ⟨_,_,rfl,_⟩:=h;rfl
 ·obtain ⟨n,m,rfl,hm,q1,q2⟩:=h;refine ⟨_,(@Jg _ _ _ (@JH _ _ _ _ _ _ _ _ (@PW.pt _ _ _ (@ZX _ _ _ _ _ _ _ (@Js _ _ _ _ _ _ _ _ (@Jen _) (@pv _ 0 _ _ rfl (.inl rfl) rfl rfl) (@Je _ _ _ _) (JE _)) (@ZT _ _ _ _ (@Js _ _ _ _ _ _ _ _ (@Jeo _) (@pv _ 0 _ _ rfl (.inl rfl) rfl rfl) (@pv _ 1 _ _ rfl (.inl rfl) rfl rfl) (JE _))))) (@Jg _ _ _ (@Jbs _ _ _ _ _ _ _ _ _ T.Jd3 T.JcM Jck (@Jex _ _ _ _ _ _ (PJ.cons (@Jz _ _ _ _) (PJ.cons (@Jn0 _ _ _ _ (@pv _ 1 _ _ rfl (.inl rfl) rfl rfl)) PJ.nil)) rfl) rfl rfl (by decide) rfl)) (@Jp _))),?_⟩;have fm:∀ m:Nat,m < 31→(m:Int).natAbs.log2 < 1920∧(Str.empty ++ Str.ofString "it goes from 0 to " ++ Str.ofString (toString (m:Int))).length≤sizeLine:=by decide +kernel
  obtain ⟨m,rfl⟩:∃ j:Nat,m=(j:Int):=⟨m.toNat,by omega⟩
  have fm:=fm m (by omega);have bad:¬ (0≤n∧n≤m)→Jmm T.J8 E (JjB [tC (.str "it goes from 0 to "),Jov (fun σ H Q=>∃ v,σ[1]?=some (some v)∧Q v H)] Str.empty) { nx:=fun _ H'=>Q .non H',rt:=Q } [some (.int n),some (.int (m:Int))] H:=fun hb =>
   ⟨_,rfl,by decide +kernel,_,rfl,_,rfl,fm.1,_,rfl,fm.2,fm.2,q2 hb⟩
  refine ⟨_,rfl,_,_,rfl,rfl,_,rfl,YV (fun c=>?_) (fun c=>?_)⟩
  ·exact YD (bad fun z=>by have:=z.1; have:=of_decide_eq_true c; omega)
  refine ⟨_,rfl,_,rfl,_,_,rfl,rfl,_,rfl,YV (fun d=>?_) (fun d=>?_)⟩
  ·exact bad fun z=>by have:=z.2; have:=of_decide_eq_true d; omega
  ·exact q1 ⟨Int.not_lt.mp fun z=>c (decide_eq_true z),Int.not_lt.mp fun z=>d (decide_eq_true z)⟩
theorem JcV (T:Txt K mg):JK P w K mg base (Zb P w) 4 T.Jk8 T.Jjf ["board", "place", "turns"] (Jrp K T.JP T.YM T.J8):=by
 refine T.Jcq.F.ok1 JrF (fun vs H Q E h=>?_) (fun cdv A outer s H vs Q E hr h=>?_)
 ·obtain ⟨_,_,_,_,_,_,rfl,_⟩:=h;rfl
 ·obtain ⟨b,z,n,ps,zs,gs,rfl,ht,hl,B,q1,q2,q3⟩:=h;refine ⟨_,(@Jd _ _ _ _ _ (@JJ _ _ _ _ (@J2 _ _ _ _ _ _ _ _ _ _ _ _ _ _ _ _ _ _ _ _ (@pv _ 0 _ _ rfl (.inl rfl) rfl rfl) T.YQ T.Yc.m (Zv T) (hr.mono (by decide)) T.Yc.b .nil Yw (@Ja _ _ _ _ _ (@pv _ 1 _ _ rfl (.inl rfl) rfl rfl) (@Jc _) rfl) rfl rfl rfl) rfl) (@Jd _ _ _ _ _ (@JJ _ _ _ _ (@Jk _ _ _ _ _ _ _ _ _ _ _ _ _ _ _ T.ZC (Z1 T) (hr.mono (by decide)) Yw (@Ja _ _ _ _ _ (@pv _ 2 _ _ rfl (.inl rfl) rfl rfl) (@Ja _ _ _ _ _ (@Ja1 _ _ _ _ _ rfl T.JaG T.JaB (by decide)) (@Jc _) rfl) rfl) rfl (by decide) rfl rfl) rfl) (@Jd _ _ _ _ _ (@JH _ _ _ _ _ _ _ _ (@Zf _ _ _ (@J2 _ _ _ _ _ _ _ _ _ _ _ _ _ _ _ _ _ _ _ _ (@pv _ 0 _ _ rfl (.inl rfl) rfl rfl) T.YQ T.Jbj.m (Ji2 T) (hr.mono (by decide)) T.Jbj.b .nil Yw (@Ja _ _ _ _ _ (@pv _ 1 _ _ rfl (.inl rfl) rfl rfl) (@Jc _) rfl) rfl rfl rfl) (by intro _; rfl)) (@Jg _ _ _ (@Jn _ _ _ _ (@Jz _ _ _ _))) (@Jp _)) (@Jd _ _ _ _ _ (@JH _ _ _ _ _ _ _ _ (@PW.pt _ _ _ (@ZX _ _ _ _ _ _ _ (@Js _ _ _ _ _ _ _ _ (@Yg _) (@pv _ 2 _ _ rfl (.inl rfl) rfl rfl) (@Je _ _ _ _) (JE _)) (@ZT _ _ _ _ (@Js _ _ _ _ _ _ _ _ (@Yg _) (@JF _ _ _ _ _ _ _ _ _ (@Yh _) rfl T.Zy PySem.boot_len (@Ja _ _ _ _ _ (@J2 _ _ _ _ _ _ _ _ _ _ _ _ _ _ _ _ _ _ _ _ (@pv _ 0 _ _ rfl (.inl rfl) rfl rfl) T.YQ T.YT.m (JaV T) (hr.mono (by decide)) T.YT.b .nil Yw (@Ja _ _ _ _ _ (@pv _ 1 _ _ rfl (.inl rfl) rfl rfl) (@Jc _) rfl) rfl rfl rfl) (@Jc _) rfl) (by decide) (by decide) rfl rfl) (@Je _ _ _ _) (JE _))))) (@Jg _ _ _ (@Jn _ _ _ _ (@Jz _ _ _ _))) (@Jp _)) (@Jg _ _ _ (@Jn _ _ _ _ (@Zo _ _ _))))))),?_⟩;obtain ⟨dx,tp,tl,tg,hb,_⟩:=id B;refine ⟨_,rfl,b,dx,_,rfl,hb,rfl,_,rfl,b,z,ps,zs,gs,rfl,ht,B,fun hin=>?_,q1⟩;refine ⟨_,rfl,n,30,rfl,⟨by decide,by decide⟩,fun hn=>?_,q2 hin⟩;refine ⟨_,rfl,b,dx,_,rfl,hb,rfl,_,rfl,b,z,ps,zs,gs,rfl,ht,B,fun _=>⟨_,rfl,?_⟩,fun h=>absurd hin h⟩;have q:=q3 hin hn;by_cases hg:z∈gs
  ·refine YF (decide_eq_true hg) ?_;have e:Zl z n (zs.map (·.2)) gs=.str "north":=by unfold Zl; rw [if_pos hg]
   rw [e] at q;exact q H (Jh.refl _)
  ·refine Yb (decide_eq_false hg) ⟨_,rfl,rfl,_,rfl,?_⟩;by_cases h0:n=0
   ·have e:Zl z n (zs.map (·.2)) gs=.str "south":=by unfold Zl; rw [if_neg hg,if_pos (.inl h0)]
    rw [e] at q;exact YF (by rw [h0]; exact decide_eq_true rfl) (YD (q H (Jh.refl _)))
   ·refine Yb (decide_eq_false fun e=>h0 (V.int.inj e)) ⟨_,rfl,b,dx,_,rfl,hb,rfl,_,rfl,b,z,ps,zs,gs,rfl,ht,hl,B,fun _ t H' e' ht'=>⟨t,_,rfl,.inr (JL.of ht'),rfl,_,rfl,?_⟩,fun h=>absurd hin h⟩;rw [List.length_map];by_cases hw:Jy (zs.map (·.2)) z=[]
    ·have e:Zl z n (zs.map (·.2)) gs=.str "south":=by unfold Zl; rw [if_neg hg,if_pos (.inr hw)]
     rw [e] at q;exact YF (by rw [hw]; exact decide_eq_true rfl) (q H' e')
    ·have e:Zl z n (zs.map (·.2)) gs=.non:=by unfold Zl; rw [if_neg hg,if_neg (fun h=>h.elim h0 hw)]
     rw [e] at q;refine Yb (decide_eq_false fun e2=>?_) (q H' e');have e3:((Jy (zs.map (·.2)) z).length:Int)=0:=V.int.inj e2;exact hw (List.length_eq_zero_iff.mp (by omega))
theorem JbZ (T:Txt K mg):JK P w K mg base (Zb P w) 1 T.Jfr T.JdN ["hand"] (JlW T.Y2):=by
 refine T.JaI.F.ok1 Jl0 (fun vs H Q E h=>?_) (fun cdv A outer s H vs Q E hr h=>?_)
 ·obtain ⟨_,rfl,_⟩:=h;rfl
 ·obtain ⟨z,rfl,ht,q1,q2⟩:=h;refine ⟨_,(@Jg _ _ _ (@JH _ _ _ _ _ _ _ _ (@Js _ _ _ _ _ _ _ _ (@Jcy _) (@pv _ 0 _ _ rfl (.inl rfl) rfl rfl) (@ZO _ _ _ _ rfl T.JkQ (by decide)) (by with_unfolding_all rfl)) (@Jg _ _ _ (@Jbs _ _ _ _ _ _ _ _ _ T.Jkh T.Jh5 Jck (@Jex _ _ _ _ _ _ (PJ.cons (@JgT _ _ _ _ (@pv _ 0 _ _ rfl (.inl rfl) rfl rfl)) (PJ.cons (@Jz _ _ _ _) PJ.nil)) rfl) rfl rfl (by decide) rfl)) (@Jp _))),?_⟩;refine ⟨_,rfl,T.JgH,_,rfl,.inr (T.Jic H),rfl,rfl,_,rfl,?_⟩;rw [if_pos rfl,Jqt];have hz:=JfF ht;have e1:(Str.empty ++ reprText z).length=(reprText z).length:=by rw [strLen_append]; exact Nat.zero_add _
  cases hb:Jaw z with
  | true=>exact Yo (q1 hb)
  | false =>
   refine YD ⟨_,rfl,z,rfl,Nat.le_trans hz (by decide),_,rfl,by rw [e1]; exact Nat.le_trans hz (by decide),_,rfl,?_,?_,q2 hb⟩
   all_goals
    rw [strLen_append,e1];refine Nat.le_trans (Nat.add_le_add_right hz _) (by decide)
theorem JgV (T:Txt K mg):JK P w K mg base (Zb P w) 2 T.Jk4 T.Jjb ["hand"] (Jre T.Y2):=by
 refine T.JeG.F.ok1 JrD (fun vs H Q E h=>?_) (fun cdv A outer s H vs Q E hr h=>?_)
 ·obtain ⟨_,rfl,_⟩:=h;rfl
 ·obtain ⟨z,rfl,ht,q1,q2⟩:=h;refine ⟨_,(@Jd _ _ _ _ _ (@JJ _ _ _ _ (@Jk _ _ _ _ _ _ _ _ _ _ _ _ _ _ _ T.JaI (JbZ T) (hr.mono (by decide)) Yw (@Ja _ _ _ _ _ (@pv _ 0 _ _ rfl (.inl rfl) rfl rfl) (@Jc _) rfl) rfl (by decide) rfl rfl) rfl) (@Jg _ _ _ (@Jn _ _ _ _ (@Jb9 _ _ _ _ _ _ _ _ (@Js _ _ _ _ _ _ _ _ (@Yg _) (@pv _ 0 _ _ rfl (.inl rfl) rfl rfl) (@Jz _ _ _ _) (JE _)) (@Jz _ _ _ _) (@Jz _ _ _ _))))),?_⟩;refine ⟨_,rfl,z,rfl,ht,fun hb=>?_,q2⟩;obtain ⟨b,rfl⟩:=JeE hb;refine ⟨_,rfl,rfl,_,rfl,?_⟩;rw [JhQ];cases b with
  | true=>exact YD (q1 true rfl)
  | false=>exact Yo (q1 false rfl)
theorem JbV (T:Txt K mg):JK P w K mg base YB 1 T.Jg1 T.Jf7 ["hand", "north", "south"] JnF:=by
 refine T.JaQ.F.ok JnH (fun vs H Q E h=>?_) (fun cdv A outer s H vs Q E hr h=>?_)
 ·obtain ⟨_,_,_,rfl,_⟩:=h;rfl
 ·obtain ⟨b,n,s,rfl,q⟩:=h;refine ⟨_,(@Jg _ _ _ (@Jn _ _ _ _ (@Jb9 _ _ _ _ _ _ _ _ (@Js _ _ _ _ _ _ _ _ (@Yg _) (@pv _ 0 _ _ rfl (.inl rfl) rfl rfl) (@Jz _ _ _ _) (JE _)) (@pv _ 1 _ _ rfl (.inl rfl) rfl rfl) (@pv _ 2 _ _ rfl (.inl rfl) rfl rfl)))),?_⟩;refine ⟨_,rfl,rfl,_,rfl,?_⟩;rw [JhQ];cases b with
  | true=>exact YD ⟨_,rfl,q⟩
  | false=>exact Yo ⟨_,rfl,q⟩
theorem JmT (T:Txt K mg):JK P w K mg base YB 1 T.Jpa T.Jnc ["hand", "price", "north", "south", "ribbon"] JtX:=by
 refine T.Jkk.F.ok Jt5 (fun vs H Q E h=>?_) (fun cdv A outer s H vs Q E hr h=>?_)
 ·obtain ⟨_,_,_,_,_,rfl,_⟩:=h;rfl
 ·obtain ⟨b,c,n,s,r,rfl,q⟩:=h;refine ⟨_,(@Jd _ _ _ _ _ (@JH _ _ _ _ _ _ _ _ (@Js _ _ _ _ _ _ _ _ (@Yg _) (@pv _ 0 _ _ rfl (.inl rfl) rfl rfl) (@Jz _ _ _ _) (JE _)) (@Jg _ _ _ (@Jn _ _ _ _ (@Yn _ _ _ _ _ (@Ja _ _ _ _ _ (@pv _ 0 _ _ rfl (.inl rfl) rfl rfl) (@Ja _ _ _ _ _ (@Jm _ _ _ _ _ _ _ _ (@Zg _) (@pv _ 2 _ _ rfl (.inl rfl) rfl rfl) (@pv _ 1 _ _ rfl (.inl rfl) rfl rfl)) (@Ja _ _ _ _ _ (@Jm _ _ _ _ _ _ _ _ (@J3 _) (@pv _ 3 _ _ rfl (.inl rfl) rfl rfl) (@pv _ 1 _ _ rfl (.inl rfl) rfl rfl)) (@Ja _ _ _ _ _ (@pv _ 4 _ _ rfl (.inl rfl) rfl rfl) (@Jc _) rfl) rfl) rfl) rfl)))) (@Jp _)) (@Jg _ _ _ (@Jn _ _ _ _ (@Yn _ _ _ _ _ (@Ja _ _ _ _ _ (@pv _ 0 _ _ rfl (.inl rfl) rfl rfl) (@Ja _ _ _ _ _ (@Jm _ _ _ _ _ _ _ _ (@J3 _) (@pv _ 2 _ _ rfl (.inl rfl) rfl rfl) (@pv _ 1 _ _ rfl (.inl rfl) rfl rfl)) (@Ja _ _ _ _ _ (@Jm _ _ _ _ _ _ _ _ (@Zg _) (@pv _ 3 _ _ rfl (.inl rfl) rfl rfl) (@pv _ 1 _ _ rfl (.inl rfl) rfl rfl)) (@Ja _ _ _ _ _ (@pv _ 4 _ _ rfl (.inl rfl) rfl rfl) (@Jc _) rfl) rfl) rfl) rfl))))),?_⟩;refine ⟨_,rfl,rfl,_,rfl,?_⟩;rw [JhQ];cases b with
  | true=>exact YD ⟨_,rfl,_,rfl,_,rfl,_,_,rfl,rfl,_,rfl,_,rfl,_,_,rfl,rfl,_,rfl,by show 4≤sizeLine; decide,fun p hp=>q p _ (Jh.upd hp) Ji⟩
  | false=>exact Yo ⟨_,rfl,_,rfl,_,rfl,_,_,rfl,rfl,_,rfl,_,rfl,_,_,rfl,rfl,_,rfl,by show 4≤sizeLine; decide,fun p hp=>q p _ (Jh.upd hp) Ji⟩
theorem Jgs (T:Txt K mg):JK P w K mg base (Zb P w) 1 T.JdW T.Jc2 ["north", "south"] (Jkq T.J8):=by
 refine T.Jb2.F.ok1 Jkt (fun vs H Q E h=>?_) (fun cdv A outer s H vs Q E hr h=>?_)
 ·obtain ⟨_,_,rfl,_⟩:=h;rfl
 ·obtain ⟨n,s,rfl,q1,q2⟩:=h;refine ⟨_,(@Jg _ _ _ (@JH _ _ _ _ _ _ _ _ (@PW.pt _ _ _ (@ZX _ _ _ _ _ _ _ (@Js _ _ _ _ _ _ _ _ (@Jen _) (@pv _ 0 _ _ rfl (.inl rfl) rfl rfl) (@Je _ _ _ _) (JE _)) (@ZX _ _ _ _ _ _ _ (@Js _ _ _ _ _ _ _ _ (@Jen _) (@pv _ 1 _ _ rfl (.inl rfl) rfl rfl) (@Je _ _ _ _) (JE _)) (@ZT _ _ _ _ (@Js _ _ _ _ _ _ _ _ (@Jeo _) (@Jm _ _ _ _ _ _ _ _ (@J3 _) (@pv _ 0 _ _ rfl (.inl rfl) rfl rfl) (@pv _ 1 _ _ rfl (.inl rfl) rfl rfl)) (@Ja1 _ _ _ _ _ rfl T.JaH T.JaC (by decide)) (JE _)))))) (@Jg _ _ _ (@Jbs _ _ _ _ _ _ _ _ _ T.Jd3 T.JcM Jck (@Jex _ _ _ _ _ _ (PJ.cons (@Jz _ _ _ _) (PJ.cons (@Jn0 _ _ _ _ (@Ja1 _ _ _ _ _ rfl T.JaH T.JaC (by decide))) PJ.nil)) rfl) rfl rfl (by decide) rfl)) (@Jp _))),?_⟩;have bad:¬ ZH n s→Jmm T.J8 E (JjB [tC (.str "coins go from 0, both hands' together to "),Jov (tC (.int 20))] Str.empty) { nx:=fun _ H'=>Q .non H',rt:=Q } [some (.int n),some (.int s)] H:=fun hb =>
   ⟨_,rfl,by decide +kernel,_,rfl,by decide +kernel,_,rfl,by decide +kernel,by decide +kernel,q2 hb⟩
  refine ⟨_,rfl,_,_,rfl,rfl,_,rfl,YV (fun c=>?_) (fun c=>?_)⟩
  ·exact YD (bad fun z=>by have:=z.1; have:=of_decide_eq_true c; omega)
  refine ⟨_,rfl,_,_,rfl,rfl,_,rfl,YV (fun d=>?_) (fun d=>?_)⟩
  ·exact YD (bad fun z=>by have:=z.2.1; have:=of_decide_eq_true d; omega)
  refine ⟨_,rfl,_,rfl,_,_,rfl,rfl,_,_,rfl,rfl,_,rfl,YV (fun e=>?_) (fun e=>?_)⟩
  ·exact bad fun z=>by have:=z.2.2; have:=of_decide_eq_true e; omega
  ·refine q1 ⟨?_,?_,?_⟩
   ·exact Int.not_lt.mp fun z=>c (decide_eq_true z)
   ·exact Int.not_lt.mp fun z=>d (decide_eq_true z)
   ·exact Int.not_lt.mp fun z=>e (decide_eq_true z)
theorem Jcz (T:Txt K mg):JK P w K mg base (Zb P w) 1 T.Jgc T.Jfi ["named", "coins"] (Jmq T.Yi):=by
 refine T.Ja3.F.ok1 Jmy (fun vs H Q E h=>?_) (fun cdv A outer s H vs Q E hr h=>?_)
 ·obtain ⟨_,_,rfl,_⟩:=h;rfl
 ·obtain ⟨n,s,rfl,q1,q2⟩:=h;refine ⟨_,(@Jg _ _ _ (@JH _ _ _ _ _ _ _ _ (@PW.pt _ _ _ (@ZX _ _ _ _ _ _ _ (@Js _ _ _ _ _ _ _ _ (@Jen _) (@pv _ 0 _ _ rfl (.inl rfl) rfl rfl) (@Je _ _ _ _) (JE _)) (@ZT _ _ _ _ (@Js _ _ _ _ _ _ _ _ (@Jeo _) (@pv _ 0 _ _ rfl (.inl rfl) rfl rfl) (@pv _ 1 _ _ rfl (.inl rfl) rfl rfl) (JE _))))) (@Jg _ _ _ (@Jbs _ _ _ _ _ _ _ _ _ T.Y5 T.Jjo Jck (@Jz _ _ _ _) rfl rfl (by decide) rfl)) (@Jp _))),?_⟩;refine ⟨_,rfl,_,_,rfl,rfl,_,rfl,YV (fun c=>?_) (fun c=>?_)⟩
  ·exact YD (q2 fun z=>by have:=z.1; have:=of_decide_eq_true c; omega)
  refine ⟨_,rfl,_,rfl,_,_,rfl,rfl,_,rfl,YV (fun d=>?_) (fun d=>?_)⟩
  ·exact q2 fun z=>by have:=z.2; have:=of_decide_eq_true d; omega
  ·exact q1 ⟨Int.not_lt.mp fun z=>c (decide_eq_true z),Int.not_lt.mp fun z=>d (decide_eq_true z)⟩
theorem Jlu (T:Txt K mg):JK P w K mg base (Zb P w) 3 T.Jji T.JhT ["north", "south", "ribbon", "bid", "answer"] (JpF T.J8 T.Y2 T.Yi):=by
 refine T.Jg8.F.ok1 Jlp (fun vs H Q E h=>?_) (fun cdv A outer s H vs Q E hr h=>?_)
 ·obtain ⟨_,_,_,_,_,rfl,_⟩:=h;rfl
 ·obtain ⟨n,s,z,b,a,rfl,ht,q1,q2,q3,q⟩:=h;refine ⟨_,(@Jd _ _ _ _ _ (@JJ _ _ _ _ (@Jk _ _ _ _ _ _ _ _ _ _ _ _ _ _ _ T.Jb2 (Jgs T) (hr.mono (by decide)) Yw (@Ja _ _ _ _ _ (@pv _ 0 _ _ rfl (.inl rfl) rfl rfl) (@Ja _ _ _ _ _ (@pv _ 1 _ _ rfl (.inl rfl) rfl rfl) (@Jc _) rfl) rfl) rfl (by decide) rfl rfl) rfl) (@Jd _ _ _ _ _ (@Jr _ _ 5 _ _ _ _ Jlp.nd rfl (Or.inl rfl) (@Jk _ _ _ _ _ _ _ _ _ _ _ _ _ _ _ T.JeG (JgV T) (hr.mono (by decide)) Yw (@Ja _ _ _ _ _ (@pv _ 2 _ _ rfl (.inl rfl) rfl rfl) (@Jc _) rfl) rfl (by decide) rfl rfl) rfl (.inl rfl)) (@Jd _ _ _ _ _ (@JJ _ _ _ _ (@Jk _ _ _ _ _ _ _ _ _ _ _ _ _ _ _ T.Ja3 (Jcz T) (hr.mono (by decide)) Yw (@Ja _ _ _ _ _ (@pv _ 3 _ _ rfl (.inl rfl) rfl rfl) (@Ja _ _ _ _ _ (@Jk _ _ _ _ _ _ _ _ _ _ _ _ _ _ _ T.JaQ (JbV T) (hr.mono (by decide)) Jt (@Ja _ _ _ _ _ (@pv _ 5 _ _ rfl (.inl rfl) rfl rfl) (@Ja _ _ _ _ _ (@pv _ 0 _ _ rfl (.inl rfl) rfl rfl) (@Ja _ _ _ _ _ (@pv _ 1 _ _ rfl (.inl rfl) rfl rfl) (@Jc _) rfl) rfl) rfl) rfl (by decide) rfl rfl) (@Jc _) rfl) rfl) rfl (by decide) rfl rfl) rfl) (@Jd _ _ _ _ _ (@JJ _ _ _ _ (@Jk _ _ _ _ _ _ _ _ _ _ _ _ _ _ _ T.Ja3 (Jcz T) (hr.mono (by decide)) Yw (@Ja _ _ _ _ _ (@pv _ 4 _ _ rfl (.inl rfl) rfl rfl) (@Ja _ _ _ _ _ (@Jk _ _ _ _ _ _ _ _ _ _ _ _ _ _ _ T.JaQ (JbV T) (hr.mono (by decide)) Jt (@Ja _ _ _ _ _ (@pv _ 2 _ _ rfl (.inl rfl) rfl rfl) (@Ja _ _ _ _ _ (@pv _ 0 _ _ rfl (.inl rfl) rfl rfl) (@Ja _ _ _ _ _ (@pv _ 1 _ _ rfl (.inl rfl) rfl rfl) (@Jc _) rfl) rfl) rfl) rfl (by decide) rfl rfl) (@Jc _) rfl) rfl) rfl (by decide) rfl rfl) rfl) (@Jd _ _ _ _ _ (@JH _ _ _ _ _ _ _ _ (@Js _ _ _ _ _ _ _ _ (@Jeo _) (@pv _ 3 _ _ rfl (.inl rfl) rfl rfl) (@pv _ 4 _ _ rfl (.inl rfl) rfl rfl) (JE _)) (@Jg _ _ _ (@Jn _ _ _ _ (@Jk _ _ _ _ _ _ _ _ _ _ _ _ _ _ _ T.Jkk (JmT T) (hr.mono (by decide)) Jt (@Ja _ _ _ _ _ (@pv _ 5 _ _ rfl (.inl rfl) rfl rfl) (@Ja _ _ _ _ _ (@pv _ 3 _ _ rfl (.inl rfl) rfl rfl) (@Ja _ _ _ _ _ (@pv _ 0 _ _ rfl (.inl rfl) rfl rfl) (@Ja _ _ _ _ _ (@pv _ 1 _ _ rfl (.inl rfl) rfl rfl) (@Ja _ _ _ _ _ (@pv _ 2 _ _ rfl (.inl rfl) rfl rfl) (@Jc _) rfl) rfl) rfl) rfl) rfl) rfl (by decide) rfl rfl))) (@Jp _)) (@Jd _ _ _ _ _ (@JH _ _ _ _ _ _ _ _ (@Js _ _ _ _ _ _ _ _ (@Jeo _) (@pv _ 4 _ _ rfl (.inl rfl) rfl rfl) (@pv _ 3 _ _ rfl (.inl rfl) rfl rfl) (JE _)) (@Jg _ _ _ (@Jn _ _ _ _ (@Jk _ _ _ _ _ _ _ _ _ _ _ _ _ _ _ T.Jkk (JmT T) (hr.mono (by decide)) Jt (@Ja _ _ _ _ _ (@pv _ 2 _ _ rfl (.inl rfl) rfl rfl) (@Ja _ _ _ _ _ (@pv _ 4 _ _ rfl (.inl rfl) rfl rfl) (@Ja _ _ _ _ _ (@pv _ 0 _ _ rfl (.inl rfl) rfl rfl) (@Ja _ _ _ _ _ (@pv _ 1 _ _ rfl (.inl rfl) rfl rfl) (@Ja _ _ _ _ _ (@pv _ 2 _ _ rfl (.inl rfl) rfl rfl) (@Jc _) rfl) rfl) rfl) rfl) rfl) rfl (by decide) rfl rfl))) (@Jp _)) (@Jg _ _ _ (@Jn _ _ _ _ (@Jk _ _ _ _ _ _ _ _ _ _ _ _ _ _ _ T.Jkk (JmT T) (hr.mono (by decide)) Jt (@Ja _ _ _ _ _ (@pv _ 2 _ _ rfl (.inl rfl) rfl rfl) (@Ja _ _ _ _ _ (@pv _ 4 _ _ rfl (.inl rfl) rfl rfl) (@Ja _ _ _ _ _ (@pv _ 0 _ _ rfl (.inl rfl) rfl rfl) (@Ja _ _ _ _ _ (@pv _ 1 _ _ rfl (.inl rfl) rfl rfl) (@Ja _ _ _ _ _ (@pv _ 5 _ _ rfl (.inl rfl) rfl rfl) (@Jc _) rfl) rfl) rfl) rfl) rfl) rfl (by decide) rfl rfl))))))))),?_⟩;refine ⟨_,rfl,_,rfl,n,s,rfl,fun hc=>?_,q1⟩;refine ⟨_,rfl,z,rfl,ht,fun r hz=>?_,q2 hc⟩;subst hz;refine ⟨_,rfl,_,rfl,_,rfl,_,rfl,_,n,s,rfl,b,_,rfl,fun hb=>?_,fun hb=>q3 r rfl hc fun z=>hb (by cases r <;> exact z.1)⟩;refine ⟨_,rfl,_,rfl,_,rfl,_,rfl,r,n,s,rfl,a,_,rfl,fun ha=>?_,fun ha=>q3 r rfl hc fun z=>ha z.2⟩;have hok:Jfz n s r b a:=⟨by cases r <;> exact hb,ha⟩
  have q:=q r rfl hc hok;refine ⟨_,rfl,_,rfl,_,_,rfl,rfl,_,rfl,?_⟩;refine YV (fun c=>?_) (fun c=>?_)
  ·have c':a < b:=of_decide_eq_true c;refine ⟨_,rfl,_,rfl,_,rfl,_,rfl,_,rfl,_,b,n,s,r,rfl,fun p H' e hp=>q p H' e ?_⟩;rw [hp,JiY,if_pos c']
  ·have c':¬ a < b:=fun z=>c (decide_eq_true z)
   refine ⟨_,rfl,_,rfl,_,_,rfl,rfl,_,rfl,?_⟩;refine YV (fun d=>?_) (fun d=>?_)
   ·have d':b < a:=of_decide_eq_true d;refine ⟨_,rfl,_,rfl,_,rfl,_,rfl,_,rfl,_,a,n,s,r,rfl,fun p H' e hp=>q p H' e ?_⟩;rw [hp,JiY,if_neg c',if_pos d']
   ·have d':¬ b < a:=fun z=>d (decide_eq_true z)
    refine ⟨_,rfl,_,rfl,_,rfl,_,rfl,_,rfl,_,a,n,s,_,rfl,fun p H' e hp=>q p H' e ?_⟩;rw [hp,JiY,if_neg c',if_neg d']
theorem Jas (T:Txt K mg):JK P w K mg base YB 4 T.ZE T.ZB ["self", "place", "turns"] (JtZ K T.JP T.JS):=by
 refine T.Yu.F.ok Jaq (fun vs H Q E h=>?_) (fun cdv A outer s H vs Q E hr h=>?_)
 ·obtain ⟨_,_,_,_,_,_,_,_,_,_,rfl,_⟩:=h;rfl
 ·obtain ⟨k,b,z,m,ps,zs,gs,c,t,n,rfl,B,hm,hz,hw,q⟩:=h;have hu:=Jio hr;refine ⟨_,(@Jd _ _ _ _ _ (@Jr _ _ 3 _ _ _ _ Jaq.nd rfl (Or.inr rfl) (@JG _ _ _ _ _ _ _ (@JU _) (@Jw _ _ _ _ _ (@pv _ 0 _ _ rfl (.inl rfl) rfl rfl) rfl) (@Jm _ _ _ _ _ _ _ _ (@Zg _) (@pv _ 2 _ _ rfl (.inl rfl) rfl rfl) (@Je _ _ _ _)) (fun _ _=>rfl)) rfl (by first | exact .inl rfl | exact .inr rfl | assumption)) (@Jg _ _ _ (@Jn _ _ _ _ (@JF _ _ _ _ _ _ _ _ _ (@JqQ _ rfl) rfl T.JjU PyProof.Rows.boot_min (@Ja _ _ _ _ _ (@JgU _ _ _ _ _ _ _ 1 ["way", "behind"] [3] _ _ _ _ ["self", "place", "turns", "behind"] ((Jl Y0).names) (by decide +kernel) (@JeZ _ _ _ _ (@J2 _ _ _ _ _ _ _ _ _ _ _ _ _ _ _ _ _ _ _ _ (@Jw _ _ _ _ _ (@pv _ 0 _ _ rfl (.inl rfl) rfl rfl) rfl) T.YQ T.YT.m (JaV T) (hr.mono (by decide)) T.YT.b .nil Y7 (@Ja _ _ _ _ _ (@pv _ 1 _ _ rfl (.inl rfl) rfl rfl) (@Jc _) rfl) rfl rfl rfl)) (fun _ _ _ _=>(@JaT _ _ _ _ _ _ _ _ _ 0 (by decide +kernel) rfl rfl)) (fun _ _ _ _=>(@Jev _)) (fun _ _ _ _=>(@Jey _ _ _ _ _ _ hu (@Jbt _ _ _ _ _ _ _ _ _ 1 rfl rfl (by decide) (by decide)) (@Yn _ _ _ _ _ (@Ja _ _ _ _ _ (@Z8 _ _ _ _ _ _ _ _ _ 0 rfl rfl (by decide) (by decide)) (@Ja _ _ _ _ _ (@Jz _ _ _ _) (@Jc _) rfl) rfl)) (fun _ _=>rfl))) rfl rfl rfl (by intro _; rfl)) (@Jc _) rfl) (by decide) (by decide) rfl rfl)))),?_⟩;obtain ⟨dx,l,rs,h1,h2,h3,h4⟩:=B.at_;obtain ⟨a,ha⟩:∃ a,rs[m]?=some a:=⟨_,List.getElem?_eq_getElem (by omega)⟩
  obtain ⟨kvs,hk1,hk2⟩:=h4 m a ha;obtain ⟨bdx,tp,tl,tg,hb,_⟩:=id B.B.B;have hwl:=Jhj B.B.G z;have hat:atI (rs.map V.ref) ((m:Int) + 1 - 1)=some (.ref a):=by
   rw [Int.add_sub_cancel]; exact Zr (by rw [List.getElem?_map,ha]; rfl)
  refine ⟨_,rfl,k,_,dx,_,.ref l,rfl,h1,T.JY,T.Jah,rfl,_,rfl,_,_,rfl,rfl,l,_,_,.ref a,rfl,rfl,JC.of h2,hat,?_⟩;refine ⟨_,rfl,k,_,dx,_,.ref b,rfl,h1,T.JY,T.YR,rfl,b,bdx,_,rfl,hb,rfl,_,rfl,b,z,ps,zs,gs,rfl,YO (B.B.G.p3 z hz),B.B.zl,B.B.B,fun _ tw H1 e1 ht=>?_,fun h=>absurd hz h⟩;refine ⟨tw,rfl,⟨_,JL.of ht⟩,fun D hD=>?_⟩;refine Jjl (xs:=(Jy (zs.map (·.2)) z).map V.str) (fun i ys H2=>Jh H1 H2∧H2 D=some (.lst ys)∧ys=((Jy (zs.map (·.2)) z).take i).map fun w=>V.int (Y8 (zs.map (·.2)) gs c m w false)) rfl (fun i ys H2 p=>JL.of (p.1 _ _ ht)) ⟨Jh.upd hD,Ji,by simp⟩ (fun i ys H2 p=>p.2.1) ?_ ?_
  ·rintro i x ys H2 hx ⟨e2,hy,rfl⟩;rw [List.getElem?_map] at hx;obtain ⟨w',hw1,rfl⟩:=Option.map_eq_some_iff.mp hx;have hin:=Jch B.B.G (List.mem_of_getElem? hw1);refine tcT ?_;refine ⟨_,rfl,_,rfl,by show 2≤sizeLine; decide,fun p hp=>?_⟩;have g:=Jd6.t (k:=Jbc w' false) ((Jh.upd (o:=.tup [.str w',.str "south"]) hp) _ _ (e2 _ _ (e1 _ _ hk1))) (show upd H2 p (.tup [.str w',.str "south"]) p=some (.tup ((Jbc w' false).map kV)) from Ji);rw [hk2 w' hin false] at g;have hDp:D≠p:=JD hy hp;refine ⟨a,_,rfl,g,by rw [JB hDp]; exact hy,?_,fun b' u e=>?_,Ji,?_⟩
   ·rw [List.length_map,List.length_take];refine Nat.lt_of_le_of_lt (Nat.min_le_right _ _) (Nat.lt_of_le_of_lt hwl (by decide))
   ·rw [JB (JD e hD),JB (JD (e2 _ _ e) hp)]; exact e2 b' u e
   ·rw [List.take_succ,hw1,List.map_append]; rfl
  ·rintro ys H2 ⟨e2,hy,rfl⟩;rw [List.length_map,List.take_length] at hy;have e:((Jy (zs.map (·.2)) z).map fun w=>V.int (Y8 (zs.map (·.2)) gs c m w false))=((Jy (zs.map (·.2)) z).map fun w=>Y8 (zs.map (·.2)) gs c m w false).map V.int:=by rw [List.map_map]; rfl
   rw [e] at hy;refine ⟨D,_,rfl,JC.of hy,?_,fun M hM1 hM2=>?_⟩
   ·rw [List.length_map]; exact List.length_pos_iff.mpr hw
   ·rw [Jty hM1 hM2]; exact q H2 (e1.trans e2)
theorem Jar (T:Txt K mg):JK P w K mg base YB 4 T.ZD T.ZA ["self", "place", "turns"] (JtY K T.JP T.JS):=by
 refine T.Yt.F.ok Jap (fun vs H Q E h=>?_) (fun cdv A outer s H vs Q E hr h=>?_)
 ·obtain ⟨_,_,_,_,_,_,_,_,_,_,rfl,_⟩:=h;rfl
 ·obtain ⟨k,b,z,m,ps,zs,gs,c,t,n,rfl,B,hm,hz,hw,q⟩:=h;have hu:=Jio hr;refine ⟨_,(@Jd _ _ _ _ _ (@Jr _ _ 3 _ _ _ _ Jap.nd rfl (Or.inr rfl) (@JG _ _ _ _ _ _ _ (@JU _) (@Jw _ _ _ _ _ (@pv _ 0 _ _ rfl (.inl rfl) rfl rfl) rfl) (@Jm _ _ _ _ _ _ _ _ (@Zg _) (@pv _ 2 _ _ rfl (.inl rfl) rfl rfl) (@Je _ _ _ _)) (fun _ _=>rfl)) rfl (by first | exact .inl rfl | exact .inr rfl | assumption)) (@Jg _ _ _ (@Jn _ _ _ _ (@JF _ _ _ _ _ _ _ _ _ (@JqR _ rfl) rfl T.JgW PyProof.Rows.boot_max (@Ja _ _ _ _ _ (@JgU _ _ _ _ _ _ _ 1 ["way", "behind"] [3] _ _ _ _ ["self", "place", "turns", "behind"] ((Jl YZ).names) (by decide +kernel) (@JeZ _ _ _ _ (@J2 _ _ _ _ _ _ _ _ _ _ _ _ _ _ _ _ _ _ _ _ (@Jw _ _ _ _ _ (@pv _ 0 _ _ rfl (.inl rfl) rfl rfl) rfl) T.YQ T.YT.m (JaV T) (hr.mono (by decide)) T.YT.b .nil Y7 (@Ja _ _ _ _ _ (@pv _ 1 _ _ rfl (.inl rfl) rfl rfl) (@Jc _) rfl) rfl rfl rfl)) (fun _ _ _ _=>(@JaT _ _ _ _ _ _ _ _ _ 0 (by decide +kernel) rfl rfl)) (fun _ _ _ _=>(@Jev _)) (fun _ _ _ _=>(@Jey _ _ _ _ _ _ hu (@Jbt _ _ _ _ _ _ _ _ _ 1 rfl rfl (by decide) (by decide)) (@Yn _ _ _ _ _ (@Ja _ _ _ _ _ (@Z8 _ _ _ _ _ _ _ _ _ 0 rfl rfl (by decide) (by decide)) (@Ja _ _ _ _ _ (@Jz _ _ _ _) (@Jc _) rfl) rfl)) (fun _ _=>rfl))) rfl rfl rfl (by intro _; rfl)) (@Jc _) rfl) (by decide) (by decide) rfl rfl)))),?_⟩;obtain ⟨dx,l,rs,h1,h2,h3,h4⟩:=B.at_;obtain ⟨a,ha⟩:∃ a,rs[m]?=some a:=⟨_,List.getElem?_eq_getElem (by omega)⟩
  obtain ⟨kvs,hk1,hk2⟩:=h4 m a ha;obtain ⟨bdx,tp,tl,tg,hb,_⟩:=id B.B.B;have hwl:=Jhj B.B.G z;have hat:atI (rs.map V.ref) ((m:Int) + 1 - 1)=some (.ref a):=by
   rw [Int.add_sub_cancel]; exact Zr (by rw [List.getElem?_map,ha]; rfl)
  refine ⟨_,rfl,k,_,dx,_,.ref l,rfl,h1,T.JY,T.Jah,rfl,_,rfl,_,_,rfl,rfl,l,_,_,.ref a,rfl,rfl,JC.of h2,hat,?_⟩;refine ⟨_,rfl,k,_,dx,_,.ref b,rfl,h1,T.JY,T.YR,rfl,b,bdx,_,rfl,hb,rfl,_,rfl,b,z,ps,zs,gs,rfl,YO (B.B.G.p3 z hz),B.B.zl,B.B.B,fun _ tw H1 e1 ht=>?_,fun h=>absurd hz h⟩;refine ⟨tw,rfl,⟨_,JL.of ht⟩,fun D hD=>?_⟩;refine Jjl (xs:=(Jy (zs.map (·.2)) z).map V.str) (fun i ys H2=>Jh H1 H2∧H2 D=some (.lst ys)∧ys=((Jy (zs.map (·.2)) z).take i).map fun w=>V.int (Y8 (zs.map (·.2)) gs c m w true)) rfl (fun i ys H2 p=>JL.of (p.1 _ _ ht)) ⟨Jh.upd hD,Ji,by simp⟩ (fun i ys H2 p=>p.2.1) ?_ ?_
  ·rintro i x ys H2 hx ⟨e2,hy,rfl⟩;rw [List.getElem?_map] at hx;obtain ⟨w',hw1,rfl⟩:=Option.map_eq_some_iff.mp hx;have hin:=Jch B.B.G (List.mem_of_getElem? hw1);refine tcT ?_;refine ⟨_,rfl,_,rfl,by show 2≤sizeLine; decide,fun p hp=>?_⟩;have g:=Jd6.t (k:=Jbc w' true) ((Jh.upd (o:=.tup [.str w',.str "north"]) hp) _ _ (e2 _ _ (e1 _ _ hk1))) (show upd H2 p (.tup [.str w',.str "north"]) p=some (.tup ((Jbc w' true).map kV)) from Ji);rw [hk2 w' hin true] at g;have hDp:D≠p:=JD hy hp;refine ⟨a,_,rfl,g,by rw [JB hDp]; exact hy,?_,fun b' u e=>?_,Ji,?_⟩
   ·rw [List.length_map,List.length_take];refine Nat.lt_of_le_of_lt (Nat.min_le_right _ _) (Nat.lt_of_le_of_lt hwl (by decide))
   ·rw [JB (JD e hD),JB (JD (e2 _ _ e) hp)]; exact e2 b' u e
   ·rw [List.take_succ,hw1,List.map_append]; rfl
  ·rintro ys H2 ⟨e2,hy,rfl⟩;rw [List.length_map,List.take_length] at hy;have e:((Jy (zs.map (·.2)) z).map fun w=>V.int (Y8 (zs.map (·.2)) gs c m w true))=((Jy (zs.map (·.2)) z).map fun w=>Y8 (zs.map (·.2)) gs c m w true).map V.int:=by rw [List.map_map]; rfl
   rw [e] at hy;refine ⟨D,_,rfl,JC.of hy,?_,fun M hM1 hM2=>?_⟩
   ·rw [List.length_map]; exact List.length_pos_iff.mpr hw
   ·rw [JtA hM1 hM2]; exact q H2 (e1.trans e2)
theorem JjR (T:Txt K mg):JK P w K mg base YB 5 T.Jdb T.JcI ["self", "place", "turns", "ribbon"] (Js0 K T.JP T.JS):=by
 refine T.JbH.F.ok Jbe (fun vs H Q E h=>?_) (fun cdv A outer s H vs Q E hr h=>?_)
 ·obtain ⟨_,_,_,_,_,_,_,_,_,_,_,rfl,_⟩:=h;rfl
 ·obtain ⟨k,b,z,m,r,ps,zs,gs,c,t,n,rfl,B,hm,hm2,hz,q⟩:=h;refine ⟨_,(@Jd _ _ _ _ _ (@Jr _ _ 4 _ _ _ _ Jbe.nd rfl (Or.inl rfl) (@Jk _ _ _ _ _ _ _ _ _ _ _ _ _ _ _ T.Jcq (JcV T) (hr.mono (by decide)) Y7 (@Ja _ _ _ _ _ (@Jw _ _ _ _ _ (@pv _ 0 _ _ rfl (.inl rfl) rfl rfl) rfl) (@Ja _ _ _ _ _ (@pv _ 1 _ _ rfl (.inl rfl) rfl rfl) (@Ja _ _ _ _ _ (@pv _ 2 _ _ rfl (.inl rfl) rfl rfl) (@Jc _) rfl) rfl) rfl) rfl (by decide) rfl rfl) rfl (.inl rfl)) (@Jd _ _ _ _ _ (@JH _ _ _ _ _ _ _ _ (@Zm _ _ _ _ _ _ (@Jag _ _ _ _ _ (@pv _ 4 _ _ rfl (.inl rfl) rfl rfl)) (by first | exact Yj _ (by decide) (by decide) | rfl)) (@Jg _ _ _ (@Jn _ _ _ _ (@Jb9 _ _ _ _ _ _ _ _ (@Js _ _ _ _ _ _ _ _ (@Yg _) (@pv _ 4 _ _ rfl (.inl rfl) rfl rfl) (@Jz _ _ _ _) (JE _)) (@Je _ _ _ _) (@Jm _ _ _ _ _ _ _ _ (@J3 _) (@Jw _ _ _ _ _ (@pv _ 0 _ _ rfl (.inl rfl) rfl rfl) rfl) (@Je _ _ _ _))))) (@Jp _)) (@Jd _ _ _ _ _ (@Jr _ _ 5 _ _ _ _ Jbe.nd rfl (Or.inl rfl) (@J2 _ _ _ _ _ _ _ _ _ _ _ _ _ _ _ _ _ _ _ _ (@pv _ 0 _ _ rfl (.inl rfl) rfl rfl) T.JY T.Yu.m (Jas T) (hr.mono (by decide)) T.Yu.b .nil Jt (@Ja _ _ _ _ _ (@pv _ 1 _ _ rfl (.inl rfl) rfl rfl) (@Ja _ _ _ _ _ (@pv _ 2 _ _ rfl (.inl rfl) rfl rfl) (@Jc _) rfl) rfl) rfl rfl rfl) rfl (.inl rfl)) (@Jd _ _ _ _ _ (@Jr _ _ 6 _ _ _ _ Jbe.nd rfl (Or.inl rfl) (@J2 _ _ _ _ _ _ _ _ _ _ _ _ _ _ _ _ _ _ _ _ (@pv _ 0 _ _ rfl (.inl rfl) rfl rfl) T.JY T.Yt.m (Jar T) (hr.mono (by decide)) T.Yt.b .nil Jt (@Ja _ _ _ _ _ (@pv _ 1 _ _ rfl (.inl rfl) rfl rfl) (@Ja _ _ _ _ _ (@pv _ 2 _ _ rfl (.inl rfl) rfl rfl) (@Jc _) rfl) rfl) rfl rfl rfl) rfl (.inl rfl)) (@Jd _ _ _ _ _ (@JH _ _ _ _ _ _ _ _ (@Js _ _ _ _ _ _ _ _ (@Yg _) (@pv _ 3 _ _ rfl (.inl rfl) rfl rfl) (@Jz _ _ _ _) (JE _)) (@Jg _ _ _ (@Jn _ _ _ _ (@JF _ _ _ _ _ _ _ _ _ (@Jdw _ rfl) rfl T.JgW PyProof.Rows.boot_max (@Ja _ _ _ _ _ (@pv _ 5 _ _ rfl (.inl rfl) rfl rfl) (@Ja _ _ _ _ _ (@Jm _ _ _ _ _ _ _ _ (@YU _) (@Jm _ _ _ _ _ _ _ _ (@J3 _) (@pv _ 5 _ _ rfl (.inl rfl) rfl rfl) (@pv _ 6 _ _ rfl (.inl rfl) rfl rfl)) (@Je _ _ _ _)) (@Jc _) rfl) rfl) (by decide) (by decide) rfl rfl))) (@Jp _)) (@Jg _ _ _ (@Jn _ _ _ _ (@JF _ _ _ _ _ _ _ _ _ (@Jh2 _ rfl) rfl T.JjU PyProof.Rows.boot_min (@Ja _ _ _ _ _ (@pv _ 6 _ _ rfl (.inl rfl) rfl rfl) (@Ja _ _ _ _ _ (@Jm _ _ _ _ _ _ _ _ (@YU _) (@Jm _ _ _ _ _ _ _ _ (@J3 _) (@Jm _ _ _ _ _ _ _ _ (@J3 _) (@pv _ 5 _ _ rfl (.inl rfl) rfl rfl) (@pv _ 6 _ _ rfl (.inl rfl) rfl rfl)) (@Je _ _ _ _)) (@Je _ _ _ _)) (@Jc _) rfl) rfl) (by decide) (by decide) rfl rfl)))))))),?_⟩;obtain ⟨dx,l,rs,h1,h2,h3,h4⟩:=B.at_;refine ⟨_,rfl,k,_,dx,_,.ref b,rfl,h1,T.JY,T.YR,rfl,_,rfl,_,rfl,b,z,m,ps,zs,gs,rfl,YO (B.B.G.p3 z hz),B.B.zl,B.B.B,fun h=>absurd hz h,fun _ h=>absurd (by omega) h,fun _ _ H1 e1=>?_⟩;by_cases hg:z∈gs
  ·have ev:Zl z m (zs.map (·.2)) gs=.str "north":=by unfold Zl; rw [if_pos hg]
   rw [ev];have en:Y8 (zs.map (·.2)) gs c m z r=0:=JhD (decide_eq_true hg);rw [en] at q;exact ⟨_,rfl,_,rfl,YD ⟨_,rfl,rfl,_,rfl,YD (q H1 e1)⟩⟩
  ·by_cases h0:(m:Int)=0∨Jy (zs.map (·.2)) z=[]
   ·have ev:Zl z m (zs.map (·.2)) gs=.str "south":=by unfold Zl; rw [if_neg hg,if_pos h0]
    rw [ev];have en:Y8 (zs.map (·.2)) gs c m z r=c + 1:=by
     rcases h0 with h0 | h0
     ·have:m=0:=by omega
      subst this;exact Jqa (decide_eq_false hg)
     ·exact JhC (decide_eq_false hg) h0
    rw [en] at q;exact ⟨_,rfl,_,rfl,YD ⟨_,rfl,rfl,_,rfl,Yo ⟨_,rfl,k,_,dx,_,.int c,rfl,e1 _ _ h1,T.JY,T.JaX,rfl,_,_,rfl,rfl,q H1 e1⟩⟩⟩
   ·have ev:Zl z m (zs.map (·.2)) gs=.non:=by unfold Zl; rw [if_neg hg,if_neg h0]
    rw [ev];obtain ⟨j,rfl⟩:∃ j,m=j + 1:=⟨m - 1,by omega⟩
    have hw:Jy (zs.map (·.2)) z≠[]:=fun e=>h0 (.inr e)
    refine ⟨_,rfl,_,rfl,Yo ?_⟩;refine ⟨_,rfl,k,dx,_,rfl,e1 _ _ h1,rfl,_,rfl,_,rfl,k,b,z,j,ps,zs,gs,c,t,n,rfl,B.same e1,by omega,hz,hw,fun H2 e2=>?_⟩;have e12:=e1.trans e2;refine ⟨_,rfl,k,dx,_,rfl,e12 _ _ h1,rfl,_,rfl,_,rfl,k,b,z,j,ps,zs,gs,c,t,n,rfl,B.same e12,by omega,hz,hw,fun H3 e3=>?_⟩;have q:=q H3 (e12.trans e3);refine ⟨_,rfl,rfl,_,rfl,?_⟩;rw [JhQ];cases r with
    | true =>
     rw [Y8,Jqc (W:=Jy (zs.map (·.2))) (g:=fun p=>decide (p∈gs)) (p:=z) (decide_eq_false hg) hw] at q;exact YD ⟨_,rfl,_,rfl,_,rfl,_,_,rfl,rfl,_,_,rfl,rfl,⟨by decide,by decide⟩,_,_,rfl,q⟩
    | false =>
     rw [Y8,Jqb (W:=Jy (zs.map (·.2))) (g:=fun p=>decide (p∈gs)) (p:=z) (decide_eq_false hg) hw] at q;exact Yo ⟨_,rfl,_,rfl,_,rfl,_,_,rfl,rfl,_,_,rfl,rfl,_,_,rfl,rfl,⟨by decide,by decide⟩,_,_,rfl,q⟩
theorem JhA (T:Txt K mg):JK P w K mg base YB 6 T.JbS T.Jbz ["self", "turns"] (Jrf K T.JP T.JS):=by
 refine T.Jaz.F.ok Jao (fun vs H Q E h=>?_) (fun cdv A outer s H vs Q E hr h=>?_)
 ·obtain ⟨_,_,_,_,_,_,_,_,_,rfl,_⟩:=h;rfl
 ·obtain ⟨k,b,m,ps,zs,gs,c,t,n,rfl,B,hm,hm2,q⟩:=h;have hu:=Jio hr;have szl:sizeLine=16777216:=sizeLine_eq;refine ⟨_,(@Jd _ _ _ _ _ (@Jr _ _ 2 _ _ _ _ Jao.nd rfl (Or.inl rfl) (@JrN _ _) rfl (.inl rfl)) (@Jd _ _ _ _ _ (@Zn _ _ _ _ _ _ _ _ PassesOwn.never rfl (@JeZ _ _ _ _ (@Jw _ _ _ _ _ (@Jw _ _ _ _ _ (@pv _ 0 _ _ rfl (.inl rfl) rfl rfl) rfl) rfl)) (@JQ _ _ 3 _ Jao.nd rfl (Or.inl rfl) (.inl rfl)) (@Jg _ _ _ (@Zn _ _ _ _ _ _ _ _ PassesOwn.never rfl (@JeZ _ _ _ _ (@ZO _ _ _ _ rfl T.JkQ (by decide))) (@JQ _ _ 4 _ Jao.nd rfl (Or.inl rfl) (.inl rfl)) (@Jg _ _ _ (@Jti _ _ _ _ _ _ _ _ _ hu (@pv _ 2 _ _ rfl (.inl rfl) rfl rfl) (@Yn _ _ _ _ _ (@Ja _ _ _ _ _ (@pv _ 3 _ _ rfl (.inl rfl) rfl rfl) (@Ja _ _ _ _ _ (@pv _ 4 _ _ rfl (.inl rfl) rfl rfl) (@Jc _) rfl) rfl)) (@J2 _ _ _ _ _ _ _ _ _ _ _ _ _ _ _ _ _ _ _ _ (@pv _ 0 _ _ rfl (.inl rfl) rfl rfl) T.JY T.JbH.m (JjR T) (hr.mono (by decide)) T.JbH.b .nil Jt (@Ja _ _ _ _ _ (@pv _ 3 _ _ rfl (.inl rfl) rfl rfl) (@Ja _ _ _ _ _ (@pv _ 1 _ _ rfl (.inl rfl) rfl rfl) (@Ja _ _ _ _ _ (@pv _ 4 _ _ rfl (.inl rfl) rfl rfl) (@Jc _) rfl) rfl) rfl) rfl rfl rfl) rfl)) (by intro _; rfl))) (by intro _; rfl)) (@Jg _ _ _ (@Jn _ _ _ _ (@pv _ 2 _ _ rfl (.inl rfl) rfl rfl))))),?_⟩;obtain ⟨dx,l,rs,h1,h2,h3,h4⟩:=B.at_;obtain ⟨bdx,tp,tl,tg,hb,hp,_⟩:=id B.B.B;intro d hd;have kp:∀ {H2:Hp} {kvs:List (List J0×V)},Jh H H2→Jh H (upd H2 d (.dT kvs)):=fun e b' u h=>by rw [JB (JD h hd)]; exact e b' u h
  refine ⟨_,rfl,k,_,dx,_,.ref b,rfl,kp (Jh.refl _) _ _ h1,T.JY,T.YR,rfl,b,_,bdx,_,.ref tp,rfl,kp (Jh.refl _) _ _ hb,T.YQ,T.Jbh,rfl,tp,rfl,⟨_,JL.of (kp (Jh.refl _) _ _ hp)⟩,?_⟩;refine Jip (xs:=ps.map V.str) (fun i σ H2=>∃ kvs v1 v2,Jh H H2∧H2 d=some (.dT kvs)∧kvs.length≤2 * i∧(∀ p∈ps.take i,∀ r,ZF kvs (Jbc p r)=some (.int (Y8 (zs.map (·.2)) gs c m p r)))∧σ=[some (.ref k),some (.int m),some (.ref d),v1,v2])
   ⟨[],none,none,kp (Jh.refl _),Ji,Nat.zero_le _,fun p hp=>by simp at hp,rfl⟩ (fun i σ H2 _ h=>by obtain ⟨_,_,_,e,_⟩:=h; exact JL.of (e _ _ hp)) ?_ ?_
  ·rintro i x σ H2 hx ⟨kvs,v1,v2,e2,hd2,hl2,hv2,rfl⟩;rw [List.getElem?_map] at hx;obtain ⟨p,hp1,rfl⟩:=Option.map_eq_some_iff.mp hx;have hpm:=List.mem_of_getElem? hp1;refine ⟨T.JgH,rfl,⟨_,T.Jic _⟩,?_⟩;refine Jip (xs:=[.str "north",.str "south"]) (fun j σ H3=>∃ kvs v2,Jh H H3∧H3 d=some (.dT kvs)∧kvs.length≤2 * i + j∧(∀ p∈ps.take i,∀ r,ZF kvs (Jbc p r)=some (.int (Y8 (zs.map (·.2)) gs c m p r))) ∧
     (0 < j→ZF kvs (Jbc p true)=some (.int (Y8 (zs.map (·.2)) gs c m p true)))∧(1 < j→ZF kvs (Jbc p false)=some (.int (Y8 (zs.map (·.2)) gs c m p false)))∧σ=[some (.ref k),some (.int m),some (.ref d),some (.str p),v2])
    ⟨kvs,v2,e2,hd2,by omega,hv2,fun z=>absurd z (by decide),fun z=>absurd z (by decide),rfl⟩ (fun i σ H2 _ h=>T.Jic _) ?_ ?_
   ·rintro j y σ H3 hy ⟨kvs,v2,e3,hd3,hl3,hv3,hn3,hs3,rfl⟩;obtain ⟨r,rfl,hrj⟩:∃ r:Bool,y=.str (hs r)∧((r=true∧j=0)∨(r=false∧j=1)):=by
     match j,hy with
     | 0,h=>exact ⟨true,(Option.some.inj h).symm,.inl ⟨rfl,rfl⟩⟩
     | 1,h=>exact ⟨false,(Option.some.inj h).symm,.inr ⟨rfl,rfl⟩⟩
     | j + 2,h=>cases h
    refine ⟨_,rfl,k,dx,_,rfl,e3 _ _ h1,rfl,_,rfl,_,rfl,_,rfl,k,b,p,m,r,ps,zs,gs,c,t,n,rfl,B.same e3,hm,hm2,hpm,fun H4 e4=>?_⟩;refine ⟨_,rfl,_,rfl,_,rfl,by show 2≤sizeLine; decide,fun tp4 n4=>?_⟩;have hd4:upd H4 tp4 (.tup [.str p,.str (hs r)]) d=some (.dT kvs):=(Jh.upd n4) _ _ (e4 _ _ hd3);have hlen:ps.length≤12:=B.B.G.p2;have hil:i < ps.length:=(List.getElem?_eq_some_iff.mp hp1).1;have hj2:j≤1:=by rcases hrj with h | h <;> omega
    refine ⟨d,_,rfl,Jjw.t (k:=Jbc p r) hd4 (show upd H4 tp4 (.tup [.str p,.str (hs r)]) tp4=some (.tup ((Jbc p r).map kV)) from Ji) (by omega),_,_,kp ((e3.trans e4).trans (Jh.upd n4)),Ji,?_,fun p' hp' r'=>?_,fun h=>?_,fun h=>?_,rfl⟩
    ·unfold JaN;split
     ·rw [List.length_map]; omega
     ·rw [List.length_append,List.length_singleton]; omega
    ·rw [JiN];by_cases hk:Jbc p' r'=Jbc p r
     ·obtain ⟨rfl,rfl⟩:=Jnr hk;rw [if_pos rfl]
     ·rw [if_neg hk]; exact hv3 p' hp' r'
    ·rw [JiN];rcases hrj with ⟨rfl,rfl⟩ | ⟨rfl,rfl⟩
     ·rw [if_pos rfl]
     ·rw [if_neg (fun e=>by have:=(Jnr e).2; cases this)]; exact hn3 (by decide)
    ·rcases hrj with ⟨rfl,rfl⟩ | ⟨rfl,rfl⟩
     ·exact absurd h (by decide)
     ·rw [JiN,if_pos rfl]
   ·rintro σ H3 ⟨kvs,v2,e3,hd3,hl3,hv3,hn3,hs3,rfl⟩;refine ⟨kvs,_,_,e3,hd3,by have:[V.str "north",V.str "south"].length=2:=rfl; omega,fun p' hp' r=>?_,rfl⟩;rw [List.take_succ,hp1] at hp';rcases List.mem_append.mp hp' with h | h
    ·exact hv3 p' h r
    ·have h:p'=p:=by simpa using h
     subst h;cases r with
     | true=>exact hn3 (by decide)
     | false=>exact hs3 (by decide)
  ·rintro σ H2 ⟨kvs,v1,v2,e2,hd2,hl2,hv2,rfl⟩;rw [List.length_map,List.take_length] at hv2;exact ⟨_,rfl,q d H2 e2 ⟨kvs,hd2,hv2⟩⟩
theorem JmY (T:Txt K mg):JK P w K mg base (Zb P w) 7 T.Jdn T.Jfo ["self", "board", "coins", "turns"] (Jmr K T.JP T.JS T.J8):=by
 refine T.Jgk.F.ok1 Jhn (fun vs H Q E h=>?_) (fun cdv A outer s H vs Q E hr h=>?_)
 ·obtain ⟨_,_,_,_,_,_,_,_,rfl,_⟩:=h;rfl
 ·obtain ⟨k,b,dx,c,t,ps,zs,gs,rfl,hk,hkb,B,q1,q2,q⟩:=h;have szl:sizeLine=16777216:=sizeLine_eq;refine ⟨_,(@Jd _ _ _ _ _ (@JJ _ _ _ _ (@Jk _ _ _ _ _ _ _ _ _ _ _ _ _ _ _ T.ZC (Z1 T) (hr.mono (by decide)) Yw (@Ja _ _ _ _ _ (@pv _ 2 _ _ rfl (.inl rfl) rfl rfl) (@Ja _ _ _ _ _ (@Ja1 _ _ _ _ _ rfl T.JaH T.JaC (by decide)) (@Jc _) rfl) rfl) rfl (by decide) rfl rfl) rfl) (@Jd _ _ _ _ _ (@JJ _ _ _ _ (@Jk _ _ _ _ _ _ _ _ _ _ _ _ _ _ _ T.ZC (Z1 T) (hr.mono (by decide)) Yw (@Ja _ _ _ _ _ (@pv _ 3 _ _ rfl (.inl rfl) rfl rfl) (@Ja _ _ _ _ _ (@Ja1 _ _ _ _ _ rfl T.JaG T.JaB (by decide)) (@Jc _) rfl) rfl) rfl (by decide) rfl rfl) rfl) (@Jd _ _ _ _ _ (@Zu _ _ _ _ _ _ _ _ (@pv _ 0 _ _ rfl (.inl rfl) rfl rfl) (@pv _ 1 _ _ rfl (.inl rfl) rfl rfl) rfl) (@Jd _ _ _ _ _ (@Zu _ _ _ _ _ _ _ _ (@pv _ 0 _ _ rfl (.inl rfl) rfl rfl) (@pv _ 2 _ _ rfl (.inl rfl) rfl rfl) rfl) (@Jd _ _ _ _ _ (@Zu _ _ _ _ _ _ _ _ (@pv _ 0 _ _ rfl (.inl rfl) rfl rfl) (@pv _ 3 _ _ rfl (.inl rfl) rfl rfl) rfl) (@Jd _ _ _ _ _ (@Zu _ _ _ _ _ _ _ _ (@pv _ 0 _ _ rfl (.inl rfl) rfl rfl) (@YX _ _ _ _ (@Jc _)) rfl) (@Jg _ _ _ (@Zn _ _ _ _ _ _ _ _ PassesOwn.leaving rfl (@ZL _ _ _ _ _ _ rfl T.Z3 (@Ja _ _ _ _ _ (@Jm _ _ _ _ _ _ _ _ (@J3 _) (@pv _ 3 _ _ rfl (.inl rfl) rfl rfl) (@Je _ _ _ _)) (@Jc _) rfl) rfl) (@JQ _ _ 4 _ Jhn.nd rfl (Or.inl rfl) (.inl rfl)) (@Jg _ _ _ (@JJ _ _ _ _ (@JbC _ _ _ _ _ _ _ _ _ _ _ _ PySem.F.plainAttrs_list PySem.F.slot_list_append PySem.F.type_list_append (@Zp _) (@Jw _ _ _ _ _ (@pv _ 0 _ _ rfl (.inl rfl) rfl rfl) rfl) (@Ja _ _ _ _ _ (@J2 _ _ _ _ _ _ _ _ _ _ _ _ _ _ _ _ _ _ _ _ (@pv _ 0 _ _ rfl (.inl rfl) rfl rfl) T.JY T.Jaz.m (JhA T) (hr.mono (by decide)) T.Jaz.b .nil Jt (@Ja _ _ _ _ _ (@pv _ 4 _ _ rfl (.inl rfl) rfl rfl) (@Jc _) rfl) rfl rfl rfl) (@Jc _) rfl) rfl rfl rfl rfl rfl) rfl)) (by intro _; rfl))))))))),?_⟩;refine ⟨_,rfl,c,20,rfl,⟨by decide,by decide⟩,fun hc=>?_,q1⟩;refine ⟨_,rfl,t,30,rfl,⟨by decide,by decide⟩,fun ht=>?_,q2 hc⟩;have q:=q hc ht;obtain ⟨tn,rfl⟩:∃ j:Nat,t=(j:Int):=⟨t.toNat,by omega⟩
  rw [Int.toNat_natCast] at q;refine ⟨_,rfl,_,rfl,k,_,dx,_,rfl,hk,T.JY,T.YR,by decide,?_⟩;have b1:YY k H (upd H k (.ins T.JS dx (Yr "board" (.ref b) []))):=YY.put;have h1:upd H k (.ins T.JS dx (Yr "board" (.ref b) [])) k=some (.ins T.JS dx [("board",.ref b)]):=Ji;generalize upd H k (.ins T.JS dx (Yr "board" (.ref b) []))=H1 at b1 h1;refine ⟨_,rfl,_,rfl,k,_,dx,_,rfl,h1,T.JY,T.JaX,by show 1 < 1000; decide,?_⟩;have b2:=b1.trans (YY.put (o:=.ins T.JS dx (Yr "coins" (.int c) [("board",.ref b)])));have h2:upd H1 k (.ins T.JS dx (Yr "coins" (.int c) [("board",.ref b)])) k=some (.ins T.JS dx [("board",.ref b),("coins",.int c)]):=Ji;generalize upd H1 k (.ins T.JS dx (Yr "coins" (.int c) [("board",.ref b)]))=H2 at b2 h2;refine ⟨_,rfl,_,rfl,k,_,dx,_,rfl,h2,T.JY,T.JdK,by show 2 < 1000; decide,?_⟩;have b3:=b2.trans (YY.put (o:=.ins T.JS dx (Yr "turns" (.int (tn:Int)) [("board",.ref b),("coins",.int c)])));have h3:upd H2 k (.ins T.JS dx (Yr "turns" (.int (tn:Int)) [("board",.ref b),("coins",.int c)])) k=some (.ins T.JS dx [("board",.ref b),("coins",.int c),("turns",.int (tn:Int))]):=Ji;generalize upd H2 k (.ins T.JS dx (Yr "turns" (.int (tn:Int)) [("board",.ref b),("coins",.int c)]))=H3 at b3 h3;refine ⟨by show 0≤sizeLine; decide,fun l hl=>?_⟩;refine ⟨_,rfl,k,_,dx,_,rfl,(Jh.upd hl) _ _ h3,T.JY,T.Jah,by show 3 < 1000; decide,?_⟩;have lk:l≠k:=fun e=>by rw [e,h3] at hl; cases hl
  have lH:H l=none:=by
   cases e:H l with
   | none=>rfl
   | some u=>rw [b3 l u lk e] at hl; cases hl
  have b4:=(b3.trans (YY.of (Jh.upd (o:=.lst []) hl))).trans (YY.put (o:=.ins T.JS dx (Yr "needs" (.ref l) [("board",.ref b),("coins",.int c),("turns",.int (tn:Int))])));have h4:upd (upd H3 l (.lst [])) k (.ins T.JS dx (Yr "needs" (.ref l) [("board",.ref b),("coins",.int c),("turns",.int (tn:Int))])) k=some (.ins T.JS dx [("board",.ref b),("coins",.int c),("turns",.int (tn:Int)),("needs",.ref l)]):=Ji;have l4:upd (upd H3 l (.lst [])) k (.ins T.JS dx (Yr "needs" (.ref l) [("board",.ref b),("coins",.int c),("turns",.int (tn:Int))])) l=some (.lst []):=by rw [JB lk,Ji]
  generalize upd (upd H3 l (.lst [])) k (.ins T.JS dx (Yr "needs" (.ref l) [("board",.ref b),("coins",.int c),("turns",.int (tn:Int))]))=H4 at b4 h4 l4;refine ⟨_,rfl,_,_,rfl,rfl,(tn:Int) + 1,rfl,by omega,by omega,?_⟩;rw [show ((tn:Int) + 1).toNat=tn + 1 by omega];refine ZY (n:=tn + 1) (fun i σ H5=>∃ rs v,YY k H H5∧H5 k=some (.ins T.JS dx [("board",.ref b),("coins",.int c),("turns",.int (tn:Int)),("needs",.ref l)])∧H5 l=some (.lst (rs.map V.ref))∧rs.length=i∧(∀ (j:Nat) a,rs[j]?=some a→JfU H5 a ps (Y8 (zs.map (·.2)) gs c j))∧σ=[some (.ref k),some (.ref b),some (.int c),some (.int (tn:Int)),v])
   ⟨[],none,b4,h4,l4,rfl,fun j a e=>by simp at e,rfl⟩ ?_ ?_
  ·rintro i σ H5 hi ⟨rs,v,b5,h5,l5,len5,r5,rfl⟩;have B5:Bk K T.JP T.JS H5 k b ps zs gs c tn i:=⟨YY.bd B b5 hk hkb,hc.1,hc.2,by omega,dx,l,rs,h5,l5,len5,r5⟩
   refine ⟨_,rfl,k,_,dx,_,.ref l,rfl,h5,T.JY,T.Jah,rfl,.inl ⟨rfl,_,JC.of l5⟩,_,rfl,k,dx,_,rfl,h5,rfl,_,rfl,k,b,i,ps,zs,gs,c,tn,i,by rw [Int.zero_add]; rfl,B5,Nat.le_refl _,by omega,fun a H6 e6 r6=>?_⟩;refine ⟨l,_,_,rfl,rfl,e6 _ _ l5,by rw [List.length_map]; omega,rs ++ [a],_,?_,?_,?_,?_,?_,rfl⟩
   ·intro x u hx hu;rw [JB (JD hu lH)];exact e6 _ _ (b5 x u hx hu)
   ·rw [JB (fun e=>lk e.symm)]; exact e6 _ _ h5
   ·rw [Ji,List.map_append]; rfl
   ·rw [List.length_append,len5]; rfl
   ·intro j x hx;have key:∀ {y:Addr} {f:Str→Bool→Int},JfU H6 y ps f→JfU (upd H6 l (.lst (rs.map V.ref ++ [.ref a]))) y ps f:=fun {y f} hy=>by
     obtain ⟨kvs,y1,y2⟩:=hy;exact ⟨kvs,by rw [JB (Jat y1 (e6 _ _ l5) (fun z=>nomatch z))]; exact y1,y2⟩
    by_cases hj:j < rs.length
    ·rw [List.getElem?_append_left hj] at hx;exact key ((r5 j x hx).same e6)
    ·rw [List.getElem?_append_right (by omega)] at hx;have hj0:j - rs.length=0:=by
      cases e:j - rs.length with
      | zero=>rfl
      | succ n=>rw [e] at hx; simp at hx
     rw [hj0] at hx;have:a=x:=by simpa using hx
     subst this;have:j=i:=by omega
     subst this;exact key r6
  ·rintro σ H5 ⟨rs,v,b5,h5,l5,len5,r5,rfl⟩;exact q H5 b5 ⟨YY.bd B b5 hk hkb,hc.1,hc.2,by omega,dx,l,rs,h5,l5,len5,r5⟩
theorem Ja8 (T:Txt K mg):JK P w K mg base (Zb P w) 3 T.JbA T.Ja9 ["self", "place", "turns", "north", "ribbon"] (Jrc K T.JP T.JS T.YM T.J8 T.Y2):=by
 refine T.YN.F.ok1 Jhg (fun vs H Q E h=>?_) (fun cdv A outer s H vs Q E hr h=>?_)
 ·obtain ⟨_,_,_,_,_,_,_,_,_,_,_,rfl,_⟩:=h;rfl
 ·obtain ⟨k,b,z,x,m,north,ps,zs,gs,c,t,rfl,tz,tx,B,⟨q1,q2,q3,q4⟩,q⟩:=h;refine ⟨_,(@Jd _ _ _ _ _ (@JJ _ _ _ _ (@J2 _ _ _ _ _ _ _ _ _ _ _ _ _ _ _ _ _ _ _ _ (@Jw _ _ _ _ _ (@pv _ 0 _ _ rfl (.inl rfl) rfl rfl) rfl) T.YQ T.Yc.m (Zv T) (hr.mono (by decide)) T.Yc.b .nil Yw (@Ja _ _ _ _ _ (@pv _ 1 _ _ rfl (.inl rfl) rfl rfl) (@Jc _) rfl) rfl rfl rfl) rfl) (@Jd _ _ _ _ _ (@JJ _ _ _ _ (@Jk _ _ _ _ _ _ _ _ _ _ _ _ _ _ _ T.ZC (Z1 T) (hr.mono (by decide)) Yw (@Ja _ _ _ _ _ (@pv _ 2 _ _ rfl (.inl rfl) rfl rfl) (@Ja _ _ _ _ _ (@Jw _ _ _ _ _ (@pv _ 0 _ _ rfl (.inl rfl) rfl rfl) rfl) (@Jc _) rfl) rfl) rfl (by decide) rfl rfl) rfl) (@Jd _ _ _ _ _ (@JJ _ _ _ _ (@Jk _ _ _ _ _ _ _ _ _ _ _ _ _ _ _ T.ZC (Z1 T) (hr.mono (by decide)) Yw (@Ja _ _ _ _ _ (@pv _ 3 _ _ rfl (.inl rfl) rfl rfl) (@Ja _ _ _ _ _ (@Jw _ _ _ _ _ (@pv _ 0 _ _ rfl (.inl rfl) rfl rfl) rfl) (@Jc _) rfl) rfl) rfl (by decide) rfl rfl) rfl) (@Jg _ _ _ (@JJ _ _ _ _ (@Jk _ _ _ _ _ _ _ _ _ _ _ _ _ _ _ T.JaI (JbZ T) (hr.mono (by decide)) Yw (@Ja _ _ _ _ _ (@pv _ 4 _ _ rfl (.inl rfl) rfl rfl) (@Jc _) rfl) rfl (by decide) rfl rfl) rfl))))),?_⟩;obtain ⟨dx,l,rs,h1,h2,h3,h4⟩:=B.at_;obtain ⟨bdx,tp,tl,tg,hb,_⟩:=id B.B.B;have:=B.c0;have:=B.c1;have:=B.t1;refine ⟨_,rfl,k,_,dx,_,.ref b,rfl,h1,T.JY,T.YR,rfl,b,bdx,_,rfl,hb,rfl,_,rfl,b,z,ps,zs,gs,rfl,tz,B.B.B,fun hz=>?_,q1⟩;refine ⟨_,rfl,_,rfl,k,_,dx,_,.int t,rfl,h1,T.JY,T.JdK,rfl,m,t,rfl,⟨by omega,by omega⟩,fun hm=>?_,q2 hz⟩;refine ⟨_,rfl,_,rfl,k,_,dx,_,.int c,rfl,h1,T.JY,T.JaX,rfl,north,c,rfl,⟨by omega,by omega⟩,fun hn=>?_,q3 hz hm⟩;exact ⟨_,rfl,x,rfl,tx,fun hx=>q ⟨hz,hm,hn,hx⟩,q4 hz hm hn⟩
theorem Jgt (T:Txt K mg):JK P w K mg base (Zb P w) 4 T.Jd0 T.Jc7 ["self", "place", "turns", "north", "ribbon"] (JpB K T.JP T.JS T.YM T.J8 T.Y2):=by
 refine T.Jak.F.ok1 Jkw (fun vs H Q E h=>?_) (fun cdv A outer s H vs Q E hr h=>?_)
 ·obtain ⟨_,_,_,_,_,_,_,_,_,_,_,rfl,_⟩:=h;rfl
 ·obtain ⟨k,b,z,x,m,north,ps,zs,gs,c,t,rfl,tz,tx,B,qe,q⟩:=h;have hu:=Jio hr;refine ⟨_,(@Jd _ _ _ _ _ (@JJ _ _ _ _ (@J2 _ _ _ _ _ _ _ _ _ _ _ _ _ _ _ _ _ _ _ _ (@pv _ 0 _ _ rfl (.inl rfl) rfl rfl) T.JY T.YN.m (Ja8 T) (hr.mono (by decide)) T.YN.b .nil Yw (@Ja _ _ _ _ _ (@pv _ 1 _ _ rfl (.inl rfl) rfl rfl) (@Ja _ _ _ _ _ (@pv _ 2 _ _ rfl (.inl rfl) rfl rfl) (@Ja _ _ _ _ _ (@pv _ 3 _ _ rfl (.inl rfl) rfl rfl) (@Ja _ _ _ _ _ (@pv _ 4 _ _ rfl (.inl rfl) rfl rfl) (@Jc _) rfl) rfl) rfl) rfl) rfl rfl rfl) rfl) (@Jg _ _ _ (@Jn _ _ _ _ (@Jb9 _ _ _ _ _ _ _ _ (@Js _ _ _ _ _ _ _ _ (@Jvc _) (@pv _ 3 _ _ rfl (.inl rfl) rfl rfl) (@Jey _ _ _ _ _ _ hu (@JG _ _ _ _ _ _ _ (@JU _) (@Jw _ _ _ _ _ (@pv _ 0 _ _ rfl (.inl rfl) rfl rfl) rfl) (@pv _ 2 _ _ rfl (.inl rfl) rfl rfl) (fun _ _=>rfl)) (@Yn _ _ _ _ _ (@Ja _ _ _ _ _ (@pv _ 1 _ _ rfl (.inl rfl) rfl rfl) (@Ja _ _ _ _ _ (@pv _ 4 _ _ rfl (.inl rfl) rfl rfl) (@Jc _) rfl) rfl)) (fun _ _=>rfl)) (JE _)) (@Jz _ _ _ _) (@Jz _ _ _ _))))),?_⟩;obtain ⟨dx,l,rs,h1,h2,h3,h4⟩:=B.at_;refine ⟨_,rfl,k,dx,_,rfl,h1,rfl,_,rfl,_,rfl,_,rfl,_,rfl,k,b,z,x,m,north,ps,zs,gs,c,t,rfl,tz,tx,B,qe,fun ⟨hz,hm,hn,hx⟩=>?_⟩;obtain ⟨r,rfl⟩:=JeE hx;obtain ⟨j,rfl⟩:∃ j:Nat,m=(j:Int):=⟨m.toNat,by omega⟩
  obtain ⟨a,ha⟩:∃ a,rs[j]?=some a:=⟨_,List.getElem?_eq_getElem (by omega)⟩
  obtain ⟨kvs,hk1,hk2⟩:=h4 j a ha;have hat:atI (rs.map V.ref) (j:Int)=some (.ref a):=Zr (by rw [List.getElem?_map,ha]; rfl);refine ⟨_,rfl,_,rfl,k,_,dx,_,.ref l,rfl,h1,T.JY,T.Jah,rfl,_,rfl,l,_,_,.ref a,rfl,rfl,JC.of h2,hat,_,rfl,_,rfl,by show 2≤sizeLine; decide,fun p hp=>?_⟩;have g:=Jd6.t (k:=Jbc z r) ((Jh.upd (o:=.tup [.str z,.str (hs r)]) hp) _ _ hk1) (show upd H p (.tup [.str z,.str (hs r)]) p=some (.tup ((Jbc z r).map kV)) from Ji);rw [hk2 z hz r] at g;have q:=q hz hm hn r rfl _ (Jh.upd (o:=.tup [.str z,.str (hs r)]) hp);rw [Int.toNat_natCast] at q;refine ⟨a,_,rfl,g,_,_,rfl,rfl,_,rfl,YV (fun hc=>?_) (fun hc=>?_)⟩
  ·rw [hc] at q; exact q
  ·rw [Bool.not_eq_true] at hc; rw [hc] at q; exact q
theorem JkO (T:Txt K mg):JK P w K mg base (Zb P w) 5 T.Jd1 T.Jc8 ["self", "place", "turns", "north", "ribbon"] (JpQ K T.JP T.JS T.YM T.J8 T.Y2):=by
 refine T.Jb5.F.ok1 Jgq (fun vs H Q E h=>?_) (fun cdv A outer s H vs Q E hr h=>?_)
 ·obtain ⟨_,_,_,_,_,_,_,_,_,_,_,rfl,_⟩:=h;rfl
 ·obtain ⟨k,b,z,x,m,north,ps,zs,gs,c,t,rfl,tz,tx,B,qe,q⟩:=h;refine ⟨_,(@Jd _ _ _ _ _ (@Jr _ _ 5 _ _ _ _ Jgq.nd rfl (Or.inl rfl) (@J2 _ _ _ _ _ _ _ _ _ _ _ _ _ _ _ _ _ _ _ _ (@pv _ 0 _ _ rfl (.inl rfl) rfl rfl) T.JY T.Jak.m (Jgt T) (hr.mono (by decide)) T.Jak.b .nil Yw (@Ja _ _ _ _ _ (@pv _ 1 _ _ rfl (.inl rfl) rfl rfl) (@Ja _ _ _ _ _ (@pv _ 2 _ _ rfl (.inl rfl) rfl rfl) (@Ja _ _ _ _ _ (@pv _ 3 _ _ rfl (.inl rfl) rfl rfl) (@Ja _ _ _ _ _ (@pv _ 4 _ _ rfl (.inl rfl) rfl rfl) (@Jc _) rfl) rfl) rfl) rfl) rfl rfl rfl) rfl (.inl rfl)) (@Jd _ _ _ _ _ (@JH _ _ _ _ _ _ _ _ (@PW.pt _ _ _ (@ZX _ _ _ _ _ _ _ (@Js _ _ _ _ _ _ _ _ (@Yg _) (@pv _ 5 _ _ rfl (.inl rfl) rfl rfl) (@pv _ 4 _ _ rfl (.inl rfl) rfl rfl) (JE _)) (@ZT _ _ _ _ (@Zm _ _ _ _ _ _ (@Jag _ _ _ _ _ (@Jk _ _ _ _ _ _ _ _ _ _ _ _ _ _ _ T.Jcq (JcV T) (hr.mono (by decide)) Y7 (@Ja _ _ _ _ _ (@Jw _ _ _ _ _ (@pv _ 0 _ _ rfl (.inl rfl) rfl rfl) rfl) (@Ja _ _ _ _ _ (@pv _ 1 _ _ rfl (.inl rfl) rfl rfl) (@Ja _ _ _ _ _ (@pv _ 2 _ _ rfl (.inl rfl) rfl rfl) (@Jc _) rfl) rfl) rfl) rfl (by decide) rfl rfl)) (by first | exact Yj _ (by decide) (by decide) | rfl))))) (@Jg _ _ _ (@Jn _ _ _ _ (@Zo _ _ _))) (@Jp _)) (@Jd _ _ _ _ _ (@JH _ _ _ _ _ _ _ _ (@Js _ _ _ _ _ _ _ _ (@Yg _) (@pv _ 4 _ _ rfl (.inl rfl) rfl rfl) (@Jz _ _ _ _) (JE _)) (@Jg _ _ _ (@Jn _ _ _ _ (@JF _ _ _ _ _ _ _ _ _ (@Jdw _ rfl) rfl T.JgW PyProof.Rows.boot_max (@Ja _ _ _ _ _ (@Je _ _ _ _) (@Ja _ _ _ _ _ (@Jm _ _ _ _ _ _ _ _ (@Zg _) (@J2 _ _ _ _ _ _ _ _ _ _ _ _ _ _ _ _ _ _ _ _ (@pv _ 0 _ _ rfl (.inl rfl) rfl rfl) T.JY T.Yt.m (Jar T) (hr.mono (by decide)) T.Yt.b .nil Jt (@Ja _ _ _ _ _ (@pv _ 1 _ _ rfl (.inl rfl) rfl rfl) (@Ja _ _ _ _ _ (@pv _ 2 _ _ rfl (.inl rfl) rfl rfl) (@Jc _) rfl) rfl) rfl rfl rfl) (@pv _ 3 _ _ rfl (.inl rfl) rfl rfl)) (@Jc _) rfl) rfl) (by decide) (by decide) rfl rfl))) (@Jp _)) (@Jg _ _ _ (@Jn _ _ _ _ (@JF _ _ _ _ _ _ _ _ _ (@Jdw _ rfl) rfl T.JgW PyProof.Rows.boot_max (@Ja _ _ _ _ _ (@Je _ _ _ _) (@Ja _ _ _ _ _ (@Jm _ _ _ _ _ _ _ _ (@J3 _) (@Jm _ _ _ _ _ _ _ _ (@Zg _) (@pv _ 3 _ _ rfl (.inl rfl) rfl rfl) (@J2 _ _ _ _ _ _ _ _ _ _ _ _ _ _ _ _ _ _ _ _ (@pv _ 0 _ _ rfl (.inl rfl) rfl rfl) T.JY T.Yu.m (Jas T) (hr.mono (by decide)) T.Yu.b .nil Jt (@Ja _ _ _ _ _ (@pv _ 1 _ _ rfl (.inl rfl) rfl rfl) (@Ja _ _ _ _ _ (@pv _ 2 _ _ rfl (.inl rfl) rfl rfl) (@Jc _) rfl) rfl) rfl rfl rfl)) (@Je _ _ _ _)) (@Jc _) rfl) rfl) (by decide) (by decide) rfl rfl)))))),?_⟩;obtain ⟨dx,l,rs,h1,h2,h3,h4⟩:=B.at_;refine ⟨_,rfl,k,dx,_,rfl,h1,rfl,_,rfl,_,rfl,_,rfl,_,rfl,k,b,z,x,m,north,ps,zs,gs,c,t,rfl,tz,tx,B,qe,fun hz hm hn r hx H1 e1=>?_⟩;subst hx;obtain ⟨j,rfl⟩:∃ j:Nat,m=(j:Int):=⟨m.toNat,by omega⟩
  have q:=fun H' e=>q hz hm hn r rfl H' e
  simp only [Int.toNat_natCast] at q ⊢;have t1:=B.t1;refine ⟨_,rfl,_,rfl,rfl,_,rfl,?_⟩;have ev:=Jdc (z:=z) (m:=j) (zs:=zs.map (·.2)) (gs:=gs);cases hd:decide (Y8 (zs.map (·.2)) gs c j z r≤north) == r with
  | true =>
   have hd':decide (Y8 (zs.map (·.2)) gs c j z r≤north)=r:=by simpa using hd
   rw [hd'];refine YF (decide_eq_true rfl) (YD ?_);have e:Jg7 (zs.map (·.2)) gs c j z north r=.non:=by
    unfold Jg7;by_cases he:Yq (zs.map (·.2)) gs j z
    ·rw [if_pos he]
    ·rw [if_neg he,hd',if_neg (by cases r <;> decide)]
   rw [e] at q;exact q H1 e1
  | false =>
   have hd':decide (Y8 (zs.map (·.2)) gs c j z r≤north)=!r:=by
    revert hd
    cases decide (Y8 (zs.map (·.2)) gs c j z r≤north) <;> cases r <;> decide
   rw [hd'];refine Yb (decide_eq_false (fun e=>by have:=Zh (V.str.inj e); cases r <;> cases this)) ?_;refine ⟨_,rfl,k,_,dx,_,.ref b,rfl,e1 _ _ h1,T.JY,T.YR,rfl,_,rfl,_,rfl,b,z,j,ps,zs,gs,rfl,tz,B.B.zl,(B.B.same e1).B,fun h=>absurd hz h,fun _ h=>absurd (by omega) h,fun _ _ H2 e2=>?_⟩;have e12:=e1.trans e2;by_cases he:Yq (zs.map (·.2)) gs j z
   ·obtain ⟨y,hy⟩:=ev.1 he;rw [hy];have e:Jg7 (zs.map (·.2)) gs c j z north r=.non:=by unfold Jg7; rw [if_pos he]
    rw [e] at q;exact ⟨_,rfl,YD (q H2 e12)⟩
   ·rw [ev.2 he];refine ⟨_,rfl,Yo ?_⟩;have hw:Jy (zs.map (·.2)) z≠[]:=fun h=>he (.inr (.inr h))
    obtain ⟨i,rfl⟩:∃ i,j=i + 1:=⟨j - 1,by have:j≠0:=fun h=>he (.inr (.inl h)); omega⟩
    have e:Jg7 (zs.map (·.2)) gs c (i + 1) z north r=.int (JuH (Jy (zs.map (·.2))) (gB gs) c i z north r):=by unfold Jg7; rw [if_neg he,hd',if_pos rfl]; rfl
    rw [e] at q;refine ⟨_,rfl,rfl,_,rfl,?_⟩;cases r with
    | false =>
     refine YF (by decide +kernel) ?_;refine ⟨_,rfl,k,dx,_,rfl,e12 _ _ h1,rfl,_,rfl,_,rfl,k,b,z,i,ps,zs,gs,c,t,t + 1,rfl,B.same e12,by omega,hz,hw,fun H3 e3=>?_⟩;exact ⟨_,rfl,_,_,rfl,rfl,_,_,rfl,q H3 (e12.trans e3)⟩
    | true =>
     refine Yb (by decide +kernel) ?_;refine ⟨_,rfl,_,rfl,k,dx,_,rfl,e12 _ _ h1,rfl,_,rfl,_,rfl,k,b,z,i,ps,zs,gs,c,t,t + 1,rfl,B.same e12,by omega,hz,hw,fun H3 e3=>?_⟩;exact ⟨_,_,rfl,rfl,_,_,rfl,rfl,_,_,rfl,q H3 (e12.trans e3)⟩
theorem JfI (T:Txt K mg):JK P w K mg base (Zb P w) 5 T.Jda T.JcH ["self", "place", "turns", "north", "ribbon", "hand"] (Jow K T.JP T.JS T.YM T.J8 T.Y2):=by
 refine T.Z4.F.ok1 JfH (fun vs H Q E h=>?_) (fun cdv A outer s H vs Q E hr h=>?_)
 ·obtain ⟨_,_,_,_,_,_,_,_,_,_,_,_,rfl,_⟩:=h;rfl
 ·obtain ⟨k,b,z,x,y,m,north,ps,zs,gs,c,t,rfl,tz,tx,ty,B,qe,qh,q⟩:=h;refine ⟨_,(@Jd _ _ _ _ _ (@JJ _ _ _ _ (@J2 _ _ _ _ _ _ _ _ _ _ _ _ _ _ _ _ _ _ _ _ (@pv _ 0 _ _ rfl (.inl rfl) rfl rfl) T.JY T.YN.m (Ja8 T) (hr.mono (by decide)) T.YN.b .nil Yw (@Ja _ _ _ _ _ (@pv _ 1 _ _ rfl (.inl rfl) rfl rfl) (@Ja _ _ _ _ _ (@pv _ 2 _ _ rfl (.inl rfl) rfl rfl) (@Ja _ _ _ _ _ (@pv _ 3 _ _ rfl (.inl rfl) rfl rfl) (@Ja _ _ _ _ _ (@pv _ 4 _ _ rfl (.inl rfl) rfl rfl) (@Jc _) rfl) rfl) rfl) rfl) rfl rfl rfl) rfl) (@Jd _ _ _ _ _ (@JJ _ _ _ _ (@Jk _ _ _ _ _ _ _ _ _ _ _ _ _ _ _ T.JaI (JbZ T) (hr.mono (by decide)) Yw (@Ja _ _ _ _ _ (@pv _ 5 _ _ rfl (.inl rfl) rfl rfl) (@Jc _) rfl) rfl (by decide) rfl rfl) rfl) (@Jd _ _ _ _ _ (@JH _ _ _ _ _ _ _ _ (@Zm _ _ _ _ _ _ (@Jag _ _ _ _ _ (@Jk _ _ _ _ _ _ _ _ _ _ _ _ _ _ _ T.Jcq (JcV T) (hr.mono (by decide)) Y7 (@Ja _ _ _ _ _ (@Jw _ _ _ _ _ (@pv _ 0 _ _ rfl (.inl rfl) rfl rfl) rfl) (@Ja _ _ _ _ _ (@pv _ 1 _ _ rfl (.inl rfl) rfl rfl) (@Ja _ _ _ _ _ (@pv _ 2 _ _ rfl (.inl rfl) rfl rfl) (@Jc _) rfl) rfl) rfl) rfl (by decide) rfl rfl)) (by first | exact Yj _ (by decide) (by decide) | rfl)) (@Jg _ _ _ (@Jn _ _ _ _ (@Zo _ _ _))) (@Jp _)) (@Jd _ _ _ _ _ (@Zn _ _ _ _ _ _ _ _ PassesOwn.leaving rfl (@JeZ _ _ _ _ (@J2 _ _ _ _ _ _ _ _ _ _ _ _ _ _ _ _ _ _ _ _ (@Jw _ _ _ _ _ (@pv _ 0 _ _ rfl (.inl rfl) rfl rfl) rfl) T.YQ T.YT.m (JaV T) (hr.mono (by decide)) T.YT.b .nil Y7 (@Ja _ _ _ _ _ (@pv _ 1 _ _ rfl (.inl rfl) rfl rfl) (@Jc _) rfl) rfl rfl rfl)) (@JQ _ _ 6 _ JfH.nd rfl (Or.inl rfl) (.inl rfl)) (@Jg _ _ _ (@JH _ _ _ _ _ _ _ _ (@Js _ _ _ _ _ _ _ _ (@Yg _) (@J2 _ _ _ _ _ _ _ _ _ _ _ _ _ _ _ _ _ _ _ _ (@pv _ 0 _ _ rfl (.inl rfl) rfl rfl) T.JY T.Jak.m (Jgt T) (hr.mono (by decide)) T.Jak.b .nil Y7 (@Ja _ _ _ _ _ (@pv _ 6 _ _ rfl (.inl rfl) rfl rfl) (@Ja _ _ _ _ _ (@Jm _ _ _ _ _ _ _ _ (@Zg _) (@pv _ 2 _ _ rfl (.inl rfl) rfl rfl) (@Je _ _ _ _)) (@Ja _ _ _ _ _ (@pv _ 3 _ _ rfl (.inl rfl) rfl rfl) (@Ja _ _ _ _ _ (@pv _ 4 _ _ rfl (.inl rfl) rfl rfl) (@Jc _) rfl) rfl) rfl) rfl) rfl rfl rfl) (@pv _ 5 _ _ rfl (.inl rfl) rfl rfl) (JE _)) (@Jg _ _ _ (@Jn _ _ _ _ (@pv _ 6 _ _ rfl (.inl rfl) rfl rfl))) (@Jp _))) (by intro _; rfl)) (@Jg _ _ _ (@Jn _ _ _ _ (@Zo _ _ _))))))),?_⟩;obtain ⟨dx,l,rs,h1,h2,h3,h4⟩:=B.at_;refine ⟨_,rfl,k,dx,_,rfl,h1,rfl,_,rfl,_,rfl,_,rfl,_,rfl,k,b,z,x,m,north,ps,zs,gs,c,t,rfl,tz,tx,B,qe,fun hok=>?_⟩;refine ⟨_,rfl,y,rfl,ty,fun hy=>?_,qh hok⟩;obtain ⟨hz,hm,hn,hx⟩:=hok;obtain ⟨r,rfl⟩:=JeE hx;obtain ⟨h,rfl⟩:=JeE hy;obtain ⟨j,rfl⟩:∃ j:Nat,m=(j:Int):=⟨m.toNat,by omega⟩
  have q:=fun H' e=>q hz hm hn r h rfl rfl H' e
  simp only [Int.toNat_natCast] at q;have t1:=B.t1;have ev:=Jdc (z:=z) (m:=j) (zs:=zs.map (·.2)) (gs:=gs);refine ⟨_,rfl,k,_,dx,_,.ref b,rfl,h1,T.JY,T.YR,rfl,_,rfl,_,rfl,b,z,j,ps,zs,gs,rfl,tz,B.B.zl,B.B.B,fun h=>absurd hz h,fun _ h=>absurd (by omega) h,fun _ _ H1 e1=>?_⟩;by_cases he:Yq (zs.map (·.2)) gs j z
  ·obtain ⟨y,hy⟩:=ev.1 he;rw [hy];have e:Jem (zs.map (·.2)) gs c j z north r h=.non:=by unfold Jem; rw [if_pos he]
   rw [e] at q;exact ⟨_,rfl,YD (q H1 e1)⟩
  ·rw [ev.2 he];refine ⟨_,rfl,Yo ?_⟩;obtain ⟨i,rfl⟩:∃ i,j=i + 1:=⟨j - 1,by have:j≠0:=fun h=>he (.inr (.inl h)); omega⟩
   have e:Jem (zs.map (·.2)) gs c (i + 1) z north r h=JiZ (Jdi (Jy (zs.map (·.2))) (gB gs) c i z north r h):=by unfold Jem; rw [if_neg he]; rfl
   rw [e] at q;obtain ⟨bdx,tp,tl,tg,hb,_⟩:=id B.B.B;refine ⟨_,rfl,k,_,dx,_,.ref b,rfl,e1 _ _ h1,T.JY,T.YR,rfl,b,bdx,_,rfl,e1 _ _ hb,rfl,_,rfl,b,z,ps,zs,gs,rfl,tz,B.B.zl,(B.B.same e1).B,fun _ tw H2 e2 ht=>?_,fun h=>absurd hz h⟩;have e12:=e1.trans e2;refine ⟨tw,rfl,⟨_,JL.of ht⟩,?_⟩;refine Jip (xs:=(Jy (zs.map (·.2)) z).map V.str) (fun n σ H3=>Jh H2 H3∧(∀ w∈(Jy (zs.map (·.2)) z).take n,(decide (Y8 (zs.map (·.2)) gs c i w r≤north) == h)=false)∧∃ v,σ=[some (.ref k),some (.str z),some (.int ((i:Int) + 1)),some (.int north),some (.str (hs r)),some (.str (hs h)),v]) ⟨Jh.refl _,fun w hw=>by simp at hw,none,rfl⟩ (fun n σ H3 _ p=>JL.of (p.1 _ _ ht)) ?_ ?_
   ·rintro n x σ H3 hx ⟨e3,hf,v,rfl⟩;rw [List.getElem?_map] at hx;obtain ⟨w',hw1,rfl⟩:=Option.map_eq_some_iff.mp hx;have hin:=Jch B.B.G (List.mem_of_getElem? hw1);have e13:=e12.trans e3;refine ⟨_,rfl,k,dx,_,rfl,e13 _ _ h1,rfl,_,rfl,_,rfl,_,_,rfl,rfl,_,rfl,_,rfl,k,b,w',hs r,(i:Int) + 1 - 1,north,ps,zs,gs,c,t,rfl,YO (B.B.G.p3 w' hin),Ze r,B.same e13,Jdq ⟨hin,⟨by omega,by omega⟩,hn,Zq r⟩,fun _ _ _ r' hr' H4 e4=>?_⟩;obtain rfl:=Zh hr';have ei:((i:Int) + 1 - 1).toNat=i:=by omega
    rw [ei];refine ⟨_,rfl,rfl,_,rfl,?_⟩;cases hd:decide (Y8 (zs.map (·.2)) gs c i w' r≤north) == h with
    | true =>
     have hd':decide (Y8 (zs.map (·.2)) gs c i w' r≤north)=h:=by simpa using hd
     rw [hd'];refine YF (decide_eq_true rfl) ⟨_,rfl,?_⟩;have es:Jdi (Jy (zs.map (·.2))) (gB gs) c i z north r h=some w':=Jn8 hw1 hf hd;rw [es] at q;exact q H4 (e13.trans e4)
    | false =>
     refine Yb (decide_eq_false fun e=>?_) ⟨e3.trans e4,fun w hw=>?_,_,rfl⟩
     ·rw [Zh (V.str.inj e)] at hd;simp at hd
     ·rw [List.take_succ,hw1] at hw;rcases List.mem_append.mp hw with h' | h'
      ·exact hf w h'
      ·have h':w=w':=by simpa using h'
       subst h';exact hd
   ·rintro σ H3 ⟨e3,hf,v,rfl⟩;rw [List.length_map,List.take_length] at hf;have es:Jdi (Jy (zs.map (·.2))) (gB gs) c i z north r h=none:=by
     unfold Jdi;rw [List.find?_eq_none];intro w hw;rw [hf w hw]; exact Bool.false_ne_true
    rw [es] at q;exact q H3 (e12.trans e3)
theorem Jhh (T:Txt K mg):JK P w K mg base YB 6 T.JbB T.Jba ["self", "place", "turns", "settled", "holder"] (Jrq K T.JP T.JS):=by
 refine T.Jax.F.ok Ja6 (fun vs H Q E h=>?_) (fun cdv A outer s H vs Q E hr h=>?_)
 ·obtain ⟨_,_,_,_,_,_,_,_,_,_,_,_,_,_,_,rfl,_⟩:=h;rfl
 ·obtain ⟨k,b,p,z,m,l,r,h,n,s',ps,zs,gs,c,t,rfl,hp,B,hz,hm,hn,he,q⟩:=h;refine ⟨_,(@Jd _ _ _ _ _ (@Jr _ _ 5 _ _ _ _ Ja6.nd rfl (Or.inl rfl) (@JG _ _ _ _ _ _ _ (@JX _) (@pv _ 3 _ _ rfl (.inl rfl) rfl rfl) (@Je _ _ _ _) (fun _ _=>rfl)) rfl (.inl rfl)) (@Jd _ _ _ _ _ (@Jr _ _ 6 _ _ _ _ Ja6.nd rfl (Or.inl rfl) (@J2 _ _ _ _ _ _ _ _ _ _ _ _ _ _ _ _ _ _ _ _ (@pv _ 0 _ _ rfl (.inl rfl) rfl rfl) T.JY T.Z4.m (JfI T) (hr.mono (by decide)) T.Z4.b .nil Y7 (@Ja _ _ _ _ _ (@pv _ 1 _ _ rfl (.inl rfl) rfl rfl) (@Ja _ _ _ _ _ (@pv _ 2 _ _ rfl (.inl rfl) rfl rfl) (@Ja _ _ _ _ _ (@JG _ _ _ _ _ _ _ (@JX _) (@pv _ 3 _ _ rfl (.inl rfl) rfl rfl) (@Je _ _ _ _) (fun _ _=>rfl)) (@Ja _ _ _ _ _ (@JG _ _ _ _ _ _ _ (@JX _) (@pv _ 3 _ _ rfl (.inl rfl) rfl rfl) (@Je _ _ _ _) (fun _ _=>rfl)) (@Ja _ _ _ _ _ (@pv _ 5 _ _ rfl (.inl rfl) rfl rfl) (@Jc _) rfl) rfl) rfl) rfl) rfl) rfl rfl rfl) rfl (.inl rfl)) (@Jd _ _ _ _ _ (@JH _ _ _ _ _ _ _ _ (@Js _ _ _ _ _ _ _ _ (@Yg _) (@pv _ 5 _ _ rfl (.inl rfl) rfl rfl) (@pv _ 4 _ _ rfl (.inl rfl) rfl rfl) (JE _)) (@Jg _ _ _ (@Jn _ _ _ _ (@Jhv _ _ _ _ _ _ (@Jag _ _ _ _ _ (@pv _ 6 _ _ rfl (.inl rfl) rfl rfl)) (by first | exact Yj _ (by decide) (by decide) | rfl)))) (@Jp _)) (@Jg _ _ _ (@Jn _ _ _ _ (@Jhv _ _ _ _ _ _ (@JaD _ _ _ _ _ (@pv _ 6 _ _ rfl (.inl rfl) rfl rfl)) (by first | exact Yj _ (by decide) (by decide) | rfl))))))),?_⟩;obtain ⟨dx,l',rs,h1,h2,h3,h4⟩:=B.at_;refine ⟨_,rfl,p,_,_,.str (hs l),rfl,rfl,JL.of hp,rfl,?_⟩;refine ⟨_,rfl,k,dx,_,rfl,h1,rfl,_,rfl,_,rfl,_,rfl,p,_,_,.int n,rfl,rfl,JL.of hp,rfl,_,rfl,p,_,_,.str (hs r),rfl,rfl,JL.of hp,rfl,_,rfl,?_⟩;refine ⟨k,b,z,hs r,hs l,(m:Int) + 1,n,ps,zs,gs,c,t,rfl,YO (B.B.G.p3 z hz),Ze r,Ze l,B,Jdq ⟨hz,⟨by omega,by omega⟩,hn,Zq r⟩,fun _ h=>(by rw [Zq] at h; cases h),fun _ _ _ r' l'' hr' hl' H1 e1=>?_⟩;obtain rfl:=Zh hr';obtain rfl:=Zh hl';have ei:((m:Int) + 1).toNat=m + 1:=by omega
  have es:Jem (zs.map (·.2)) gs c ((m:Int) + 1).toNat z n r l=JiZ (Jdi (Jy (zs.map (·.2))) (gB gs) c m z n r l):=by rw [ei]; unfold Jem; rw [if_neg he]; rfl
  rw [es];have q:=q H1 e1;refine ⟨_,rfl,_,rfl,rfl,_,rfl,?_⟩;cases hs':Jdi (Jy (zs.map (·.2))) (gB gs) c m z n r l with
  | none =>
   rw [hs'] at q;by_cases hlh:l=h
   ·subst hlh;refine YF (decide_eq_true rfl) ⟨_,rfl,?_⟩;simpa [JiZ] using q
   ·refine Yb (decide_eq_false fun e=>hlh (Zh (V.str.inj e))) ⟨_,rfl,?_⟩;have:(l == h)=false:=by simpa using hlh
    rw [this] at q;simpa [JiZ] using q
  | some w' =>
   rw [hs'] at q;by_cases hlh:l=h
   ·subst hlh;refine YF (decide_eq_true rfl) ⟨_,rfl,?_⟩;simpa [JiZ] using q
   ·refine Yb (decide_eq_false fun e=>hlh (Zh (V.str.inj e))) ⟨_,rfl,?_⟩;have:(l == h)=false:=by simpa using hlh
    rw [this] at q;simpa [JiZ] using q
theorem JiA (T:Txt K mg):JK P w K mg base (Zb P w) 7 T.Jcf T.JbQ ["self", "place", "turns", "north", "ribbon", "bid"] (Jms K T.JP T.JS T.YM T.J8 T.Y2 T.Yi):=by
 refine T.JaR.F.ok1 JbK (fun vs H Q E h=>?_) (fun cdv A outer s H vs Q E hr h=>?_)
 ·obtain ⟨_,_,_,_,_,_,_,_,_,_,_,_,rfl,_⟩:=h;rfl
 ·obtain ⟨k,b,z,x,m,north,bid,ps,zs,gs,c,t,rfl,tz,tx,B,qe,qb,q⟩:=h;refine ⟨_,(@Jd _ _ _ _ _ (@JJ _ _ _ _ (@J2 _ _ _ _ _ _ _ _ _ _ _ _ _ _ _ _ _ _ _ _ (@pv _ 0 _ _ rfl (.inl rfl) rfl rfl) T.JY T.YN.m (Ja8 T) (hr.mono (by decide)) T.YN.b .nil Yw (@Ja _ _ _ _ _ (@pv _ 1 _ _ rfl (.inl rfl) rfl rfl) (@Ja _ _ _ _ _ (@pv _ 2 _ _ rfl (.inl rfl) rfl rfl) (@Ja _ _ _ _ _ (@pv _ 3 _ _ rfl (.inl rfl) rfl rfl) (@Ja _ _ _ _ _ (@pv _ 4 _ _ rfl (.inl rfl) rfl rfl) (@Jc _) rfl) rfl) rfl) rfl) rfl rfl rfl) rfl) (@Jd _ _ _ _ _ (@Jr _ _ 6 _ _ _ _ JbK.nd rfl (Or.inl rfl) (@Jm _ _ _ _ _ _ _ _ (@Zg _) (@Jw _ _ _ _ _ (@pv _ 0 _ _ rfl (.inl rfl) rfl rfl) rfl) (@pv _ 3 _ _ rfl (.inl rfl) rfl rfl)) rfl (.inl rfl)) (@Jd _ _ _ _ _ (@JJ _ _ _ _ (@Jk _ _ _ _ _ _ _ _ _ _ _ _ _ _ _ T.Ja3 (Jcz T) (hr.mono (by decide)) Yw (@Ja _ _ _ _ _ (@pv _ 5 _ _ rfl (.inl rfl) rfl rfl) (@Ja _ _ _ _ _ (@Jk _ _ _ _ _ _ _ _ _ _ _ _ _ _ _ T.JaQ (JbV T) (hr.mono (by decide)) Jt (@Ja _ _ _ _ _ (@Jk _ _ _ _ _ _ _ _ _ _ _ _ _ _ _ T.JeG (JgV T) (hr.mono (by decide)) Y7 (@Ja _ _ _ _ _ (@pv _ 4 _ _ rfl (.inl rfl) rfl rfl) (@Jc _) rfl) rfl (by decide) rfl rfl) (@Ja _ _ _ _ _ (@pv _ 3 _ _ rfl (.inl rfl) rfl rfl) (@Ja _ _ _ _ _ (@pv _ 6 _ _ rfl (.inl rfl) rfl rfl) (@Jc _) rfl) rfl) rfl) rfl (by decide) rfl rfl) (@Jc _) rfl) rfl) rfl (by decide) rfl rfl) rfl) (@Jd _ _ _ _ _ (@JH _ _ _ _ _ _ _ _ (@Zm _ _ _ _ _ _ (@Jag _ _ _ _ _ (@Jk _ _ _ _ _ _ _ _ _ _ _ _ _ _ _ T.Jcq (JcV T) (hr.mono (by decide)) Y7 (@Ja _ _ _ _ _ (@Jw _ _ _ _ _ (@pv _ 0 _ _ rfl (.inl rfl) rfl rfl) rfl) (@Ja _ _ _ _ _ (@pv _ 1 _ _ rfl (.inl rfl) rfl rfl) (@Ja _ _ _ _ _ (@pv _ 2 _ _ rfl (.inl rfl) rfl rfl) (@Jc _) rfl) rfl) rfl) rfl (by decide) rfl rfl)) (by first | exact Yj _ (by decide) (by decide) | rfl)) (@Jg _ _ _ (@Jn _ _ _ _ (@Zo _ _ _))) (@Jp _)) (@Jd _ _ _ _ _ (@Zn _ _ _ _ _ _ _ _ PassesOwn.leaving rfl (@JeZ _ _ _ _ (@Yn _ _ _ _ _ (@Ja _ _ _ _ _ (@Je _ _ _ _) (@Ja _ _ _ _ _ (@pv _ 5 _ _ rfl (.inl rfl) rfl rfl) (@Jc _) rfl) rfl))) (@JQ _ _ 7 _ JbK.nd rfl (Or.inl rfl) (.inl rfl)) (@Jg _ _ _ (@JH _ _ _ _ _ _ _ _ (@Js _ _ _ _ _ _ _ _ (@Jvb _) (@pv _ 7 _ _ rfl (.inl rfl) rfl rfl) (@Jk _ _ _ _ _ _ _ _ _ _ _ _ _ _ _ T.JaQ (JbV T) (hr.mono (by decide)) Jt (@Ja _ _ _ _ _ (@pv _ 4 _ _ rfl (.inl rfl) rfl rfl) (@Ja _ _ _ _ _ (@pv _ 3 _ _ rfl (.inl rfl) rfl rfl) (@Ja _ _ _ _ _ (@pv _ 6 _ _ rfl (.inl rfl) rfl rfl) (@Jc _) rfl) rfl) rfl) rfl (by decide) rfl rfl) (JE _)) (@Jg _ _ _ (@JH _ _ _ _ _ _ _ _ (@Zf _ _ _ (@J2 _ _ _ _ _ _ _ _ _ _ _ _ _ _ _ _ _ _ _ _ (@pv _ 0 _ _ rfl (.inl rfl) rfl rfl) T.JY T.Jax.m (Jhh T) (hr.mono (by decide)) T.Jax.b .nil Jt (@Ja _ _ _ _ _ (@pv _ 1 _ _ rfl (.inl rfl) rfl rfl) (@Ja _ _ _ _ _ (@pv _ 2 _ _ rfl (.inl rfl) rfl rfl) (@Ja _ _ _ _ _ (@Jk _ _ _ _ _ _ _ _ _ _ _ _ _ _ _ T.Jg8 (Jlu T) (hr.mono (by decide)) Y7 (@Ja _ _ _ _ _ (@pv _ 3 _ _ rfl (.inl rfl) rfl rfl) (@Ja _ _ _ _ _ (@pv _ 6 _ _ rfl (.inl rfl) rfl rfl) (@Ja _ _ _ _ _ (@pv _ 4 _ _ rfl (.inl rfl) rfl rfl) (@Ja _ _ _ _ _ (@pv _ 5 _ _ rfl (.inl rfl) rfl rfl) (@Ja _ _ _ _ _ (@pv _ 7 _ _ rfl (.inl rfl) rfl rfl) (@Jc _) rfl) rfl) rfl) rfl) rfl) rfl (by decide) rfl rfl) (@Ja _ _ _ _ _ (@pv _ 4 _ _ rfl (.inl rfl) rfl rfl) (@Jc _) rfl) rfl) rfl) rfl) rfl rfl rfl) (by intro _; rfl)) (@Jg _ _ _ (@Jn _ _ _ _ (@pv _ 7 _ _ rfl (.inl rfl) rfl rfl))) (@Jp _))) (@Jp _))) (by intro _; rfl)) (@Jg _ _ _ (@Jn _ _ _ _ (@Zo _ _ _)))))))),?_⟩
  try dsimp only [cxK,Jdd]
  obtain ⟨dx,l,rs,h1,h2,h3,h4⟩:=B.at_;refine ⟨_,rfl,k,dx,_,rfl,h1,rfl,_,rfl,_,rfl,_,rfl,_,rfl,k,b,z,x,m,north,ps,zs,gs,c,t,rfl,tz,tx,B,qe,fun hok=>?_⟩;obtain ⟨hz,hm,hn,hx⟩:=hok;obtain ⟨r,rfl⟩:=JeE hx;obtain ⟨j,rfl⟩:∃ j:Nat,m=(j:Int):=⟨m.toNat,by omega⟩
  have qb:=qb hz hm hn r rfl;have q:=fun hb H' e=>q hz hm hn r rfl hb H' e
  simp only [Int.toNat_natCast] at q;have t1:=B.t1;have c1:=B.c1;have ev:=Jdc (z:=z) (m:=j) (zs:=zs.map (·.2)) (gs:=gs);have eo:∀ r:Bool,(if r then north else c - north)=own c north r:=fun r=>rfl
  refine ⟨_,rfl,k,_,dx,_,.int c,rfl,h1,T.JY,T.JaX,rfl,_,rfl,_,_,rfl,rfl,?_⟩;refine ⟨_,rfl,_,rfl,hs r,rfl,Ze r,fun r' hr'=>?_,fun h=>by rw [Zq] at h; cases h⟩;obtain rfl:=Zh hr';refine ⟨_,rfl,_,rfl,!r,north,c - north,rfl,bid,_,rfl,fun hb=>?_,qb⟩;have q:=q hb;have hb:0≤bid∧bid≤own c north (!r):=hb;refine ⟨_,rfl,k,_,dx,_,.ref b,rfl,h1,T.JY,T.YR,rfl,_,rfl,_,rfl,b,z,j,ps,zs,gs,rfl,tz,B.B.zl,B.B.B,fun h=>absurd hz h,fun _ h=>absurd (by omega) h,fun _ _ H1 e1=>?_⟩;by_cases he:Yq (zs.map (·.2)) gs j z
  ·obtain ⟨y,hy⟩:=ev.1 he;rw [hy];have e:Jjr (zs.map (·.2)) gs c j z north r bid=.non:=by unfold Jjr; rw [if_pos he]
   rw [e] at q;exact ⟨_,rfl,YD (q H1 e1)⟩
  ·rw [ev.2 he];refine ⟨_,rfl,Yo ?_⟩;obtain ⟨i,rfl⟩:∃ i,j=i + 1:=⟨j - 1,by have:j≠0:=fun h=>he (.inr (.inl h)); omega⟩
   have e:Jjr (zs.map (·.2)) gs c (i + 1) z north r bid=Jul (Jh6 (Jy (zs.map (·.2))) (gB gs) c i z north r bid):=by unfold Jjr; rw [if_neg he]; rfl
   rw [e] at q;have hon:0≤own c north r:=by unfold own; split <;> omega
   refine ⟨_,rfl,by show 2≤sizeLine; decide,fun tp ntp=>⟨tp,rfl,⟨_,JL.of Ji⟩,?_⟩⟩;have ht:upd H1 tp (.tup [.int 0,.int bid]) tp=some (.tup [.int 0,.int bid]):=Ji;have e2:=e1.trans (Jh.upd (o:=.tup [.int 0,.int bid]) ntp);generalize upd H1 tp (.tup [.int 0,.int bid])=H2 at ht e2;refine Jip (xs:=[.int 0,.int bid]) (fun n σ H3=>Jh H H3∧H3 tp=some (.tup [.int 0,.int bid])∧(0 < n→¬ JeH (Jy (zs.map (·.2))) (gB gs) c i z north r bid 0=true)∧(1 < n→¬ (bid≤own c north r∧JeH (Jy (zs.map (·.2))) (gB gs) c i z north r bid bid=true))∧∃ v,σ=[some (.ref k),some (.str z),some (.int ((i:Int) + 1)),some (.int north),some (.str (hs r)),some (.int bid),some (.int (c - north)),v])
    ⟨e2,ht,fun h=>absurd h (by decide),fun h=>absurd h (by decide),none,rfl⟩ (fun n σ H3 _ p=>JL.of p.2.1) ?_ ?_
   ·rintro n x σ H3 hx ⟨e3,ht3,hf0,hf1,v,rfl⟩;obtain ⟨an,rfl,han⟩:∃ an:Int,x=.int an∧((n=0∧an=0)∨(n=1∧an=bid)):=by
     match n,hx with
     | 0,h=>exact ⟨0,(Option.some.inj h).symm,.inl ⟨rfl,rfl⟩⟩
     | 1,h=>exact ⟨bid,(Option.some.inj h).symm,.inr ⟨rfl,rfl⟩⟩
     | n + 2,h=>cases h
    have ha0:0≤an:=by rcases han with h | h <;> omega
    refine ⟨_,rfl,_,rfl,_,rfl,_,rfl,r,north,c - north,rfl,_,_,rfl,rfl,_,rfl,YV (fun hc=>?_) (fun hc=>?_)⟩
    ·have hc:an≤own c north r:=of_decide_eq_true hc;refine ⟨_,rfl,k,dx,_,rfl,e3 _ _ h1,rfl,_,rfl,_,rfl,_,rfl,_,rfl,_,rfl,_,rfl,_,rfl,north,c - north,hs r,bid,an,rfl,Ze r,?_,?_,?_,?_⟩
     ·exact fun h=>absurd ⟨hn.1,by omega,by omega⟩ h
     ·exact fun _ h=>(by rw [Zq] at h; cases h)
     ·intro r' hr' _ h;obtain rfl:=Zh hr';refine absurd ⟨⟨hb.1,?_⟩,ha0,hc⟩ h;have:=hb.2; unfold own at this; cases r <;> simpa using this
     ·intro r' hr' _ _ p H4 e4 hp;obtain rfl:=Zh hr';obtain ⟨s',hs'⟩:=JoR north (c - north) r bid an;rw [hs'] at hp;have ab:=Jnt (r:=r) hn hb.1 hb.2 ha0 hc;refine ⟨_,rfl,k,b,p,z,i,_,_,r,_,s',ps,zs,gs,c,t,rfl,hp,B.same (e3.trans e4),hz,by omega,ab,he,fun H5 e5=>?_⟩;have e35:=(e3.trans e4).trans e5;cases hwin:JeH (Jy (zs.map (·.2))) (gB gs) c i z north r bid an with
      | true =>
       have hwin':=hwin;unfold JeH at hwin';rw [hwin'];refine ⟨_,rfl,YD ⟨_,rfl,?_⟩⟩;have ea:Jh6 (Jy (zs.map (·.2))) (gB gs) c i z north r bid=some an:=by
        unfold Jh6;rcases han with ⟨rfl,rfl⟩ | ⟨rfl,rfl⟩
        ·rw [if_pos hwin]
        ·rw [if_neg (hf0 (by decide)),if_pos ⟨hc,hwin⟩]
       rw [ea] at q;exact q H5 e35
      | false =>
       have hwin':=hwin;unfold JeH at hwin';rw [hwin'];refine ⟨_,rfl,Yo ⟨e35,e5 _ _ (e4 _ _ ht3),fun h=>?_,fun h=>?_,_,rfl⟩⟩
       ·rcases han with ⟨rfl,rfl⟩ | ⟨rfl,rfl⟩
        ·rw [hwin]; exact Bool.false_ne_true
        ·exact hf0 (by decide)
       ·rcases han with ⟨rfl,rfl⟩ | ⟨rfl,rfl⟩
        ·exact absurd h (by decide)
        ·rw [hwin]; exact fun h=>Bool.false_ne_true h.2
    ·have hc:¬ an≤own c north r:=fun h=>hc (decide_eq_true h)
     refine ⟨e3,ht3,fun h=>?_,fun h=>?_,_,rfl⟩
     ·rcases han with ⟨rfl,rfl⟩ | ⟨rfl,rfl⟩
      ·exact absurd hon hc
      ·exact hf0 (by decide)
     ·rcases han with ⟨rfl,rfl⟩ | ⟨rfl,rfl⟩
      ·exact absurd h (by decide)
      ·exact fun h=>hc h.1
   ·rintro σ H3 ⟨e3,ht3,hf0,hf1,v,rfl⟩;have ea:Jh6 (Jy (zs.map (·.2))) (gB gs) c i z north r bid=none:=by
     rw [JqY];exact ⟨hf0 (by show 0 < 2; decide),hf1 (by show 1 < 2; decide)⟩
    rw [ea] at q;exact q H3 e3
end
def Jrh (K:PySem.W.Frag):Sp:=fun vs H Q _=>∃ (t:Addr) (z:Str) (ps:List Str) (zs:List (V×(Str×Str))) (gs:List Str),vs=[.ref t,.str z]∧Ground K H t ps zs gs∧∀ (p:Addr) (ws:List Str) (H':Hp),Jh H H'→H' p=some (.lst (ws.map V.str))→ws.Perm (Jy (zs.map (·.2)) z)→ws.Pairwise sle→Q (.ref p) H'
def JbJ (z:Str) (n:Int) (zs:List (Str×Str)) (gs:List Str):Str:=if z∈gs then "north" else if n=0∨Jy zs z=[] then "south" else ""
def JtV (K:PySem.W.Frag):Sp:=fun vs H Q _=>∃ (t:Addr) (z:Str) (n:Int) (ps:List Str) (zs:List (V×(Str×Str))) (gs:List Str),vs=[.ref t,.str z,.int n]∧Ground K H t ps zs gs∧∀ H',Jh H H'→Q (.str (JbJ z n (zs.map (·.2)) gs)) H'
def Jra:Sp:=fun vs H Q _=>∃ c:Int,vs=[.int c]∧∀ (n:Int) (H':Hp),0≤n→n≤20→Jh H H'→Q (.int n) H'
def Js1:Sp:=fun vs H Q _=>∃ c:Int,vs=[.int c]∧∀ (n:Int) (H':Hp),0≤n→n≤30→Jh H H'→Q (.int n) H'
theorem JsH {xs:List Int} (hl:xs.length=8) (hb:∀ x∈xs,0≤x∧x≤20) (c:Int):∃ y:Int,atI (xs.map V.int) (c % 8)=some (.int y)∧0≤y∧y≤20:=by
 obtain ⟨j,hj⟩:∃ j:Nat,c % 8=(j:Int):=⟨(c % 8).toNat,by omega⟩
 have hj8:j < xs.length:=by omega
 refine ⟨xs[j],?_,hb _ (List.getElem_mem hj8)⟩;rw [hj];refine Zr ?_;rw [List.getElem?_map,List.getElem?_eq_getElem hj8];rfl
section
variable {K:PySem.W.Frag} {C CB:Addr} {H:Hp} {σ:St} {i j l:Nat} {E:XK} {Q:VK}
theorem Jo2 {H4:Hp} {l1 l2 l3 x dx:Addr} {ps:List Str} {zs:List (V×(Str×Str))} {gs:List Str} (e4:Jh H H4) (k1:H4 l1=some (.lst (ps.map V.str))) (k2:H4 l2=some (.lst (zs.map (·.1)))) (k3:H4 l3=some (.lst (gs.map V.str))) (hP:ZI K H4 zs) (G:Jdf ps (zs.map (·.2)) gs)
  (nx:H4 x=none) (ndx:H4 dx=none) (q:∀ ps' zs' gs' H',Jh H H'→Bd K C H' x ps' zs' gs'→ps'.Perm ps→ps'.Pairwise sle→zs'.Perm zs→(zs'.map (·.2)).Pairwise ple→gs'.Perm gs→gs'.Pairwise sle→Q .non H') :
  JnU K C (.ref x :: ([.ref l1,.ref l2,.ref l3] ++ [])) (upd (upd H4 dx (.own x)) x (.ins C dx [])) Q E:=by
 have e5:Jh H4 (upd (upd H4 dx (.own x)) x (.ins C dx [])):=fun b u e=>by
  rw [JB (JD e nx),JB (JD e ndx)]; exact e
 refine ⟨x,l1,l2,l3,dx,ps,zs,gs,rfl,Ji,JC.of (e5 _ _ k1),JC.of (e5 _ _ k2),JaO hP e5,JC.of (e5 _ _ k3),G,fun H' ps' zs' gs' bt pp ps zp zs gp gs B=>q ps' zs' gs' H' (fun b u e=>?_) ⟨B,G.perm pp (zp.map _) gp⟩ pp ps zp zs gp gs⟩;have e6:=e4 b u e;exact bt b u (JD e6 nx) (e5 b u e6)
theorem Jqh {x0 x dx:Addr} {b:Addr} {ps:List Str} {zs:List (V×(Str×Str))} {gs:List Str} {c t:Int} (B:Bd K C H b ps zs gs) (hc:0≤c∧c≤20) (ht:0≤t∧t≤30)
  (nx:H x=none) (ndx:H dx=none) (q:∀ H',Jh H H'→Bk K C CB H' x b ps zs gs c t.toNat (t.toNat + 1)→Q .non H') :
  Jmr K C CB x0 (.ref x :: ([.ref b,.int c,.int t] ++ [])) (upd (upd H dx (.own x)) x (.ins CB dx [])) Q E:=by
 have e5:Jh H (upd (upd H dx (.own x)) x (.ins CB dx [])):=fun b u e=>by
  rw [JB (JD e nx),JB (JD e ndx)]; exact e
 obtain ⟨bdx,_,_,_,hb,_⟩:=id B.B;refine ⟨x,b,dx,c,t,ps,zs,gs,rfl,Ji,(fun e=>by rw [← e,nx] at hb; cases hb),B.same e5,fun h=>absurd hc h,fun _ h=>absurd ht h,fun _ _ H' bt Bk'=>q H' (fun b u e=>?_) Bk'⟩;exact bt b u (JD e nx) (e5 b u e)
theorem Bk.ins {k b:Addr} {ps:List Str} {zs:List (V×(Str×Str))} {gs:List Str} {c:Int} {t n:Nat} (h:Bk K C CB H k b ps zs gs c t n):∃ dx l,H k=some (.ins CB dx [("board",.ref b),("coins",.int c),("turns",.int t),("needs",.ref l)]):=let ⟨dx,l,_,h1,_⟩:=h.at_; ⟨dx,l,h1⟩
end
theorem Jjz {zs zs':List (Str×Str)} (h:zs'.Perm zs) (p:Str):(Jy zs' p).Perm (Jy zs p):=(h.filter _).map _
theorem Jmh {zs zs':List (Str×Str)} (h:zs'.Perm zs) (p:Str):Jy zs' p=[]↔Jy zs p=[]:=by
 have hp:=Jjz h p;constructor
 ·intro e; rw [e] at hp; exact hp.symm.eq_nil
 ·intro e; rw [e] at hp; exact hp.eq_nil
theorem Jpt {z:Str} {m:Nat} {zs zs':List (Str×Str)} {gs gs':List Str} (zp:zs'.Perm zs) (gp:gs'.Perm gs) :
  (z∈gs'∧JbJ z (m:Int) zs gs = "north"∧Yq zs' gs' m z)∨(z∉gs'∧JbJ z (m:Int) zs gs = "south"∧Yq zs' gs' m z)∨(JbJ z (m:Int) zs gs = ""∧¬ Yq zs' gs' m z):=by
 have e1:(z∈gs')↔(z∈gs):=gp.mem_iff;have e2:=Jmh zp z;unfold JbJ Yq;by_cases hg:z∈gs
 ·exact .inl ⟨e1.mpr hg,by rw [if_pos hg],.inl (e1.mpr hg)⟩
 ·by_cases h0:(m:Int)=0∨Jy zs z=[]
  ·refine .inr (.inl ⟨fun h=>hg (e1.mp h),by rw [if_neg hg,if_pos h0],.inr ?_⟩);rcases h0 with h0 | h0
   ·exact .inl (by omega)
   ·exact .inr (e2.mpr h0)
  ·refine .inr (.inr ⟨by rw [if_neg hg,if_neg h0],?_⟩);rintro (h | h | h)
   ·exact hg (e1.mp h)
   ·exact h0 (.inl (by omega))
   ·exact h0 (.inr (e2.mp h))
theorem JhF {x n:Int} (h:0 < n):0≤x % n∧x % n < n:=⟨Int.emod_nonneg _ (by omega),Int.emod_lt_of_pos _ h⟩
theorem Jke {ps:List Str} (h:1≤ps.length) (x:Int):∃ p,atI (ps.map V.str) (x % ((ps.map V.str).length:Int))=some (.str p)∧p∈ps:=by
 rw [List.length_map];have hb:=JhF (x:=x) (n:=(ps.length:Int)) (by omega);exact ⟨_,Jmc hb.1 hb.2,JjT hb.1 hb.2⟩
theorem Jmg {zs:List (Str×Str)} (h:zs.Pairwise ple) (p:Str):(Jy zs p).Pairwise sle:=by
 unfold Jy;rw [List.pairwise_map];refine List.Pairwise.imp_of_mem ?_ (h.filter _);intro x y hx hy hxy;have e1:x.1=p:=of_decide_eq_true (List.mem_filter.mp hx).2;have e2:y.1=p:=of_decide_eq_true (List.mem_filter.mp hy).2;have z:(if y.1.cps.toList=x.1.cps.toList then decide (y.2.cps.toList < x.2.cps.toList) else decide (y.1.cps.toList < x.1.cps.toList))=false:=hxy;rw [if_pos (by rw [e1,e2])] at z;exact z
theorem Jmi {zs zs':List (Str×Str)} {ws:List Str} {p:Str} (hz:zs'.Pairwise ple) (zp:zs'.Perm zs) (hw:ws.Perm (Jy zs p)) (hs:ws.Pairwise sle):ws=Jy zs' p :=
 JjD (fun _ _=>Jrs) (hw.trans (Jjz zp p).symm) hs (Jmg hz p)
def JsX (K:PySem.W.Frag):Sp:=fun vs H Q _=>∃ (t:Addr) (c:Int) (ps:List Str) (zs:List (V×(Str×Str))) (gs:List Str),vs=[.ref t,.int c]∧Ground K H t ps zs gs∧∀ (p:Str) (H':Hp),p∈ps→Jh H H'→Q (.str p) H'
theorem JtO {i:Nat} {y:V} (h:[V.str "north",V.str "south"][i]?=some y):∃ b:Bool,y=.str (hs b):=by
 match i,h with
 | 0,h=>exact ⟨true,(Option.some.inj h).symm⟩
 | 1,h=>exact ⟨false,(Option.some.inj h).symm⟩
 | i + 2,h=>cases h
def Zz:V→Bool
 | .non=>true
 | .int _=>true
 | .str _=>true
 | _=>false
def Jq8:Sp:=fun vs H Q _=>∃ i:Int,vs=[.int i]∧Q (.bl true) H
def Js3:Sp:=fun vs H Q _=>∃ i:Int,vs=[.int i]∧∀ b H',Jh H H'→Q (.str (hs b)) H'
def Jri:Sp:=fun vs H Q _=>∃ x:V,vs=[x,x]∧Zz x=true∧Q (.bl true) H
inductive Ph
 | over
 | bid
 | ans (b:Int)
 | step (h:Bool)
structure Mo where
 p:Str
 m:Nat
 n:Int
 r:Bool
 ph:Ph
def Mo.hand (x:Mo):V:=match x.ph with
 | .over=>.non
 | .bid=>.str (hs (!x.r))
 | .ans _=>.str (hs x.r)
 | .step h=>.str (hs h)
def Mo.word (x:Mo):V:=match x.ph with
 | .over=>.non
 | .bid=>.str "bid"
 | .ans _=>.str "answer"
 | .step _=>.str "step"
def Mo.heard (x:Mo):V:=match x.ph with
 | .ans b=>.int b
 | _=>.non
def Mo.fs (c:Int) (x:Mo):List (Str×V):=[("place",.str x.p),("turns",.int (x.m:Int)),("north",.int x.n),("south",.int (c - x.n)),("ribbon",.str (hs x.r)),("hand",x.hand),("word",x.word),("heard",x.heard)]
structure JbT (ps:List Str) (zs:List (Str×Str)) (gs:List Str) (c:Int) (T:Nat) (x:Mo):Prop where
 p:x.p∈ps
 m:x.m≤T
 n:0≤x.n∧x.n≤c
 e:x.ph=.over↔Yq zs gs x.m x.p
 b:∀ b,x.ph=.ans b→0≤b∧b≤own c x.n (!x.r)
def Y9 (zs:List (Str×Str)) (gs:List Str) (p:Str) (m:Nat) (n:Int) (r:Bool):Mo:=⟨p,m,n,r,if Yq zs gs m p then .over else .bid⟩
theorem JjW {ps:List Str} {zs:List (Str×Str)} {gs:List Str} {c:Int} {T:Nat} {p:Str} {m:Nat} {n:Int} {r:Bool} (hp:p∈ps) (hm:m≤T) (hn:0≤n∧n≤c):JbT ps zs gs c T (Y9 zs gs p m n r):=by
 refine ⟨hp,hm,hn,?_,fun b h=>?_⟩
 ·show (if Yq zs gs m p then Ph.over else Ph.bid)=.over↔_;by_cases he:Yq zs gs m p
  ·rw [if_pos he]; exact ⟨fun _=>he,fun _=>rfl⟩
  ·rw [if_neg he]; exact ⟨fun h=>(nomatch h),fun h=>absurd h he⟩
 ·have h:(if Yq zs gs m p then Ph.over else Ph.bid)=.ans b:=h;split at h <;> cases h
structure Gm where
 S:Hp
 g:Addr
 b:Addr
 k:Addr
 ld:Addr
 lm:Addr
 ps:List Str
 zs:List (V×(Str×Str))
 gs:List Str
 c:Int
 T:Nat
section
variable {K:PySem.W.Frag} {mg:Str→Option Value} (T:Txt K mg)
structure J1 (G:Gm) (H:Hp) (ds:List (Addr×List V)) (ms:List (Addr×Mo)):Prop where
 sm:Jh G.S H
 bk:Bk K T.JP T.JS G.S G.k G.b G.ps G.zs G.gs G.c G.T (G.T + 1)
 gi:∃ dx,G.S G.g=some (.ins T.JZ dx [("board",.ref G.b),("book",.ref G.k),("done",.ref G.ld),("moments",.ref G.lm)])
 nd:G.S G.ld=none
 nm:G.S G.lm=none
 ne:G.ld≠G.lm
 hd:H G.ld=some (.lst (ds.map fun d=>.ref d.1))
 hm:H G.lm=some (.lst (ms.map fun x=>.ref x.1))
 dt:∀ d∈ds,H d.1=some (.tup d.2)
 mt:∀ x∈ms,∃ dx,H x.1=some (.ins T.J5 dx (x.2.fs G.c))
 mo:∀ x∈ms,JbT G.ps (G.zs.map (·.2)) G.gs G.c G.T x.2
variable {T} {G:Gm} {H H':Hp} {ds:List (Addr×List V)} {ms:List (Addr×Mo)}
theorem J1.same (h:J1 T G H ds ms) (e:Jh H H'):J1 T G H' ds ms :=
 ⟨h.sm.trans e,h.bk,h.gi,h.nd,h.nm,h.ne,e _ _ h.hd,e _ _ h.hm,fun d hd=>e _ _ (h.dt d hd),fun x hx=>let ⟨dx,q⟩:=h.mt x hx; ⟨dx,e _ _ q⟩,h.mo⟩
def Z0 (X:List Addr) (H H':Hp):Prop:=∀ b u,b∉X→H b=some u→H' b=some u
theorem Z0.of {X:List Addr} (e:Jh H H'):Z0 X H H':=fun b u _ h=>e b u h
theorem Z0.trans {X:List Addr} {H2:Hp} (e:Z0 X H H') (e2:Z0 X H' H2):Z0 X H H2:=fun b u hn h=>e2 b u hn (e b u hn h)
theorem Z0.tup {X:List Addr} (e:Z0 X H H') (hX:∀ x∈X,∃ vs,H x=some (.lst vs)) {a:Addr} {xs:List V} (h:H a=some (.tup xs)):H' a=some (.tup xs) :=
 e _ _ (fun hx=>by obtain ⟨vs,q⟩:=hX a hx; rw [h] at q; cases q) h
theorem Z0.ins {X:List Addr} (e:Z0 X H H') (hX:∀ x∈X,∃ vs,H x=some (.lst vs)) {a C dx:Addr} {fs:List (Str×V)} (h:H a=some (.ins C dx fs)):H' a=some (.ins C dx fs) :=
 e _ _ (fun hx=>by obtain ⟨vs,q⟩:=hX a hx; rw [h] at q; cases q) h
theorem J1.lists (h:J1 T G H ds ms):∀ x∈[G.ld,G.lm],∃ vs,H x=some (.lst vs):=fun x hx=>by
 rcases List.mem_cons.mp hx with rfl | hx
 ·exact ⟨_,h.hd⟩
 ·rw [List.mem_singleton.mp hx]; exact ⟨_,h.hm⟩
theorem J1.static (h:J1 T G H ds ms) (e:Z0 [G.ld,G.lm] H H'):Jh G.S H':=fun b u q=>e b u (fun hx=>by
 rcases List.mem_cons.mp hx with rfl | hx
 ·rw [h.nd] at q; cases q
 ·rw [List.mem_singleton.mp hx,h.nm] at q; cases q) (h.sm b u q)
theorem J1.frame {X:List Addr} (h:J1 T G H ds ms) (e:Z0 X H H') (hX:∀ x∈X,∃ vs,H x=some (.lst vs)) (hS:∀ x∈X,G.S x=none) (h1:G.ld∉X) (h2:G.lm∉X):J1 T G H' ds ms :=
 ⟨fun b u q=>e b u (fun hx=>by rw [hS b hx] at q; cases q) (h.sm b u q),h.bk,h.gi,h.nd,h.nm,h.ne,e _ _ h1 h.hd,e _ _ h2 h.hm,fun d hd=>e.tup hX (h.dt d hd),fun x hx=>let ⟨dx,q⟩:=h.mt x hx; ⟨dx,e.ins hX q⟩,h.mo⟩
theorem Jab {xs:List V} {v:V}:atI (xs ++ [v]) (-1)=some v:=by
 have e:ixN (xs ++ [v]).length (-1)=some xs.length:=by
  unfold ixN;rw [List.length_append];simp;exact ⟨by omega,by omega⟩
 unfold atI;rw [e];simp
theorem J1.more (h:J1 T G H ds ms) {H1:Hp} (e:Jh H H1) {d a dx:Addr} {dv:List V} {x:Mo} (hd:H1 d=some (.tup dv)) (ha:H1 a=some (.ins T.J5 dx (x.fs G.c))) (hx:JbT G.ps (G.zs.map (·.2)) G.gs G.c G.T x) :
  Z0 [G.ld,G.lm] H (upd (upd H1 G.ld (.lst (ds.map (fun d=>V.ref d.1) ++ [.ref d]))) G.lm (.lst (ms.map (fun x=>V.ref x.1) ++ [.ref a])))∧J1 T G (upd (upd H1 G.ld (.lst (ds.map (fun d=>V.ref d.1) ++ [.ref d]))) G.lm (.lst (ms.map (fun x=>V.ref x.1) ++ [.ref a]))) (ds ++ [(d,dv)]) (ms ++ [(a,x)]):=by
 have h1:=h.same e;have c1:Z0 [G.ld,G.lm] H1 (upd (upd H1 G.ld (.lst (ds.map (fun d=>V.ref d.1) ++ [.ref d]))) G.lm (.lst (ms.map (fun x=>V.ref x.1) ++ [.ref a]))):=fun b u hn q=>by
  rw [JB (fun z=>hn (by rw [z]; simp)),JB (fun z=>hn (by rw [z]; simp))]; exact q
 refine ⟨(Z0.of e).trans c1,h1.static c1,h.bk,h.gi,h.nd,h.nm,h.ne,?_,?_,fun y hy=>?_,fun y hy=>?_,fun y hy=>?_⟩
 ·rw [JB h.ne,Ji,List.map_append]; rfl
 ·rw [Ji,List.map_append]; rfl
 ·rcases List.mem_append.mp hy with q | q
  ·exact c1.tup h1.lists (h1.dt y q)
  ·rw [List.mem_singleton.mp q]; exact c1.tup h1.lists hd
 ·rcases List.mem_append.mp hy with q | q
  ·obtain ⟨dy,z⟩:=h1.mt y q;exact ⟨dy,c1.ins h1.lists z⟩
  ·rw [List.mem_singleton.mp q]; exact ⟨dx,c1.ins h1.lists ha⟩
 ·rcases List.mem_append.mp hy with q | q
  ·exact h.mo y q
  ·rw [List.mem_singleton.mp q]; exact hx
variable (T)
def Jmo:Sp:=fun vs H Q _=>∃ (x dx:Addr) (v1 v2 v3 v4 v5 v6 v7 v8:V),vs=[.ref x,v1,v2,v3,v4,v5,v6,v7,v8]∧H x=some (.ins T.J5 dx [])∧Q .non (upd H x (.ins T.J5 dx [("place",v1),("turns",v2),("north",v3),("south",v4),("ribbon",v5),("hand",v6),("word",v7),("heard",v8)]))
def JpE:Sp:=fun vs H Q _=>∃ (b:Addr) (p:Str) (m:Nat) (n c:Int) (r:Bool) (ps:List Str) (zs:List (V×(Str×Str))) (gs:List Str),vs=[.ref b,.str p,.int (m:Int),.int n,.int (c - n),.str (hs r)]∧Bd K T.JP H b ps zs gs∧p∈ps∧m≤30∧∀ a dx H',H a=none→Jh H H'→H' a=some (.ins T.J5 dx ((Y9 (zs.map (·.2)) gs p m n r).fs c))→Q (.ref a) H'
def JjC (ps:List Str) (z:Str) (m n s:Int) (x:Str) (H:Hp) (E:XK):Prop :=
 (z∉ps→E (.ref T.YM) none H)∧(z∈ps→¬ (0≤m∧m≤30)→E (.ref T.J8) none H)∧(z∈ps→0≤m∧m≤30→¬ ZH n s→E (.ref T.J8) none H)∧(z∈ps→0≤m∧m≤30→ZH n s→Jaw x=false→E (.ref T.Y2) none H)
def JnT (ps:List Str) (z:Str) (m n s:Int) (x:Str):Prop:=z∈ps∧(0≤m∧m≤30)∧ZH n s∧Jaw x=true
theorem JpA {ps:List Str} {z:Str} {m n s:Int} {x:Str} {H:Hp} {E:XK} (h:JnT ps z m n s x):JjC T ps z m n s x H E :=
 ⟨fun z=>absurd h.1 z,fun _ z=>absurd h.2.1 z,fun _ _ z=>absurd h.2.2.1 z,fun _ _ _ z=>by rw [h.2.2.2] at z; cases z⟩
def JpM:Sp:=fun vs H Q E=>∃ (b:Addr) (z x:Str) (m n s:Int) (ps:List Str) (zs:List (V×(Str×Str))) (gs:List Str),vs=[.ref b,.str z,.int m,.int n,.int s,.str x]∧YG z∧YG x∧Bd K T.JP H b ps zs gs∧JjC T ps z m n s x H E∧(JnT ps z m n s x→Q .non H)
def Jmp:Sp:=fun vs H Q E=>∃ (g b dx:Addr) (z x:Str) (m n s:Int) (ps:List Str) (zs:List (V×(Str×Str))) (gs:List Str),vs=[.ref g,.ref b,.str z,.int m,.int n,.int s,.str x]∧H g=some (.ins T.JZ dx [])∧g≠b∧YG z∧YG x∧Bd K T.JP H b ps zs gs∧JjC T ps z m n s x H E ∧
 (z∈ps→0≤m∧m≤30→ZH n s→∀ r,x=hs r→∀ (G:Gm) (a:Addr) (H':Hp),G.g=g→G.b=b→G.ps=ps→G.zs=zs→G.gs=gs→G.c=n + s→G.T=m.toNat→YY g H G.S→J1 T G H' [] [(a,Y9 (zs.map (·.2)) gs z m.toNat n r)]→Q .non H')
def JpI:Sp:=fun vs H Q _=>∃ (G:Gm) (ds:List (Addr×List V)) (ms:List (Addr×Mo)) (a:Addr) (x:Mo),vs=[.ref G.g]∧J1 T G H ds (ms ++ [(a,x)])∧∀ t H',Jh H H'→H' t=some (.tup [.str x.p,.int (x.m:Int),.int x.n,.int (G.c - x.n),.str (hs x.r)])→Q (.ref t) H'
def Js6:Sp:=fun vs H Q _=>∃ (G:Gm) (ds:List (Addr×List V)) (ms:List (Addr×Mo)) (a:Addr) (x:Mo),vs=[.ref G.g]∧J1 T G H ds (ms ++ [(a,x)])∧(x.ph=.over→Q .non H)∧(x.ph≠.over→∀ t H',Jh H H'→H' t=some (.tup [x.hand,x.word])→Q (.ref t) H')
def JpK:Sp:=fun vs H Q _=>∃ (G:Gm) (ds:List (Addr×List V)) (ms:List (Addr×Mo)) (a:Addr) (x:Mo),vs=[.ref G.g]∧J1 T G H ds (ms ++ [(a,x)])∧Q x.heard H
def JpL:Sp:=fun vs H Q _=>∃ (G:Gm) (ds:List (Addr×List V)) (ms:List (Addr×Mo)),vs=[.ref G.g]∧J1 T G H ds ms∧∀ t H',Jh H H'→H' t=some (.tup (ds.map fun d=>.ref d.1))→Q (.ref t) H'
def Jrl:Sp:=fun vs H Q _=>∃ (G:Gm) (ds:List (Addr×List V)) (ms:List (Addr×Mo)) (a:Addr) (x:Mo),vs=[.ref G.g]∧J1 T G H ds (ms ++ [(a,x)])∧∀ H',Jh H H'→Q (Zl x.p (x.m:Int) (G.zs.map (·.2)) G.gs) H'
def Js9:Sp:=fun vs H Q E=>∃ (G:Gm) (ds:List (Addr×List V)) (ms:List (Addr×Mo)) (a:Addr) (x:Mo) (z w:Str),vs=[.ref G.g,.str z,.str w]∧J1 T G H ds (ms ++ [(a,x)])∧YG z∧w.length≤1000∧(x.hand=.str z∧x.word=.str w→∀ H',Jh H H'→Q .non H')∧(¬ (x.hand=.str z∧x.word=.str w)→∀ H',Jh H H'→E (.ref T.Yl) none H')
def Js4:Sp:=fun vs H Q _=>∃ (G:Gm) (ds:List (Addr×List V)) (ms:List (Addr×Mo)) (d a dx:Addr) (dv:List V) (x:Mo),vs=[.ref G.g,.ref d,.ref a]∧J1 T G H ds ms∧ds.length≤1000∧ms.length≤1001∧H d=some (.tup dv)∧H a=some (.ins T.J5 dx (x.fs G.c))∧JbT G.ps (G.zs.map (·.2)) G.gs G.c G.T x∧∀ H',Z0 [G.ld,G.lm] H H'→J1 T G H' (ds ++ [(d,dv)]) (ms ++ [(a,x)])→Q .non H'
def Js7:Sp:=fun vs H Q E=>∃ (G:Gm) (ds:List (Addr×List V)) (ms:List (Addr×Mo)) (a:Addr) (x:Mo) (z:Str) (y:Int),vs=[.ref G.g,.str z,.int y]∧J1 T G H ds (ms ++ [(a,x)])∧ds.length≤1000∧ms.length≤1000∧YG z∧(¬ (x.ph=.bid∧z=hs (!x.r))→∀ H',Jh H H'→E (.ref T.Yl) none H')∧(x.ph=.bid→z=hs (!x.r)→¬ (0≤y∧y≤own G.c x.n (!x.r))→∀ H',Jh H H'→E (.ref T.Yi) none H') ∧
 (x.ph=.bid→z=hs (!x.r)→0≤y∧y≤own G.c x.n (!x.r)→∀ d a' H',Z0 [G.ld,G.lm] H H'→J1 T G H' (ds ++ [(d,[.str z,.str "bid",.int y])]) ((ms ++ [(a,x)]) ++ [(a',⟨x.p,x.m,x.n,x.r,.ans y⟩)])→Q .non H')
def Joz:Sp:=fun vs H Q E=>∃ (G:Gm) (ds:List (Addr×List V)) (ms:List (Addr×Mo)) (a:Addr) (x:Mo) (z:Str) (y:Int),vs=[.ref G.g,.str z,.int y]∧J1 T G H ds (ms ++ [(a,x)])∧ds.length≤1000∧ms.length≤1000∧YG z∧((∀ b,x.ph=.ans b→z≠hs x.r)→∀ H',Jh H H'→E (.ref T.Yl) none H')∧(∀ b,x.ph=.ans b→z=hs x.r→¬ (0≤y∧y≤own G.c x.n x.r)→∀ H',Jh H H'→E (.ref T.Yi) none H') ∧
 (∀ b,x.ph=.ans b→z=hs x.r→0≤y∧y≤own G.c x.n x.r→∀ d a' H',Z0 [G.ld,G.lm] H H'→J1 T G H' (ds ++ [(d,[.str z,.str "answer",.int y])]) ((ms ++ [(a,x)]) ++ [(a',⟨x.p,x.m,(after x.n x.r b y).2.1,(after x.n x.r b y).2.2,.step (after x.n x.r b y).1⟩)])→Q (.str (hs (after x.n x.r b y).1)) H')
def Jrk:Sp:=fun vs H Q E=>∃ (G:Gm) (ds:List (Addr×List V)) (ms:List (Addr×Mo)) (a:Addr) (x:Mo) (z w:Str),vs=[.ref G.g,.str z,.str w]∧J1 T G H ds (ms ++ [(a,x)])∧ds.length≤1000∧ms.length≤1000∧YG z∧YG w∧((∀ h,x.ph=.step h→z≠hs h)→∀ H',Jh H H'→E (.ref T.Yl) none H')∧(∀ h,x.ph=.step h→z=hs h→w∉Jy (G.zs.map (·.2)) x.p→∀ H',Jh H H'→E (.ref T.Yv) none H') ∧
 (∀ h,x.ph=.step h→z=hs h→w∈Jy (G.zs.map (·.2)) x.p→∀ d a' H',Z0 [G.ld,G.lm] H H'→J1 T G H' (ds ++ [(d,[.str z,.str "step",.str w])]) ((ms ++ [(a,x)]) ++ [(a',Y9 (G.zs.map (·.2)) G.gs w (x.m - 1) x.n x.r)])→Q .non H')
end
section
variable {P:Program} {w:World} {K:PySem.W.Frag} {mg:Str→Option Value} {base:Heap}
theorem JrP (T:Txt K mg):JK P w K mg base YB 1 T.JkZ T.Ji6 ["_law_found"] Jq8:=by
 refine T.Jle.F.ok JrB (fun vs H Q E h=>?_) (fun cdv A outer s H vs Q E hr h=>?_)
 ·obtain ⟨i,rfl,_⟩:=h;rfl
 ·obtain ⟨i,rfl,q⟩:=h;refine ⟨_,(@Jg _ _ _ (@Jn _ _ _ _ (@JjM _ _ _ _ _ _ _ (@JF _ _ _ _ _ _ _ _ _ (@JbX _) rfl T.J7 PyProof.Rows.boot_isinstance (@Ja _ _ _ _ _ (@pv _ 0 _ _ rfl (.inl rfl) rfl rfl) (@Ja _ _ _ _ _ (@Je1 _ _ _ _ rfl T.JsE PyProof.Rows.boot_int (by decide) (by decide)) (@Jc _) rfl) rfl) (by decide) (by decide) rfl rfl) (@JjL _ _ _ _ _ (@Juk _ _ _ _ (@JF _ _ _ _ _ _ _ _ _ (@JbX _) rfl T.J7 PyProof.Rows.boot_isinstance (@Ja _ _ _ _ _ (@pv _ 0 _ _ rfl (.inl rfl) rfl rfl) (@Ja _ _ _ _ _ (@Je1 _ _ _ _ rfl T.Jqd PyProof.Rows.boot_bool (by decide) (by decide)) (@Jc _) rfl) rfl) (by decide) (by decide) rfl rfl)))))),?_⟩;refine ⟨_,rfl,_,_,_,_,rfl,⟨_,.inl rfl⟩,.int i,Jux,_,rfl,YD ?_⟩;exact ⟨_,rfl,_,_,_,_,rfl,⟨_,.inl rfl⟩,.int i,Juy,_,rfl,q⟩
theorem Je2 (T:Txt K mg):JK P w K mg base YB 2 T.Jk6 T.Jjd ["_law_found", "_law_due_here"] Jri:=by
 refine T.Jdg.F.ok JrE (fun vs H Q E h=>?_) (fun cdv A outer s H vs Q E hr h=>?_)
 ·obtain ⟨_,rfl,_⟩:=h;rfl
 ·obtain ⟨x,rfl,hx,q⟩:=h;refine ⟨_,(@Jd _ _ _ _ _ (@JH _ _ _ _ _ _ _ _ (@Zm _ _ _ _ _ _ (@JaD _ _ _ _ _ (@pv _ 1 _ _ rfl (.inl rfl) rfl rfl)) (by first | exact Yj _ (by decide) (by decide) | rfl)) (@Jg _ _ _ (@Jn _ _ _ _ (@Jhv _ _ _ _ _ _ (@JaD _ _ _ _ _ (@pv _ 0 _ _ rfl (.inl rfl) rfl rfl)) (by first | exact Yj _ (by decide) (by decide) | rfl)))) (@Jp _)) (@Jd _ _ _ _ _ (@JH _ _ _ _ _ _ _ _ (@Zf _ _ _ (@JF _ _ _ _ _ _ _ _ _ (@JbX _) rfl T.J7 PyProof.Rows.boot_isinstance (@Ja _ _ _ _ _ (@pv _ 1 _ _ rfl (.inl rfl) rfl rfl) (@Ja _ _ _ _ _ (@Je1 _ _ _ _ rfl T.JoY PyProof.Rows.boot_str (by decide) (by decide)) (@Jc _) rfl) rfl) (by decide) (by decide) rfl rfl) (by intro _; rfl)) (@Jg _ _ _ (@Jn _ _ _ _ (@JjM _ _ _ _ _ _ _ (@JF _ _ _ _ _ _ _ _ _ (@JbX _) rfl T.J7 PyProof.Rows.boot_isinstance (@Ja _ _ _ _ _ (@pv _ 0 _ _ rfl (.inl rfl) rfl rfl) (@Ja _ _ _ _ _ (@Je1 _ _ _ _ rfl T.JoY PyProof.Rows.boot_str (by decide) (by decide)) (@Jc _) rfl) rfl) (by decide) (by decide) rfl rfl) (@JjL _ _ _ _ _ (@JkI _ _ _ _ _ _ _ _ (@Yg _) (@pv _ 0 _ _ rfl (.inl rfl) rfl rfl) (@pv _ 1 _ _ rfl (.inl rfl) rfl rfl) (JE _)))))) (@Jp _)) (@Jg _ _ _ (@Jn _ _ _ _ (@JjM _ _ _ _ _ _ _ (@Jk _ _ _ _ _ _ _ _ _ _ _ _ _ _ _ T.Jle (JrP T) (hr.mono (by decide)) Jt (@Ja _ _ _ _ _ (@pv _ 0 _ _ rfl (.inl rfl) rfl rfl) (@Jc _) rfl) rfl (by decide) rfl rfl) (@JjL _ _ _ _ _ (@JkI _ _ _ _ _ _ _ _ (@Yg _) (@pv _ 0 _ _ rfl (.inl rfl) rfl rfl) (@pv _ 1 _ _ rfl (.inl rfl) rfl rfl) (JE _)))))))),?_⟩;refine ⟨_,rfl,_,rfl,?_⟩;cases x with
  | non =>
   refine YF (by rfl) ⟨_,rfl,?_⟩;exact q
  | int i =>
   refine Yb (by rfl) ⟨_,rfl,_,_,_,_,rfl,⟨_,.inl rfl⟩,.int i,Juw,_,rfl,Yo ?_⟩;refine ⟨_,rfl,i,rfl,_,rfl,YD ⟨_,rfl,_,rfl,rfl,?_⟩⟩;rw [decide_eq_true rfl];exact q
  | str z =>
   refine Yb (by rfl) ⟨_,rfl,_,_,_,_,rfl,⟨_,.inl rfl⟩,.str z,Jqm,_,rfl,YD ?_⟩;refine ⟨_,rfl,_,_,_,_,rfl,⟨_,.inl rfl⟩,.str z,Jqm,_,rfl,YD ⟨_,rfl,_,rfl,rfl,?_⟩⟩;rw [decide_eq_true rfl];exact q
  | _=>exact absurd hx Bool.false_ne_true
theorem Jtt (T:Txt K mg):JK P w K mg base YB 1 T.Jnm T.JkW ["_law_cell"] Js3:=by
 refine T.JnD.F.ok Jtf (fun vs H Q E h=>?_) (fun cdv A outer s H vs Q E hr h=>?_)
 ·obtain ⟨i,rfl,_⟩:=h;rfl
 ·obtain ⟨i,rfl,q⟩:=h;refine ⟨_,(@Jg _ _ _ (@Jn _ _ _ _ (@JG _ _ _ _ _ _ _ (@JU _) (@YX _ _ _ _ (@Ja _ _ _ _ _ (@Jz _ _ _ _) (@Ja _ _ _ _ _ (@Jz _ _ _ _) (@Jc _) rfl) rfl)) (@Jm _ _ _ _ _ _ _ _ (@JV _) (@pv _ 0 _ _ rfl (.inl rfl) rfl rfl) (@Je _ _ _ _)) (fun _ _=>rfl)))),?_⟩;refine ⟨by decide,fun p hp=>⟨_,rfl,_,_,rfl,rfl,(by show (0:Int) < 2; decide),p,_,_,.str (hs (decide (i % 2=0))),rfl,rfl,JC.of Ji,?_,q _ _ (Jh.upd hp)⟩⟩;have h:i % 2=0∨i % 2=1:=by omega
  rcases h with h | h <;> rw [h] <;> rfl
theorem JkJ (T:Txt K mg):JK P w K mg base YB 1 T.Jnh T.JkR ["_law_ground_here", "_law_place"] (Jrh K):=by
 refine T.Jh9.F.ok Jtd (fun vs H Q E h=>?_) (fun cdv A outer s H vs Q E hr h=>?_)
 ·obtain ⟨_,_,_,_,_,rfl,_⟩:=h;rfl
 ·obtain ⟨t,z,ps,zs,gs,rfl,G,q⟩:=h;have szl:sizeLine=16777216:=sizeLine_eq;refine ⟨_,(@Jg _ _ _ (@Jn _ _ _ _ (@JF _ _ _ _ _ _ _ _ _ (@Jg6 _) rfl T.Je5 PyProof.Rows.boot_sorted (@Ja _ _ _ _ _ (@JgU _ _ _ _ _ _ _ 2 ["_law_start", "_law_end", "_law_place"] [1] _ _ _ _ ["_law_ground_here", "_law_place"] ((Jl JjH).names) (by decide +kernel) (@Ja0 _ _ _ _ (@JG _ _ _ _ _ _ _ (@JX _) (@pv _ 0 _ _ rfl (.inl rfl) rfl rfl) (@Je _ _ _ _) (fun _ _=>rfl))) (fun _ _ _ _=>(show PG _ _ (Jo4 K 2 _) from Jgr rfl (@Ye _ _ _ _ _ (@JaT _ _ _ _ _ _ _ _ _ 0 (by decide +kernel) rfl rfl) (@Ye _ _ _ _ _ (@JaT _ _ _ _ _ _ _ _ _ 1 (by decide +kernel) rfl rfl) (@Jew _) rfl) rfl))) (fun _ _ _ _=>(@Jik _ _ _ (@Js _ _ _ _ _ _ _ _ (@Yg _) (@Z8 _ _ _ _ _ _ _ _ _ 0 rfl rfl (by decide) (by decide)) (@Jbt _ _ _ _ _ _ _ _ _ 2 rfl rfl (by decide) (by decide)) (JE _)))) (fun _ _ _ _=>(@Z8 _ _ _ _ _ _ _ _ _ 1 rfl rfl (by decide) (by decide))) rfl rfl rfl (by intro _; rfl)) (@Jc _) rfl) (by decide) (by decide) rfl rfl))),?_⟩;obtain ⟨pn,pl,pg,h1,h2,h3,h4,h5⟩:=G.at_;have hzl:zs.length≤40:=by have:=G.good.l1; rwa [List.length_map] at this
  have wl:∀ i,(Jy ((zs.map (·.2)).take i) z).length≤40:=fun i=>by
   unfold Jy;rw [List.length_map];refine Nat.le_trans (List.length_filter_le _ _) ?_;rw [List.length_take,List.length_map];omega
  refine ⟨_,rfl,t,_,_,.ref pl,rfl,rfl,JL.of h1,rfl,pl,rfl,⟨_,JC.of h3⟩,fun D hD=>?_⟩;refine Jj8 (xs:=zs.map (·.1)) (fun i ys H2=>Jh H H2∧H2 D=some (.lst ys)∧ys=(Jy ((zs.map (·.2)).take i) z).map V.str) rfl rfl (fun i ys H2 p=>JC.of (p.1 _ _ h3)) ⟨Jh.upd hD,Ji,by simp [Jy]⟩ (fun i ys H2 p=>p.2.1) ?_ ?_
  ·rintro i x ys H2 hx ⟨e2,hy,rfl⟩;rw [List.getElem?_map] at hx;obtain ⟨y,hy1,rfl⟩:=Option.map_eq_some_iff.mp hx;obtain ⟨a,ea,ha⟩:=h4 y (List.mem_of_getElem? hy1);have step:(zs.map (·.2)).take (i + 1)=(zs.map (·.2)).take i ++ [y.2]:=by
    rw [List.take_succ,List.getElem?_map,hy1]; rfl
   have wstep:Jy ((zs.map (·.2)).take (i + 1)) z=Jy ((zs.map (·.2)).take i) z ++ (if y.2.1=z then [y.2.2] else []):=by
    unfold Jy;rw [step,List.filter_append,List.map_append];by_cases h:y.2.1=z
    ·simp [h]
    ·simp [h]
   have wli:=wl i;refine ⟨a,.str y.2.1,.str y.2.2,ea,e2.tup ha,_,rfl,_,rfl,rfl,_,rfl,?_⟩;by_cases h:y.2.1=z
   ·refine YF (by rw [h]; exact decide_eq_true rfl) ⟨_,rfl,hy,by rw [List.length_map]; omega,fun b' u e=>?_,Ji,?_⟩
    ·rw [JB (JD e hD)]; exact e2 b' u e
    ·rw [wstep,if_pos h,List.map_append]; rfl
   ·refine Yb (decide_eq_false (fun e=>h (V.str.inj e))) ⟨e2,hy,?_⟩;rw [wstep,if_neg h,List.append_nil]
  ·rintro ys H2 ⟨e2,hy,rfl⟩;rw [List.length_map] at hy;rw [show zs.length=(zs.map (·.2)).length by simp] at hy;have wll:=wl (zs.map (·.2)).length;rw [List.take_length] at hy wll;exact ⟨D,_,rfl,JC.of hy,by omega,fun p ws np hp hs=>q p ws _ (e2.trans (Jh.upd np)) Ji hp hs⟩
theorem JjN (T:Txt K mg):JK P w K mg base YB 2 T.Jo7 T.Jm9 ["_law_ground_here", "_law_place", "_law_left_here"] (JtV K):=by
 refine T.Jit.F.ok Jt4 (fun vs H Q E h=>?_) (fun cdv A outer s H vs Q E hr h=>?_)
 ·obtain ⟨_,_,_,_,_,_,rfl,_⟩:=h;rfl
 ·obtain ⟨t,z,n,ps,zs,gs,rfl,G,q⟩:=h;refine ⟨_,(@Jd _ _ _ _ _ (@JH _ _ _ _ _ _ _ _ (@Js _ _ _ _ _ _ _ _ (@Jlt _) (@pv _ 1 _ _ rfl (.inl rfl) rfl rfl) (@JG _ _ _ _ _ _ _ (@JX _) (@pv _ 0 _ _ rfl (.inl rfl) rfl rfl) (@Je _ _ _ _) (fun _ _=>rfl)) (by with_unfolding_all rfl)) (@Jg _ _ _ (@Jn _ _ _ _ (@Jz _ _ _ _))) (@Jp _)) (@Jd _ _ _ _ _ (@JH _ _ _ _ _ _ _ _ (@PW.pt _ _ _ (@ZX _ _ _ _ _ _ _ (@Js _ _ _ _ _ _ _ _ (@Yg _) (@pv _ 2 _ _ rfl (.inl rfl) rfl rfl) (@Je _ _ _ _) (JE _)) (@ZT _ _ _ _ (@Js _ _ _ _ _ _ _ _ (@Ji0 _ hr.units0) (@Jk _ _ _ _ _ _ _ _ _ _ _ _ _ _ _ T.Jh9 (JkJ T) (hr.mono (by decide)) Jt (@Ja _ _ _ _ _ (@pv _ 0 _ _ rfl (.inl rfl) rfl rfl) (@Ja _ _ _ _ _ (@pv _ 1 _ _ rfl (.inl rfl) rfl rfl) (@Jc _) rfl) rfl) rfl (by decide) rfl rfl) (@YX _ _ _ _ (@Jc _)) (JE _))))) (@Jg _ _ _ (@Jn _ _ _ _ (@Jz _ _ _ _))) (@Jp _)) (@Jg _ _ _ (@Jn _ _ _ _ (@Jz _ _ _ _))))),?_⟩;obtain ⟨pn,pl,pg,h1,h2,h3,h4,h5⟩:=G.at_;refine ⟨_,rfl,_,rfl,t,_,_,.ref pg,rfl,rfl,JL.of h1,rfl,pg,_,rfl,.inl (JC.of h5),rfl,Jdv gs,_,rfl,?_⟩;rw [if_neg Bool.false_ne_true,Jfg];by_cases hg:z∈gs
  ·refine YF (decide_eq_true hg) ?_;have e:JbJ z n (zs.map (·.2)) gs = "north":=by unfold JbJ; rw [if_pos hg]
   rw [e] at q;exact q H (Jh.refl _)
  ·refine Yb (decide_eq_false hg) ⟨_,rfl,rfl,_,rfl,?_⟩;by_cases h0:n=0
   ·have e:JbJ z n (zs.map (·.2)) gs = "south":=by unfold JbJ; rw [if_neg hg,if_pos (.inl h0)]
    rw [e] at q;exact YF (by rw [h0]; exact decide_eq_true rfl) (YD (q H (Jh.refl _)))
   ·refine Yb (decide_eq_false fun e=>h0 (V.int.inj e)) ⟨_,rfl,_,rfl,t,z,ps,zs,gs,rfl,G,fun p ws H' e' hp wp _=>⟨by show 0≤sizeLine; decide,fun l nl=>⟨p,l,_,rfl,rfl,(Jh.upd nl).seq (JC.of hp),JC.of Ji,_,rfl,?_⟩⟩⟩;by_cases hw:Jy (zs.map (·.2)) z=[]
    ·have e:JbJ z n (zs.map (·.2)) gs = "south":=by unfold JbJ; rw [if_neg hg,if_pos (.inr hw)]
     rw [e] at q;rw [hw] at wp;exact YF (by rw [wp.eq_nil]; rfl) (q _ (e'.trans (Jh.upd nl)))
    ·have e:JbJ z n (zs.map (·.2)) gs = "":=by unfold JbJ; rw [if_neg hg,if_neg (fun h=>h.elim h0 hw)]
     rw [e] at q;refine Yb ?_ (q _ (e'.trans (Jh.upd nl)));cases ws with
     | nil=>exact absurd (wp.symm.eq_nil) hw
     | cons _ _=>rfl
theorem JrR (T:Txt K mg):JK P w K mg base YB 1 T.Jk1 T.Ji8 ["_law_cell"] Jra:=by
 refine T.Jlg.F.ok JrC (fun vs H Q E h=>?_) (fun cdv A outer s H vs Q E hr h=>?_)
 ·obtain ⟨_,rfl,_⟩:=h;rfl
 ·obtain ⟨c,rfl,q⟩:=h;refine ⟨_,(@Jd _ _ _ _ _ (@JH _ _ _ _ _ _ _ _ (@Js _ _ _ _ _ _ _ _ (@Yg _) (@Jm _ _ _ _ _ _ _ _ (@JV _) (@Jm _ _ _ _ _ _ _ _ (@YU _) (@pv _ 0 _ _ rfl (.inl rfl) rfl rfl) (@Je _ _ _ _)) (@Je _ _ _ _)) (@Je _ _ _ _) (JE _)) (@Jg _ _ _ (@Jn _ _ _ _ (@Jm _ _ _ _ _ _ _ _ (@JV _) (@Jm _ _ _ _ _ _ _ _ (@YU _) (@pv _ 0 _ _ rfl (.inl rfl) rfl rfl) (@Je _ _ _ _)) (@Je _ _ _ _)))) (@Jp _)) (@Jg _ _ _ (@Jn _ _ _ _ (@JG _ _ _ _ _ _ _ (@JU _) (@YX _ _ _ _ (@Ja _ _ _ _ _ (@Je _ _ _ _) (@Ja _ _ _ _ _ (@Je _ _ _ _) (@Ja _ _ _ _ _ (@Je _ _ _ _) (@Ja _ _ _ _ _ (@Je _ _ _ _) (@Ja _ _ _ _ _ (@Je _ _ _ _) (@Ja _ _ _ _ _ (@Je _ _ _ _) (@Ja _ _ _ _ _ (@Je _ _ _ _) (@Ja _ _ _ _ _ (@Je _ _ _ _) (@Jc _) rfl) rfl) rfl) rfl) rfl) rfl) rfl) rfl)) (@Jm _ _ _ _ _ _ _ _ (@JV _) (@pv _ 0 _ _ rfl (.inl rfl) rfl rfl) (@Je _ _ _ _)) (fun _ _=>rfl))))),?_⟩;refine ⟨_,rfl,_,_,rfl,rfl,⟨by decide,by decide⟩,_,_,rfl,rfl,(by show (0:Int) < 6; decide),rfl,_,rfl,YV (fun _=>?_) (fun _=>?_)⟩
  ·exact ⟨_,rfl,_,_,rfl,rfl,⟨by decide,by decide⟩,_,_,rfl,rfl,(by show (0:Int) < 21; decide),q _ _ (by omega) (by omega) (Jh.refl _)⟩
  ·refine ⟨by show 8≤sizeLine; decide,fun l hl=>?_⟩;obtain ⟨y,hy,y0,y1⟩:=JsH (xs:=[5,3,4,6,2,1,0,7]) rfl (by decide) c;exact ⟨_,rfl,_,_,rfl,rfl,(by show (0:Int) < 8; decide),l,_,_,.int y,rfl,rfl,JC.of Ji,hy,q _ _ y0 y1 (Jh.upd hl)⟩
theorem Jts (T:Txt K mg):JK P w K mg base YB 1 T.Jnl T.JkV ["_law_cell"] Js1:=by
 refine T.JnC.F.ok Jte (fun vs H Q E h=>?_) (fun cdv A outer s H vs Q E hr h=>?_)
 ·obtain ⟨_,rfl,_⟩:=h;rfl
 ·obtain ⟨c,rfl,q⟩:=h;refine ⟨_,(@Jd _ _ _ _ _ (@JH _ _ _ _ _ _ _ _ (@Js _ _ _ _ _ _ _ _ (@Yg _) (@Jm _ _ _ _ _ _ _ _ (@JV _) (@Jm _ _ _ _ _ _ _ _ (@YU _) (@pv _ 0 _ _ rfl (.inl rfl) rfl rfl) (@Je _ _ _ _)) (@Je _ _ _ _)) (@Je _ _ _ _) (JE _)) (@Jg _ _ _ (@Jn _ _ _ _ (@Jm _ _ _ _ _ _ _ _ (@JV _) (@Jm _ _ _ _ _ _ _ _ (@YU _) (@pv _ 0 _ _ rfl (.inl rfl) rfl rfl) (@Je _ _ _ _)) (@Je _ _ _ _)))) (@Jp _)) (@Jg _ _ _ (@Jn _ _ _ _ (@JG _ _ _ _ _ _ _ (@JU _) (@YX _ _ _ _ (@Ja _ _ _ _ _ (@Je _ _ _ _) (@Ja _ _ _ _ _ (@Je _ _ _ _) (@Ja _ _ _ _ _ (@Je _ _ _ _) (@Ja _ _ _ _ _ (@Je _ _ _ _) (@Ja _ _ _ _ _ (@Je _ _ _ _) (@Ja _ _ _ _ _ (@Je _ _ _ _) (@Ja _ _ _ _ _ (@Je _ _ _ _) (@Ja _ _ _ _ _ (@Je _ _ _ _) (@Jc _) rfl) rfl) rfl) rfl) rfl) rfl) rfl) rfl)) (@Jm _ _ _ _ _ _ _ _ (@JV _) (@pv _ 0 _ _ rfl (.inl rfl) rfl rfl) (@Je _ _ _ _)) (fun _ _=>rfl))))),?_⟩;refine ⟨_,rfl,_,_,rfl,rfl,⟨by decide,by decide⟩,_,_,rfl,rfl,(by show (0:Int) < 6; decide),rfl,_,rfl,YV (fun _=>?_) (fun _=>?_)⟩
  ·exact ⟨_,rfl,_,_,rfl,rfl,⟨by decide,by decide⟩,_,_,rfl,rfl,(by show (0:Int) < 31; decide),q _ _ (by omega) (by omega) (Jh.refl _)⟩
  ·refine ⟨by show 8≤sizeLine; decide,fun l hl=>?_⟩;obtain ⟨y,hy,y0,y1⟩:=JsH (xs:=[4,5,3,6,2,1,0,7]) rfl (by decide) c;exact ⟨_,rfl,_,_,rfl,rfl,(by show (0:Int) < 8; decide),l,_,_,.int y,rfl,rfl,JC.of Ji,hy,q _ _ y0 (by omega) (Jh.upd hl)⟩
theorem Jtq (T:Txt K mg):JK P w K mg base YB 3 T.Jnj T.JkT ["_law_ground_here", "_law_cell"] (JsX K):=by
 refine T.JnA.F.ok Jif (fun vs H Q E h=>?_) (fun cdv A outer s H vs Q E hr h=>?_)
 ·obtain ⟨_,_,_,_,_,rfl,_⟩:=h;rfl
 ·obtain ⟨t,c,ps,zs,gs,rfl,G,q⟩:=h;refine ⟨_,(@Jd _ _ _ _ _ (@Jr _ _ 2 _ _ _ _ Jif.nd rfl (Or.inl rfl) (@JG _ _ _ _ _ _ _ (@JX _) (@pv _ 0 _ _ rfl (.inl rfl) rfl rfl) (@Je _ _ _ _) (fun _ _=>rfl)) rfl (.inl rfl)) (@Jd _ _ _ _ _ (@Zn _ _ _ _ _ _ _ _ PassesOwn.never rfl (@ZL _ _ _ _ _ _ rfl T.Z3 (@Ja _ _ _ _ _ (@JF _ _ _ _ _ _ _ _ _ (@Yh _) rfl T.Zy PySem.boot_len (@Ja _ _ _ _ _ (@pv _ 2 _ _ rfl (.inl rfl) rfl rfl) (@Jc _) rfl) (by decide) (by decide) rfl rfl) (@Jc _) rfl) rfl) (@JQ _ _ 3 _ Jif.nd rfl (Or.inl rfl) (.inl rfl)) (@Jd _ _ _ _ _ (@Jr _ _ 4 _ _ _ _ Jif.nd rfl (Or.inl rfl) (@JG _ _ _ _ _ _ _ (@JU _) (@pv _ 2 _ _ rfl (.inl rfl) rfl rfl) (@Jm _ _ _ _ _ _ _ _ (@JV _) (@Jm _ _ _ _ _ _ _ _ (@J3 _) (@pv _ 1 _ _ rfl (.inl rfl) rfl rfl) (@pv _ 3 _ _ rfl (.inl rfl) rfl rfl)) (@JF _ _ _ _ _ _ _ _ _ (@Yh _) rfl T.Zy PySem.boot_len (@Ja _ _ _ _ _ (@pv _ 2 _ _ rfl (.inl rfl) rfl rfl) (@Jc _) rfl) (by decide) (by decide) rfl rfl)) (fun _ _=>rfl)) rfl (.inl rfl)) (@Jg _ _ _ (@JH _ _ _ _ _ _ _ _ (@Js _ _ _ _ _ _ _ _ (@Yg _) (@Jk _ _ _ _ _ _ _ _ _ _ _ _ _ _ _ T.Jit (JjN T) (hr.mono (by decide)) Jt (@Ja _ _ _ _ _ (@pv _ 0 _ _ rfl (.inl rfl) rfl rfl) (@Ja _ _ _ _ _ (@pv _ 4 _ _ rfl (.inl rfl) rfl rfl) (@Ja _ _ _ _ _ (@Je _ _ _ _) (@Jc _) rfl) rfl) rfl) rfl (by decide) rfl rfl) (@Jz _ _ _ _) (JE _)) (@Jg _ _ _ (@Jn _ _ _ _ (@pv _ 4 _ _ rfl (.inl rfl) rfl rfl))) (@Jp _)))) (by intro _; rfl)) (@Jg _ _ _ (@Jn _ _ _ _ (@JG _ _ _ _ _ _ _ (@JU _) (@pv _ 2 _ _ rfl (.inl rfl) rfl rfl) (@Jm _ _ _ _ _ _ _ _ (@JV _) (@pv _ 1 _ _ rfl (.inl rfl) rfl rfl) (@JF _ _ _ _ _ _ _ _ _ (@Yh _) rfl T.Zy PySem.boot_len (@Ja _ _ _ _ _ (@pv _ 2 _ _ rfl (.inl rfl) rfl rfl) (@Jc _) rfl) (by decide) (by decide) rfl rfl)) (fun _ _=>rfl)))))),?_⟩;obtain ⟨pn,pl,pg,h1,h2,h3,h4,h5⟩:=G.at_;have p1:=G.good.p1;have p2:=G.good.p2;refine ⟨_,rfl,t,_,_,.ref pn,rfl,rfl,JL.of h1,rfl,?_⟩;refine ⟨_,rfl,pn,_,rfl,.inl (JC.of h2),((ps.map V.str).length:Int),rfl,by rw [List.length_map]; omega,by rw [List.length_map]; omega,?_⟩;rw [Int.toNat_natCast];refine ZY (n:=(ps.map V.str).length) (fun i σ H2=>Jh H H2∧∃ v3 v4,σ=[some (.ref t),some (.int c),some (.ref pn),v3,v4]) ⟨Jh.refl _,none,none,rfl⟩ ?_ ?_
  ·rintro i σ H2 hi ⟨e2,v3,v4,rfl⟩;obtain ⟨p,hp,hpm⟩:=Jke p1 (c + (0 + (i:Int)));refine ⟨_,rfl,_,rfl,_,rfl,_,_,rfl,rfl,_,rfl,pn,_,rfl,.inl (JC.of (e2 _ _ h2)),_,_,rfl,rfl,(by rw [List.length_map]; omega),pn,_,_,.str p,rfl,rfl,JC.of (e2 _ _ h2),hp,?_⟩;refine ⟨_,rfl,_,rfl,t,p,1,ps,zs,gs,rfl,G.same e2,fun H3 e3=>⟨rfl,_,rfl,YV (fun _=>?_) (fun _=>?_)⟩⟩
   ·exact ⟨_,rfl,q p H3 hpm (e2.trans e3)⟩
   ·exact ⟨e2.trans e3,_,_,rfl⟩
  ·rintro σ H2 ⟨e2,v3,v4,rfl⟩;obtain ⟨p,hp,hpm⟩:=Jke p1 c;exact ⟨_,rfl,_,rfl,_,rfl,pn,_,rfl,.inl (JC.of (e2 _ _ h2)),_,_,rfl,rfl,(by rw [List.length_map]; omega),pn,_,_,.str p,rfl,rfl,JC.of (e2 _ _ h2),hp,q p H2 hpm e2⟩
end
section
variable {P:Program} {w:World} {K:PySem.W.Frag} {mg:Str→Option Value} {base:Heap}
theorem JbE (T:Txt K mg):JK P w K mg base YB 1 T.Jb1 T.Jc4 ["self", "place", "turns", "north", "south", "ribbon", "hand", "word", "heard"] (Jmo T):=by
 refine T.Jaj.F.ok Jkv (fun vs H Q E h=>?_) (fun cdv A outer s H vs Q E hr h=>?_)
 ·obtain ⟨_,_,_,_,_,_,_,_,_,_,rfl,_⟩:=h;rfl
 ·obtain ⟨x,dx,v1,v2,v3,v4,v5,v6,v7,v8,rfl,hx,q⟩:=h;refine ⟨_,(@Jd _ _ _ _ _ (@Zu _ _ _ _ _ _ _ _ (@pv _ 0 _ _ rfl (.inl rfl) rfl rfl) (@pv _ 1 _ _ rfl (.inl rfl) rfl rfl) rfl) (@Jd _ _ _ _ _ (@Zu _ _ _ _ _ _ _ _ (@pv _ 0 _ _ rfl (.inl rfl) rfl rfl) (@pv _ 2 _ _ rfl (.inl rfl) rfl rfl) rfl) (@Jd _ _ _ _ _ (@Zu _ _ _ _ _ _ _ _ (@pv _ 0 _ _ rfl (.inl rfl) rfl rfl) (@pv _ 3 _ _ rfl (.inl rfl) rfl rfl) rfl) (@Jd _ _ _ _ _ (@Zu _ _ _ _ _ _ _ _ (@pv _ 0 _ _ rfl (.inl rfl) rfl rfl) (@pv _ 4 _ _ rfl (.inl rfl) rfl rfl) rfl) (@Jd _ _ _ _ _ (@Zu _ _ _ _ _ _ _ _ (@pv _ 0 _ _ rfl (.inl rfl) rfl rfl) (@pv _ 5 _ _ rfl (.inl rfl) rfl rfl) rfl) (@Jd _ _ _ _ _ (@Zu _ _ _ _ _ _ _ _ (@pv _ 0 _ _ rfl (.inl rfl) rfl rfl) (@pv _ 6 _ _ rfl (.inl rfl) rfl rfl) rfl) (@Jd _ _ _ _ _ (@Zu _ _ _ _ _ _ _ _ (@pv _ 0 _ _ rfl (.inl rfl) rfl rfl) (@pv _ 7 _ _ rfl (.inl rfl) rfl rfl) rfl) (@Jg _ _ _ (@Zu _ _ _ _ _ _ _ _ (@pv _ 0 _ _ rfl (.inl rfl) rfl rfl) (@pv _ 8 _ _ rfl (.inl rfl) rfl rfl) rfl))))))))),?_⟩;refine ⟨_,rfl,_,rfl,x,_,dx,_,rfl,hx,T.Ju,T.YJ,by decide,?_⟩;refine ⟨_,rfl,_,rfl,x,_,dx,[("place",v1)],rfl,Ji,T.Ju,T.YI,by show 1 < 1000; decide,?_⟩;rw [Jci];refine ⟨_,rfl,_,rfl,x,_,dx,[("place",v1),("turns",v2)],rfl,Ji,T.Ju,T.YK,by show 2 < 1000; decide,?_⟩;rw [Jci];refine ⟨_,rfl,_,rfl,x,_,dx,[("place",v1),("turns",v2),("north",v3)],rfl,Ji,T.Ju,T.Zx,by show 3 < 1000; decide,?_⟩;rw [Jci];refine ⟨_,rfl,_,rfl,x,_,dx,[("place",v1),("turns",v2),("north",v3),("south",v4)],rfl,Ji,T.Ju,T.YC,by show 4 < 1000; decide,?_⟩;rw [Jci];refine ⟨_,rfl,_,rfl,x,_,dx,[("place",v1),("turns",v2),("north",v3),("south",v4),("ribbon",v5)],rfl,Ji,T.Ju,T.Z2,by show 5 < 1000; decide,?_⟩;rw [Jci];refine ⟨_,rfl,_,rfl,x,_,dx,[("place",v1),("turns",v2),("north",v3),("south",v4),("ribbon",v5),("hand",v6)],rfl,Ji,T.Ju,T.YH,by show 6 < 1000; decide,?_⟩;rw [Jci];refine ⟨_,rfl,_,rfl,x,_,dx,[("place",v1),("turns",v2),("north",v3),("south",v4),("ribbon",v5),("hand",v6),("word",v7)],rfl,Ji,T.Ju,T.Jau,by show 7 < 1000; decide,?_⟩;rw [Jci];exact q
theorem Jdl {T:Txt K mg} {H:Hp} {x dx:Addr} {v1 v2 v3 v4 v5 v6 v7 v8:V} {Q:VK} {E:XK} (nx:H x=none) (ndx:H dx=none) (q:∀ H',Jh H H'→H' x=some (.ins T.J5 dx [("place",v1),("turns",v2),("north",v3),("south",v4),("ribbon",v5),("hand",v6),("word",v7),("heard",v8)])→Q .non H') :
  Jmo T (.ref x :: ([v1,v2,v3,v4,v5,v6,v7,v8] ++ [])) (upd (upd H dx (.own x)) x (.ins T.J5 dx [])) Q E:=by
 refine ⟨x,dx,v1,v2,v3,v4,v5,v6,v7,v8,rfl,Ji,q _ (fun b u e=>?_) Ji⟩;rw [JB (JD e nx),JB (JD e nx),JB (JD e ndx)]; exact e
theorem Jhb (T:Txt K mg):JK P w K mg base YB 6 T.Jfp T.JdL ["board", "place", "turns", "north", "south", "ribbon"] (JpE T):=by
 refine T.JcO.F.ok JlY (fun vs H Q E h=>?_) (fun cdv A outer s H vs Q E hr h=>?_)
 ·obtain ⟨_,_,_,_,_,_,_,_,_,rfl,_⟩:=h;rfl
 ·obtain ⟨b,p,m,n,c,r,ps,zs,gs,rfl,B,hp,hm,q⟩:=h;refine ⟨_,(@Jd _ _ _ _ _ (@JH _ _ _ _ _ _ _ _ (@Zm _ _ _ _ _ _ (@Jag _ _ _ _ _ (@Jk _ _ _ _ _ _ _ _ _ _ _ _ _ _ _ T.Jcq (JcV T) (hr.mono (by decide)) Y7 (@Ja _ _ _ _ _ (@pv _ 0 _ _ rfl (.inl rfl) rfl rfl) (@Ja _ _ _ _ _ (@pv _ 1 _ _ rfl (.inl rfl) rfl rfl) (@Ja _ _ _ _ _ (@pv _ 2 _ _ rfl (.inl rfl) rfl rfl) (@Jc _) rfl) rfl) rfl) rfl (by decide) rfl rfl)) (by first | exact Yj _ (by decide) (by decide) | rfl)) (@Jg _ _ _ (@Jn _ _ _ _ (@JcU _ _ _ _ _ _ _ _ _ _ _ _ _ _ _ _ _ T.Jds (JbE T) (hr.mono (by decide)) rfl T.Jfy T.Jaj.b .nil Jt (@Ja _ _ _ _ _ (@pv _ 1 _ _ rfl (.inl rfl) rfl rfl) (@Ja _ _ _ _ _ (@pv _ 2 _ _ rfl (.inl rfl) rfl rfl) (@Ja _ _ _ _ _ (@pv _ 3 _ _ rfl (.inl rfl) rfl rfl) (@Ja _ _ _ _ _ (@pv _ 4 _ _ rfl (.inl rfl) rfl rfl) (@Ja _ _ _ _ _ (@pv _ 5 _ _ rfl (.inl rfl) rfl rfl) (@Ja _ _ _ _ _ (@Zo _ _ _) (@Ja _ _ _ _ _ (@Zo _ _ _) (@Ja _ _ _ _ _ (@Zo _ _ _) (@Jc _) rfl) rfl) rfl) rfl) rfl) rfl) rfl) rfl) (by decide) rfl rfl))) (@Jp _)) (@Jg _ _ _ (@Jn _ _ _ _ (@JcU _ _ _ _ _ _ _ _ _ _ _ _ _ _ _ _ _ T.Jds (JbE T) (hr.mono (by decide)) rfl T.Jfy T.Jaj.b .nil Jt (@Ja _ _ _ _ _ (@pv _ 1 _ _ rfl (.inl rfl) rfl rfl) (@Ja _ _ _ _ _ (@pv _ 2 _ _ rfl (.inl rfl) rfl rfl) (@Ja _ _ _ _ _ (@pv _ 3 _ _ rfl (.inl rfl) rfl rfl) (@Ja _ _ _ _ _ (@pv _ 4 _ _ rfl (.inl rfl) rfl rfl) (@Ja _ _ _ _ _ (@pv _ 5 _ _ rfl (.inl rfl) rfl rfl) (@Ja _ _ _ _ _ (@Jk _ _ _ _ _ _ _ _ _ _ _ _ _ _ _ T.JeG (JgV T) (hr.mono (by decide)) Y7 (@Ja _ _ _ _ _ (@pv _ 5 _ _ rfl (.inl rfl) rfl rfl) (@Jc _) rfl) rfl (by decide) rfl rfl) (@Ja _ _ _ _ _ (@Jz _ _ _ _) (@Ja _ _ _ _ _ (@Zo _ _ _) (@Jc _) rfl) rfl) rfl) rfl) rfl) rfl) rfl) rfl) (by decide) rfl rfl)))),?_⟩;have tp:=YO (B.G.p3 p hp);refine ⟨_,rfl,_,rfl,_,rfl,b,p,(m:Int),ps,zs,gs,rfl,tp,B.zl,B.B,fun z=>absurd hp z,fun _ z=>absurd ⟨by omega,by omega⟩ z,fun _ _ H1 e1=>?_⟩;have en:=Jdc (z:=p) (m:=m) (zs:=zs.map (·.2)) (gs:=gs);by_cases he:Yq (zs.map (·.2)) gs m p
  ·obtain ⟨y,hy⟩:=en.1 he;rw [hy];refine ⟨_,rfl,YD ⟨_,rfl,_,rfl,_,rfl,_,rfl,_,rfl,fun x dx nx ndx hne=>Jdl nx ndx fun H2 e2 h2=>⟨rfl,q x dx H2 (e1.free nx) (e1.trans e2) ?_⟩⟩⟩;rw [h2];show _=some (HO.ins _ dx (Mo.fs c ⟨p,m,n,r,if Yq (zs.map (·.2)) gs m p then .over else .bid⟩));rw [if_pos he]; rfl
  ·rw [en.2 he];refine ⟨_,rfl,Yo ⟨_,rfl,_,rfl,_,rfl,_,rfl,_,rfl,_,rfl,hs r,rfl,Ze r,(fun r' hr'=>?_),(fun z=>by rw [Zq] at z; cases z)⟩⟩;obtain rfl:=Zh hr';refine fun x dx nx ndx hne=>Jdl nx ndx fun H2 e2 h2=>⟨rfl,q x dx H2 (e1.free nx) (e1.trans e2) ?_⟩
   rw [h2];show _=some (HO.ins _ dx (Mo.fs c ⟨p,m,n,r,if Yq (zs.map (·.2)) gs m p then .over else .bid⟩));rw [if_neg he]; rfl
theorem Jiz (T:Txt K mg):JK P w K mg base (Zb P w) 4 T.Jcd T.JbO ["board", "place", "turns", "north", "south", "ribbon"] (JpM T):=by
 refine T.Jcg.F.ok1 Jix (fun vs H Q E h=>?_) (fun cdv A outer s H vs Q E hr h=>?_)
 ·obtain ⟨_,_,_,_,_,_,_,_,_,rfl,_⟩:=h;rfl
 ·obtain ⟨b,z,x,m,n,s,ps,zs,gs,rfl,tz,tx,B,⟨q1,q2,q3,q4⟩,q⟩:=h;refine ⟨_,(@Jd _ _ _ _ _ (@JJ _ _ _ _ (@J2 _ _ _ _ _ _ _ _ _ _ _ _ _ _ _ _ _ _ _ _ (@pv _ 0 _ _ rfl (.inl rfl) rfl rfl) T.YQ T.Yc.m (Zv T) (hr.mono (by decide)) T.Yc.b .nil Yw (@Ja _ _ _ _ _ (@pv _ 1 _ _ rfl (.inl rfl) rfl rfl) (@Jc _) rfl) rfl rfl rfl) rfl) (@Jd _ _ _ _ _ (@JJ _ _ _ _ (@Jk _ _ _ _ _ _ _ _ _ _ _ _ _ _ _ T.ZC (Z1 T) (hr.mono (by decide)) Yw (@Ja _ _ _ _ _ (@pv _ 2 _ _ rfl (.inl rfl) rfl rfl) (@Ja _ _ _ _ _ (@Ja1 _ _ _ _ _ rfl T.JaG T.JaB (by decide)) (@Jc _) rfl) rfl) rfl (by decide) rfl rfl) rfl) (@Jd _ _ _ _ _ (@JJ _ _ _ _ (@Jk _ _ _ _ _ _ _ _ _ _ _ _ _ _ _ T.Jb2 (Jgs T) (hr.mono (by decide)) Yw (@Ja _ _ _ _ _ (@pv _ 3 _ _ rfl (.inl rfl) rfl rfl) (@Ja _ _ _ _ _ (@pv _ 4 _ _ rfl (.inl rfl) rfl rfl) (@Jc _) rfl) rfl) rfl (by decide) rfl rfl) rfl) (@Jg _ _ _ (@JJ _ _ _ _ (@Jk _ _ _ _ _ _ _ _ _ _ _ _ _ _ _ T.JaI (JbZ T) (hr.mono (by decide)) Yw (@Ja _ _ _ _ _ (@pv _ 5 _ _ rfl (.inl rfl) rfl rfl) (@Jc _) rfl) rfl (by decide) rfl rfl) rfl))))),?_⟩;obtain ⟨bdx,tp,tl,tg,hb,_⟩:=id B.B;refine ⟨_,rfl,b,bdx,_,rfl,hb,rfl,_,rfl,b,z,ps,zs,gs,rfl,tz,B.B,fun hz=>?_,q1⟩;refine ⟨_,rfl,m,30,rfl,⟨by decide,by decide⟩,fun hm=>?_,q2 hz⟩;refine ⟨_,rfl,_,rfl,n,s,rfl,fun hc=>?_,q3 hz hm⟩;exact ⟨_,rfl,x,rfl,tx,fun hx=>q ⟨hz,hm,hc,hx⟩,q4 hz hm hc⟩
theorem YY.bk {C CB C' dx:Addr} {H H':Hp} {k b g:Addr} {ps:List Str} {zs:List (V×(Str×Str))} {gs:List Str} {c:Int} {t n:Nat} {fs:List (Str×V)} (h:Bk K C CB H k b ps zs gs c t n) (e:YY g H H') (hg:H g=some (.ins C' dx fs)) (h1:g≠k) (h2:g≠b):Bk K C CB H' k b ps zs gs c t n :=
 ⟨YY.bd h.B e hg h2,h.c0,h.c1,h.t1,let ⟨dx,l,rs,k1,k2,k3,k4⟩:=h.at_; ⟨dx,l,rs,e _ _ (fun z=>h1 z.symm) k1,e _ _ (Jat k2 hg (fun z=>nomatch z)) k2,k3,fun i a q=>let ⟨kvs,r1,r2⟩:=k4 i a q; ⟨kvs,e _ _ (Jat r1 hg (fun z=>nomatch z)) r1,r2⟩⟩⟩
theorem JmW (T:Txt K mg):JK P w K mg base (Zb P w) 9 T.Jdm T.Jfm ["self", "board", "place", "turns", "north", "south", "ribbon"] (Jmp T):=by
 refine T.Jgj.F.ok1 Jmz (fun vs H Q E h=>?_) (fun cdv A outer s H vs Q E hr h=>?_)
 ·obtain ⟨_,_,_,_,_,_,_,_,_,_,_,rfl,_⟩:=h;rfl
 ·obtain ⟨g,b,dx,z,x,m,n,s,ps,zs,gs,rfl,hg,hgb,tz,tx,B,hE,q⟩:=h;have szl:sizeLine=16777216:=sizeLine_eq;refine ⟨_,(@Jd _ _ _ _ _ (@JJ _ _ _ _ (@Jk _ _ _ _ _ _ _ _ _ _ _ _ _ _ _ T.Jcg (Jiz T) (hr.mono (by decide)) Yw (@Ja _ _ _ _ _ (@pv _ 1 _ _ rfl (.inl rfl) rfl rfl) (@Ja _ _ _ _ _ (@pv _ 2 _ _ rfl (.inl rfl) rfl rfl) (@Ja _ _ _ _ _ (@pv _ 3 _ _ rfl (.inl rfl) rfl rfl) (@Ja _ _ _ _ _ (@pv _ 4 _ _ rfl (.inl rfl) rfl rfl) (@Ja _ _ _ _ _ (@pv _ 5 _ _ rfl (.inl rfl) rfl rfl) (@Ja _ _ _ _ _ (@pv _ 6 _ _ rfl (.inl rfl) rfl rfl) (@Jc _) rfl) rfl) rfl) rfl) rfl) rfl) rfl (by decide) rfl rfl) rfl) (@Jd _ _ _ _ _ (@Zu _ _ _ _ _ _ _ _ (@pv _ 0 _ _ rfl (.inl rfl) rfl rfl) (@pv _ 1 _ _ rfl (.inl rfl) rfl rfl) rfl) (@Jd _ _ _ _ _ (@Zu _ _ _ _ _ _ _ _ (@pv _ 0 _ _ rfl (.inl rfl) rfl rfl) (@JcU _ _ _ _ _ _ _ _ _ _ _ _ _ _ _ _ _ T.Jn4 (JmY T) (hr.mono (by decide)) rfl T.JqU T.Jgk.b .nil Y7 (@Ja _ _ _ _ _ (@pv _ 1 _ _ rfl (.inl rfl) rfl rfl) (@Ja _ _ _ _ _ (@Jm _ _ _ _ _ _ _ _ (@J3 _) (@pv _ 4 _ _ rfl (.inl rfl) rfl rfl) (@pv _ 5 _ _ rfl (.inl rfl) rfl rfl)) (@Ja _ _ _ _ _ (@pv _ 3 _ _ rfl (.inl rfl) rfl rfl) (@Jc _) rfl) rfl) rfl) (by decide) rfl rfl) rfl) (@Jd _ _ _ _ _ (@Zu _ _ _ _ _ _ _ _ (@pv _ 0 _ _ rfl (.inl rfl) rfl rfl) (@YX _ _ _ _ (@Jc _)) rfl) (@Jg _ _ _ (@Zu _ _ _ _ _ _ _ _ (@pv _ 0 _ _ rfl (.inl rfl) rfl rfl) (@YX _ _ _ _ (@Ja _ _ _ _ _ (@Jk _ _ _ _ _ _ _ _ _ _ _ _ _ _ _ T.JcO (Jhb T) (hr.mono (by decide)) Jt (@Ja _ _ _ _ _ (@pv _ 1 _ _ rfl (.inl rfl) rfl rfl) (@Ja _ _ _ _ _ (@pv _ 2 _ _ rfl (.inl rfl) rfl rfl) (@Ja _ _ _ _ _ (@pv _ 3 _ _ rfl (.inl rfl) rfl rfl) (@Ja _ _ _ _ _ (@pv _ 4 _ _ rfl (.inl rfl) rfl rfl) (@Ja _ _ _ _ _ (@pv _ 5 _ _ rfl (.inl rfl) rfl rfl) (@Ja _ _ _ _ _ (@pv _ 6 _ _ rfl (.inl rfl) rfl rfl) (@Jc _) rfl) rfl) rfl) rfl) rfl) rfl) rfl (by decide) rfl rfl) (@Jc _) rfl)) rfl)))))),?_⟩;refine ⟨_,rfl,_,rfl,_,rfl,_,rfl,_,rfl,_,rfl,b,z,x,m,n,s,ps,zs,gs,rfl,tz,tx,B,hE,fun ⟨hz,hm,hc,hx⟩=>?_⟩;obtain ⟨r,rfl⟩:=JeE hx;have q:=q hz hm hc r rfl;obtain ⟨m,rfl⟩:∃ j:Nat,m=(j:Int):=⟨m.toNat,by omega⟩
  rw [Int.toNat_natCast] at q;have hcn:0≤n∧0≤s∧n + s≤20:=hc;refine ⟨_,rfl,_,rfl,g,_,dx,_,rfl,hg,T.JM,T.JaW,by decide,?_⟩;have b1:YY g H (upd H g (.ins T.JZ dx (Yr "board" (.ref b) []))):=YY.put;have h1:upd H g (.ins T.JZ dx (Yr "board" (.ref b) [])) g=some (.ins T.JZ dx [("board",.ref b)]):=Ji;generalize upd H g (.ins T.JZ dx (Yr "board" (.ref b) []))=H1 at b1 h1;have B1:Bd K T.JP H1 b ps zs gs:=YY.bd B b1 hg hgb;refine ⟨_,rfl,_,rfl,_,rfl,_,_,rfl,rfl,_,rfl,fun k dk nk ndk hne=>Jqh B1 ⟨by omega,by omega⟩ ⟨by omega,by omega⟩ nk ndk fun H2 e2 Bk2=>⟨rfl,?_⟩⟩;rw [Int.toNat_natCast] at Bk2;have gk:g≠k:=JD h1 nk;have h2:=e2 _ _ h1;have b2:=b1.trans (YY.of e2);refine ⟨_,rfl,g,_,dx,_,rfl,h2,T.JM,T.Je4,by show 1 < 1000; decide,?_⟩;have h3:upd H2 g (.ins T.JZ dx (Yr "book" (.ref k) [("board",.ref b)])) g=some (.ins T.JZ dx [("board",.ref b),("book",.ref k)]):=Ji;have c3:YY g H2 (upd H2 g (.ins T.JZ dx (Yr "book" (.ref k) [("board",.ref b)]))):=YY.put;generalize upd H2 g (.ins T.JZ dx (Yr "book" (.ref k) [("board",.ref b)]))=H3 at h3 c3;have b3:=b2.trans c3;have Bk3:=YY.bk Bk2 c3 h2 gk hgb;refine ⟨by show 0≤sizeLine; decide,fun ld nld=>?_⟩;have gld:g≠ld:=JD h3 nld;refine ⟨_,rfl,g,_,dx,_,rfl,(Jh.upd nld) _ _ h3,T.JM,T.JaF,by show 2 < 1000; decide,?_⟩;have h4:upd (upd H3 ld (.lst [])) g (.ins T.JZ dx (Yr "done" (.ref ld) [("board",.ref b),("book",.ref k)])) g=some (.ins T.JZ dx [("board",.ref b),("book",.ref k),("done",.ref ld)]):=Ji;have d4:upd (upd H3 ld (.lst [])) g (.ins T.JZ dx (Yr "done" (.ref ld) [("board",.ref b),("book",.ref k)])) ld=some (.lst []):=by rw [JB (fun z=>gld z.symm),Ji]
  have c4:YY g H3 (upd (upd H3 ld (.lst [])) g (.ins T.JZ dx (Yr "done" (.ref ld) [("board",.ref b),("book",.ref k)]))):=(YY.of (Jh.upd nld)).trans YY.put;generalize upd (upd H3 ld (.lst [])) g (.ins T.JZ dx (Yr "done" (.ref ld) [("board",.ref b),("book",.ref k)]))=H4 at h4 d4 c4;have Bk4:=YY.bk Bk3 c4 h3 gk hgb;refine ⟨_,rfl,_,rfl,_,rfl,_,rfl,_,rfl,_,rfl,b,z,m,n,n + s,r,ps,zs,gs,(by rw [show n + s - n=s by omega]; rfl),Bk4.B,hz,by omega,fun a dxa H5 na e5 ha=>?_⟩;refine ⟨by show 1≤sizeLine; decide,fun lm nlm=>?_⟩;refine ⟨_,rfl,g,_,dx,_,rfl,(Jh.upd nlm) _ _ (e5 _ _ h4),T.JM,T.Yp,by show 3 < 1000; decide,?_⟩;have h5:=e5 _ _ h4;have glm:g≠lm:=JD h5 nlm;have dlm:ld≠lm:=JD (e5 _ _ d4) nlm;have ag:a≠g:=fun z=>by rw [z,h4] at na; cases na
  have alm:a≠lm:=JD ha nlm;have n4lm:H4 lm=none:=e5.free nlm;let S:Hp:=upd H3 g (.ins T.JZ dx [("board",.ref b),("book",.ref k),("done",.ref ld),("moments",.ref lm)]);have h6:upd (upd H5 lm (.lst [.ref a])) g (.ins T.JZ dx (Yr "moments" (.ref lm) [("board",.ref b),("book",.ref k),("done",.ref ld)])) g=some (.ins T.JZ dx [("board",.ref b),("book",.ref k),("done",.ref ld),("moments",.ref lm)]):=Ji;refine q ⟨S,g,b,k,ld,lm,ps,zs,gs,n + s,m⟩ a _ rfl rfl rfl rfl rfl rfl rfl (b3.trans YY.put) ⟨fun b' u e=>?_,YY.bk Bk3 YY.put h3 gk hgb,⟨dx,Ji⟩,?_,?_,dlm,?_,?_,(fun d hd=>nomatch hd),fun y hy=>?_,fun y hy=>?_⟩
  ·by_cases hbg:b'=g
   ·subst hbg;have e:upd H3 b' _ b'=some u:=e;rw [Ji] at e;rw [h6]; exact e
   ·have e:upd H3 g _ b'=some u:=e;rw [JB hbg] at e;rw [JB hbg];exact (Jh.upd nlm) _ _ (e5 _ _ (c4 _ _ hbg e))
  ·show upd H3 g _ ld=none;rw [JB (fun z=>gld z.symm)]; exact nld
  ·show upd H3 g _ lm=none;rw [JB (fun z=>glm z.symm)];cases hq:H3 lm with
   | none=>rfl
   | some u=>rw [c4 _ _ (fun z=>glm z.symm) hq] at n4lm; cases n4lm
  ·rw [JB (fun z=>gld z.symm)]; exact (Jh.upd nlm) _ _ (e5 _ _ d4)
  ·rw [JB (fun z=>glm z.symm),Ji]; rfl
  ·rw [List.mem_singleton.mp hy];refine ⟨dxa,?_⟩;rw [JB ag]; exact (Jh.upd nlm) _ _ ha
  ·rw [List.mem_singleton.mp hy]; exact JjW hz (Nat.le_refl _) ⟨hcn.1,by show n≤n + s; omega⟩
theorem Ji1 (T:Txt K mg):JK P w K mg base YB 1 T.JcJ T.Jcb ["self"] (JpI T):=by
 refine T.Jbi.F.ok JeN (fun vs H Q E h=>?_) (fun cdv A outer s H vs Q E hr h=>?_)
 ·obtain ⟨_,_,_,_,_,rfl,_⟩:=h;rfl
 ·obtain ⟨G,ds,ms,a,x,rfl,A0,q⟩:=h;refine ⟨_,(@Jd _ _ _ _ _ (@Jr _ _ 1 _ _ _ _ JeN.nd rfl (Or.inl rfl) (@JG _ _ _ _ _ _ _ (@JU _) (@Jw _ _ _ _ _ (@pv _ 0 _ _ rfl (.inl rfl) rfl rfl) rfl) (@Jcx _ _ _ _ _ _ (@Jbk _) (@Je _ _ _ _)) (fun _ _=>rfl)) rfl (.inl rfl)) (@Jg _ _ _ (@Jn _ _ _ _ (@Yn _ _ _ _ _ (@Ja _ _ _ _ _ (@Jw _ _ _ _ _ (@pv _ 1 _ _ rfl (.inl rfl) rfl rfl) rfl) (@Ja _ _ _ _ _ (@Jw _ _ _ _ _ (@pv _ 1 _ _ rfl (.inl rfl) rfl rfl) rfl) (@Ja _ _ _ _ _ (@Jw _ _ _ _ _ (@pv _ 1 _ _ rfl (.inl rfl) rfl rfl) rfl) (@Ja _ _ _ _ _ (@Jw _ _ _ _ _ (@pv _ 1 _ _ rfl (.inl rfl) rfl rfl) rfl) (@Ja _ _ _ _ _ (@Jw _ _ _ _ _ (@pv _ 1 _ _ rfl (.inl rfl) rfl rfl) rfl) (@Jc _) rfl) rfl) rfl) rfl) rfl))))),?_⟩;obtain ⟨dx,hg⟩:=A0.gi;have hm:=A0.hm;rw [List.map_append] at hm;obtain ⟨dm,ha⟩:=A0.mt (a,x) (List.mem_append_right _ (List.mem_singleton.mpr rfl));have ha:H a=some (.ins T.J5 dm (x.fs G.c)):=ha;refine ⟨_,rfl,G.g,_,dx,_,.ref G.lm,rfl,A0.sm _ _ hg,T.JM,T.Yp,rfl,_,rfl,G.lm,_,_,.ref a,rfl,rfl,JC.of hm,Jab,?_⟩;refine ⟨_,rfl,a,_,dm,_,.str x.p,rfl,ha,T.Ju,T.YJ,rfl,_,rfl,a,_,dm,_,.int (x.m:Int),rfl,ha,T.Ju,T.YI,rfl,_,rfl,a,_,dm,_,.int x.n,rfl,ha,T.Ju,T.YK,rfl,_,rfl,a,_,dm,_,.int (G.c - x.n),rfl,ha,T.Ju,T.Zx,rfl,_,rfl,a,_,dm,_,.str (hs x.r),rfl,ha,T.Ju,T.YC,rfl,by show 5≤sizeLine; decide,fun t nt=>q t _ (Jh.upd nt) Ji⟩
theorem Jdk (T:Txt K mg):JK P w K mg base YB 1 T.Jg3 T.Jf9 ["self"] (Js6 T):=by
 refine T.ZK.F.ok JiC (fun vs H Q E h=>?_) (fun cdv A outer s H vs Q E hr h=>?_)
 ·obtain ⟨_,_,_,_,_,rfl,_⟩:=h;rfl
 ·obtain ⟨G,ds,ms,a,x,rfl,A0,q1,q2⟩:=h;refine ⟨_,(@Jd _ _ _ _ _ (@Jr _ _ 1 _ _ _ _ JiC.nd rfl (Or.inl rfl) (@JG _ _ _ _ _ _ _ (@JU _) (@Jw _ _ _ _ _ (@pv _ 0 _ _ rfl (.inl rfl) rfl rfl) rfl) (@Jcx _ _ _ _ _ _ (@Jbk _) (@Je _ _ _ _)) (fun _ _=>rfl)) rfl (.inl rfl)) (@Jg _ _ _ (@Jn _ _ _ _ (@Jb9 _ _ _ _ _ _ _ _ (@Zm _ _ _ _ _ _ (@JaD _ _ _ _ _ (@Jw _ _ _ _ _ (@pv _ 1 _ _ rfl (.inl rfl) rfl rfl) rfl)) (by first | exact Yj _ (by decide) (by decide) | rfl)) (@Zo _ _ _) (@Yn _ _ _ _ _ (@Ja _ _ _ _ _ (@Jw _ _ _ _ _ (@pv _ 1 _ _ rfl (.inl rfl) rfl rfl) rfl) (@Ja _ _ _ _ _ (@Jw _ _ _ _ _ (@pv _ 1 _ _ rfl (.inl rfl) rfl rfl) rfl) (@Jc _) rfl) rfl)))))),?_⟩;obtain ⟨dx,hg⟩:=A0.gi;have hm:=A0.hm;rw [List.map_append] at hm;obtain ⟨dm,ha⟩:=A0.mt (a,x) (List.mem_append_right _ (List.mem_singleton.mpr rfl));have ha:H a=some (.ins T.J5 dm (x.fs G.c)):=ha;refine ⟨_,rfl,G.g,_,dx,_,.ref G.lm,rfl,A0.sm _ _ hg,T.JM,T.Yp,rfl,_,rfl,G.lm,_,_,.ref a,rfl,rfl,JC.of hm,Jab,?_⟩;refine ⟨_,rfl,a,_,dm,_,x.word,rfl,ha,T.Ju,T.YH,rfl,?_⟩;by_cases ho:x.ph=.over
  ·have hw:x.word=.non:=by unfold Mo.word; rw [ho]
   rw [hw];exact ⟨_,rfl,YD (q1 ho)⟩
  ·have hw:∃ y,x.word=.str y:=by
    unfold Mo.word;cases hp:x.ph with
    | over=>exact absurd hp ho
    | bid=>exact ⟨_,rfl⟩
    | ans b=>exact ⟨_,rfl⟩
    | step h=>exact ⟨_,rfl⟩
   obtain ⟨y,hw⟩:=hw;have e1:(match x.word with | .non=>true | _=>false)=false:=by rw [hw]
   rw [hw];refine ⟨_,rfl,Yo ⟨_,rfl,a,_,dm,_,x.hand,rfl,ha,T.Ju,T.Z2,rfl,_,rfl,a,_,dm,_,x.word,rfl,ha,T.Ju,T.YH,rfl,by show 2≤sizeLine; decide,fun t nt=>q2 ho t _ (Jh.upd nt) Ji⟩⟩
theorem Jhc (T:Txt K mg):JK P w K mg base YB 1 T.Jfs T.JdO ["self"] (JpK T):=by
 refine T.JaJ.F.ok Jl1 (fun vs H Q E h=>?_) (fun cdv A outer s H vs Q E hr h=>?_)
 ·obtain ⟨_,_,_,_,_,rfl,_⟩:=h;rfl
 ·obtain ⟨G,ds,ms,a,x,rfl,A0,q⟩:=h;refine ⟨_,(@Jg _ _ _ (@Jn _ _ _ _ (@Jw _ _ _ _ _ (@JG _ _ _ _ _ _ _ (@JU _) (@Jw _ _ _ _ _ (@pv _ 0 _ _ rfl (.inl rfl) rfl rfl) rfl) (@Jcx _ _ _ _ _ _ (@Jbk _) (@Je _ _ _ _)) (fun _ _=>rfl)) rfl))),?_⟩;obtain ⟨dx,hg⟩:=A0.gi;have hm:=A0.hm;rw [List.map_append] at hm;obtain ⟨dm,ha⟩:=A0.mt (a,x) (List.mem_append_right _ (List.mem_singleton.mpr rfl));have ha:H a=some (.ins T.J5 dm (x.fs G.c)):=ha;exact ⟨_,rfl,G.g,_,dx,_,.ref G.lm,rfl,A0.sm _ _ hg,T.JM,T.Yp,rfl,_,rfl,G.lm,_,_,.ref a,rfl,rfl,JC.of hm,Jab,a,_,dm,_,x.heard,rfl,ha,T.Ju,T.Jau,rfl,q⟩
theorem Jl8 (T:Txt K mg):JK P w K mg base YB 1 T.Jfu T.JdQ ["self"] (JpL T):=by
 refine T.JcP.F.ok Jl3 (fun vs H Q E h=>?_) (fun cdv A outer s H vs Q E hr h=>?_)
 ·obtain ⟨_,_,_,rfl,_⟩:=h;rfl
 ·obtain ⟨G,ds,ms,rfl,A0,q⟩:=h;refine ⟨_,(@Jg _ _ _ (@Jn _ _ _ _ (@ZM _ _ _ _ _ _ _ _ _ (@ZS _) rfl T.Ja2 PyProof.Rows.boot_tuple (@Ja _ _ _ _ _ (@Jw _ _ _ _ _ (@pv _ 0 _ _ rfl (.inl rfl) rfl rfl) rfl) (@Jc _) rfl) (by decide) (by decide) rfl rfl))),?_⟩;obtain ⟨dx,hg⟩:=A0.gi;exact ⟨_,rfl,G.g,_,dx,_,.ref G.ld,rfl,A0.sm _ _ hg,T.JM,T.JaF,rfl,G.ld,_,rfl,.inl ⟨JC.of A0.hd,fun t nt=>q t _ (Jh.upd nt) Ji⟩⟩
theorem JcA (T:Txt K mg):JK P w K mg base YB 5 T.Jgf T.Jfl ["self"] (Jrl T):=by
 refine T.Zs.F.ok Jhm (fun vs H Q E h=>?_) (fun cdv A outer s H vs Q E hr h=>?_)
 ·obtain ⟨_,_,_,_,_,rfl,_⟩:=h;rfl
 ·obtain ⟨G,ds,ms,a,x,rfl,A0,q⟩:=h;refine ⟨_,(@Jd _ _ _ _ _ (@Jr _ _ 1 _ _ _ _ Jhm.nd rfl (Or.inl rfl) (@JG _ _ _ _ _ _ _ (@JU _) (@Jw _ _ _ _ _ (@pv _ 0 _ _ rfl (.inl rfl) rfl rfl) rfl) (@Jcx _ _ _ _ _ _ (@Jbk _) (@Je _ _ _ _)) (fun _ _=>rfl)) rfl (.inl rfl)) (@Jg _ _ _ (@Jn _ _ _ _ (@Jk _ _ _ _ _ _ _ _ _ _ _ _ _ _ _ T.Jcq (JcV T) (hr.mono (by decide)) Y7 (@Ja _ _ _ _ _ (@Jw _ _ _ _ _ (@pv _ 0 _ _ rfl (.inl rfl) rfl rfl) rfl) (@Ja _ _ _ _ _ (@Jw _ _ _ _ _ (@pv _ 1 _ _ rfl (.inl rfl) rfl rfl) rfl) (@Ja _ _ _ _ _ (@Jw _ _ _ _ _ (@pv _ 1 _ _ rfl (.inl rfl) rfl rfl) rfl) (@Jc _) rfl) rfl) rfl) rfl (by decide) rfl rfl)))),?_⟩;obtain ⟨dx,hg⟩:=A0.gi;have hm:=A0.hm;rw [List.map_append] at hm;obtain ⟨dm,ha⟩:=A0.mt (a,x) (List.mem_append_right _ (List.mem_singleton.mpr rfl));have ha:H a=some (.ins T.J5 dm (x.fs G.c)):=ha;have ok:=A0.mo (a,x) (List.mem_append_right _ (List.mem_singleton.mpr rfl));have okp:x.p∈G.ps:=ok.p;have okm:x.m≤G.T:=ok.m;have t1:=A0.bk.t1;have B:=A0.bk.B.same A0.sm;refine ⟨_,rfl,G.g,_,dx,_,.ref G.lm,rfl,A0.sm _ _ hg,T.JM,T.Yp,rfl,_,rfl,G.lm,_,_,.ref a,rfl,rfl,JC.of hm,Jab,?_⟩;exact ⟨_,rfl,G.g,_,dx,_,.ref G.b,rfl,A0.sm _ _ hg,T.JM,T.JaW,rfl,_,rfl,a,_,dm,_,.str x.p,rfl,ha,T.Ju,T.YJ,rfl,_,rfl,a,_,dm,_,.int (x.m:Int),rfl,ha,T.Ju,T.YI,rfl,G.b,x.p,(x.m:Int),G.ps,G.zs,G.gs,rfl,YO (B.G.p3 _ okp),B.zl,B.B,fun z=>absurd okp z,fun _ z=>absurd ⟨by omega,by omega⟩ z,fun _ _ H1 e1=>q H1 e1⟩
theorem JbN (T:Txt K mg):JK P w K mg base (Zb P w) 2 T.Jce T.JbP ["self", "hand", "word"] (Js9 T):=by
 refine T.Y6.F.ok1 Jiy (fun vs H Q E h=>?_) (fun cdv A outer s H vs Q E hr h=>?_)
 ·obtain ⟨_,_,_,_,_,_,_,rfl,_⟩:=h;rfl
 ·obtain ⟨G,ds,ms,a,x,z,w,rfl,A0,tz,lw,q1,q2⟩:=h;have szl:sizeLine=16777216:=sizeLine_eq;refine ⟨_,(@Jg _ _ _ (@JH _ _ _ _ _ _ _ _ (@Js _ _ _ _ _ _ _ _ (@Juo _ hr.units0) (@Zc _ _ _ _ _ _ _ _ _ _ _ _ _ _ _ _ _ (@pv _ 0 _ _ rfl (.inl rfl) rfl rfl) T.JM T.ZK.m (Jdk T) (hr.mono (by decide)) T.ZK.b .nil Jt rfl) (@Yn _ _ _ _ _ (@Ja _ _ _ _ _ (@pv _ 1 _ _ rfl (.inl rfl) rfl rfl) (@Ja _ _ _ _ _ (@pv _ 2 _ _ rfl (.inl rfl) rfl rfl) (@Jc _) rfl) rfl)) (JE _)) (@Jg _ _ _ (@Jbs _ _ _ _ _ _ _ _ _ T.Y3 T.Jjm Jck (@Jex _ _ _ _ _ _ (PJ.cons (@JgT _ _ _ _ (@pv _ 1 _ _ rfl (.inl rfl) rfl rfl)) (PJ.cons (@Jz _ _ _ _) (PJ.cons (@Jtk _ _ _ _ (@pv _ 2 _ _ rfl (.inl rfl) rfl rfl)) PJ.nil))) rfl) rfl rfl (by decide) rfl)) (@Jp _))),?_⟩;obtain ⟨dx,hg⟩:=A0.gi;have hz:=JfF tz;have e1:(Str.empty ++ reprText z).length=(reprText z).length:=by rw [strLen_append]; exact Nat.zero_add _
  have l2:((Str.empty ++ reprText z) ++ " is not due to ").length≤10100:=by
   rw [strLen_append,e1]; exact Nat.le_trans (Nat.add_le_add_right hz _) (by decide)
  have l3:(((Str.empty ++ reprText z) ++ " is not due to ") ++ w).length≤sizeLine:=by rw [strLen_append]; omega
  refine ⟨_,rfl,G.g,dx,_,rfl,A0.sm _ _ hg,rfl,G,ds,ms,a,x,rfl,A0,fun ho=>?_,fun ho t H1 e1' ht=>?_⟩
  ·refine ⟨_,rfl,_,rfl,by show 2≤sizeLine; decide,fun t2 n2=>.inl ⟨t2,_,rfl,rfl,JL.of Ji,_,rfl,YD ?_⟩⟩;exact ⟨_,rfl,z,rfl,by omega,_,rfl,by rw [e1]; omega,_,rfl,by omega,_,rfl,w,rfl,by omega,_,rfl,l3,l3,q2 (fun ⟨h1,_⟩=>by unfold Mo.hand at h1; rw [ho] at h1; cases h1) _ (Jh.upd n2)⟩
  ·obtain ⟨y1,y2,hh,hw⟩:∃ y1 y2,x.hand=.str y1∧x.word=.str y2:=by
    unfold Mo.hand Mo.word;cases hp:x.ph with
    | over=>exact absurd hp ho
    | bid=>exact ⟨_,_,rfl,rfl⟩
    | ans b=>exact ⟨_,_,rfl,rfl⟩
    | step h=>exact ⟨_,_,rfl,rfl⟩
   rw [hh,hw] at ht;have s2:∀ {t2:Addr} {o:HO},H1 t2=none→Jh H (upd H1 t2 o):=fun n2=>e1'.trans (Jh.upd n2)
   refine ⟨_,rfl,_,rfl,by show 2≤sizeLine; decide,fun t2 n2=>.inr ⟨t,t2,_,_,rfl,rfl,JL.of ((Jh.upd n2) _ _ ht),JL.of Ji,rfl,rfl,_,rfl,?_⟩⟩;rw [if_pos rfl];have el:eqL [.str y1,.str y2] [.str z,.str w]=(y1 == z && y2 == w):=by
    show ((y1 == z) && ((y2 == w) && true))=_;rw [Bool.and_true]
   by_cases hd:y1=z∧y2=w
   ·refine Yb ?_ (q1 ⟨by rw [hh,hd.1],by rw [hw,hd.2]⟩ _ (s2 n2));rw [el,hd.1,hd.2,beq_self_eq_true,beq_self_eq_true]; rfl
   ·refine YF ?_ ⟨_,rfl,z,rfl,by omega,_,rfl,by rw [e1]; omega,_,rfl,by omega,_,rfl,w,rfl,by omega,_,rfl,l3,l3,q2 (fun ⟨h1,h2⟩=>hd ⟨by rw [hh] at h1; exact V.str.inj h1,by rw [hw] at h2; exact V.str.inj h2⟩) _ (s2 n2)⟩;rw [el];cases h1:y1 == z with
    | false=>rfl
    | true =>
     cases h2:y2 == w with
     | false=>rfl
     | true=>exact absurd ⟨eq_of_beq h1,eq_of_beq h2⟩ hd
theorem JdJ (T:Txt K mg):JK P w K mg base YB 1 T.Jft T.JdP ["self", "deed", "moment"] (Js4 T):=by
 refine T.ZN.F.ok Jl2 (fun vs H Q E h=>?_) (fun cdv A outer s H vs Q E hr h=>?_)
 ·obtain ⟨_,_,_,_,_,_,_,_,rfl,_⟩:=h;rfl
 ·obtain ⟨G,ds,ms,d,a,dx,dv,x,rfl,A0,hdl,hml,hd,ha,hx,q⟩:=h;have szl:sizeLine=16777216:=sizeLine_eq;refine ⟨_,(@Jd _ _ _ _ _ (@JJ _ _ _ _ (@JbC _ _ _ _ _ _ _ _ _ _ _ _ PySem.F.plainAttrs_list PySem.F.slot_list_append PySem.F.type_list_append (@Zp _) (@Jw _ _ _ _ _ (@pv _ 0 _ _ rfl (.inl rfl) rfl rfl) rfl) (@Ja _ _ _ _ _ (@pv _ 1 _ _ rfl (.inl rfl) rfl rfl) (@Jc _) rfl) rfl rfl rfl rfl rfl) rfl) (@Jg _ _ _ (@JJ _ _ _ _ (@JbC _ _ _ _ _ _ _ _ _ _ _ _ PySem.F.plainAttrs_list PySem.F.slot_list_append PySem.F.type_list_append (@Zp _) (@Jw _ _ _ _ _ (@pv _ 0 _ _ rfl (.inl rfl) rfl rfl) rfl) (@Ja _ _ _ _ _ (@pv _ 2 _ _ rfl (.inl rfl) rfl rfl) (@Jc _) rfl) rfl rfl rfl rfl rfl) rfl))),?_⟩;obtain ⟨dg,hg⟩:=A0.gi;have gi:=A0.sm _ _ hg;have gd:G.g≠G.ld:=Jat gi A0.hd (fun z=>nomatch z);refine ⟨_,rfl,G.g,_,dg,_,.ref G.ld,rfl,gi,T.JM,T.JaF,rfl,.inl ⟨rfl,_,JC.of A0.hd⟩,_,rfl,G.ld,_,_,rfl,rfl,A0.hd,by rw [List.length_map]; omega,?_⟩;have g2:upd H G.ld (.lst (ds.map (fun d=>V.ref d.1) ++ [.ref d])) G.g=some (.ins T.JZ dg [("board",.ref G.b),("book",.ref G.k),("done",.ref G.ld),("moments",.ref G.lm)]):=by rw [JB gd]; exact gi
  have m2:upd H G.ld (.lst (ds.map (fun d=>V.ref d.1) ++ [.ref d])) G.lm=some (.lst (ms.map fun x=>V.ref x.1)):=by rw [JB (fun z=>A0.ne z.symm)]; exact A0.hm
  have mo:=A0.more (Jh.refl H) hd ha hx;exact ⟨_,rfl,G.g,_,dg,_,.ref G.lm,rfl,g2,T.JM,T.Yp,rfl,.inl ⟨rfl,_,JC.of m2⟩,_,rfl,G.lm,_,_,rfl,rfl,m2,by rw [List.length_map]; omega,q _ mo.1 mo.2⟩
end
section
variable {P:Program} {w:World} {K:PySem.W.Frag} {mg:Str→Option Value} {base:Heap}
theorem Jn1 (n c:Int) (r:Bool) (b a:Int):Jca n (c - n) r b a=[.str (hs (after n r b a).1),.int (after n r b a).2.1,.int (c - (after n r b a).2.1),.str (hs (after n r b a).2.2)]:=by
 unfold Jca after;have e1:∀ y:Int,c - n - y=c - (n + y):=fun y=>by omega
 have e2:∀ y:Int,c - n + y=c - (n - y):=fun y=>by omega
 by_cases h1:b > a
 ·rw [if_pos h1,if_pos h1]; cases r <;> simp [e1,e2]
 ·rw [if_neg h1,if_neg h1];by_cases h2:a > b
  ·rw [if_pos h2,if_pos h2]; cases r <;> simp [e1,e2]
  ·rw [if_neg h2,if_neg h2]; cases r <;> simp [e1,e2]
theorem JhG {x:Mo} {z:Str}:(x.hand=.str z∧x.word=.str "bid")↔(x.ph=.bid∧z=hs (!x.r)):=by
 unfold Mo.hand Mo.word;constructor
 ·rintro ⟨h1,h2⟩;cases hp:x.ph with
  | over=>rw [hp] at h1; cases h1
  | bid=>rw [hp] at h1; exact ⟨rfl,(V.str.inj h1).symm⟩
  | ans b=>rw [hp] at h2; exact absurd (V.str.inj h2) (by decide +kernel)
  | step h=>rw [hp] at h2; exact absurd (V.str.inj h2) (by decide +kernel)
 ·rintro ⟨h1,h2⟩;rw [h1,h2]; exact ⟨rfl,rfl⟩
theorem JhH {x:Mo} {z:Str}:(x.hand=.str z∧x.word=.str "answer")↔(∃ b,x.ph=.ans b∧z=hs x.r):=by
 unfold Mo.hand Mo.word;constructor
 ·rintro ⟨h1,h2⟩;cases hp:x.ph with
  | over=>rw [hp] at h1; cases h1
  | bid=>rw [hp] at h2; exact absurd (V.str.inj h2) (by decide +kernel)
  | ans b=>rw [hp] at h1; exact ⟨b,rfl,(V.str.inj h1).symm⟩
  | step h=>rw [hp] at h2; exact absurd (V.str.inj h2) (by decide +kernel)
 ·rintro ⟨b,h1,h2⟩;rw [h1,h2]; exact ⟨rfl,rfl⟩
theorem Jgv {x:Mo} {z:Str}:(x.hand=.str z∧x.word=.str "step")↔(∃ h,x.ph=.step h∧z=hs h):=by
 unfold Mo.hand Mo.word;constructor
 ·rintro ⟨h1,h2⟩;cases hp:x.ph with
  | over=>rw [hp] at h1; cases h1
  | bid=>rw [hp] at h2; exact absurd (V.str.inj h2) (by decide +kernel)
  | ans b=>rw [hp] at h2; exact absurd (V.str.inj h2) (by decide +kernel)
  | step h=>rw [hp] at h1; exact ⟨h,rfl,(V.str.inj h1).symm⟩
 ·rintro ⟨h,h1,h2⟩;rw [h1,h2]; exact ⟨rfl,rfl⟩
theorem JnL (T:Txt K mg):JK P w K mg base (Zb P w) 4 T.Jg4 T.Jga ["self", "hand", "coins"] (Js7 T):=by
 refine T.Jer.F.ok1 JfY (fun vs H Q E h=>?_) (fun cdv A outer s H vs Q E hr h=>?_)
 ·obtain ⟨_,_,_,_,_,_,_,rfl,_⟩:=h;rfl
 ·obtain ⟨G,ds,ms,a,x,z,y,rfl,A0,hdl,hml,tz,q1,q2,q⟩:=h;refine ⟨_,(@Jd _ _ _ _ _ (@JJ _ _ _ _ (@J2 _ _ _ _ _ _ _ _ _ _ _ _ _ _ _ _ _ _ _ _ (@pv _ 0 _ _ rfl (.inl rfl) rfl rfl) T.JM T.Y6.m (JbN T) (hr.mono (by decide)) T.Y6.b .nil Yw (@Ja _ _ _ _ _ (@pv _ 1 _ _ rfl (.inl rfl) rfl rfl) (@Ja _ _ _ _ _ (@Jz _ _ _ _) (@Jc _) rfl) rfl) rfl rfl rfl) rfl) (@Jd _ _ _ _ _ (@Jr _ _ 3 _ _ _ _ JfY.nd rfl (Or.inl rfl) (@JG _ _ _ _ _ _ _ (@JU _) (@Jw _ _ _ _ _ (@pv _ 0 _ _ rfl (.inl rfl) rfl rfl) rfl) (@Jcx _ _ _ _ _ _ (@Jbk _) (@Je _ _ _ _)) (fun _ _=>rfl)) rfl (.inl rfl)) (@Jd _ _ _ _ _ (@JJ _ _ _ _ (@Jk _ _ _ _ _ _ _ _ _ _ _ _ _ _ _ T.Ja3 (Jcz T) (hr.mono (by decide)) Yw (@Ja _ _ _ _ _ (@pv _ 2 _ _ rfl (.inl rfl) rfl rfl) (@Ja _ _ _ _ _ (@Jk _ _ _ _ _ _ _ _ _ _ _ _ _ _ _ T.JaQ (JbV T) (hr.mono (by decide)) Jt (@Ja _ _ _ _ _ (@pv _ 1 _ _ rfl (.inl rfl) rfl rfl) (@Ja _ _ _ _ _ (@Jw _ _ _ _ _ (@pv _ 3 _ _ rfl (.inl rfl) rfl rfl) rfl) (@Ja _ _ _ _ _ (@Jw _ _ _ _ _ (@pv _ 3 _ _ rfl (.inl rfl) rfl rfl) rfl) (@Jc _) rfl) rfl) rfl) rfl (by decide) rfl rfl) (@Jc _) rfl) rfl) rfl (by decide) rfl rfl) rfl) (@Jd _ _ _ _ _ (@Jr _ _ 4 _ _ _ _ JfY.nd rfl (Or.inl rfl) (@JcU _ _ _ _ _ _ _ _ _ _ _ _ _ _ _ _ _ T.Jds (JbE T) (hr.mono (by decide)) rfl T.Jfy T.Jaj.b .nil Jt (@Ja _ _ _ _ _ (@Jw _ _ _ _ _ (@pv _ 3 _ _ rfl (.inl rfl) rfl rfl) rfl) (@Ja _ _ _ _ _ (@Jw _ _ _ _ _ (@pv _ 3 _ _ rfl (.inl rfl) rfl rfl) rfl) (@Ja _ _ _ _ _ (@Jw _ _ _ _ _ (@pv _ 3 _ _ rfl (.inl rfl) rfl rfl) rfl) (@Ja _ _ _ _ _ (@Jw _ _ _ _ _ (@pv _ 3 _ _ rfl (.inl rfl) rfl rfl) rfl) (@Ja _ _ _ _ _ (@Jw _ _ _ _ _ (@pv _ 3 _ _ rfl (.inl rfl) rfl rfl) rfl) (@Ja _ _ _ _ _ (@Jw _ _ _ _ _ (@pv _ 3 _ _ rfl (.inl rfl) rfl rfl) rfl) (@Ja _ _ _ _ _ (@Jz _ _ _ _) (@Ja _ _ _ _ _ (@pv _ 2 _ _ rfl (.inl rfl) rfl rfl) (@Jc _) rfl) rfl) rfl) rfl) rfl) rfl) rfl) rfl) (by decide) rfl rfl) rfl (.inl rfl)) (@Jg _ _ _ (@JJ _ _ _ _ (@J2 _ _ _ _ _ _ _ _ _ _ _ _ _ _ _ _ _ _ _ _ (@pv _ 0 _ _ rfl (.inl rfl) rfl rfl) T.JM T.ZN.m (JdJ T) (hr.mono (by decide)) T.ZN.b .nil Jt (@Ja _ _ _ _ _ (@Yn _ _ _ _ _ (@Ja _ _ _ _ _ (@pv _ 1 _ _ rfl (.inl rfl) rfl rfl) (@Ja _ _ _ _ _ (@Jz _ _ _ _) (@Ja _ _ _ _ _ (@pv _ 2 _ _ rfl (.inl rfl) rfl rfl) (@Jc _) rfl) rfl) rfl)) (@Ja _ _ _ _ _ (@pv _ 4 _ _ rfl (.inl rfl) rfl rfl) (@Jc _) rfl) rfl) rfl rfl rfl) rfl)))))),?_⟩;obtain ⟨dx,hg⟩:=A0.gi;refine ⟨_,rfl,G.g,dx,_,rfl,A0.sm _ _ hg,rfl,_,rfl,G,ds,ms,a,x,z, "bid",rfl,A0,tz,by decide,fun hd H1 e1=>?_,fun hn=>q1 (fun hb=>hn (JhG.mpr hb))⟩;obtain ⟨hp,rfl⟩:=JhG.mp hd;have A1:=A0.same e1;have hg1:=A1.sm _ _ hg;have hm:=A1.hm;rw [List.map_append] at hm;obtain ⟨dm,ha⟩:=A1.mt (a,x) (List.mem_append_right _ (List.mem_singleton.mpr rfl));have ha:H1 a=some (.ins T.J5 dm (x.fs G.c)):=ha;have ok:=A0.mo (a,x) (List.mem_append_right _ (List.mem_singleton.mpr rfl));refine ⟨_,rfl,G.g,_,dx,_,.ref G.lm,rfl,hg1,T.JM,T.Yp,rfl,_,rfl,G.lm,_,_,.ref a,rfl,rfl,JC.of hm,Jab,?_⟩;refine ⟨_,rfl,_,rfl,_,rfl,a,_,dm,_,.int x.n,rfl,ha,T.Ju,T.YK,rfl,_,rfl,a,_,dm,_,.int (G.c - x.n),rfl,ha,T.Ju,T.Zx,rfl,!x.r,x.n,G.c - x.n,rfl,y,own G.c x.n (!x.r),rfl,fun hy=>?_,fun hy=>q2 hp rfl hy H1 e1⟩;refine ⟨_,rfl,a,_,dm,_,.str x.p,rfl,ha,T.Ju,T.YJ,rfl,_,rfl,a,_,dm,_,.int (x.m:Int),rfl,ha,T.Ju,T.YI,rfl,_,rfl,a,_,dm,_,.int x.n,rfl,ha,T.Ju,T.YK,rfl,_,rfl,a,_,dm,_,.int (G.c - x.n),rfl,ha,T.Ju,T.Zx,rfl,_,rfl,a,_,dm,_,.str (hs x.r),rfl,ha,T.Ju,T.YC,rfl,_,rfl,a,_,dm,_,.str (hs x.r),rfl,ha,T.Ju,T.YC,rfl,_,rfl,fun a' dx' nx ndx hne=>Jdl nx ndx fun H2 e2 h2=>⟨rfl,?_⟩⟩;have A2:=A1.same e2;refine ⟨_,rfl,G.g,dx,_,rfl,A2.sm _ _ hg,rfl,_,rfl,_,rfl,by show 3≤sizeLine; decide,fun d nd=>⟨_,rfl,G,ds,ms ++ [(a,x)],d,a',dx',[.str (hs (!x.r)),.str "bid",.int y],⟨x.p,x.m,x.n,x.r,.ans y⟩,rfl,A2.same (Jh.upd nd),hdl,by rw [List.length_append]; show ms.length + 1≤1001; omega,Ji,(Jh.upd nd) _ _ h2,⟨ok.p,ok.m,ok.n,⟨fun z=>(nomatch z),fun z=>absurd (ok.e.mpr z) (by rw [hp]; exact fun z=>nomatch z)⟩,fun b hb=>by cases hb; exact hy⟩,fun H' c A3=>?_⟩⟩;exact q hp rfl hy d a' H' ((Z0.of ((e1.trans e2).trans (Jh.upd nd))).trans c) A3
theorem JkN (T:Txt K mg):JK P w K mg base (Zb P w) 4 T.JdZ T.Jc6 ["self", "hand", "coins"] (Joz T):=by
 refine T.Jb4.F.ok1 JaA (fun vs H Q E h=>?_) (fun cdv A outer s H vs Q E hr h=>?_)
 ·obtain ⟨_,_,_,_,_,_,_,rfl,_⟩:=h;rfl
 ·obtain ⟨G,ds,ms,a,x,z,y,rfl,A0,hdl,hml,tz,q1,q2,q⟩:=h;refine ⟨_,(@Jd _ _ _ _ _ (@JJ _ _ _ _ (@J2 _ _ _ _ _ _ _ _ _ _ _ _ _ _ _ _ _ _ _ _ (@pv _ 0 _ _ rfl (.inl rfl) rfl rfl) T.JM T.Y6.m (JbN T) (hr.mono (by decide)) T.Y6.b .nil Yw (@Ja _ _ _ _ _ (@pv _ 1 _ _ rfl (.inl rfl) rfl rfl) (@Ja _ _ _ _ _ (@Jz _ _ _ _) (@Jc _) rfl) rfl) rfl rfl rfl) rfl) (@Jd _ _ _ _ _ (@Jr _ _ 3 _ _ _ _ JaA.nd rfl (Or.inl rfl) (@JG _ _ _ _ _ _ _ (@JU _) (@Jw _ _ _ _ _ (@pv _ 0 _ _ rfl (.inl rfl) rfl rfl) rfl) (@Jcx _ _ _ _ _ _ (@Jbk _) (@Je _ _ _ _)) (fun _ _=>rfl)) rfl (.inl rfl)) (@Jd _ _ _ _ _ (@Jr _ _ 4 _ _ _ _ JaA.nd rfl (Or.inl rfl) (@Jk _ _ _ _ _ _ _ _ _ _ _ _ _ _ _ T.Jg8 (Jlu T) (hr.mono (by decide)) Yw (@Ja _ _ _ _ _ (@Jw _ _ _ _ _ (@pv _ 3 _ _ rfl (.inl rfl) rfl rfl) rfl) (@Ja _ _ _ _ _ (@Jw _ _ _ _ _ (@pv _ 3 _ _ rfl (.inl rfl) rfl rfl) rfl) (@Ja _ _ _ _ _ (@Jw _ _ _ _ _ (@pv _ 3 _ _ rfl (.inl rfl) rfl rfl) rfl) (@Ja _ _ _ _ _ (@Jw _ _ _ _ _ (@pv _ 3 _ _ rfl (.inl rfl) rfl rfl) rfl) (@Ja _ _ _ _ _ (@pv _ 2 _ _ rfl (.inl rfl) rfl rfl) (@Jc _) rfl) rfl) rfl) rfl) rfl) rfl (by decide) rfl rfl) rfl (.inl rfl)) (@Jd _ _ _ _ _ (@Jr _ _ 5 _ _ _ _ JaA.nd rfl (Or.inl rfl) (@JG _ _ _ _ _ _ _ (@JX _) (@pv _ 4 _ _ rfl (.inl rfl) rfl rfl) (@Je _ _ _ _) (fun _ _=>rfl)) rfl (.inl rfl)) (@Jd _ _ _ _ _ (@Jr _ _ 6 _ _ _ _ JaA.nd rfl (Or.inl rfl) (@JcU _ _ _ _ _ _ _ _ _ _ _ _ _ _ _ _ _ T.Jds (JbE T) (hr.mono (by decide)) rfl T.Jfy T.Jaj.b .nil Jt (@Ja _ _ _ _ _ (@Jw _ _ _ _ _ (@pv _ 3 _ _ rfl (.inl rfl) rfl rfl) rfl) (@Ja _ _ _ _ _ (@Jw _ _ _ _ _ (@pv _ 3 _ _ rfl (.inl rfl) rfl rfl) rfl) (@Ja _ _ _ _ _ (@JG _ _ _ _ _ _ _ (@JX _) (@pv _ 4 _ _ rfl (.inl rfl) rfl rfl) (@Je _ _ _ _) (fun _ _=>rfl)) (@Ja _ _ _ _ _ (@JG _ _ _ _ _ _ _ (@JX _) (@pv _ 4 _ _ rfl (.inl rfl) rfl rfl) (@Je _ _ _ _) (fun _ _=>rfl)) (@Ja _ _ _ _ _ (@JG _ _ _ _ _ _ _ (@JX _) (@pv _ 4 _ _ rfl (.inl rfl) rfl rfl) (@Je _ _ _ _) (fun _ _=>rfl)) (@Ja _ _ _ _ _ (@pv _ 5 _ _ rfl (.inl rfl) rfl rfl) (@Ja _ _ _ _ _ (@Jz _ _ _ _) (@Ja _ _ _ _ _ (@Zo _ _ _) (@Jc _) rfl) rfl) rfl) rfl) rfl) rfl) rfl) rfl) (by decide) rfl rfl) rfl (.inl rfl)) (@Jd _ _ _ _ _ (@JJ _ _ _ _ (@J2 _ _ _ _ _ _ _ _ _ _ _ _ _ _ _ _ _ _ _ _ (@pv _ 0 _ _ rfl (.inl rfl) rfl rfl) T.JM T.ZN.m (JdJ T) (hr.mono (by decide)) T.ZN.b .nil Jt (@Ja _ _ _ _ _ (@Yn _ _ _ _ _ (@Ja _ _ _ _ _ (@pv _ 1 _ _ rfl (.inl rfl) rfl rfl) (@Ja _ _ _ _ _ (@Jz _ _ _ _) (@Ja _ _ _ _ _ (@pv _ 2 _ _ rfl (.inl rfl) rfl rfl) (@Jc _) rfl) rfl) rfl)) (@Ja _ _ _ _ _ (@pv _ 6 _ _ rfl (.inl rfl) rfl rfl) (@Jc _) rfl) rfl) rfl rfl rfl) rfl) (@Jg _ _ _ (@Jn _ _ _ _ (@pv _ 5 _ _ rfl (.inl rfl) rfl rfl))))))))),?_⟩;obtain ⟨dx,hg⟩:=A0.gi;refine ⟨_,rfl,G.g,dx,_,rfl,A0.sm _ _ hg,rfl,_,rfl,G,ds,ms,a,x,z, "answer",rfl,A0,tz,by decide,fun hd H1 e1=>?_,fun hn=>q1 (fun b hb hz=>hn (JhH.mpr ⟨b,hb,hz⟩))⟩;obtain ⟨b,hp,rfl⟩:=JhH.mp hd;have A1:=A0.same e1;have hg1:=A1.sm _ _ hg;have hm:=A1.hm;rw [List.map_append] at hm;obtain ⟨dm,ha⟩:=A1.mt (a,x) (List.mem_append_right _ (List.mem_singleton.mpr rfl));have ha:H1 a=some (.ins T.J5 dm (x.fs G.c)):=ha;have ok:=A0.mo (a,x) (List.mem_append_right _ (List.mem_singleton.mpr rfl));have okn:0≤x.n∧x.n≤G.c:=ok.n;have okb:0≤b∧b≤own G.c x.n (!x.r):=ok.b b hp;have c1:=A0.bk.c1;have hco:ZH x.n (G.c - x.n):=⟨by omega,by omega,by omega⟩
  have hbo:Jfz x.n (G.c - x.n) x.r b y↔(0≤y∧y≤own G.c x.n x.r):=by
   unfold Jfz;have:(0≤b∧b≤if x.r=true then G.c - x.n else x.n):=by
    unfold own at okb;cases hr:x.r <;> rw [hr] at okb <;> exact okb
   exact ⟨fun h=>h.2,fun h=>⟨this,h⟩⟩
  have hh:x.heard=.int b:=by unfold Mo.heard; rw [hp]
  refine ⟨_,rfl,G.g,_,dx,_,.ref G.lm,rfl,hg1,T.JM,T.Yp,rfl,_,rfl,G.lm,_,_,.ref a,rfl,rfl,JC.of hm,Jab,?_⟩;refine ⟨_,rfl,a,_,dm,_,.int x.n,rfl,ha,T.Ju,T.YK,rfl,_,rfl,a,_,dm,_,.int (G.c - x.n),rfl,ha,T.Ju,T.Zx,rfl,_,rfl,a,_,dm,_,.str (hs x.r),rfl,ha,T.Ju,T.YC,rfl,_,rfl,a,_,dm,_,x.heard,rfl,ha,T.Ju,T.Jau,rfl,_,rfl,x.n,G.c - x.n,hs x.r,b,y,(by rw [hh]; rfl),Ze _,(fun z=>absurd hco z),(fun _ z=>by rw [Zq] at z; cases z),(fun r' hr' _ z=>q2 b hp rfl (fun w=>z (by rw [← Zh hr']; exact hbo.mpr w)) H1 e1),fun r' hr' _ hok t H2 e2 ht=>?_⟩;obtain rfl:=Zh hr';have hy:=hbo.mp hok;rw [Jn1] at ht;have ab:=Jnt (r:=x.r) okn okb.1 okb.2 hy.1 hy.2;generalize hl:(after x.n x.r b y).1=l at ht;generalize hn':(after x.n x.r b y).2.1=n' at ht ab;generalize hr2:(after x.n x.r b y).2.2=r2 at ht;refine ⟨_,rfl,t,_,_,.str (hs l),rfl,rfl,JL.of ht,rfl,?_⟩;have ha2:=e2 _ _ ha;refine ⟨_,rfl,a,_,dm,_,.str x.p,rfl,ha2,T.Ju,T.YJ,rfl,_,rfl,a,_,dm,_,.int (x.m:Int),rfl,ha2,T.Ju,T.YI,rfl,_,rfl,t,_,_,.int n',rfl,rfl,JL.of ht,rfl,_,rfl,t,_,_,.int (G.c - n'),rfl,rfl,JL.of ht,rfl,_,rfl,t,_,_,.str (hs r2),rfl,rfl,JL.of ht,rfl,_,rfl,fun a' dx' nx ndx hne=>Jdl nx ndx fun H3 e3 h3=>⟨rfl,?_⟩⟩;have A3:=(A1.same e2).same e3;refine ⟨_,rfl,G.g,dx,_,rfl,A3.sm _ _ hg,rfl,_,rfl,_,rfl,by show 3≤sizeLine; decide,fun d nd=>⟨_,rfl,G,ds,ms ++ [(a,x)],d,a',dx',[.str (hs x.r),.str "answer",.int y],⟨x.p,x.m,n',r2,.step l⟩,rfl,A3.same (Jh.upd nd),hdl,by rw [List.length_append]; show ms.length + 1≤1001; omega,Ji,(Jh.upd nd) _ _ h3,⟨ok.p,ok.m,ab,⟨fun z=>(nomatch z),fun z=>absurd (ok.e.mpr z) (by rw [hp]; exact fun z=>nomatch z)⟩,fun b hb=>(nomatch hb)⟩,fun H' c A4=>?_⟩⟩;have qq:=q b hp rfl hy d a' H' ((Z0.of (((e1.trans e2).trans e3).trans (Jh.upd nd))).trans c);rw [hl,hn',hr2] at qq;exact ⟨_,rfl,qq A4⟩
theorem Jhz (T:Txt K mg):JK P w K mg base (Zb P w) 7 T.Jge T.Jfk ["self", "hand", "place"] (Jrk T):=by
 refine T.Ja5.F.ok1 JeM (fun vs H Q E h=>?_) (fun cdv A outer s H vs Q E hr h=>?_)
 ·obtain ⟨_,_,_,_,_,_,_,rfl,_⟩:=h;rfl
 ·obtain ⟨G,ds,ms,a,x,z,w,rfl,A0,hdl,hml,tz,tw,q1,q2,q⟩:=h;have szl:sizeLine=16777216:=sizeLine_eq;refine ⟨_,(@Jd _ _ _ _ _ (@JJ _ _ _ _ (@J2 _ _ _ _ _ _ _ _ _ _ _ _ _ _ _ _ _ _ _ _ (@pv _ 0 _ _ rfl (.inl rfl) rfl rfl) T.JM T.Y6.m (JbN T) (hr.mono (by decide)) T.Y6.b .nil Yw (@Ja _ _ _ _ _ (@pv _ 1 _ _ rfl (.inl rfl) rfl rfl) (@Ja _ _ _ _ _ (@Jz _ _ _ _) (@Jc _) rfl) rfl) rfl rfl rfl) rfl) (@Jd _ _ _ _ _ (@Jr _ _ 3 _ _ _ _ JeM.nd rfl (Or.inl rfl) (@JG _ _ _ _ _ _ _ (@JU _) (@Jw _ _ _ _ _ (@pv _ 0 _ _ rfl (.inl rfl) rfl rfl) rfl) (@Jcx _ _ _ _ _ _ (@Jbk _) (@Je _ _ _ _)) (fun _ _=>rfl)) rfl (.inl rfl)) (@Jd _ _ _ _ _ (@JH _ _ _ _ _ _ _ _ (@Js _ _ _ _ _ _ _ _ (@Jcy _) (@pv _ 2 _ _ rfl (.inl rfl) rfl rfl) (@J2 _ _ _ _ _ _ _ _ _ _ _ _ _ _ _ _ _ _ _ _ (@Jw _ _ _ _ _ (@pv _ 0 _ _ rfl (.inl rfl) rfl rfl) rfl) T.YQ T.YT.m (JaV T) (hr.mono (by decide)) T.YT.b .nil Y7 (@Ja _ _ _ _ _ (@Jw _ _ _ _ _ (@pv _ 3 _ _ rfl (.inl rfl) rfl rfl) rfl) (@Jc _) rfl) rfl rfl rfl) (by with_unfolding_all rfl)) (@Jg _ _ _ (@Jbs _ _ _ _ _ _ _ _ _ T.Y4 T.Jjn Jck (@Jex _ _ _ _ _ _ (PJ.cons (@Jz _ _ _ _) (PJ.cons (@JgT _ _ _ _ (@pv _ 2 _ _ rfl (.inl rfl) rfl rfl)) (PJ.cons (@Jz _ _ _ _) PJ.nil))) rfl) rfl rfl (by decide) rfl)) (@Jp _)) (@Jd _ _ _ _ _ (@Jr _ _ 4 _ _ _ _ JeM.nd rfl (Or.inl rfl) (@Jk _ _ _ _ _ _ _ _ _ _ _ _ _ _ _ T.JcO (Jhb T) (hr.mono (by decide)) Jt (@Ja _ _ _ _ _ (@Jw _ _ _ _ _ (@pv _ 0 _ _ rfl (.inl rfl) rfl rfl) rfl) (@Ja _ _ _ _ _ (@pv _ 2 _ _ rfl (.inl rfl) rfl rfl) (@Ja _ _ _ _ _ (@Jm _ _ _ _ _ _ _ _ (@Zg _) (@Jw _ _ _ _ _ (@pv _ 3 _ _ rfl (.inl rfl) rfl rfl) rfl) (@Je _ _ _ _)) (@Ja _ _ _ _ _ (@Jw _ _ _ _ _ (@pv _ 3 _ _ rfl (.inl rfl) rfl rfl) rfl) (@Ja _ _ _ _ _ (@Jw _ _ _ _ _ (@pv _ 3 _ _ rfl (.inl rfl) rfl rfl) rfl) (@Ja _ _ _ _ _ (@Jw _ _ _ _ _ (@pv _ 3 _ _ rfl (.inl rfl) rfl rfl) rfl) (@Jc _) rfl) rfl) rfl) rfl) rfl) rfl) rfl (by decide) rfl rfl) rfl (.inl rfl)) (@Jg _ _ _ (@JJ _ _ _ _ (@J2 _ _ _ _ _ _ _ _ _ _ _ _ _ _ _ _ _ _ _ _ (@pv _ 0 _ _ rfl (.inl rfl) rfl rfl) T.JM T.ZN.m (JdJ T) (hr.mono (by decide)) T.ZN.b .nil Jt (@Ja _ _ _ _ _ (@Yn _ _ _ _ _ (@Ja _ _ _ _ _ (@pv _ 1 _ _ rfl (.inl rfl) rfl rfl) (@Ja _ _ _ _ _ (@Jz _ _ _ _) (@Ja _ _ _ _ _ (@pv _ 2 _ _ rfl (.inl rfl) rfl rfl) (@Jc _) rfl) rfl) rfl)) (@Ja _ _ _ _ _ (@pv _ 4 _ _ rfl (.inl rfl) rfl rfl) (@Jc _) rfl) rfl) rfl rfl rfl) rfl)))))),?_⟩;obtain ⟨dx,hg⟩:=A0.gi;refine ⟨_,rfl,G.g,dx,_,rfl,A0.sm _ _ hg,rfl,_,rfl,G,ds,ms,a,x,z, "step",rfl,A0,tz,by decide,fun hd H1 e1=>?_,fun hn=>q1 (fun h hb hz=>hn (Jgv.mpr ⟨h,hb,hz⟩))⟩;obtain ⟨h,hp,rfl⟩:=Jgv.mp hd;have A1:=A0.same e1;have hg1:=A1.sm _ _ hg;have hm:=A1.hm;rw [List.map_append] at hm;obtain ⟨dm,ha⟩:=A1.mt (a,x) (List.mem_append_right _ (List.mem_singleton.mpr rfl));have ha:H1 a=some (.ins T.J5 dm (x.fs G.c)):=ha;have ok:=A0.mo (a,x) (List.mem_append_right _ (List.mem_singleton.mpr rfl));have okp:x.p∈G.ps:=ok.p;have okm:x.m≤G.T:=ok.m;have t1:=A0.bk.t1;have he:¬ Yq (G.zs.map (·.2)) G.gs x.m x.p:=fun z=>absurd (ok.e.mpr z) (by rw [hp]; exact fun z=>nomatch z)
  have hm0:x.m≠0:=fun z=>he (.inr (.inl z))
  have B:=A1.bk.B.same A1.sm;obtain ⟨bdx,tp,tl,tg,hb,_⟩:=id B.B;refine ⟨_,rfl,G.g,_,dx,_,.ref G.lm,rfl,hg1,T.JM,T.Yp,rfl,_,rfl,G.lm,_,_,.ref a,rfl,rfl,JC.of hm,Jab,?_⟩;refine ⟨_,rfl,_,rfl,G.g,_,dx,_,.ref G.b,rfl,hg1,T.JM,T.JaW,rfl,G.b,bdx,_,rfl,hb,rfl,_,rfl,a,_,dm,_,.str x.p,rfl,ha,T.Ju,T.YJ,rfl,G.b,x.p,G.ps,G.zs,G.gs,rfl,YO (B.G.p3 _ okp),B.zl,B.B,fun _ t H2 e2 ht=>?_,fun z=>absurd okp z⟩;refine ⟨t,_,rfl,.inr (JL.of ht),rfl,Jdv _,_,rfl,?_⟩;rw [if_pos rfl,Jfg];by_cases hin:w∈Jy (G.zs.map (·.2)) x.p
  ·refine Yb (by rw [decide_eq_true hin]; rfl) ?_;have A2:=A1.same e2;have hg2:=A2.sm _ _ hg;have ha2:=e2 _ _ ha;refine ⟨_,rfl,G.g,_,dx,_,.ref G.b,rfl,hg2,T.JM,T.JaW,rfl,_,rfl,_,rfl,a,_,dm,_,.int (x.m:Int),rfl,ha2,T.Ju,T.YI,rfl,_,_,rfl,rfl,_,rfl,a,_,dm,_,.int x.n,rfl,ha2,T.Ju,T.YK,rfl,_,rfl,a,_,dm,_,.int (G.c - x.n),rfl,ha2,T.Ju,T.Zx,rfl,_,rfl,a,_,dm,_,.str (hs x.r),rfl,ha2,T.Ju,T.YC,rfl,G.b,w,x.m - 1,x.n,G.c,x.r,G.ps,G.zs,G.gs,(by rw [show ((x.m - 1:Nat):Int)=(x.m:Int) - 1 by omega]; rfl),B.same e2,Jch B.G hin,by omega,fun a' dx' H3 na e3 h3=>?_⟩;have A3:=A2.same e3;refine ⟨_,rfl,G.g,dx,_,rfl,A3.sm _ _ hg,rfl,_,rfl,_,rfl,by show 3≤sizeLine; decide,fun d nd=>⟨_,rfl,G,ds,ms ++ [(a,x)],d,a',dx',[.str (hs h),.str "step",.str w],_,rfl,A3.same (Jh.upd nd),hdl,by rw [List.length_append]; show ms.length + 1≤1001; omega,Ji,(Jh.upd nd) _ _ h3,JjW (Jch B.G hin) (by omega) ok.n,fun H' c A4=>?_⟩⟩;exact q h hp rfl hin d a' H' ((Z0.of (((e1.trans e2).trans e3).trans (Jh.upd nd))).trans c) A4
  ·have hz:=JfF tw;have e0:(Str.empty ++ "no lane leads to ").length≤100:=by decide +kernel
   have l2:((Str.empty ++ "no lane leads to ") ++ reprText w).length≤10102:=by rw [strLen_append]; omega
   have l3:(((Str.empty ++ "no lane leads to ") ++ reprText w) ++ " from here").length≤sizeLine:=by
    rw [strLen_append]; exact Nat.le_trans (Nat.add_le_add_right l2 _) (by decide)
   exact YF (by rw [decide_eq_false hin]; rfl) ⟨_,rfl,by omega,_,rfl,w,rfl,by omega,_,rfl,by omega,_,rfl,l3,l3,q2 h hp rfl hin H2 (e1.trans e2)⟩
theorem Jqg {T:Txt K mg} {H:Hp} {g dx b:Addr} {z x:Str} {m n s:Int} {ps:List Str} {zs:List (V×(Str×Str))} {gs:List Str} {Q:VK} {E:XK} (B:Bd K T.JP H b ps zs gs) (tz:YG z) (tx:YG x) (nx:H g=none) (ndx:H dx=none)
  (hE:∀ H',Jh H H'→JjC T ps z m n s x H' E) (q:z∈ps→0≤m∧m≤30→ZH n s→∀ r,x=hs r→∀ (S:Hp) (k ld lm a:Addr) (H':Hp),Jh H S→J1 T ⟨S,g,b,k,ld,lm,ps,zs,gs,n + s,m.toNat⟩ H' [] ([] ++ [(a,Y9 (zs.map (·.2)) gs z m.toNat n r)])→Q .non H') :
  Jmp T (.ref g :: ([.ref b,.str z,.int m,.int n,.int s,.str x] ++ [])) (upd (upd H dx (.own g)) g (.ins T.JZ dx [])) Q E:=by
 have e5:Jh H (upd (upd H dx (.own g)) g (.ins T.JZ dx [])):=fun b u e=>by
  rw [JB (JD e nx),JB (JD e ndx)]; exact e
 obtain ⟨bdx,_,_,_,hb,_⟩:=id B.B;refine ⟨g,b,dx,z,x,m,n,s,ps,zs,gs,rfl,Ji,(fun e=>by rw [← e,nx] at hb; cases hb),tz,tx,B.same e5,hE _ e5,fun h1 h2 h3 r h4 G a H' g1 g2 g3 g4 g5 g6 g7 bt A=>?_⟩;obtain ⟨S,g',b',k,ld,lm,ps',zs',gs',c,T0⟩:=G;cases g1; cases g2; cases g3; cases g4; cases g5; cases g6; cases g7;exact q h1 h2 h3 r h4 S k ld lm a H' (fun b' u e=>bt b' u (JD e nx) (e5 b' u e)) A
def JaL (zs:List (Str×Str)) (gs:List Str) (c:Int) (x:Mo):V:=match x.ph with
 | .over=>.non
 | .bid=>Jg7 zs gs c x.m x.p x.n x.r
 | .ans b=>Jjr zs gs c x.m x.p x.n x.r b
 | .step h=>Jem zs gs c x.m x.p x.n x.r h
def Mo.due (x:Mo):Bool:=match x.ph with
 | .over=>x.r
 | .bid=>!x.r
 | .ans _=>x.r
 | .step h=>h
def Jhi (zs:List (Str×Str)) (gs:List Str) (c:Int) (x:Mo):Bool:=match x.ph with
 | .over=>decide (x.p∈gs)
 | _=>if JaL zs gs c x=.non then !x.due else x.due
theorem Juv {x:Mo} (h:x.ph≠.over):x.hand=.str (hs x.due):=by
 unfold Mo.hand Mo.due;cases hp:x.ph with
 | over=>exact absurd hp h
 | bid=>rfl
 | ans b=>rfl
 | step h=>rfl
theorem Jqz {zs:List (Str×Str)} {gs:List Str} {c:Int} {x:Mo}:Zz (JaL zs gs c x)=true:=by
 unfold JaL;split
 ·rfl
 ·unfold Jg7;split
  ·rfl
  ·split <;> rfl
 ·rename_i b _;unfold Jjr;split
  ·rfl
  ·cases Jh6 (Jy zs) (gB gs) c (x.m - 1) x.p x.n x.r b <;> rfl
 ·rename_i h _;unfold Jem;split
  ·rfl
  ·cases Jdi (Jy zs) (gB gs) c (x.m - 1) x.p x.n x.r h <;> rfl
theorem JqE {z:Str} {m:Nat} {zs:List (Str×Str)} {gs:List Str} (h:Yq zs gs m z):Zl z (m:Int) zs gs=.str (hs (decide (z∈gs))):=by
 unfold Zl;by_cases hg:z∈gs
 ·rw [if_pos hg,decide_eq_true hg]; rfl
 ·rw [if_neg hg,decide_eq_false hg];have h0:(m:Int)=0∨Jy zs z=[]:=by
   rcases h with h | h | h
   ·exact absurd h hg
   ·exact .inl (by omega)
   ·exact .inr h
  rw [if_pos h0]; rfl
def JpD (T:Txt K mg):Sp:=fun vs H Q _=>∃ (k b a dm:Addr) (x:Mo) (ps:List Str) (zs:List (V×(Str×Str))) (gs:List Str) (c:Int) (T0:Nat),vs=[.ref k,.ref a]∧Bk K T.JP T.JS H k b ps zs gs c T0 (T0 + 1)∧H a=some (.ins T.J5 dm (x.fs c))∧JbT ps (zs.map (·.2)) gs c T0 x∧x.ph≠.over∧∀ H',Jh H H'→Q (JaL (zs.map (·.2)) gs c x) H'
def Jrj (T:Txt K mg):Sp:=fun vs H Q _=>∃ (G:Gm) (ds:List (Addr×List V)) (ms:List (Addr×Mo)) (a:Addr) (x:Mo),vs=[.ref G.g]∧J1 T G H ds (ms ++ [(a,x)])∧(JaL (G.zs.map (·.2)) G.gs G.c x=.non→∀ H',Jh H H'→Q .non H')∧(JaL (G.zs.map (·.2)) G.gs G.c x≠.non→∀ t H',Jh H H'→H' t=some (.tup [x.word,JaL (G.zs.map (·.2)) G.gs G.c x])→Q (.ref t) H')
def Joy (T:Txt K mg):Sp:=fun vs H Q _=>∃ (G:Gm) (ds:List (Addr×List V)) (ms:List (Addr×Mo)) (a:Addr) (x:Mo),vs=[.ref G.g]∧J1 T G H ds (ms ++ [(a,x)])∧∀ H',Jh H H'→Q (.str (hs (Jhi (G.zs.map (·.2)) G.gs G.c x))) H'
theorem JoV (T:Txt K mg):JK P w K mg base YB 8 T.JhW T.JgZ ["book", "now"] (JpD T):=by
 refine T.Jia.F.ok JoG (fun vs H Q E h=>?_) (fun cdv A outer s H vs Q E hr h=>?_)
 ·obtain ⟨_,_,_,_,_,_,_,_,_,_,rfl,_⟩:=h;rfl
 ·obtain ⟨k,b,a,dm,x,ps,zs,gs,c,T0,rfl,B,ha,ok,ho,q⟩:=h;refine ⟨_,(@Jd _ _ _ _ _ (@JH _ _ _ _ _ _ _ _ (@Js _ _ _ _ _ _ _ _ (@Yg _) (@Jw _ _ _ _ _ (@pv _ 1 _ _ rfl (.inl rfl) rfl rfl) rfl) (@Jz _ _ _ _) (JE _)) (@Jg _ _ _ (@Jn _ _ _ _ (@J2 _ _ _ _ _ _ _ _ _ _ _ _ _ _ _ _ _ _ _ _ (@pv _ 0 _ _ rfl (.inl rfl) rfl rfl) T.JY T.Jb5.m (JkO T) (hr.mono (by decide)) T.Jb5.b .nil Y7 (@Ja _ _ _ _ _ (@Jw _ _ _ _ _ (@pv _ 1 _ _ rfl (.inl rfl) rfl rfl) rfl) (@Ja _ _ _ _ _ (@Jw _ _ _ _ _ (@pv _ 1 _ _ rfl (.inl rfl) rfl rfl) rfl) (@Ja _ _ _ _ _ (@Jw _ _ _ _ _ (@pv _ 1 _ _ rfl (.inl rfl) rfl rfl) rfl) (@Ja _ _ _ _ _ (@Jw _ _ _ _ _ (@pv _ 1 _ _ rfl (.inl rfl) rfl rfl) rfl) (@Jc _) rfl) rfl) rfl) rfl) rfl rfl rfl))) (@Jp _)) (@Jd _ _ _ _ _ (@JH _ _ _ _ _ _ _ _ (@Js _ _ _ _ _ _ _ _ (@Yg _) (@Jw _ _ _ _ _ (@pv _ 1 _ _ rfl (.inl rfl) rfl rfl) rfl) (@Jz _ _ _ _) (JE _)) (@Jg _ _ _ (@Jn _ _ _ _ (@J2 _ _ _ _ _ _ _ _ _ _ _ _ _ _ _ _ _ _ _ _ (@pv _ 0 _ _ rfl (.inl rfl) rfl rfl) T.JY T.JaR.m (JiA T) (hr.mono (by decide)) T.JaR.b .nil Y7 (@Ja _ _ _ _ _ (@Jw _ _ _ _ _ (@pv _ 1 _ _ rfl (.inl rfl) rfl rfl) rfl) (@Ja _ _ _ _ _ (@Jw _ _ _ _ _ (@pv _ 1 _ _ rfl (.inl rfl) rfl rfl) rfl) (@Ja _ _ _ _ _ (@Jw _ _ _ _ _ (@pv _ 1 _ _ rfl (.inl rfl) rfl rfl) rfl) (@Ja _ _ _ _ _ (@Jw _ _ _ _ _ (@pv _ 1 _ _ rfl (.inl rfl) rfl rfl) rfl) (@Ja _ _ _ _ _ (@Jw _ _ _ _ _ (@pv _ 1 _ _ rfl (.inl rfl) rfl rfl) rfl) (@Jc _) rfl) rfl) rfl) rfl) rfl) rfl rfl rfl))) (@Jp _)) (@Jg _ _ _ (@Jn _ _ _ _ (@J2 _ _ _ _ _ _ _ _ _ _ _ _ _ _ _ _ _ _ _ _ (@pv _ 0 _ _ rfl (.inl rfl) rfl rfl) T.JY T.Z4.m (JfI T) (hr.mono (by decide)) T.Z4.b .nil Y7 (@Ja _ _ _ _ _ (@Jw _ _ _ _ _ (@pv _ 1 _ _ rfl (.inl rfl) rfl rfl) rfl) (@Ja _ _ _ _ _ (@Jw _ _ _ _ _ (@pv _ 1 _ _ rfl (.inl rfl) rfl rfl) rfl) (@Ja _ _ _ _ _ (@Jw _ _ _ _ _ (@pv _ 1 _ _ rfl (.inl rfl) rfl rfl) rfl) (@Ja _ _ _ _ _ (@Jw _ _ _ _ _ (@pv _ 1 _ _ rfl (.inl rfl) rfl rfl) rfl) (@Ja _ _ _ _ _ (@Jw _ _ _ _ _ (@pv _ 1 _ _ rfl (.inl rfl) rfl rfl) rfl) (@Jc _) rfl) rfl) rfl) rfl) rfl) rfl rfl rfl))))),?_⟩;obtain ⟨dx,lk,hk⟩:=B.ins;have tp:=YO (B.B.G.p3 _ ok.p);have hmm:0≤(x.m:Int)∧(x.m:Int)≤(T0:Int):=by have:=ok.m; omega
  have em:((x.m:Int)).toNat=x.m:=Int.toNat_natCast _;refine ⟨_,rfl,a,_,dm,_,x.word,rfl,ha,T.Ju,T.YH,rfl,?_⟩;unfold JaL at q;have okp:=ok.p;have okn:=ok.n;cases hp:x.ph with
  | over=>exact absurd hp ho
  | bid =>
   rw [hp] at q;have hw:x.word=.str "bid":=by unfold Mo.word; rw [hp]
   rw [hw];refine ⟨rfl,_,rfl,YF (by decide +kernel) ⟨_,rfl,k,dx,_,rfl,hk,rfl,_,rfl,a,_,dm,_,.str x.p,rfl,ha,T.Ju,T.YJ,rfl,_,rfl,a,_,dm,_,.int (x.m:Int),rfl,ha,T.Ju,T.YI,rfl,_,rfl,a,_,dm,_,.int x.n,rfl,ha,T.Ju,T.YK,rfl,_,rfl,a,_,dm,_,.str (hs x.r),rfl,ha,T.Ju,T.YC,rfl,k,b,x.p,hs x.r,(x.m:Int),x.n,_,_,_,_,_,rfl,tp,Ze _,B,Jdq ⟨okp,hmm,okn,Zq _⟩,fun _ _ _ r' hr' H1 e1=>?_⟩⟩;obtain rfl:=Zh hr';rw [em]; exact q H1 e1
  | ans bb =>
   rw [hp] at q;have hw:x.word=.str "answer":=by unfold Mo.word; rw [hp]
   have hh:x.heard=.int bb:=by unfold Mo.heard; rw [hp]
   have hb:=ok.b bb hp;rw [hw];refine ⟨rfl,_,rfl,Yb (by decide +kernel) ⟨_,rfl,a,_,dm,_,x.word,rfl,ha,T.Ju,T.YH,rfl,?_⟩⟩;rw [hw];refine ⟨rfl,_,rfl,YF (by decide +kernel) ⟨_,rfl,k,dx,_,rfl,hk,rfl,_,rfl,a,_,dm,_,.str x.p,rfl,ha,T.Ju,T.YJ,rfl,_,rfl,a,_,dm,_,.int (x.m:Int),rfl,ha,T.Ju,T.YI,rfl,_,rfl,a,_,dm,_,.int x.n,rfl,ha,T.Ju,T.YK,rfl,_,rfl,a,_,dm,_,.str (hs x.r),rfl,ha,T.Ju,T.YC,rfl,_,rfl,a,_,dm,_,x.heard,rfl,ha,T.Ju,T.Jau,rfl,k,b,x.p,hs x.r,(x.m:Int),x.n,bb,_,_,_,_,_,(by rw [hh]; rfl),tp,Ze _,B,Jdq ⟨okp,hmm,okn,Zq _⟩,(fun _ _ _ r' hr' h=>absurd (by rw [← Zh hr']; exact hb) h),fun _ _ _ r' hr' _ H1 e1=>?_⟩⟩;obtain rfl:=Zh hr';rw [em]; exact q H1 e1
  | step h =>
   rw [hp] at q;have hw:x.word=.str "step":=by unfold Mo.word; rw [hp]
   have hh:x.hand=.str (hs h):=by unfold Mo.hand; rw [hp]
   rw [hw];refine ⟨rfl,_,rfl,Yb (by decide +kernel) ⟨_,rfl,a,_,dm,_,x.word,rfl,ha,T.Ju,T.YH,rfl,?_⟩⟩;rw [hw];refine ⟨rfl,_,rfl,Yb (by decide +kernel) ⟨_,rfl,k,dx,_,rfl,hk,rfl,_,rfl,a,_,dm,_,.str x.p,rfl,ha,T.Ju,T.YJ,rfl,_,rfl,a,_,dm,_,.int (x.m:Int),rfl,ha,T.Ju,T.YI,rfl,_,rfl,a,_,dm,_,.int x.n,rfl,ha,T.Ju,T.YK,rfl,_,rfl,a,_,dm,_,.str (hs x.r),rfl,ha,T.Ju,T.YC,rfl,_,rfl,a,_,dm,_,x.hand,rfl,ha,T.Ju,T.Z2,rfl,k,b,x.p,hs x.r,hs h,(x.m:Int),x.n,_,_,_,_,_,(by rw [hh]; rfl),tp,Ze _,Ze _,B,Jdq ⟨okp,hmm,okn,Zq _⟩,(fun _ h=>by rw [Zq] at h; cases h),fun _ _ _ r' h' hr' hh' H1 e1=>?_⟩⟩;obtain rfl:=Zh hr';obtain rfl:=Zh hh';rw [em]; exact q H1 e1
theorem Jhy (T:Txt K mg):JK P w K mg base YB 9 T.Jgd T.Jfj ["self"] (Jrj T):=by
 refine T.Ja4.F.ok JeL (fun vs H Q E h=>?_) (fun cdv A outer s H vs Q E hr h=>?_)
 ·obtain ⟨_,_,_,_,_,rfl,_⟩:=h;rfl
 ·obtain ⟨G,ds,ms,a,x,rfl,A0,q1,q2⟩:=h;refine ⟨_,(@Jd _ _ _ _ _ (@Jr _ _ 1 _ _ _ _ JeL.nd rfl (Or.inl rfl) (@JG _ _ _ _ _ _ _ (@JU _) (@Jw _ _ _ _ _ (@pv _ 0 _ _ rfl (.inl rfl) rfl rfl) rfl) (@Jcx _ _ _ _ _ _ (@Jbk _) (@Je _ _ _ _)) (fun _ _=>rfl)) rfl (.inl rfl)) (@Jd _ _ _ _ _ (@JH _ _ _ _ _ _ _ _ (@Zm _ _ _ _ _ _ (@JaD _ _ _ _ _ (@Jw _ _ _ _ _ (@pv _ 1 _ _ rfl (.inl rfl) rfl rfl) rfl)) (by first | exact Yj _ (by decide) (by decide) | rfl)) (@Jg _ _ _ (@Jn _ _ _ _ (@Zo _ _ _))) (@Jp _)) (@Jd _ _ _ _ _ (@Jr _ _ 2 _ _ _ _ JeL.nd rfl (Or.inl rfl) (@Jk _ _ _ _ _ _ _ _ _ _ _ _ _ _ _ T.Jia (JoV T) (hr.mono (by decide)) Jt (@Ja _ _ _ _ _ (@Jw _ _ _ _ _ (@pv _ 0 _ _ rfl (.inl rfl) rfl rfl) rfl) (@Ja _ _ _ _ _ (@pv _ 1 _ _ rfl (.inl rfl) rfl rfl) (@Jc _) rfl) rfl) rfl (by decide) rfl rfl) rfl (.inl rfl)) (@Jg _ _ _ (@Jn _ _ _ _ (@Jb9 _ _ _ _ _ _ _ _ (@Zm _ _ _ _ _ _ (@JaD _ _ _ _ _ (@pv _ 2 _ _ rfl (.inl rfl) rfl rfl)) (by first | exact Yj _ (by decide) (by decide) | rfl)) (@Zo _ _ _) (@Yn _ _ _ _ _ (@Ja _ _ _ _ _ (@Jw _ _ _ _ _ (@pv _ 1 _ _ rfl (.inl rfl) rfl rfl) rfl) (@Ja _ _ _ _ _ (@pv _ 2 _ _ rfl (.inl rfl) rfl rfl) (@Jc _) rfl) rfl)))))))),?_⟩;obtain ⟨dx,hg⟩:=A0.gi;have gi:=A0.sm _ _ hg;have hm:=A0.hm;rw [List.map_append] at hm;obtain ⟨dm,ha⟩:=A0.mt (a,x) (List.mem_append_right _ (List.mem_singleton.mpr rfl));have ha:H a=some (.ins T.J5 dm (x.fs G.c)):=ha;have ok:JbT G.ps (G.zs.map (·.2)) G.gs G.c G.T x:=A0.mo (a,x) (List.mem_append_right _ (List.mem_singleton.mpr rfl));refine ⟨_,rfl,G.g,_,dx,_,.ref G.lm,rfl,gi,T.JM,T.Yp,rfl,_,rfl,G.lm,_,_,.ref a,rfl,rfl,JC.of hm,Jab,?_⟩;refine ⟨_,rfl,a,_,dm,_,x.word,rfl,ha,T.Ju,T.YH,rfl,?_⟩;by_cases ho:x.ph=.over
  ·have hw:x.word=.non:=by unfold Mo.word; rw [ho]
   rw [hw];exact ⟨_,rfl,YD (q1 (by unfold JaL; rw [ho]) H (Jh.refl _))⟩
  ·obtain ⟨y,hw⟩:∃ y,x.word=.str y:=by
    unfold Mo.word;cases hp:x.ph with
    | over=>exact absurd hp ho
    | bid=>exact ⟨_,rfl⟩
    | ans b=>exact ⟨_,rfl⟩
    | step h=>exact ⟨_,rfl⟩
   rw [hw];refine ⟨_,rfl,Yo ⟨_,rfl,G.g,_,dx,_,.ref G.k,rfl,gi,T.JM,T.Je4,rfl,_,rfl,G.k,G.b,a,dm,x,G.ps,G.zs,G.gs,G.c,G.T,rfl,A0.bk.same A0.sm,ha,ok,ho,fun H1 e1=>?_⟩⟩;have ha1:=e1 _ _ ha;by_cases hn:JaL (G.zs.map (·.2)) G.gs G.c x=.non
   ·rw [hn];exact ⟨_,rfl,_,rfl,YD (q1 hn H1 e1)⟩
   ·have q2:=q2 hn;obtain ⟨v,hv,hf⟩:∃ v,JaL (G.zs.map (·.2)) G.gs G.c x=v∧((∃ i,v=.int i)∨∃ i,v=.str i):=by
     have:=Jqz (zs:=G.zs.map (·.2)) (gs:=G.gs) (c:=G.c) (x:=x);cases ht:JaL (G.zs.map (·.2)) G.gs G.c x with
     | int i=>exact ⟨_,rfl,.inl ⟨_,rfl⟩⟩
     | str i=>exact ⟨_,rfl,.inr ⟨_,rfl⟩⟩
     | non=>exact absurd ht hn
     | _=>rw [ht] at this; cases this
    rw [hv] at q2 ⊢;rcases hf with ⟨i,rfl⟩ | ⟨i,rfl⟩
    ·exact ⟨_,rfl,_,rfl,Yo ⟨_,rfl,a,_,dm,_,x.word,rfl,ha1,T.Ju,T.YH,rfl,_,rfl,by show 2≤sizeLine; decide,fun t nt=>q2 t _ (e1.trans (Jh.upd nt)) Ji⟩⟩
    ·exact ⟨_,rfl,_,rfl,Yo ⟨_,rfl,a,_,dm,_,x.word,rfl,ha1,T.Ju,T.YH,rfl,_,rfl,by show 2≤sizeLine; decide,fun t nt=>q2 t _ (e1.trans (Jh.upd nt)) Ji⟩⟩
theorem JkM (T:Txt K mg):JK P w K mg base YB 10 T.JdY T.Jc5 ["self"] (Joy T):=by
 refine T.Jb3.F.ok Jgp (fun vs H Q E h=>?_) (fun cdv A outer s H vs Q E hr h=>?_)
 ·obtain ⟨_,_,_,_,_,rfl,_⟩:=h;rfl
 ·obtain ⟨G,ds,ms,a,x,rfl,A0,q⟩:=h;refine ⟨_,(@Jd _ _ _ _ _ (@Jr _ _ 1 _ _ _ _ Jgp.nd rfl (Or.inl rfl) (@JG _ _ _ _ _ _ _ (@JU _) (@Jw _ _ _ _ _ (@pv _ 0 _ _ rfl (.inl rfl) rfl rfl) rfl) (@Jcx _ _ _ _ _ _ (@Jbk _) (@Je _ _ _ _)) (fun _ _=>rfl)) rfl (.inl rfl)) (@Jd _ _ _ _ _ (@JH _ _ _ _ _ _ _ _ (@Zm _ _ _ _ _ _ (@JaD _ _ _ _ _ (@Jw _ _ _ _ _ (@pv _ 1 _ _ rfl (.inl rfl) rfl rfl) rfl)) (by first | exact Yj _ (by decide) (by decide) | rfl)) (@Jg _ _ _ (@Jn _ _ _ _ (@Zc _ _ _ _ _ _ _ _ _ _ _ _ _ _ _ _ _ (@pv _ 0 _ _ rfl (.inl rfl) rfl rfl) T.JM T.Zs.m (JcA T) (hr.mono (by decide)) T.Zs.b .nil Jt rfl))) (@Jp _)) (@Jg _ _ _ (@Jn _ _ _ _ (@Jb9 _ _ _ _ _ _ _ _ (@Zm _ _ _ _ _ _ (@JaD _ _ _ _ _ (@Zc _ _ _ _ _ _ _ _ _ _ _ _ _ _ _ _ _ (@pv _ 0 _ _ rfl (.inl rfl) rfl rfl) T.JM T.Ja4.m (Jhy T) (hr.mono (by decide)) T.Ja4.b .nil Jt rfl)) (by first | exact Yj _ (by decide) (by decide) | rfl)) (@Jk _ _ _ _ _ _ _ _ _ _ _ _ _ _ _ T.JeG (JgV T) (hr.mono (by decide)) Y7 (@Ja _ _ _ _ _ (@Jw _ _ _ _ _ (@pv _ 1 _ _ rfl (.inl rfl) rfl rfl) rfl) (@Jc _) rfl) rfl (by decide) rfl rfl) (@Jw _ _ _ _ _ (@pv _ 1 _ _ rfl (.inl rfl) rfl rfl) rfl)))))),?_⟩;obtain ⟨dx,hg⟩:=A0.gi;have gi:=A0.sm _ _ hg;have hm:=A0.hm;rw [List.map_append] at hm;obtain ⟨dm,ha⟩:=A0.mt (a,x) (List.mem_append_right _ (List.mem_singleton.mpr rfl));have ha:H a=some (.ins T.J5 dm (x.fs G.c)):=ha;have ok:JbT G.ps (G.zs.map (·.2)) G.gs G.c G.T x:=A0.mo (a,x) (List.mem_append_right _ (List.mem_singleton.mpr rfl));refine ⟨_,rfl,G.g,_,dx,_,.ref G.lm,rfl,gi,T.JM,T.Yp,rfl,_,rfl,G.lm,_,_,.ref a,rfl,rfl,JC.of hm,Jab,?_⟩;refine ⟨_,rfl,a,_,dm,_,x.word,rfl,ha,T.Ju,T.YH,rfl,?_⟩;by_cases ho:x.ph=.over
  ·have hw:x.word=.non:=by unfold Mo.word; rw [ho]
   rw [hw];refine ⟨_,rfl,YD ⟨_,rfl,G.g,dx,_,rfl,gi,rfl,G,ds,ms,a,x,rfl,A0,fun H1 e1=>?_⟩⟩;rw [JqE (ok.e.mp ho)];have q:=q H1 e1;unfold Jhi at q;rw [ho] at q;exact q
  ·obtain ⟨y,hw⟩:∃ y,x.word=.str y:=by
    unfold Mo.word;cases hp:x.ph with
    | over=>exact absurd hp ho
    | bid=>exact ⟨_,rfl⟩
    | ans b=>exact ⟨_,rfl⟩
    | step h=>exact ⟨_,rfl⟩
   have hh:=Juv ho;have ew:Jhi (G.zs.map (·.2)) G.gs G.c x=if JaL (G.zs.map (·.2)) G.gs G.c x=.non then !x.due else x.due:=by
    unfold Jhi;cases hp:x.ph with
    | over=>exact absurd hp ho
    | bid=>rfl
    | ans b=>rfl
    | step h=>rfl
   rw [hw];refine ⟨_,rfl,Yo ⟨_,rfl,G.g,dx,_,rfl,gi,rfl,G,ds,ms,a,x,rfl,A0,fun hn H1 e1=>?_,fun hn t H1 e1 ht=>?_⟩⟩
   ·have ha1:=e1 _ _ ha;have q:=q H1 e1;rw [ew,if_pos hn] at q;exact ⟨_,rfl,YD ⟨_,rfl,a,_,dm,_,x.hand,rfl,ha1,T.Ju,T.Z2,rfl,hs x.due,(by rw [hh]; rfl),Ze _,(fun r' hr'=>by rw [← Zh hr']; exact q),(fun z=>by rw [Zq] at z; cases z)⟩⟩
   ·have ha1:=e1 _ _ ha;have q:=q H1 e1;rw [ew,if_neg hn,← hh] at q;exact ⟨_,rfl,Yo ⟨_,rfl,a,_,dm,_,x.hand,rfl,ha1,T.Ju,T.Z2,rfl,q⟩⟩
def Jrn (T:Txt K mg):Sp:=fun vs H Q E=>∃ (G:Gm) (ds:List (Addr×List V)) (ms:List (Addr×Mo)),vs=[.ref G.g]∧J1 T G H ds ms∧(ds=[]→E (.ref T.ZQ) none H)∧(∀ ds0 d ms0 m,ds=ds0 ++ [d]→ms=ms0 ++ [m]→∀ H',Z0 [G.ld,G.lm] H H'→J1 T G H' ds0 ms0→Q (.ref d.1) H')∧(ds≠[]→ms≠[])
theorem JmX (T:Txt K mg):JK P w K mg base (Zb P w) 2 T.Jgg T.Jfn ["self"] (Jrn T):=by
 refine T.Jdo.F.ok1 JmA (fun vs H Q E h=>?_) (fun cdv A outer s H vs Q E hr h=>?_)
 ·obtain ⟨_,_,_,rfl,_⟩:=h;rfl
 ·obtain ⟨G,ds,ms,rfl,A0,q1,q2,q3⟩:=h;refine ⟨_,(@Jd _ _ _ _ _ (@JH _ _ _ _ _ _ _ _ (@Js _ _ _ _ _ _ _ _ (@Yg _) (@JF _ _ _ _ _ _ _ _ _ (@Yh _) rfl T.Zy PySem.boot_len (@Ja _ _ _ _ _ (@Jw _ _ _ _ _ (@pv _ 0 _ _ rfl (.inl rfl) rfl rfl) rfl) (@Jc _) rfl) (by decide) (by decide) rfl rfl) (@Je _ _ _ _) (JE _)) (@Jg _ _ _ (@Jbs _ _ _ _ _ _ _ _ _ T.JgI T.Jd2 Jck (@Jz _ _ _ _) rfl rfl (by decide) rfl)) (@Jp _)) (@Jd _ _ _ _ _ (@JJ _ _ _ _ (@JpZ _ _ _ _ _ _ _ _ _ PySem.F.plainAttrs_list PySem.F.slot_list_pop PySem.F.type_list_pop (@Jqe _) (@Jw _ _ _ _ _ (@pv _ 0 _ _ rfl (.inl rfl) rfl rfl) rfl) rfl rfl) rfl) (@Jg _ _ _ (@Jn _ _ _ _ (@JpZ _ _ _ _ _ _ _ _ _ PySem.F.plainAttrs_list PySem.F.slot_list_pop PySem.F.type_list_pop (@Jqe _) (@Jw _ _ _ _ _ (@pv _ 0 _ _ rfl (.inl rfl) rfl rfl) rfl) rfl rfl))))),?_⟩;obtain ⟨dx,hg⟩:=A0.gi;have gi:=A0.sm _ _ hg;refine ⟨_,rfl,G.g,_,dx,_,.ref G.ld,rfl,gi,T.JM,T.JaF,rfl,G.ld,_,rfl,.inl (JC.of A0.hd),rfl,_,rfl,?_⟩;rw [List.length_map];by_cases hd:ds=[]
  ·exact YF (by rw [hd]; decide +kernel) (q1 hd)
  ·refine Yb (decide_eq_false fun z=>hd (List.eq_nil_of_length_eq_zero (by have:=V.int.inj z; omega))) ?_;obtain ⟨ds0,d,rfl⟩:∃ ds0 d,ds=ds0 ++ [d]:=⟨_,_,(List.dropLast_concat_getLast hd).symm⟩
   have hms:=q3 hd;obtain ⟨ms0,m,rfl⟩:∃ ms0 m,ms=ms0 ++ [m]:=⟨_,_,(List.dropLast_concat_getLast hms).symm⟩
   have hdl:=A0.hd;have hml:=A0.hm;rw [List.map_append] at hdl hml;refine ⟨_,rfl,G.g,_,dx,_,.ref G.lm,rfl,gi,T.JM,T.Yp,rfl,.inl ⟨rfl,_,JC.of hml⟩,G.lm,_,.ref m.1,rfl,rfl,hml,by simp,?_⟩;rw [List.map_singleton,List.dropLast_concat];have gm:G.g≠G.lm:=Jat gi A0.hm (fun z=>nomatch z);have g2:upd H G.lm (.lst (ms0.map fun x=>V.ref x.1)) G.g=some (.ins T.JZ dx [("board",.ref G.b),("book",.ref G.k),("done",.ref G.ld),("moments",.ref G.lm)]):=by rw [JB gm]; exact gi
   have d2:upd H G.lm (.lst (ms0.map fun x=>V.ref x.1)) G.ld=some (.lst (ds0.map (fun d=>V.ref d.1) ++ [.ref d.1])):=by rw [JB A0.ne]; exact hdl
   refine ⟨_,rfl,G.g,_,dx,_,.ref G.ld,rfl,g2,T.JM,T.JaF,rfl,.inl ⟨rfl,_,JC.of d2⟩,G.ld,_,.ref d.1,rfl,rfl,d2,by simp,?_⟩;rw [List.dropLast_concat];have c1:Z0 [G.ld,G.lm] H (upd (upd H G.lm (.lst (ms0.map fun x=>V.ref x.1))) G.ld (.lst (ds0.map fun d=>V.ref d.1))):=fun b u hn q=>by
    rw [JB (fun z=>hn (by rw [z]; simp)),JB (fun z=>hn (by rw [z]; simp))]; exact q
   refine q2 ds0 d ms0 m rfl rfl _ c1 ⟨A0.static c1,A0.bk,A0.gi,A0.nd,A0.nm,A0.ne,Ji,by rw [JB (fun z=>A0.ne z.symm),Ji],fun y hy=>c1.tup A0.lists (A0.dt y (List.mem_append_left _ hy)),fun y hy=>let ⟨dy,z⟩:=A0.mt y (List.mem_append_left _ hy); ⟨dy,c1.ins A0.lists z⟩,fun y hy=>A0.mo y (List.mem_append_left _ hy)⟩
end
def JjK (n s:Int):List (J0×V):=[(Sum.inr "north",.int n),(Sum.inr "south",.int s)]
theorem JrJ (n s:Int) (b:Bool):ZF (Jdt [] (JjK n s)) (Sum.inr (hs b))=some (.int (if b then n else s)):=by
 cases b <;> rfl
def Jt0:Sp:=fun vs H Q _=>∃ b:Bool,vs=[.str (hs b)]∧Q (.str (hs (!b))) H
def JpC:Sp:=fun vs H Q _=>∃ (n s b a:Int) (r:Bool),vs=[.int n,.int s,.str (hs r),.int b,.int a]∧∀ p H',Jh H H'→H' p=some (.tup (Jca n s r b a))→Q (.ref p) H'
def JnG:Sp:=fun vs H Q _=>∃ o s c:Int,vs=[.int o,.int s,.int c]∧0≤o∧0≤s∧∀ y,0≤y→y≤o→Q (.int y) H
def JlV:Sp:=fun vs H Q _=>∃ b o c:Int,vs=[.int b,.int o,.int c]∧0≤b∧0≤o∧∀ y,0≤y→y≤o→Q (.int y) H
def Mo.mover (x:Mo):V:=match x.ph with
 | .step h=>.str (hs h)
 | _=>.str ""
def Mo.told (x:Mo):V:=match x.ph with
 | .step h=>.str (hs h)
 | _=>.non
def JaE (c:Int) (x:Mo):List V:=[.str x.p,.int (x.m:Int),.int x.n,.int (c - x.n),.str (hs x.r),x.heard,x.mover]
def Zk (zs:List (Str×Str)) (c:Int) (x:Mo) (v:V):Prop:=match x.ph with
 | .over=>False
 | .bid=>∃ y,v=.int y∧0≤y∧y≤own c x.n (!x.r)
 | .ans _=>∃ y,v=.int y∧0≤y∧y≤own c x.n x.r
 | .step _=>∃ w,v=.str w∧w∈Jy zs x.p
def Zw (zs:List (Str×Str)) (gs:List Str) (x:Mo) (v:V):Mo:=match x.ph,v with
 | .bid,.int y=>⟨x.p,x.m,x.n,x.r,.ans y⟩
 | .ans b,.int y=>⟨x.p,x.m,(after x.n x.r b y).2.1,(after x.n x.r b y).2.2,.step (after x.n x.r b y).1⟩
 | .step _,.str w=>Y9 zs gs w (x.m - 1) x.n x.r
 | _,_=>x
theorem Jbv {zs:List (Str×Str)} {gs:List Str} {p:Str} {m:Nat} {n:Int} {r:Bool}:(Y9 zs gs p m n r).told=.non∧(Y9 zs gs p m n r).mover=.str ""∧(Y9 zs gs p m n r).heard=.non:=by
 unfold Mo.told Mo.mover Mo.heard Y9;by_cases h:Yq zs gs m p
 ·simp [h]
 ·simp [h]
theorem Zk.flat {zs:List (Str×Str)} {c:Int} {x:Mo} {v:V} (h:Zk zs c x v):Zz v=true:=by
 unfold Zk at h;split at h
 ·exact h.elim
 ·obtain ⟨y,rfl,_⟩:=h; rfl
 ·obtain ⟨y,rfl,_⟩:=h; rfl
 ·obtain ⟨y,rfl,_⟩:=h; rfl
theorem Ji4 {x:Mo}:Zz x.hand=true∧Zz x.word=true∧Zz x.heard=true∧Zz x.told=true:=by
 unfold Mo.hand Mo.word Mo.heard Mo.told;cases x.ph <;> exact ⟨rfl,rfl,rfl,rfl⟩
def ZP (H:Hp) (ls:List Addr) (ds:List (Addr×List V)):Prop:=ls.length=ds.length∧∀ (i:Nat) a d,ls[i]?=some a→ds[i]?=some d→H a=some (.tup d.2)
def JuN (K:PySem.W.Frag) (H:Hp) (ls:List Addr) (ds:List (Addr×List V)):Prop:=ls.length=ds.length∧∀ (i:Nat) a d,ls[i]?=some a→ds[i]?=some d→JL K H a d.2
theorem ZP.sq {K:PySem.W.Frag} {H:Hp} {ls:List Addr} {ds:List (Addr×List V)} (h:ZP H ls ds):JuN K H ls ds:=⟨h.1,fun i a d h1 h2=>JL.of (h.2 i a d h1 h2)⟩
theorem ZP.same {H H':Hp} {ls:List Addr} {ds:List (Addr×List V)} (h:ZP H ls ds) (e:Jh H H'):ZP H' ls ds:=⟨h.1,fun i a d h1 h2=>e _ _ (h.2 i a d h1 h2)⟩
theorem ZP.chg {H H':Hp} {X:List Addr} {ls:List Addr} {ds:List (Addr×List V)} (h:ZP H ls ds) (e:Z0 X H H') (hX:∀ x∈X,∃ vs,H x=some (.lst vs)):ZP H' ls ds:=⟨h.1,fun i a d h1 h2=>e.tup hX (h.2 i a d h1 h2)⟩
theorem ZP.snoc {H:Hp} {ls:List Addr} {ds:List (Addr×List V)} (h:ZP H ls ds) {a d:Addr} {v:List V} (ha:H a=some (.tup v)):ZP H (ls ++ [a]) (ds ++ [(d,v)]):=by
 refine ⟨by rw [List.length_append,List.length_append,h.1]; rfl,fun i b e h1 h2=>?_⟩;by_cases hi:i < ls.length
 ·rw [List.getElem?_append_left hi] at h1;rw [List.getElem?_append_left (by rw [← h.1]; exact hi)] at h2;exact h.2 i b e h1 h2
 ·rw [List.getElem?_append_right (by omega)] at h1;rw [List.getElem?_append_right (by rw [← h.1]; omega),← h.1] at h2;cases hj:i - ls.length with
  | zero =>
   rw [hj] at h1 h2;cases Option.some.inj h1;cases Option.some.inj h2;exact ha
  | succ j=>rw [hj] at h1; simp at h1
structure GG (K:PySem.W.Frag) (H:Hp) (t:Addr) (ps:List Str) (zs:List (V×(Str×Str))) (gs:List Str) (ps':List Str) (zs':List (V×(Str×Str))) (gs':List Str):Prop where
 G:Ground K H t ps zs gs
 pp:ps'.Perm ps
 zp:zs'.Perm zs
 gp:gs'.Perm gs
 zo:(zs'.map (·.2)).Pairwise ple
 B:Jdf ps' (zs'.map (·.2)) gs'
theorem GG.same {K:PySem.W.Frag} {H H':Hp} {t:Addr} {ps:List Str} {zs:List (V×(Str×Str))} {gs:List Str} {ps':List Str} {zs':List (V×(Str×Str))} {gs':List Str} (h:GG K H t ps zs gs ps' zs' gs') (e:Jh H H'):GG K H' t ps zs gs ps' zs' gs':=⟨h.G.same e,h.pp,h.zp,h.gp,h.zo,h.B⟩
def Jro (K:PySem.W.Frag):Sp:=fun vs H Q _=>∃ x y,vs=[x,y]∧Q (.bl true) H∧((x=.non∧y=.non)∨∃ (p t:Addr) (xs:List V),x=.ref p∧y=.ref t∧JL K H p xs∧(JC K H t xs∨JL K H t xs)∧xs.length≤1000∧xs.all Zz=true)
def JpG (K:PySem.W.Frag):Sp:=fun vs H Q _=>∃ (p t:Addr) (ds:List (Addr×List V)) (ls:List Addr),vs=[.ref p,.ref t]∧H p=some (.tup (ds.map fun d=>.ref d.1))∧(JC K H t (ls.map V.ref)∨JL K H t (ls.map V.ref))∧JuN K H ls ds∧ds.length≤1000∧(∀ d∈ds,JL K H d.1 d.2∧d.2.length≤1000∧d.2.all Zz=true)∧Q (.bl true) H
def Js2 (K:PySem.W.Frag):Sp:=fun vs H Q _=>∃ (t tn:Addr) (x:Mo) (ps:List Str) (zs:List (V×(Str×Str))) (gs ps':List Str) (zs':List (V×(Str×Str))) (gs':List Str) (c:Int) (T:Nat),vs=[.ref t,.ref tn]∧H tn=some (.tup (JaE c x))∧GG K H t ps zs gs ps' zs' gs'∧JbT ps' (zs'.map (·.2)) gs' c T x∧(x.ph=.over→∀ H',Jh H H'→Q .non H')∧(x.ph≠.over→∀ tt H',Jh H H'→H' tt=some (.tup [x.hand,x.word])→Q (.ref tt) H')
def JsZ:Sp:=fun vs H Q _=>∃ (tn:Addr) (x:Mo) (w:Str) (v:V) (zs:List (Str×Str)) (gs:List Str) (c:Int),vs=[.ref tn,.str w,v]∧H tn=some (.tup (JaE c x))∧x.word=.str w∧Zk zs c x v∧(∀ h,x.ph=.step h→x.m≠0)∧∀ t' H',Jh H H'→H' t'=some (.tup (JaE c (Zw zs gs x v)))→Q (.ref t') H'
def JsW (K:PySem.W.Frag):Sp:=fun vs H Q _=>∃ (t tn:Addr) (x:Mo) (i:Int) (ps:List Str) (zs:List (V×(Str×Str))) (gs ps':List Str) (zs':List (V×(Str×Str))) (gs':List Str) (c:Int) (T:Nat),vs=[.ref t,.ref tn,.int i]∧H tn=some (.tup (JaE c x))∧GG K H t ps zs gs ps' zs' gs'∧JbT ps' (zs'.map (·.2)) gs' c T x∧x.ph≠.over∧∀ v H',Jh H H'→Zk (zs'.map (·.2)) c x v→Q v H'
def Jox (K:PySem.W.Frag):Sp:=fun vs H Q _=>∃ (a t:Addr) (ns:List Int) (k:Int) (ps:List Str) (zs:List (V×(Str×Str))) (gs:List Str),vs=[.ref a,.ref t,.int k]∧JC K H a (ns.map V.int)∧0≤k∧Ground K H t ps zs gs∧∀ (tn:Addr) (p:Str) (m:Nat) (n c:Int) (r:Bool) (H':Hp),Jh H H'→p∈ps→m≤30→(0≤n∧n≤c)→c≤20→H' tn=some (.tup [.str p,.int (m:Int),.int n,.int (c - n),.str (hs r),.non,.str ""])→Q (.ref tn) H'
section
variable {K:PySem.W.Frag} {mg:Str→Option Value} (T:Txt K mg)
def Jrb:Sp:=fun vs H Q _=>∃ (G:Gm) (t tn tl a:Addr) (x:Mo) (ds:List (Addr×List V)) (ms:List (Addr×Mo)) (ls:List Addr) (ps:List Str) (zs:List (V×(Str×Str))) (gs:List Str),vs=[.ref G.g,.ref t,.ref tn,.ref tl]∧J1 T G H ds (ms ++ [(a,x)])∧H tn=some (.tup (JaE G.c x))∧GG K H t ps zs gs G.ps G.zs G.gs∧(JC K H tl (ls.map V.ref)∨JL K H tl (ls.map V.ref))∧ZP H ls ds∧ds.length≤1000∧(∀ d∈ds,d.2.length≤1000∧d.2.all Zz=true)∧∀ H',Jh H H'→Q (.bl true) H'
def Jjy (w:Str) (v:V):Prop:=(w = "bid"∧∃ y,v=.int y)∨(w = "answer"∧∃ y,v=.int y)∨(w = "step"∧∃ z,v=.str z∧YG z)
def Js8:Sp:=fun vs H Q E=>∃ (G:Gm) (ds:List (Addr×List V)) (ms:List (Addr×Mo)) (a:Addr) (x:Mo) (z w:Str) (v:V),vs=[.ref G.g,.str z,.str w,v]∧J1 T G H ds (ms ++ [(a,x)])∧ds.length≤1000∧ms.length≤1000∧YG z∧Jjy w v∧(¬ (x.hand=.str z∧x.word=.str w)→∀ H',Jh H H'→E (.ref T.Yl) none H')∧(x.hand=.str z→x.word=.str w→¬ Zk (G.zs.map (·.2)) G.c x v→∀ H',Jh H H'→E (.ref (if w = "step" then T.Yv else T.Yi)) none H') ∧
 (x.hand=.str z→x.word=.str w→Zk (G.zs.map (·.2)) G.c x v→∀ d a' H',Z0 [G.ld,G.lm] H H'→J1 T G H' (ds ++ [(d,[.str z,.str w,v])]) ((ms ++ [(a,x)]) ++ [(a',Zw (G.zs.map (·.2)) G.gs x v)])→Q (Zw (G.zs.map (·.2)) G.gs x v).told H')
end
section
variable {P:Program} {w:World} {K:PySem.W.Frag} {mg:Str→Option Value} {base:Heap}
theorem JjP (T:Txt K mg):JK P w K mg base YB 1 T.Jpc T.Jne ["_law_hand_here"] Jt0:=by
 refine T.Jiw.F.ok Jt6 (fun vs H Q E h=>?_) (fun cdv A outer s H vs Q E hr h=>?_)
 ·obtain ⟨i,rfl,_⟩:=h;rfl
 ·obtain ⟨b,rfl,q⟩:=h;refine ⟨_,(@Jd _ _ _ _ _ (@JH _ _ _ _ _ _ _ _ (@Js _ _ _ _ _ _ _ _ (@Yg _) (@pv _ 0 _ _ rfl (.inl rfl) rfl rfl) (@Jz _ _ _ _) (JE _)) (@Jg _ _ _ (@Jn _ _ _ _ (@Jz _ _ _ _))) (@Jp _)) (@Jg _ _ _ (@Jn _ _ _ _ (@Jz _ _ _ _)))),?_⟩;refine ⟨_,rfl,rfl,_,rfl,?_⟩;rw [JhQ];cases b with
  | true=>exact YD q
  | false=>exact Yo q
theorem Jp4 (T:Txt K mg):JK P w K mg base YB 2 T.Jjh T.JhS ["_law_north", "_law_south", "_law_ribbon", "_law_bid", "_law_reply"] JpC:=by
 refine T.Jju.F.ok Jbp (fun vs H Q E h=>?_) (fun cdv A outer s H vs Q E hr h=>?_)
 ·obtain ⟨_,_,_,_,_,rfl,_⟩:=h;rfl
 ·obtain ⟨n,s,b,a,r,rfl,q⟩:=h;refine ⟨_,(@Jd _ _ _ _ _ (@Jr _ _ 5 _ _ _ _ Jbp.nd rfl (Or.inl rfl) (@pv _ 2 _ _ rfl (.inl rfl) rfl rfl) rfl (.inl rfl)) (@Jd _ _ _ _ _ (@Jr _ _ 6 _ _ _ _ Jbp.nd rfl (Or.inl rfl) (@pv _ 4 _ _ rfl (.inl rfl) rfl rfl) rfl (.inl rfl)) (@Jd _ _ _ _ _ (@Jr _ _ 7 _ _ _ _ Jbp.nd rfl (Or.inl rfl) (@pv _ 2 _ _ rfl (.inl rfl) rfl rfl) rfl (.inl rfl)) (@Jd _ _ _ _ _ (@JH _ _ _ _ _ _ _ _ (@Js _ _ _ _ _ _ _ _ (@Jeo _) (@pv _ 3 _ _ rfl (.inl rfl) rfl rfl) (@pv _ 4 _ _ rfl (.inl rfl) rfl rfl) (JE _)) (@Jd _ _ _ _ _ (@Jr _ _ 5 _ _ _ _ Jbp.nd rfl (Or.inl rfl) (@Jk _ _ _ _ _ _ _ _ _ _ _ _ _ _ _ T.Jiw (JjP T) (hr.mono (by decide)) Jt (@Ja _ _ _ _ _ (@pv _ 2 _ _ rfl (.inl rfl) rfl rfl) (@Jc _) rfl) rfl (by decide) rfl rfl) rfl (.inl rfl)) (@Jg _ _ _ (@Jr _ _ 6 _ _ _ _ Jbp.nd rfl (Or.inl rfl) (@pv _ 3 _ _ rfl (.inl rfl) rfl rfl) rfl (.inl rfl)))) (@Jp _)) (@Jd _ _ _ _ _ (@JH _ _ _ _ _ _ _ _ (@Js _ _ _ _ _ _ _ _ (@Yg _) (@pv _ 3 _ _ rfl (.inl rfl) rfl rfl) (@pv _ 4 _ _ rfl (.inl rfl) rfl rfl) (JE _)) (@Jg _ _ _ (@Jr _ _ 7 _ _ _ _ Jbp.nd rfl (Or.inl rfl) (@Jk _ _ _ _ _ _ _ _ _ _ _ _ _ _ _ T.Jiw (JjP T) (hr.mono (by decide)) Jt (@Ja _ _ _ _ _ (@pv _ 2 _ _ rfl (.inl rfl) rfl rfl) (@Jc _) rfl) rfl (by decide) rfl rfl) rfl (.inl rfl))) (@Jp _)) (@Jd _ _ _ _ _ (@JH _ _ _ _ _ _ _ _ (@Js _ _ _ _ _ _ _ _ (@Yg _) (@pv _ 5 _ _ rfl (.inl rfl) rfl rfl) (@Jz _ _ _ _) (JE _)) (@Jg _ _ _ (@Jn _ _ _ _ (@Yn _ _ _ _ _ (@Ja _ _ _ _ _ (@pv _ 5 _ _ rfl (.inl rfl) rfl rfl) (@Ja _ _ _ _ _ (@Jm _ _ _ _ _ _ _ _ (@Zg _) (@pv _ 0 _ _ rfl (.inl rfl) rfl rfl) (@pv _ 6 _ _ rfl (.inl rfl) rfl rfl)) (@Ja _ _ _ _ _ (@Jm _ _ _ _ _ _ _ _ (@J3 _) (@pv _ 1 _ _ rfl (.inl rfl) rfl rfl) (@pv _ 6 _ _ rfl (.inl rfl) rfl rfl)) (@Ja _ _ _ _ _ (@pv _ 7 _ _ rfl (.inl rfl) rfl rfl) (@Jc _) rfl) rfl) rfl) rfl)))) (@Jp _)) (@Jg _ _ _ (@Jn _ _ _ _ (@Yn _ _ _ _ _ (@Ja _ _ _ _ _ (@pv _ 5 _ _ rfl (.inl rfl) rfl rfl) (@Ja _ _ _ _ _ (@Jm _ _ _ _ _ _ _ _ (@J3 _) (@pv _ 0 _ _ rfl (.inl rfl) rfl rfl) (@pv _ 6 _ _ rfl (.inl rfl) rfl rfl)) (@Ja _ _ _ _ _ (@Jm _ _ _ _ _ _ _ _ (@Zg _) (@pv _ 1 _ _ rfl (.inl rfl) rfl rfl) (@pv _ 6 _ _ rfl (.inl rfl) rfl rfl)) (@Ja _ _ _ _ _ (@pv _ 7 _ _ rfl (.inl rfl) rfl rfl) (@Jc _) rfl) rfl) rfl) rfl)))))))))),?_⟩
  try dsimp only [cxK,Jdd]
  refine ⟨_,rfl,_,rfl,_,rfl,_,rfl,_,rfl,_,_,rfl,rfl,_,rfl,?_⟩;have fin:∀ p,H p=none→Jh H (upd H p (.tup (Jca n s r b a))):=fun p hp=>Jh.upd hp
  refine YV (fun c=>?_) (fun c=>?_)
  ·have c':a < b:=of_decide_eq_true c;refine ⟨_,rfl,r,rfl,_,rfl,_,rfl,_,rfl,rfl,_,rfl,?_⟩;refine Yb (decide_eq_false (fun z=>by cases z; omega)) ?_;refine ⟨_,rfl,rfl,_,rfl,?_⟩;rw [JhQ];have e:Jca n s r b a=if r then [.str (hs false),.int (n + b),.int (s - b),.str (hs true)] else [.str (hs true),.int (n - b),.int (s + b),.str (hs false)]:=by unfold Jca; rw [if_pos c']
   cases r with
   | true =>
    refine Yo ⟨_,rfl,_,rfl,_,rfl,_,_,rfl,rfl,_,rfl,_,rfl,_,_,rfl,rfl,_,rfl,by show 4≤sizeLine; decide,fun p hp=>q p _ (Jh.upd hp) ?_⟩;rw [Ji,e]; rfl
   | false =>
    refine YD ⟨_,rfl,_,rfl,_,rfl,_,_,rfl,rfl,_,rfl,_,rfl,_,_,rfl,rfl,_,rfl,by show 4≤sizeLine; decide,fun p hp=>q p _ (Jh.upd hp) ?_⟩;rw [Ji,e]; rfl
  ·have c':¬ a < b:=fun z=>c (decide_eq_true z)
   refine ⟨_,rfl,_,rfl,rfl,_,rfl,?_⟩;refine YV (fun d=>?_) (fun d=>?_)
   ·have d':b=a:=by have z:=of_decide_eq_true d; cases z; rfl
    refine ⟨_,rfl,r,rfl,_,rfl,rfl,_,rfl,?_⟩;rw [JhQ];have e:Jca n s r b a=if r then [.str (hs true),.int (n - a),.int (s + a),.str (hs false)] else [.str (hs false),.int (n + a),.int (s - a),.str (hs true)]:=by
     unfold Jca; rw [if_neg (by omega),if_neg (by omega)]
    cases r with
    | true =>
     refine YD ⟨_,rfl,_,rfl,_,rfl,_,_,rfl,rfl,_,rfl,_,rfl,_,_,rfl,rfl,_,rfl,by show 4≤sizeLine; decide,fun p hp=>q p _ (Jh.upd hp) ?_⟩;rw [Ji,e]; rfl
    | false =>
     refine Yo ⟨_,rfl,_,rfl,_,rfl,_,_,rfl,rfl,_,rfl,_,rfl,_,_,rfl,rfl,_,rfl,by show 4≤sizeLine; decide,fun p hp=>q p _ (Jh.upd hp) ?_⟩;rw [Ji,e]; rfl
   ·have d':¬ b=a:=fun z=>d (decide_eq_true (by rw [z]))
    refine ⟨_,rfl,rfl,_,rfl,?_⟩;rw [JhQ];have e:Jca n s r b a=if r then [.str (hs true),.int (n - a),.int (s + a),.str (hs true)] else [.str (hs false),.int (n + a),.int (s - a),.str (hs false)]:=by
     unfold Jca; rw [if_neg (by omega),if_pos (by omega)]
    cases r with
    | true =>
     refine YD ⟨_,rfl,_,rfl,_,rfl,_,_,rfl,rfl,_,rfl,_,rfl,_,_,rfl,rfl,_,rfl,by show 4≤sizeLine; decide,fun p hp=>q p _ (Jh.upd hp) ?_⟩;rw [Ji,e]; rfl
    | false =>
     refine Yo ⟨_,rfl,_,rfl,_,rfl,_,_,rfl,rfl,_,rfl,_,rfl,_,_,rfl,rfl,_,rfl,by show 4≤sizeLine; decide,fun p hp=>q p _ (Jh.upd hp) ?_⟩;rw [Ji,e]; rfl
theorem JnK (T:Txt K mg):JK P w K mg base YB 1 T.Jg2 T.Jf8 ["_law_own", "_law_his", "_law_cell"] JnG:=by
 refine T.Jg9.F.ok JnI (fun vs H Q E h=>?_) (fun cdv A outer s H vs Q E hr h=>?_)
 ·obtain ⟨_,_,_,rfl,_⟩:=h;rfl
 ·obtain ⟨o,s',c,rfl,o0,s0,q⟩:=h;refine ⟨_,(@Jd _ _ _ _ _ (@JH _ _ _ _ _ _ _ _ (@Js _ _ _ _ _ _ _ _ (@Yg _) (@Jm _ _ _ _ _ _ _ _ (@JV _) (@pv _ 2 _ _ rfl (.inl rfl) rfl rfl) (@Je _ _ _ _)) (@Je _ _ _ _) (JE _)) (@Jg _ _ _ (@Jn _ _ _ _ (@JF _ _ _ _ _ _ _ _ _ (@Jh2 _ rfl) rfl T.JjU PyProof.Rows.boot_min (@Ja _ _ _ _ _ (@pv _ 0 _ _ rfl (.inl rfl) rfl rfl) (@Ja _ _ _ _ _ (@Jm _ _ _ _ _ _ _ _ (@J3 _) (@pv _ 1 _ _ rfl (.inl rfl) rfl rfl) (@Jm _ _ _ _ _ _ _ _ (@JV _) (@Jm _ _ _ _ _ _ _ _ (@YU _) (@pv _ 2 _ _ rfl (.inl rfl) rfl rfl) (@Je _ _ _ _)) (@Je _ _ _ _))) (@Jc _) rfl) rfl) (by decide) (by decide) rfl rfl))) (@Jp _)) (@Jg _ _ _ (@Jn _ _ _ _ (@Jm _ _ _ _ _ _ _ _ (@JV _) (@Jm _ _ _ _ _ _ _ _ (@YU _) (@pv _ 2 _ _ rfl (.inl rfl) rfl rfl) (@Je _ _ _ _)) (@Jm _ _ _ _ _ _ _ _ (@J3 _) (@pv _ 0 _ _ rfl (.inl rfl) rfl rfl) (@Je _ _ _ _)))))),?_⟩;refine ⟨_,rfl,_,_,rfl,rfl,(by show (0:Int) < 3; decide),rfl,_,rfl,YV (fun _=>?_) (fun _=>?_)⟩
  ·refine ⟨_,rfl,_,rfl,_,rfl,_,_,rfl,rfl,⟨by decide,by decide⟩,_,_,rfl,rfl,(by show (0:Int) < 2; decide),_,_,rfl,rfl,_,_,rfl,q _ ?_ ?_⟩
   ·have:=JhF (x:=c / 3) (n:=2) (by decide);split <;> omega
   ·split <;> omega
  ·have:=JhF (x:=c / 3) (n:=o + 1) (by omega);exact ⟨_,rfl,_,_,rfl,rfl,⟨by decide,by decide⟩,_,rfl,_,_,rfl,rfl,_,_,rfl,rfl,(by show (0:Int) < o + 1; omega),q _ this.1 (by omega)⟩
theorem Jl7 (T:Txt K mg):JK P w K mg base YB 1 T.Jfq T.JdM ["_law_bid", "_law_own", "_law_cell"] JlV:=by
 refine T.JfD.F.ok JlZ (fun vs H Q E h=>?_) (fun cdv A outer s H vs Q E hr h=>?_)
 ·obtain ⟨_,_,_,rfl,_⟩:=h;rfl
 ·obtain ⟨b,o,c,rfl,b0,o0,q⟩:=h;refine ⟨_,(@Jd _ _ _ _ _ (@JH _ _ _ _ _ _ _ _ (@Js _ _ _ _ _ _ _ _ (@Yg _) (@Jm _ _ _ _ _ _ _ _ (@JV _) (@pv _ 2 _ _ rfl (.inl rfl) rfl rfl) (@Je _ _ _ _)) (@Je _ _ _ _) (JE _)) (@Jg _ _ _ (@Jn _ _ _ _ (@JF _ _ _ _ _ _ _ _ _ (@Jh2 _ rfl) rfl T.JjU PyProof.Rows.boot_min (@Ja _ _ _ _ _ (@pv _ 0 _ _ rfl (.inl rfl) rfl rfl) (@Ja _ _ _ _ _ (@pv _ 1 _ _ rfl (.inl rfl) rfl rfl) (@Jc _) rfl) rfl) (by decide) (by decide) rfl rfl))) (@Jp _)) (@Jg _ _ _ (@Jn _ _ _ _ (@Jm _ _ _ _ _ _ _ _ (@JV _) (@Jm _ _ _ _ _ _ _ _ (@YU _) (@pv _ 2 _ _ rfl (.inl rfl) rfl rfl) (@Je _ _ _ _)) (@Jm _ _ _ _ _ _ _ _ (@J3 _) (@pv _ 1 _ _ rfl (.inl rfl) rfl rfl) (@Je _ _ _ _)))))),?_⟩;refine ⟨_,rfl,_,_,rfl,rfl,(by show (0:Int) < 3; decide),rfl,_,rfl,YV (fun _=>?_) (fun _=>?_)⟩
  ·refine ⟨_,rfl,_,rfl,_,_,rfl,q _ ?_ ?_⟩ <;> (split <;> omega)
  ·have:=JhF (x:=c / 3) (n:=o + 1) (by omega);exact ⟨_,rfl,_,_,rfl,rfl,⟨by decide,by decide⟩,_,rfl,_,_,rfl,rfl,_,_,rfl,rfl,(by show (0:Int) < o + 1; omega),q _ this.1 (by omega)⟩
theorem Jez (T:Txt K mg):JK P w K mg base YB 3 T.Jnn T.JkX ["_law_found", "_law_due_here"] (Jro K):=by
 refine T.Jdy.F.ok JnV (fun vs H Q E h=>?_) (fun cdv A outer s H vs Q E hr h=>?_)
 ·obtain ⟨_,_,rfl,_⟩:=h;rfl
 ·obtain ⟨x,y,rfl,q,h⟩:=h;refine ⟨_,(@Jd _ _ _ _ _ (@JH _ _ _ _ _ _ _ _ (@Zm _ _ _ _ _ _ (@JaD _ _ _ _ _ (@pv _ 1 _ _ rfl (.inl rfl) rfl rfl)) (by first | exact Yj _ (by decide) (by decide) | rfl)) (@Jg _ _ _ (@Jn _ _ _ _ (@Jhv _ _ _ _ _ _ (@JaD _ _ _ _ _ (@pv _ 0 _ _ rfl (.inl rfl) rfl rfl)) (by first | exact Yj _ (by decide) (by decide) | rfl)))) (@Jp _)) (@Jd _ _ _ _ _ (@JH _ _ _ _ _ _ _ _ (@PW.pt _ _ _ (@ZX _ _ _ _ _ _ _ (@ZU _ _ _ _ (@Zf _ _ _ (@JF _ _ _ _ _ _ _ _ _ (@Jsk _) rfl T.J7 PyProof.Rows.boot_isinstance (@Ja _ _ _ _ _ (@pv _ 0 _ _ rfl (.inl rfl) rfl rfl) (@Ja _ _ _ _ _ (@Je1 _ _ _ _ rfl T.Ja2 PyProof.Rows.boot_tuple (by decide) (by decide)) (@Jc _) rfl) rfl) (by decide) (by decide) rfl rfl) (by intro _; rfl))) (@ZT _ _ _ _ (@Js _ _ _ _ _ _ _ _ (@Jil _) (@JF _ _ _ _ _ _ _ _ _ (@Yh _) rfl T.Zy PySem.boot_len (@Ja _ _ _ _ _ (@pv _ 0 _ _ rfl (.inl rfl) rfl rfl) (@Jc _) rfl) (by decide) (by decide) rfl rfl) (@JF _ _ _ _ _ _ _ _ _ (@Yh _) rfl T.Zy PySem.boot_len (@Ja _ _ _ _ _ (@pv _ 1 _ _ rfl (.inl rfl) rfl rfl) (@Jc _) rfl) (by decide) (by decide) rfl rfl) (JE _))))) (@Jg _ _ _ (@Jn _ _ _ _ (@Jay _ _ _ _))) (@Jp _)) (@Jd _ _ _ _ _ (@Zn _ _ _ _ _ _ _ _ PassesOwn.never rfl (@ZL _ _ _ _ _ _ rfl T.Z3 (@Ja _ _ _ _ _ (@JF _ _ _ _ _ _ _ _ _ (@Yh _) rfl T.Zy PySem.boot_len (@Ja _ _ _ _ _ (@pv _ 1 _ _ rfl (.inl rfl) rfl rfl) (@Jc _) rfl) (by decide) (by decide) rfl rfl) (@Jc _) rfl) rfl) (@JQ _ _ 2 _ JnV.nd rfl (Or.inl rfl) (.inl rfl)) (@Jg _ _ _ (@JH _ _ _ _ _ _ _ _ (@ZU _ _ _ _ (@Zf _ _ _ (@Jk _ _ _ _ _ _ _ _ _ _ _ _ _ _ _ T.Jdg (Je2 T) (hr.mono (by decide)) Jt (@Ja _ _ _ _ _ (@JG _ _ _ _ _ _ _ (@JX _) (@pv _ 0 _ _ rfl (.inl rfl) rfl rfl) (@pv _ 2 _ _ rfl (.inl rfl) rfl rfl) (fun _ _=>rfl)) (@Ja _ _ _ _ _ (@JG _ _ _ _ _ _ _ (@Jqq _) (@pv _ 1 _ _ rfl (.inl rfl) rfl rfl) (@pv _ 2 _ _ rfl (.inl rfl) rfl rfl) (fun _ _=>rfl)) (@Jc _) rfl) rfl) rfl (by decide) rfl rfl) (by intro _; rfl))) (@Jg _ _ _ (@Jn _ _ _ _ (@Jay _ _ _ _))) (@Jp _))) (by intro _; rfl)) (@Jg _ _ _ (@Jn _ _ _ _ (@Jay _ _ _ _)))))),?_⟩;rcases h with ⟨rfl,rfl⟩ | ⟨p,t,xs,rfl,rfl,hp,ht,hl,hx⟩
  ·exact ⟨_,rfl,_,rfl,YD ⟨_,rfl,q⟩⟩
  ·have hl2:xs.length≤sizeLine:=Nat.le_trans hl (by decide);refine ⟨_,rfl,_,rfl,Yo ⟨_,rfl,p,xs,rfl,hp,_,rfl,Yo ?_⟩⟩;refine ⟨_,rfl,p,xs,rfl,.inr hp,_,rfl,t,xs,rfl,ht,rfl,_,rfl,?_⟩;refine Yb (by rw [decide_eq_true rfl]; rfl) ?_;refine ⟨_,rfl,t,xs,rfl,ht,(xs.length:Int),rfl,by omega,by omega,ZY (n:=xs.length) (fun i σ H2=>H2=H∧∃ v,σ=[some (.ref p),some (.ref t),v]) ⟨rfl,none,rfl⟩ ?_ ?_⟩
   ·rintro i σ H2 hi ⟨rfl,v,rfl⟩;obtain ⟨y,hy⟩:∃ y,xs[i]?=some y:=⟨xs[i],List.getElem?_eq_getElem hi⟩
    have e0:(0:Int) + (i:Int)=(i:Int):=by omega
    have hf:Zz y=true:=List.all_eq_true.mp hx y (List.mem_of_getElem? hy);refine ⟨_,rfl,_,rfl,p,xs,_,y,rfl,rfl,hp,by rw [e0]; exact Zr hy,_,rfl,_,rfl,?_⟩;rcases ht with ht | ht
    ·exact .inl ⟨t,xs,_,y,rfl,rfl,ht,by rw [e0]; exact Zr hy,y,rfl,hf,_,rfl,Yo ⟨rfl,_,rfl⟩⟩
    ·exact .inr (.inl ⟨t,xs,_,y,rfl,rfl,ht,by rw [e0]; exact Zr hy,y,rfl,hf,_,rfl,Yo ⟨rfl,_,rfl⟩⟩)
   ·rintro σ H2 ⟨rfl,v,rfl⟩;exact q
theorem JrV (T:Txt K mg):JK P w K mg base YB 4 T.Jk9 T.Jjg ["_law_found", "_law_due_here"] (JpG K):=by
 refine T.Jlk.F.ok Jmx (fun vs H Q E h=>?_) (fun cdv A outer s H vs Q E hr h=>?_)
 ·obtain ⟨_,_,_,_,rfl,_⟩:=h;rfl
 ·obtain ⟨p,t,ds,ls,rfl,hp,ht,hL,hl,hd,q⟩:=h;refine ⟨_,(@Jd _ _ _ _ _ (@JH _ _ _ _ _ _ _ _ (@PW.pt _ _ _ (@ZX _ _ _ _ _ _ _ (@ZU _ _ _ _ (@Zf _ _ _ (@JF _ _ _ _ _ _ _ _ _ (@JbX _) rfl T.J7 PyProof.Rows.boot_isinstance (@Ja _ _ _ _ _ (@pv _ 0 _ _ rfl (.inl rfl) rfl rfl) (@Ja _ _ _ _ _ (@Je1 _ _ _ _ rfl T.Ja2 PyProof.Rows.boot_tuple (by decide) (by decide)) (@Jc _) rfl) rfl) (by decide) (by decide) rfl rfl) (by intro _; rfl))) (@ZT _ _ _ _ (@Js _ _ _ _ _ _ _ _ (@Jil _) (@JF _ _ _ _ _ _ _ _ _ (@Yh _) rfl T.Zy PySem.boot_len (@Ja _ _ _ _ _ (@pv _ 0 _ _ rfl (.inl rfl) rfl rfl) (@Jc _) rfl) (by decide) (by decide) rfl rfl) (@JF _ _ _ _ _ _ _ _ _ (@Yh _) rfl T.Zy PySem.boot_len (@Ja _ _ _ _ _ (@pv _ 1 _ _ rfl (.inl rfl) rfl rfl) (@Jc _) rfl) (by decide) (by decide) rfl rfl) (JE _))))) (@Jg _ _ _ (@Jn _ _ _ _ (@Jay _ _ _ _))) (@Jp _)) (@Jd _ _ _ _ _ (@Zn _ _ _ _ _ _ _ _ PassesOwn.never rfl (@ZL _ _ _ _ _ _ rfl T.Z3 (@Ja _ _ _ _ _ (@JF _ _ _ _ _ _ _ _ _ (@Yh _) rfl T.Zy PySem.boot_len (@Ja _ _ _ _ _ (@pv _ 1 _ _ rfl (.inl rfl) rfl rfl) (@Jc _) rfl) (by decide) (by decide) rfl rfl) (@Jc _) rfl) rfl) (@JQ _ _ 2 _ Jmx.nd rfl (Or.inl rfl) (.inl rfl)) (@Jg _ _ _ (@JH _ _ _ _ _ _ _ _ (@ZU _ _ _ _ (@Zf _ _ _ (@Jk _ _ _ _ _ _ _ _ _ _ _ _ _ _ _ T.Jdy (Jez T) (hr.mono (by decide)) Jt (@Ja _ _ _ _ _ (@JG _ _ _ _ _ _ _ (@JX _) (@pv _ 0 _ _ rfl (.inl rfl) rfl rfl) (@pv _ 2 _ _ rfl (.inl rfl) rfl rfl) (fun _ _=>rfl)) (@Ja _ _ _ _ _ (@JG _ _ _ _ _ _ _ (@Jqq _) (@pv _ 1 _ _ rfl (.inl rfl) rfl rfl) (@pv _ 2 _ _ rfl (.inl rfl) rfl rfl) (fun _ _=>rfl)) (@Jc _) rfl) rfl) rfl (by decide) rfl rfl) (by intro _; rfl))) (@Jg _ _ _ (@Jn _ _ _ _ (@Jay _ _ _ _))) (@Jp _))) (by intro _; rfl)) (@Jg _ _ _ (@Jn _ _ _ _ (@Jay _ _ _ _))))),?_⟩;have szl:sizeLine=16777216:=sizeLine_eq;have el:(ls.map V.ref).length=(ds.map fun d=>V.ref d.1).length:=by rw [List.length_map,List.length_map,hL.1]
  refine ⟨_,rfl,_,_,_,_,rfl,⟨_,.inl rfl⟩,.tup hp,Jql,_,rfl,Yo ?_⟩;refine ⟨_,rfl,p,_,rfl,.inr (JL.of hp),_,rfl,t,_,rfl,ht,rfl,_,rfl,?_⟩;refine Yb (by rw [el,decide_eq_true rfl]; rfl) ?_;refine ⟨_,rfl,t,_,rfl,ht,((ls.map V.ref).length:Int),rfl,by omega,by rw [List.length_map,hL.1]; omega,?_⟩;rw [Int.toNat_natCast];refine ZY (n:=(ls.map V.ref).length) (fun i σ H2=>H2=H∧∃ v,σ=[some (.ref p),some (.ref t),v]) ⟨rfl,none,rfl⟩ ?_ ?_
  ·rintro i σ H2 hi ⟨rfl,v,rfl⟩;rw [List.length_map] at hi;obtain ⟨b,hb⟩:∃ b,ls[i]?=some b:=⟨_,List.getElem?_eq_getElem hi⟩
   obtain ⟨d,hdi⟩:∃ d,ds[i]?=some d:=⟨_,List.getElem?_eq_getElem (by rw [← hL.1]; exact hi)⟩
   have hb2:=hL.2 i b d hb hdi;obtain ⟨d1,d2,d3⟩:=hd d (List.mem_of_getElem? hdi);have a1:atI (ds.map fun d=>V.ref d.1) (0 + (i:Int))=some (.ref d.1):=by rw [Int.zero_add]; exact Zr (by rw [List.getElem?_map,hdi]; rfl)
   have a2:atI (ls.map V.ref) (0 + (i:Int))=some (.ref b):=by rw [Int.zero_add]; exact Zr (by rw [List.getElem?_map,hb]; rfl)
   refine ⟨_,rfl,_,rfl,p,_,_,.ref d.1,rfl,rfl,JL.of hp,a1,_,rfl,_,rfl,?_⟩;rcases ht with ht | ht
   ·exact .inl ⟨t,_,_,.ref b,rfl,rfl,ht,a2,.ref d.1,.ref b,rfl,⟨_,rfl,Yo ⟨rfl,_,rfl⟩⟩,.inr ⟨d.1,b,d.2,rfl,rfl,d1,.inr hb2,d2,d3⟩⟩
   ·exact .inr (.inl ⟨t,_,_,.ref b,rfl,rfl,ht,a2,.ref d.1,.ref b,rfl,⟨_,rfl,Yo ⟨rfl,_,rfl⟩⟩,.inr ⟨d.1,b,d.2,rfl,rfl,d1,.inr hb2,d2,d3⟩⟩)
  ·rintro σ H2 ⟨rfl,v,rfl⟩;exact q
theorem JmV (T:Txt K mg):JK P w K mg base YB 4 T.Jpd T.Jnf ["_law_ground_here", "_law_now"] (Js2 K):=by
 refine T.Jkl.F.ok Jdr (fun vs H Q E h=>?_) (fun cdv A outer s H vs Q E hr h=>?_)
 ·obtain ⟨_,_,_,_,_,_,_,_,_,_,_,rfl,_⟩:=h;rfl
 ·obtain ⟨t,tn,x,ps,zs,gs,ps',zs',gs',c,T0,rfl,htn,g,ok,q1,q2⟩:=h;refine ⟨_,(@Jd _ _ _ _ _ (@Jht _ _ _ _ _ _ (@pv _ 1 _ _ rfl (.inl rfl) rfl rfl) (@Jgr _ _ _ _ _ _ rfl (@Ye _ _ _ _ _ (@JQ _ _ 2 _ Jdr.nd rfl (Or.inl rfl) (.inl rfl)) (@Ye _ _ _ _ _ (@JQ _ _ 3 _ Jdr.nd rfl (Or.inl rfl) (.inl rfl)) (@Ye _ _ _ _ _ (@JQ _ _ 4 _ Jdr.nd rfl (Or.inl rfl) (.inl rfl)) (@Ye _ _ _ _ _ (@JQ _ _ 5 _ Jdr.nd rfl (Or.inl rfl) (.inl rfl)) (@Ye _ _ _ _ _ (@JQ _ _ 6 _ Jdr.nd rfl (Or.inl rfl) (.inl rfl)) (@Ye _ _ _ _ _ (@JQ _ _ 7 _ Jdr.nd rfl (Or.inl rfl) (.inl rfl)) (@Ye _ _ _ _ _ (@JQ _ _ 8 _ Jdr.nd rfl (Or.inl rfl) (.inl rfl)) (@Jew _) rfl) rfl) rfl) rfl) rfl) rfl) rfl) rfl rfl) rfl rfl rfl) (@Jd _ _ _ _ _ (@JH _ _ _ _ _ _ _ _ (@Js _ _ _ _ _ _ _ _ (@Jil _) (@pv _ 8 _ _ rfl (.inl rfl) rfl rfl) (@Jz _ _ _ _) (JE _)) (@Jg _ _ _ (@Jn _ _ _ _ (@Yn _ _ _ _ _ (@Ja _ _ _ _ _ (@pv _ 8 _ _ rfl (.inl rfl) rfl rfl) (@Ja _ _ _ _ _ (@Jz _ _ _ _) (@Jc _) rfl) rfl)))) (@Jp _)) (@Jd _ _ _ _ _ (@JH _ _ _ _ _ _ _ _ (@Zm _ _ _ _ _ _ (@Jag _ _ _ _ _ (@pv _ 7 _ _ rfl (.inl rfl) rfl rfl)) (by first | exact Yj _ (by decide) (by decide) | rfl)) (@Jg _ _ _ (@Jn _ _ _ _ (@Yn _ _ _ _ _ (@Ja _ _ _ _ _ (@pv _ 6 _ _ rfl (.inl rfl) rfl rfl) (@Ja _ _ _ _ _ (@Jz _ _ _ _) (@Jc _) rfl) rfl)))) (@Jp _)) (@Jd _ _ _ _ _ (@JH _ _ _ _ _ _ _ _ (@Js _ _ _ _ _ _ _ _ (@Jil _) (@Jk _ _ _ _ _ _ _ _ _ _ _ _ _ _ _ T.Jit (JjN T) (hr.mono (by decide)) Jt (@Ja _ _ _ _ _ (@pv _ 0 _ _ rfl (.inl rfl) rfl rfl) (@Ja _ _ _ _ _ (@pv _ 2 _ _ rfl (.inl rfl) rfl rfl) (@Ja _ _ _ _ _ (@pv _ 3 _ _ rfl (.inl rfl) rfl rfl) (@Jc _) rfl) rfl) rfl) rfl (by decide) rfl rfl) (@Jz _ _ _ _) (JE _)) (@Jg _ _ _ (@Jn _ _ _ _ (@Zo _ _ _))) (@Jp _)) (@Jg _ _ _ (@Jn _ _ _ _ (@Yn _ _ _ _ _ (@Ja _ _ _ _ _ (@Jk _ _ _ _ _ _ _ _ _ _ _ _ _ _ _ T.Jiw (JjP T) (hr.mono (by decide)) Jt (@Ja _ _ _ _ _ (@pv _ 6 _ _ rfl (.inl rfl) rfl rfl) (@Jc _) rfl) rfl (by decide) rfl rfl) (@Ja _ _ _ _ _ (@Jz _ _ _ _) (@Jc _) rfl) rfl)))))))),?_⟩;refine ⟨_,rfl,tn,_,rfl,JL.of htn,rfl,_,_,rfl,_,_,rfl,_,_,rfl,_,_,rfl,_,_,rfl,_,_,rfl,_,_,rfl,rfl,?_⟩;unfold Mo.mover Mo.heard;unfold Mo.hand Mo.word at q2;cases hp:x.ph with
  | step h =>
   rw [hp] at q2;refine ⟨_,rfl,rfl,_,rfl,YF (by cases h <;> decide +kernel) ⟨_,rfl,by show 2≤sizeLine; decide,fun tt nt=>q2 (fun z=>nomatch z) tt _ (Jh.upd nt) Ji⟩⟩
  | ans b =>
   rw [hp] at q2;refine ⟨_,rfl,rfl,_,rfl,Yb (by show (!decide (V.str "" = V.str ""))=false; decide +kernel) ⟨_,rfl,_,rfl,YD ⟨_,rfl,by show 2≤sizeLine; decide,fun tt nt=>q2 (fun z=>nomatch z) tt _ (Jh.upd nt) Ji⟩⟩⟩
  | over =>
   rw [hp] at q1;refine ⟨_,rfl,rfl,_,rfl,Yb (by decide +kernel) ⟨_,rfl,_,rfl,Yo ⟨_,rfl,_,rfl,_,rfl,t,x.p,(x.m:Int),ps,zs,gs,rfl,g.G,fun H1 e1=>?_⟩⟩⟩;have he:=ok.e.mp hp;rcases Jpt (z:=x.p) (m:=x.m) (g.zp.map (·.2)) g.gp with ⟨_,hw,_⟩ | ⟨_,hw,_⟩ | ⟨_,hn⟩
   ·exact ⟨rfl,_,rfl,YF (by rw [hw]; decide +kernel) (q1 rfl H1 e1)⟩
   ·exact ⟨rfl,_,rfl,YF (by rw [hw]; decide +kernel) (q1 rfl H1 e1)⟩
   ·exact absurd he hn
  | bid =>
   rw [hp] at q2;refine ⟨_,rfl,rfl,_,rfl,Yb (by decide +kernel) ⟨_,rfl,_,rfl,Yo ⟨_,rfl,_,rfl,_,rfl,t,x.p,(x.m:Int),ps,zs,gs,rfl,g.G,fun H1 e1=>?_⟩⟩⟩;have he:¬ Yq (zs'.map (·.2)) gs' x.m x.p:=fun z=>by have:=ok.e.mpr z; rw [hp] at this; cases this
   rcases Jpt (z:=x.p) (m:=x.m) (g.zp.map (·.2)) g.gp with ⟨_,_,hn⟩ | ⟨_,_,hn⟩ | ⟨hw,_⟩
   ·exact absurd hn he
   ·exact absurd hn he
   ·exact ⟨rfl,_,rfl,Yb (by rw [hw]; decide +kernel) ⟨_,rfl,x.r,rfl,by show 2≤sizeLine; decide,fun tt nt=>q2 (fun z=>nomatch z) tt _ (e1.trans (Jh.upd nt)) Ji⟩⟩
theorem Jtr (T:Txt K mg):JK P w K mg base YB 3 T.Jnk T.JkU ["_law_now", "_law_word", "_law_what"] JsZ:=by
 refine T.JnB.F.ok Jaf (fun vs H Q E h=>?_) (fun cdv A outer s H vs Q E hr h=>?_)
 ·obtain ⟨_,_,_,_,_,_,_,rfl,_⟩:=h;rfl
 ·obtain ⟨tn,x,w,v,zs,gs,c,rfl,htn,hw,hv,hm,q⟩:=h;refine ⟨_,(@Jd _ _ _ _ _ (@J4 _ _ _ (@Jht _ _ _ _ _ _ (@pv _ 0 _ _ rfl (.inl rfl) rfl rfl) (@Jgr _ _ _ _ _ _ rfl (@Ye _ _ _ _ _ (@JQ _ _ 3 _ Jaf.nd rfl (Or.inl rfl) (.inl rfl)) (@Ye _ _ _ _ _ (@JQ _ _ 4 _ Jaf.nd rfl (Or.inl rfl) (.inl rfl)) (@Ye _ _ _ _ _ (@JQ _ _ 5 _ Jaf.nd rfl (Or.inl rfl) (.inl rfl)) (@Ye _ _ _ _ _ (@JQ _ _ 6 _ Jaf.nd rfl (Or.inl rfl) (.inl rfl)) (@Ye _ _ _ _ _ (@JQ _ _ 7 _ Jaf.nd rfl (Or.inl rfl) (.inl rfl)) (@Ye _ _ _ _ _ (@JQ _ _ 8 _ Jaf.nd rfl (Or.inl rfl) (.inl rfl)) (@Ye _ _ _ _ _ (@JQ _ _ 9 _ Jaf.nd rfl (Or.inl rfl) (.inl rfl)) (@Jew _) rfl) rfl) rfl) rfl) rfl) rfl) rfl) rfl rfl) rfl rfl rfl)) (@Jd _ _ _ _ _ (@JH _ _ _ _ _ _ _ _ (@Js _ _ _ _ _ _ _ _ (@Yg _) (@pv _ 1 _ _ rfl (.inl rfl) rfl rfl) (@Jz _ _ _ _) (JE _)) (@Jg _ _ _ (@Jn _ _ _ _ (@Yn _ _ _ _ _ (@Ja _ _ _ _ _ (@pv _ 3 _ _ rfl (.inl rfl) rfl rfl) (@Ja _ _ _ _ _ (@pv _ 4 _ _ rfl (.inl rfl) rfl rfl) (@Ja _ _ _ _ _ (@pv _ 5 _ _ rfl (.inl rfl) rfl rfl) (@Ja _ _ _ _ _ (@pv _ 6 _ _ rfl (.inl rfl) rfl rfl) (@Ja _ _ _ _ _ (@pv _ 7 _ _ rfl (.inl rfl) rfl rfl) (@Ja _ _ _ _ _ (@pv _ 2 _ _ rfl (.inl rfl) rfl rfl) (@Ja _ _ _ _ _ (@Jz _ _ _ _) (@Jc _) rfl) rfl) rfl) rfl) rfl) rfl) rfl)))) (@Jp _)) (@Jd _ _ _ _ _ (@JH _ _ _ _ _ _ _ _ (@Js _ _ _ _ _ _ _ _ (@Yg _) (@pv _ 1 _ _ rfl (.inl rfl) rfl rfl) (@Jz _ _ _ _) (JE _)) (@Jd _ _ _ _ _ (@Jht _ _ _ _ _ _ (@Jk _ _ _ _ _ _ _ _ _ _ _ _ _ _ _ T.Jju (Jp4 T) (hr.mono (by decide)) Jt (@Ja _ _ _ _ _ (@pv _ 5 _ _ rfl (.inl rfl) rfl rfl) (@Ja _ _ _ _ _ (@pv _ 6 _ _ rfl (.inl rfl) rfl rfl) (@Ja _ _ _ _ _ (@pv _ 7 _ _ rfl (.inl rfl) rfl rfl) (@Ja _ _ _ _ _ (@pv _ 8 _ _ rfl (.inl rfl) rfl rfl) (@Ja _ _ _ _ _ (@pv _ 2 _ _ rfl (.inl rfl) rfl rfl) (@Jc _) rfl) rfl) rfl) rfl) rfl) rfl (by decide) rfl rfl) (@Jgr _ _ _ _ _ _ rfl (@Ye _ _ _ _ _ (@JQ _ _ 9 _ Jaf.nd rfl (Or.inl rfl) (.inl rfl)) (@Ye _ _ _ _ _ (@JQ _ _ 5 _ Jaf.nd rfl (Or.inl rfl) (.inl rfl)) (@Ye _ _ _ _ _ (@JQ _ _ 6 _ Jaf.nd rfl (Or.inl rfl) (.inl rfl)) (@Ye _ _ _ _ _ (@JQ _ _ 7 _ Jaf.nd rfl (Or.inl rfl) (.inl rfl)) (@Jew _) rfl) rfl) rfl) rfl) rfl rfl) rfl rfl rfl) (@Jg _ _ _ (@Jn _ _ _ _ (@Yn _ _ _ _ _ (@Ja _ _ _ _ _ (@pv _ 3 _ _ rfl (.inl rfl) rfl rfl) (@Ja _ _ _ _ _ (@pv _ 4 _ _ rfl (.inl rfl) rfl rfl) (@Ja _ _ _ _ _ (@pv _ 5 _ _ rfl (.inl rfl) rfl rfl) (@Ja _ _ _ _ _ (@pv _ 6 _ _ rfl (.inl rfl) rfl rfl) (@Ja _ _ _ _ _ (@pv _ 7 _ _ rfl (.inl rfl) rfl rfl) (@Ja _ _ _ _ _ (@Zo _ _ _) (@Ja _ _ _ _ _ (@pv _ 9 _ _ rfl (.inl rfl) rfl rfl) (@Jc _) rfl) rfl) rfl) rfl) rfl) rfl) rfl))))) (@Jp _)) (@Jg _ _ _ (@Jn _ _ _ _ (@Yn _ _ _ _ _ (@Ja _ _ _ _ _ (@pv _ 2 _ _ rfl (.inl rfl) rfl rfl) (@Ja _ _ _ _ _ (@Jm _ _ _ _ _ _ _ _ (@Zg _) (@pv _ 4 _ _ rfl (.inl rfl) rfl rfl) (@Je _ _ _ _)) (@Ja _ _ _ _ _ (@pv _ 5 _ _ rfl (.inl rfl) rfl rfl) (@Ja _ _ _ _ _ (@pv _ 6 _ _ rfl (.inl rfl) rfl rfl) (@Ja _ _ _ _ _ (@pv _ 7 _ _ rfl (.inl rfl) rfl rfl) (@Ja _ _ _ _ _ (@Zo _ _ _) (@Ja _ _ _ _ _ (@Jz _ _ _ _) (@Jc _) rfl) rfl) rfl) rfl) rfl) rfl) rfl))))))),?_⟩
  try dsimp only [cxK,Jdd]
  refine ⟨fun σ1 H1=>H1=H∧σ1=[some (.ref tn),some (.str w),some v,some (.str x.p),some (.int (x.m:Int)),some (.int x.n),some (.int (c - x.n)),some (.str (hs x.r)),some x.heard,some x.mover],⟨_,rfl,tn,_,rfl,JL.of htn,rfl,_,_,rfl,_,_,rfl,_,_,rfl,_,_,rfl,_,_,rfl,_,_,rfl,_,_,rfl,rfl,rfl,rfl⟩,?_⟩;rintro σ1 H1 ⟨rfl,rfl⟩;unfold Mo.mover Mo.heard;unfold Mo.word at hw;unfold Zk at hv;unfold Zw at q;cases hp:x.ph with
  | over=>rw [hp] at hv; exact hv.elim
  | bid =>
   rw [hp] at hw hv q;obtain ⟨y,rfl,hy⟩:=hv;cases V.str.inj hw;refine ⟨_,rfl,rfl,_,rfl,YF (by decide +kernel) ⟨_,rfl,_,rfl,_,rfl,_,rfl,_,rfl,_,rfl,by show 7≤sizeLine; decide,fun t' nt=>q t' _ (Jh.upd nt) Ji⟩⟩
  | ans b =>
   rw [hp] at hw hv q;obtain ⟨y,rfl,hy⟩:=hv;cases V.str.inj hw;refine ⟨_,rfl,rfl,_,rfl,Yb (by decide +kernel) ⟨_,rfl,rfl,_,rfl,YF (by decide +kernel) ⟨_,rfl,_,rfl,_,rfl,_,rfl,_,rfl,x.n,c - x.n,b,y,x.r,rfl,fun tu H2 e1 htu=>?_⟩⟩⟩;rw [Jn1] at htu;have q:∀ (t':Addr) (H':Hp),Jh H1 H'→H' t'=some (.tup (JaE c ⟨x.p,x.m,(after x.n x.r b y).2.1,(after x.n x.r b y).2.2,.step (after x.n x.r b y).1⟩))→Q (.ref t') H':=q;generalize hl:(after x.n x.r b y).1=l at htu q;generalize hn':(after x.n x.r b y).2.1=n' at htu q;generalize hr2:(after x.n x.r b y).2.2=r2 at htu q;have en:JaE c ⟨x.p,x.m,n',r2,.step l⟩=[.str x.p,.int (x.m:Int),.int n',.int (c - n'),.str (hs r2),.non,.str (hs l)]:=rfl;rw [en] at q;refine ⟨tu,_,rfl,JL.of htu,rfl,_,_,rfl,_,_,rfl,_,_,rfl,_,_,rfl,rfl,?_⟩;refine ⟨_,rfl,_,rfl,_,rfl,_,rfl,_,rfl,_,rfl,by show 7≤sizeLine; decide,fun t' nt=>?_⟩;exact q t' _ (e1.trans (Jh.upd nt)) Ji
  | step h =>
   rw [hp] at hw hv q;obtain ⟨y,rfl,hy⟩:=hv;cases V.str.inj hw;have hm0:=hm h hp;refine ⟨_,rfl,rfl,_,rfl,Yb (by decide +kernel) ⟨_,rfl,rfl,_,rfl,Yb (by decide +kernel) ⟨_,rfl,_,rfl,_,_,rfl,rfl,_,rfl,_,rfl,_,rfl,by show 7≤sizeLine; decide,fun t' nt=>q t' _ (Jh.upd nt) ?_⟩⟩⟩;show upd _ _ (HO.tup [V.str y,V.int ((x.m:Int) - 1),V.int x.n,V.int (c - x.n),V.str (hs x.r),.non,.str ""]) _=_;rw [Ji];unfold JaE;rw [(Jbv (zs:=zs) (gs:=gs) (p:=y) (m:=x.m - 1) (n:=x.n) (r:=x.r)).2.1,(Jbv (zs:=zs) (gs:=gs) (p:=y) (m:=x.m - 1) (n:=x.n) (r:=x.r)).2.2];show _=some (HO.tup [V.str y,V.int ((x.m - 1:Nat):Int),V.int x.n,V.int (c - x.n),V.str (hs x.r),.non,.str ""]);rw [show ((x.m - 1:Nat):Int)=(x.m:Int) - 1 by omega]
theorem Jtp (T:Txt K mg):JK P w K mg base YB 4 T.Jni T.JkS ["_law_ground_here", "_law_now", "_law_cell"] (JsW K):=by
 refine T.Jnz.F.ok JaZ (fun vs H Q E h=>?_) (fun cdv A outer s H vs Q E hr h=>?_)
 ·obtain ⟨_,_,_,_,_,_,_,_,_,_,_,_,rfl,_⟩:=h;rfl
 ·obtain ⟨t,tn,x,i,ps,zs,gs,ps',zs',gs',c,T0,rfl,htn,g,ok,hno,q⟩:=h;have hu:=Jio hr;refine ⟨_,(@Jd _ _ _ _ _ (@J4 _ _ _ (@Jht _ _ _ _ _ _ (@pv _ 1 _ _ rfl (.inl rfl) rfl rfl) (@Jgr _ _ _ _ _ _ rfl (@Ye _ _ _ _ _ (@JQ _ _ 3 _ JaZ.nd rfl (Or.inl rfl) (.inl rfl)) (@Ye _ _ _ _ _ (@JQ _ _ 4 _ JaZ.nd rfl (Or.inl rfl) (.inl rfl)) (@Ye _ _ _ _ _ (@JQ _ _ 5 _ JaZ.nd rfl (Or.inl rfl) (.inl rfl)) (@Ye _ _ _ _ _ (@JQ _ _ 6 _ JaZ.nd rfl (Or.inl rfl) (.inl rfl)) (@Ye _ _ _ _ _ (@JQ _ _ 7 _ JaZ.nd rfl (Or.inl rfl) (.inl rfl)) (@Ye _ _ _ _ _ (@JQ _ _ 8 _ JaZ.nd rfl (Or.inl rfl) (.inl rfl)) (@Ye _ _ _ _ _ (@JQ _ _ 9 _ JaZ.nd rfl (Or.inl rfl) (.inl rfl)) (@Jew _) rfl) rfl) rfl) rfl) rfl) rfl) rfl) rfl rfl) rfl rfl rfl)) (@Jd _ _ _ _ _ (@JH _ _ _ _ _ _ _ _ (@Js _ _ _ _ _ _ _ _ (@Jil _) (@pv _ 9 _ _ rfl (.inl rfl) rfl rfl) (@Jz _ _ _ _) (JE _)) (@Jd _ _ _ _ _ (@Jr _ _ 10 _ _ _ _ JaZ.nd rfl (Or.inl rfl) (@Jk _ _ _ _ _ _ _ _ _ _ _ _ _ _ _ T.Jh9 (JkJ T) (hr.mono (by decide)) Jt (@Ja _ _ _ _ _ (@pv _ 0 _ _ rfl (.inl rfl) rfl rfl) (@Ja _ _ _ _ _ (@pv _ 3 _ _ rfl (.inl rfl) rfl rfl) (@Jc _) rfl) rfl) rfl (by decide) rfl rfl) rfl (.inl rfl)) (@Jg _ _ _ (@Jn _ _ _ _ (@JG _ _ _ _ _ _ _ (@JU _) (@pv _ 10 _ _ rfl (.inl rfl) rfl rfl) (@Jm _ _ _ _ _ _ _ _ (@JV _) (@pv _ 2 _ _ rfl (.inl rfl) rfl rfl) (@JF _ _ _ _ _ _ _ _ _ (@Yh _) rfl T.Zy PySem.boot_len (@Ja _ _ _ _ _ (@pv _ 10 _ _ rfl (.inl rfl) rfl rfl) (@Jc _) rfl) (by decide) (by decide) rfl rfl)) (fun _ _=>rfl))))) (@Jp _)) (@Jd _ _ _ _ _ (@Jr _ _ 11 _ _ _ _ JaZ.nd rfl (Or.inl rfl) (@Jtl _ _ _ _ _ (@JmO _ _ _ _ _ _ _ _ _ (@Jz _ _ _ _) (@pv _ 5 _ _ rfl (.inl rfl) rfl rfl) (@JmO _ _ _ _ _ _ _ _ _ (@Jz _ _ _ _) (@pv _ 6 _ _ rfl (.inl rfl) rfl rfl) (@Jtj _ _))) rfl rfl (by decide) (by decide)) rfl (.inl rfl)) (@Jd _ _ _ _ _ (@JH _ _ _ _ _ _ _ _ (@Zm _ _ _ _ _ _ (@JaD _ _ _ _ _ (@pv _ 8 _ _ rfl (.inl rfl) rfl rfl)) (by first | exact Yj _ (by decide) (by decide) | rfl)) (@Jg _ _ _ (@Jn _ _ _ _ (@Jk _ _ _ _ _ _ _ _ _ _ _ _ _ _ _ T.Jg9 (JnK T) (hr.mono (by decide)) Jt (@Ja _ _ _ _ _ (@Jey _ _ _ _ _ _ hu (@pv _ 11 _ _ rfl (.inl rfl) rfl rfl) (@Jk _ _ _ _ _ _ _ _ _ _ _ _ _ _ _ T.Jiw (JjP T) (hr.mono (by decide)) Jt (@Ja _ _ _ _ _ (@pv _ 7 _ _ rfl (.inl rfl) rfl rfl) (@Jc _) rfl) rfl (by decide) rfl rfl) (fun _ _=>rfl)) (@Ja _ _ _ _ _ (@Jey _ _ _ _ _ _ hu (@pv _ 11 _ _ rfl (.inl rfl) rfl rfl) (@pv _ 7 _ _ rfl (.inl rfl) rfl rfl) (fun _ _=>rfl)) (@Ja _ _ _ _ _ (@pv _ 2 _ _ rfl (.inl rfl) rfl rfl) (@Jc _) rfl) rfl) rfl) rfl (by decide) rfl rfl))) (@Jp _)) (@Jg _ _ _ (@Jn _ _ _ _ (@Jk _ _ _ _ _ _ _ _ _ _ _ _ _ _ _ T.JfD (Jl7 T) (hr.mono (by decide)) Jt (@Ja _ _ _ _ _ (@pv _ 8 _ _ rfl (.inl rfl) rfl rfl) (@Ja _ _ _ _ _ (@Jey _ _ _ _ _ _ hu (@pv _ 11 _ _ rfl (.inl rfl) rfl rfl) (@pv _ 7 _ _ rfl (.inl rfl) rfl rfl) (fun _ _=>rfl)) (@Ja _ _ _ _ _ (@pv _ 2 _ _ rfl (.inl rfl) rfl rfl) (@Jc _) rfl) rfl) rfl) rfl (by decide) rfl rfl))))))),?_⟩
  try dsimp only [cxK,Jdd]
  refine ⟨fun σ1 H1=>H1=H∧σ1=[some (.ref t),some (.ref tn),some (.int i),some (.str x.p),some (.int (x.m:Int)),some (.int x.n),some (.int (c - x.n)),some (.str (hs x.r)),some x.heard,some x.mover,none,none],⟨_,rfl,tn,_,rfl,JL.of htn,rfl,_,_,rfl,_,_,rfl,_,_,rfl,_,_,rfl,_,_,rfl,_,_,rfl,_,_,rfl,rfl,rfl,rfl⟩,?_⟩;rintro σ1 H0 ⟨rfl,rfl⟩;unfold Mo.mover Mo.heard;unfold Zk at q;have okn:=ok.n;have ho:∀ r,0≤own c x.n r:=fun r=>by unfold own; cases r <;> simp <;> omega
  have he:¬ Yq (zs'.map (·.2)) gs' x.m x.p:=fun z=>hno (ok.e.mpr z)
  have hwn:Jy (zs'.map (·.2)) x.p≠[]:=fun h=>he (.inr (.inr h))
  have pur:∀ {d:Addr},H0 d=none→Jh H0 (upd (upd H0 d (.dK [])) d (.dK (Jdt [] (JjK x.n (c - x.n))))):=fun hd=>by rw [Jci]; exact Jh.upd hd
  have gD:∀ {H2:Hp} {d:Addr} (x1:Bool),H2 d=some (.dK (Jdt [] (JjK x.n (c - x.n))))→Jd6 H2 d (.str (hs x1)) (some (.int (own c x.n x1))):=fun {H2 d} x1 e=>by
   have z:=Jd6.k (k:=Sum.inr (hs x1)) e;rw [JrJ] at z;exact z
  cases hp:x.ph with
  | over=>exact absurd hp hno
  | step h =>
   rw [hp] at q;refine ⟨_,rfl,rfl,_,rfl,YF (by cases h <;> decide +kernel) ⟨_,rfl,_,rfl,t,x.p,ps,zs,gs,rfl,g.G,fun lw ws H1 e1 hlw wp wsrt=>?_⟩⟩;obtain rfl:=Jmi g.zo (g.zp.map _) wp wsrt;have hwl:1≤(Jy (zs'.map (·.2)) x.p).length:=by cases hz:Jy (zs'.map (·.2)) x.p with | nil=>exact absurd hz hwn | cons=>simp
   obtain ⟨w1,hw1,hwm1⟩:=Jke hwl i;exact ⟨_,rfl,_,rfl,_,rfl,lw,_,rfl,.inl (JC.of hlw),_,_,rfl,rfl,(by show (0:Int) < _; rw [List.length_map]; omega),lw,_,_,.str w1,rfl,rfl,JC.of hlw,hw1,q _ H1 e1 ⟨w1,rfl,hwm1⟩⟩
  | bid =>
   rw [hp] at q;refine ⟨_,rfl,rfl,_,rfl,Yb (by decide +kernel) ?_⟩;intro d hd;refine ⟨_,rfl,_,rfl,Ji,JjK x.n (c - x.n),rfl,(by show 2≤15; decide),?_⟩;refine ⟨_,rfl,_,rfl,YD ⟨_,rfl,_,rfl,x.r,rfl,d,_,rfl,gD (!x.r) Ji,_,rfl,_,rfl,d,_,rfl,gD x.r Ji,_,rfl,own c x.n (!x.r),own c x.n x.r,i,rfl,ho _,ho _,fun y y0 y1=>q _ _ (pur hd) ⟨y,rfl,y0,y1⟩⟩⟩
  | ans b =>
   rw [hp] at q;refine ⟨_,rfl,rfl,_,rfl,Yb (by show (!decide (V.str "" = V.str ""))=false; decide +kernel) ?_⟩;intro d hd;refine ⟨_,rfl,_,rfl,Ji,JjK x.n (c - x.n),rfl,(by show 2≤15; decide),?_⟩;have hb:=ok.b b hp;refine ⟨_,rfl,_,rfl,Yo ⟨_,rfl,_,rfl,_,rfl,d,_,rfl,gD x.r Ji,_,rfl,b,own c x.n x.r,i,rfl,hb.1,ho _,fun y y0 y1=>q _ _ (pur hd) ⟨y,rfl,y0,y1⟩⟩⟩
theorem JoW (T:Txt K mg):JK P w K mg base YB 4 T.JhX T.Jg0 ["_law_script", "_law_ground_here", "_law_at_here"] (Jox K):=by
 refine T.Jib.F.ok JaM (fun vs H Q E h=>?_) (fun cdv A outer s H vs Q E hr h=>?_)
 ·obtain ⟨_,_,_,_,_,_,_,rfl,_⟩:=h;rfl
 ·obtain ⟨a,t,ns,k,ps,zs,gs,rfl,hS,k0,G,q⟩:=h;refine ⟨_,(@Jd _ _ _ _ _ (@Jr _ _ 3 _ _ _ _ JaM.nd rfl (Or.inl rfl) (@Jk _ _ _ _ _ _ _ _ _ _ _ _ _ _ _ T.JnA (Jtq T) (hr.mono (by decide)) Jt (@Ja _ _ _ _ _ (@pv _ 1 _ _ rfl (.inl rfl) rfl rfl) (@Ja _ _ _ _ _ (@Jk _ _ _ _ _ _ _ _ _ _ _ _ _ _ _ T.JbU (Jbg T) (hr.mono (by decide)) Jt (@Ja _ _ _ _ _ (@pv _ 0 _ _ rfl (.inl rfl) rfl rfl) (@Ja _ _ _ _ _ (@pv _ 2 _ _ rfl (.inl rfl) rfl rfl) (@Jc _) rfl) rfl) rfl (by decide) rfl rfl) (@Jc _) rfl) rfl) rfl (by decide) rfl rfl) rfl (.inl rfl)) (@Jd _ _ _ _ _ (@J4 _ _ _ (@JH _ _ _ _ _ _ _ _ (@Js _ _ _ _ _ _ _ _ (@Yg _) (@Jm _ _ _ _ _ _ _ _ (@JV _) (@Jm _ _ _ _ _ _ _ _ (@YU _) (@Jk _ _ _ _ _ _ _ _ _ _ _ _ _ _ _ T.JbU (Jbg T) (hr.mono (by decide)) Jt (@Ja _ _ _ _ _ (@pv _ 0 _ _ rfl (.inl rfl) rfl rfl) (@Ja _ _ _ _ _ (@pv _ 2 _ _ rfl (.inl rfl) rfl rfl) (@Jc _) rfl) rfl) rfl (by decide) rfl rfl) (@Je _ _ _ _)) (@Je _ _ _ _)) (@Je _ _ _ _) (JE _)) (@Jg _ _ _ (@Jr _ _ 3 _ _ _ _ JaM.nd rfl (Or.inl rfl) (@JG _ _ _ _ _ _ _ (@JU _) (@JG _ _ _ _ _ _ _ (@JX _) (@pv _ 1 _ _ rfl (.inl rfl) rfl rfl) (@Je _ _ _ _) (fun _ _=>rfl)) (@Jm _ _ _ _ _ _ _ _ (@JV _) (@Jk _ _ _ _ _ _ _ _ _ _ _ _ _ _ _ T.JbU (Jbg T) (hr.mono (by decide)) Jt (@Ja _ _ _ _ _ (@pv _ 0 _ _ rfl (.inl rfl) rfl rfl) (@Ja _ _ _ _ _ (@pv _ 2 _ _ rfl (.inl rfl) rfl rfl) (@Jc _) rfl) rfl) rfl (by decide) rfl rfl) (@JF _ _ _ _ _ _ _ _ _ (@Yh _) rfl T.Zy PySem.boot_len (@Ja _ _ _ _ _ (@JG _ _ _ _ _ _ _ (@JX _) (@pv _ 1 _ _ rfl (.inl rfl) rfl rfl) (@Je _ _ _ _) (fun _ _=>rfl)) (@Jc _) rfl) (by decide) (by decide) rfl rfl)) (fun _ _=>rfl)) rfl (.inl rfl))) (@Jp _))) (@Jd _ _ _ _ _ (@Jr _ _ 4 _ _ _ _ JaM.nd rfl (Or.inl rfl) (@Jk _ _ _ _ _ _ _ _ _ _ _ _ _ _ _ T.Jlg (JrR T) (hr.mono (by decide)) Jt (@Ja _ _ _ _ _ (@Jk _ _ _ _ _ _ _ _ _ _ _ _ _ _ _ T.JbU (Jbg T) (hr.mono (by decide)) Jt (@Ja _ _ _ _ _ (@pv _ 0 _ _ rfl (.inl rfl) rfl rfl) (@Ja _ _ _ _ _ (@Jm _ _ _ _ _ _ _ _ (@J3 _) (@pv _ 2 _ _ rfl (.inl rfl) rfl rfl) (@Je _ _ _ _)) (@Jc _) rfl) rfl) rfl (by decide) rfl rfl) (@Jc _) rfl) rfl (by decide) rfl rfl) rfl (.inl rfl)) (@Jd _ _ _ _ _ (@Jr _ _ 5 _ _ _ _ JaM.nd rfl (Or.inl rfl) (@Jk _ _ _ _ _ _ _ _ _ _ _ _ _ _ _ T.JnC (Jts T) (hr.mono (by decide)) Jt (@Ja _ _ _ _ _ (@Jk _ _ _ _ _ _ _ _ _ _ _ _ _ _ _ T.JbU (Jbg T) (hr.mono (by decide)) Jt (@Ja _ _ _ _ _ (@pv _ 0 _ _ rfl (.inl rfl) rfl rfl) (@Ja _ _ _ _ _ (@Jm _ _ _ _ _ _ _ _ (@J3 _) (@pv _ 2 _ _ rfl (.inl rfl) rfl rfl) (@Je _ _ _ _)) (@Jc _) rfl) rfl) rfl (by decide) rfl rfl) (@Jc _) rfl) rfl (by decide) rfl rfl) rfl (.inl rfl)) (@Jd _ _ _ _ _ (@J4 _ _ _ (@Jr _ _ 6 _ _ _ _ JaM.nd rfl (Or.inl rfl) (@Jm _ _ _ _ _ _ _ _ (@JV _) (@Jk _ _ _ _ _ _ _ _ _ _ _ _ _ _ _ T.JbU (Jbg T) (hr.mono (by decide)) Jt (@Ja _ _ _ _ _ (@pv _ 0 _ _ rfl (.inl rfl) rfl rfl) (@Ja _ _ _ _ _ (@Jm _ _ _ _ _ _ _ _ (@J3 _) (@pv _ 2 _ _ rfl (.inl rfl) rfl rfl) (@Je _ _ _ _)) (@Jc _) rfl) rfl) rfl (by decide) rfl rfl) (@Jm _ _ _ _ _ _ _ _ (@J3 _) (@pv _ 4 _ _ rfl (.inl rfl) rfl rfl) (@Je _ _ _ _))) rfl (.inl rfl))) (@Jd _ _ _ _ _ (@Jr _ _ 7 _ _ _ _ JaM.nd rfl (Or.inl rfl) (@Jk _ _ _ _ _ _ _ _ _ _ _ _ _ _ _ T.JnD (Jtt T) (hr.mono (by decide)) Jt (@Ja _ _ _ _ _ (@Jk _ _ _ _ _ _ _ _ _ _ _ _ _ _ _ T.JbU (Jbg T) (hr.mono (by decide)) Jt (@Ja _ _ _ _ _ (@pv _ 0 _ _ rfl (.inl rfl) rfl rfl) (@Ja _ _ _ _ _ (@Jm _ _ _ _ _ _ _ _ (@J3 _) (@pv _ 2 _ _ rfl (.inl rfl) rfl rfl) (@Je _ _ _ _)) (@Jc _) rfl) rfl) rfl (by decide) rfl rfl) (@Jc _) rfl) rfl (by decide) rfl rfl) rfl (.inl rfl)) (@Jg _ _ _ (@Jn _ _ _ _ (@Yn _ _ _ _ _ (@Ja _ _ _ _ _ (@pv _ 3 _ _ rfl (.inl rfl) rfl rfl) (@Ja _ _ _ _ _ (@pv _ 5 _ _ rfl (.inl rfl) rfl rfl) (@Ja _ _ _ _ _ (@pv _ 6 _ _ rfl (.inl rfl) rfl rfl) (@Ja _ _ _ _ _ (@Jm _ _ _ _ _ _ _ _ (@Zg _) (@pv _ 4 _ _ rfl (.inl rfl) rfl rfl) (@pv _ 6 _ _ rfl (.inl rfl) rfl rfl)) (@Ja _ _ _ _ _ (@pv _ 7 _ _ rfl (.inl rfl) rfl rfl) (@Ja _ _ _ _ _ (@Zo _ _ _) (@Ja _ _ _ _ _ (@Jz _ _ _ _) (@Jc _) rfl) rfl) rfl) rfl) rfl) rfl) rfl)))))))))),?_⟩
  try dsimp only [cxK,Jdd]
  have p1:=G.good.p1;refine ⟨_,rfl,_,rfl,_,rfl,a,ns,k,rfl,hS,k0,t,_,ps,zs,gs,rfl,G,fun p H1 hpm e1=>?_⟩;refine ⟨fun σ1 H2=>∃ p:Str,H2=H1∧p∈ps∧σ1=[some (.ref a),some (.ref t),some (.int k),some (.str p),none,none,none,none],?_,?_⟩
  ·refine ⟨_,rfl,_,rfl,a,ns,k,rfl,e1.seq hS,k0,_,_,rfl,rfl,⟨by decide,by decide⟩,_,_,rfl,rfl,(by show (0:Int) < 8; decide),rfl,_,rfl,YV (fun _=>?_) (fun _=>⟨p,rfl,hpm,rfl⟩)⟩;obtain ⟨pn,pl,pg,h1,h2,h3,h4,h5⟩:=(G.same e1).at_;obtain ⟨p2,hp2,hpm2⟩:=Jke p1 (Jg5 ns k);exact ⟨_,rfl,t,_,_,.ref pn,rfl,rfl,JL.of h1,rfl,_,rfl,_,rfl,a,ns,k,rfl,e1.seq hS,k0,_,rfl,t,_,_,.ref pn,rfl,rfl,JL.of h1,rfl,pn,_,rfl,.inl (JC.of h2),_,_,rfl,rfl,(by show (0:Int) < _; rw [List.length_map]; omega),pn,_,_,.str p2,rfl,rfl,JC.of h2,hp2,p2,rfl,hpm2,rfl⟩
  clear hpm p;rintro σ1 H2 ⟨p,rfl,hpm,rfl⟩;refine ⟨_,rfl,_,rfl,_,_,rfl,rfl,a,ns,k + 1,rfl,e1.seq hS,by omega,_,rfl,fun c H3 c0 c1 e3=>?_⟩;refine ⟨_,rfl,_,rfl,_,_,rfl,rfl,a,ns,k + 2,rfl,(e1.trans e3).seq hS,by omega,_,rfl,fun mt H4 m0 m1 e4=>?_⟩;obtain ⟨m,rfl⟩:∃ m:Nat,mt=(m:Int):=⟨mt.toNat,by omega⟩
  have e14:=(e1.trans e3).trans e4;refine ⟨fun σ1 H5=>∃ n:Int,H5=H4∧(0≤n∧n≤c)∧σ1=[some (.ref a),some (.ref t),some (.int k),some (.str p),some (.int c),some (.int (m:Int)),some (.int n),none],?_,?_⟩
  ·have hb:=JhF (x:=Jg5 ns (k + 3)) (n:=c + 1) (by omega);exact ⟨_,rfl,_,rfl,_,_,rfl,rfl,a,ns,k + 3,rfl,e14.seq hS,by omega,_,rfl,_,_,rfl,rfl,_,_,rfl,rfl,(by show (0:Int) < c + 1; omega),_,rfl,⟨hb.1,by omega⟩,rfl⟩
  rintro σ1 H5 ⟨n,rfl,hn,rfl⟩;refine ⟨_,rfl,_,rfl,_,_,rfl,rfl,a,ns,k + 4,rfl,e14.seq hS,by omega,_,rfl,fun r H6 e6=>?_⟩;exact ⟨_,rfl,_,rfl,_,rfl,_,rfl,_,rfl,_,_,rfl,rfl,_,rfl,by show 7≤sizeLine; decide,fun tn nt=>q tn p m n c r _ ((e14.trans e6).trans (Jh.upd nt)) hpm (by omega) hn c1 Ji⟩
end
section
variable {P:Program} {w:World} {K:PySem.W.Frag} {mg:Str→Option Value} {base:Heap}
theorem Joc {z:Str} {m:Nat} {zs zs':List (Str×Str)} {gs gs':List Str} (zp:zs'.Perm zs) (gp:gs'.Perm gs) (h:Yq zs' gs' m z):Zl z (m:Int) zs' gs'=.str (JbJ z (m:Int) zs gs):=by
 rw [JqF zp gp];unfold Zl JbJ;by_cases hg:z∈gs
 ·rw [if_pos hg,if_pos hg]
 ·rw [if_neg hg,if_neg hg];have h0:(m:Int)=0∨Jy zs z=[]:=by
   rcases h with h | h | h
   ·exact absurd (gp.mem_iff.mp h) hg
   ·exact .inl (by omega)
   ·exact .inr ((Jmh zp z).mp h)
  rw [if_pos h0,if_pos h0]
theorem Jr9 {z:Str} {n:Int} {zs:List (Str×Str)} {gs:List Str}:Zz (Zl z n zs gs)=true:=by
 unfold Zl;split
 ·rfl
 ·split <;> rfl
theorem JmS (T:Txt K mg):JK P w K mg base YB 7 T.Jk2 T.Ji9 ["_law_game", "_law_ground_here", "_law_now", "_law_log"] (Jrb T):=by
 refine T.Jiu.F.ok JiS (fun vs H Q E h=>?_) (fun cdv A outer s H vs Q E hr h=>?_)
 ·obtain ⟨_,_,_,_,_,_,_,_,_,_,_,_,rfl,_⟩:=h;rfl
 ·obtain ⟨G,t,tn,tl,a,x,ds,ms,ls,ps,zs,gs,rfl,A0,htn,g,htl,hL,hdl,hdf,q⟩:=h;refine ⟨_,(@Jd _ _ _ _ _ (@J4 _ _ _ (@JH _ _ _ _ _ _ _ _ (@PW.pt _ _ _ (@ZX _ _ _ _ _ _ _ (@ZU _ _ _ _ (@Zf _ _ _ (@Jk _ _ _ _ _ _ _ _ _ _ _ _ _ _ _ T.Jdy (Jez T) (hr.mono (by decide)) Jt (@Ja _ _ _ _ _ (@Zc _ _ _ _ _ _ _ _ _ _ _ _ _ _ _ _ _ (@pv _ 0 _ _ rfl (.inl rfl) rfl rfl) T.JM T.Jbi.m (Ji1 T) (hr.mono (by decide)) T.Jbi.b .nil Jt rfl) (@Ja _ _ _ _ _ (@Je0 _ _ _ _ _ _ _ _ _ _ (@Jt1 _) (@pv _ 2 _ _ rfl (.inl rfl) rfl rfl) (@Jij _) (@Jeu _ _ _ (@Je _ _ _ _))) (@Jc _) rfl) rfl) rfl (by decide) rfl rfl) (by intro _; rfl))) (@ZT _ _ _ _ (@ZU _ _ _ _ (@Zf _ _ _ (@Jk _ _ _ _ _ _ _ _ _ _ _ _ _ _ _ T.Jdy (Jez T) (hr.mono (by decide)) Jt (@Ja _ _ _ _ _ (@Zc _ _ _ _ _ _ _ _ _ _ _ _ _ _ _ _ _ (@pv _ 0 _ _ rfl (.inl rfl) rfl rfl) T.JM T.ZK.m (Jdk T) (hr.mono (by decide)) T.ZK.b .nil Jt rfl) (@Ja _ _ _ _ _ (@Jk _ _ _ _ _ _ _ _ _ _ _ _ _ _ _ T.Jkl (JmV T) (hr.mono (by decide)) Jt (@Ja _ _ _ _ _ (@pv _ 1 _ _ rfl (.inl rfl) rfl rfl) (@Ja _ _ _ _ _ (@pv _ 2 _ _ rfl (.inl rfl) rfl rfl) (@Jc _) rfl) rfl) rfl (by decide) rfl rfl) (@Jc _) rfl) rfl) rfl (by decide) rfl rfl) (by intro _; rfl)))))) (@Jg _ _ _ (@Jn _ _ _ _ (@Jay _ _ _ _))) (@Jp _))) (@Jd _ _ _ _ _ (@JH _ _ _ _ _ _ _ _ (@PW.pt _ _ _ (@ZX _ _ _ _ _ _ _ (@ZU _ _ _ _ (@Zf _ _ _ (@Jk _ _ _ _ _ _ _ _ _ _ _ _ _ _ _ T.Jdg (Je2 T) (hr.mono (by decide)) Jt (@Ja _ _ _ _ _ (@Zc _ _ _ _ _ _ _ _ _ _ _ _ _ _ _ _ _ (@pv _ 0 _ _ rfl (.inl rfl) rfl rfl) T.JM T.JaJ.m (Jhc T) (hr.mono (by decide)) T.JaJ.b .nil Jt rfl) (@Ja _ _ _ _ _ (@JG _ _ _ _ _ _ _ (@JX _) (@pv _ 2 _ _ rfl (.inl rfl) rfl rfl) (@Je _ _ _ _) (fun _ _=>rfl)) (@Jc _) rfl) rfl) rfl (by decide) rfl rfl) (by intro _; rfl))) (@ZT _ _ _ _ (@ZU _ _ _ _ (@Zf _ _ _ (@Jk _ _ _ _ _ _ _ _ _ _ _ _ _ _ _ T.Jlk (JrV T) (hr.mono (by decide)) Jt (@Ja _ _ _ _ _ (@Zc _ _ _ _ _ _ _ _ _ _ _ _ _ _ _ _ _ (@pv _ 0 _ _ rfl (.inl rfl) rfl rfl) T.JM T.JcP.m (Jl8 T) (hr.mono (by decide)) T.JcP.b .nil Jt rfl) (@Ja _ _ _ _ _ (@pv _ 3 _ _ rfl (.inl rfl) rfl rfl) (@Jc _) rfl) rfl) rfl (by decide) rfl rfl) (by intro _; rfl)))))) (@Jg _ _ _ (@Jn _ _ _ _ (@Jay _ _ _ _))) (@Jp _)) (@Jd _ _ _ _ _ (@Jr _ _ 4 _ _ _ _ JiS.nd rfl (Or.inl rfl) (@Zo _ _ _) rfl (.inl rfl)) (@Jd _ _ _ _ _ (@J4 _ _ _ (@JH _ _ _ _ _ _ _ _ (@Zm _ _ _ _ _ _ (@JaD _ _ _ _ _ (@Jk _ _ _ _ _ _ _ _ _ _ _ _ _ _ _ T.Jkl (JmV T) (hr.mono (by decide)) Jt (@Ja _ _ _ _ _ (@pv _ 1 _ _ rfl (.inl rfl) rfl rfl) (@Ja _ _ _ _ _ (@pv _ 2 _ _ rfl (.inl rfl) rfl rfl) (@Jc _) rfl) rfl) rfl (by decide) rfl rfl)) (by first | exact Yj _ (by decide) (by decide) | rfl)) (@Jg _ _ _ (@Jr _ _ 4 _ _ _ _ JiS.nd rfl (Or.inl rfl) (@Jk _ _ _ _ _ _ _ _ _ _ _ _ _ _ _ T.Jit (JjN T) (hr.mono (by decide)) Jt (@Ja _ _ _ _ _ (@pv _ 1 _ _ rfl (.inl rfl) rfl rfl) (@Ja _ _ _ _ _ (@JG _ _ _ _ _ _ _ (@JX _) (@pv _ 2 _ _ rfl (.inl rfl) rfl rfl) (@Je _ _ _ _) (fun _ _=>rfl)) (@Ja _ _ _ _ _ (@JG _ _ _ _ _ _ _ (@JX _) (@pv _ 2 _ _ rfl (.inl rfl) rfl rfl) (@Je _ _ _ _) (fun _ _=>rfl)) (@Jc _) rfl) rfl) rfl) rfl (by decide) rfl rfl) rfl (.inl rfl))) (@Jp _))) (@Jg _ _ _ (@Jn _ _ _ _ (@Jk _ _ _ _ _ _ _ _ _ _ _ _ _ _ _ T.Jdg (Je2 T) (hr.mono (by decide)) Jt (@Ja _ _ _ _ _ (@Zc _ _ _ _ _ _ _ _ _ _ _ _ _ _ _ _ _ (@pv _ 0 _ _ rfl (.inl rfl) rfl rfl) T.JM T.Zs.m (JcA T) (hr.mono (by decide)) T.Zs.b .nil Jt rfl) (@Ja _ _ _ _ _ (@pv _ 4 _ _ rfl (.inl rfl) rfl rfl) (@Jc _) rfl) rfl) rfl (by decide) rfl rfl))))))),?_⟩
  try dsimp only [cxK,Jdd]
  obtain ⟨dg,hg⟩:=A0.gi;have ok:=A0.mo (a,x) (List.mem_append_right _ (List.mem_singleton.mpr rfl));have ok:JbT G.ps (G.zs.map (·.2)) G.gs G.c G.T x:=ok;have fd:=Ji4 (x:=x);have hX:∀ {H1:Hp},Jh H H1→(JC K H1 tl (ls.map V.ref)∨JL K H1 tl (ls.map V.ref)):=fun e=>htl.elim (fun h=>.inl (e.seq h)) (fun h=>.inr (e.tup h))
  refine ⟨fun σ1 H1=>Jh H H1∧σ1=[some (.ref G.g),some (.ref t),some (.ref tn),some (.ref tl),none],?_,?_⟩
  ·refine ⟨_,rfl,G.g,dg,_,rfl,A0.sm _ _ hg,rfl,G,ds,ms,a,x,rfl,A0,fun t1 H1 e1 h1=>?_⟩;have cut:ZR (JaE G.c x) none (some 5)=[.str x.p,.int (x.m:Int),.int x.n,.int (G.c - x.n),.str (hs x.r)]:=rfl;refine ⟨_,rfl,_,rfl,tn,_,rfl,JL.of (e1 _ _ htn),(by rintro ⟨_,h⟩; exact absurd h (by show ¬ (HT.Yz 7 7 (some 5)=7); decide)),fun t2 n2=>?_⟩;have s2:=Jh.upd (o:=.tup (ZR (JaE G.c x) none (some 5))) n2;refine ⟨.ref t1,.ref t2,rfl,⟨_,rfl,Yo ?_⟩,.inr ⟨t1,t2,_,rfl,rfl,JL.of (s2 _ _ h1),.inr (JL.of (by rw [Ji,cut])),by show 5≤1000; decide,rfl⟩⟩;have e2:=e1.trans s2;generalize upd H1 t2 (.tup (ZR (JaE G.c x) none (some 5)))=H2 at e2 s2;have A2:=A0.same e2;refine ⟨_,rfl,G.g,dg,_,rfl,A2.sm _ _ hg,rfl,G,ds,ms,a,x,rfl,A2,fun ho=>?_,fun ho t3 H3 e3 h3=>?_⟩
   ·exact ⟨_,rfl,_,rfl,t,tn,x,ps,zs,gs,G.ps,G.zs,G.gs,G.c,G.T,rfl,e2 _ _ htn,g.same e2,ok,fun _ H4 e4=>⟨.non,.non,rfl,⟨_,rfl,Yo ⟨e2.trans e4,rfl⟩⟩,.inl ⟨rfl,rfl⟩⟩,fun z=>absurd ho z⟩
   ·refine ⟨_,rfl,_,rfl,t,tn,x,ps,zs,gs,G.ps,G.zs,G.gs,G.c,G.T,rfl,(e2.trans e3) _ _ htn,g.same (e2.trans e3),ok,fun z=>absurd z ho,fun _ t4 H4 e4 h4=>⟨.ref t3,.ref t4,rfl,⟨_,rfl,Yo ⟨(e2.trans e3).trans e4,rfl⟩⟩,.inr ⟨t3,t4,_,rfl,rfl,JL.of (e4 _ _ h3),.inr (JL.of h4),by show 2≤1000; decide,?_⟩⟩⟩;show (Zz x.hand && (Zz x.word && true))=true;rw [fd.1,fd.2.1]; rfl
  rintro σ1 H1 ⟨e1,rfl⟩;have A1:=A0.same e1;refine ⟨_,rfl,G.g,dg,_,rfl,A1.sm _ _ hg,rfl,G,ds,ms,a,x,rfl,A1,?_⟩;refine ⟨_,rfl,tn,_,_,x.heard,rfl,rfl,JL.of (e1 _ _ htn),rfl,x.heard,rfl,fd.2.2.1,_,rfl,Yo ?_⟩;refine ⟨_,rfl,G.g,dg,_,rfl,A1.sm _ _ hg,rfl,G,ds,_,rfl,A1,fun t2 H2 e2 h2=>?_⟩;have e12:=e1.trans e2;have A2:=A0.same e12;refine ⟨_,rfl,t2,tl,ds,ls,rfl,h2,hX e12,(hL.same e12).sq,hdl,fun d hd=>⟨JL.of (A2.dt d hd),hdf d hd⟩,_,rfl,Yo ?_⟩;refine ⟨fun σ1 H3=>Jh H H3∧σ1=[some (.ref G.g),some (.ref t),some (.ref tn),some (.ref tl),some (Zl x.p (x.m:Int) (G.zs.map (·.2)) G.gs)],?_,?_⟩
  ·refine ⟨_,rfl,_,rfl,t,tn,x,ps,zs,gs,G.ps,G.zs,G.gs,G.c,G.T,rfl,e12 _ _ htn,g.same e12,ok,fun ho H3 e3=>?_,fun ho t3 H3 e3 h3=>?_⟩
   ·have e13:=e12.trans e3;refine ⟨_,rfl,YD ⟨_,rfl,_,rfl,tn,_,_,.str x.p,rfl,rfl,JL.of (e13 _ _ htn),rfl,_,rfl,tn,_,_,.int (x.m:Int),rfl,rfl,JL.of (e13 _ _ htn),rfl,t,x.p,(x.m:Int),ps,zs,gs,rfl,g.G.same e13,fun H4 e4=>⟨e13.trans e4,?_⟩⟩⟩;rw [Joc (g.zp.map _) g.gp (ok.e.mp ho)]; rfl
   ·refine ⟨_,rfl,Yo ⟨e12.trans e3,?_⟩⟩;rw [Jdc.2 (fun z=>ho (ok.e.mpr z))]; rfl
  rintro σ1 H3 ⟨e3,rfl⟩;have A3:=A0.same e3;refine ⟨_,rfl,G.g,dg,_,rfl,A3.sm _ _ hg,rfl,G,ds,ms,a,x,rfl,A3,fun H4 e4=>⟨_,rfl,_,rfl,Jr9,q H4 (e3.trans e4)⟩⟩
theorem Jn2 (T:Txt K mg):JK P w K mg base (Zb P w) 8 T.Jno T.JkY ["_law_game", "_law_hand_here", "_law_word", "_law_what"] (Js8 T):=by
 refine T.Jkm.F.ok1 Jtg (fun vs H Q E h=>?_) (fun cdv A outer s H vs Q E hr h=>?_)
 ·obtain ⟨_,_,_,_,_,_,_,_,rfl,_⟩:=h;rfl
 ·obtain ⟨G,ds,ms,a,x,z,w,v,rfl,A0,hdl,hml,tz,hw,q1,q2,q⟩:=h;refine ⟨_,(@Jd _ _ _ _ _ (@JH _ _ _ _ _ _ _ _ (@Js _ _ _ _ _ _ _ _ (@Yg _) (@pv _ 2 _ _ rfl (.inl rfl) rfl rfl) (@Jz _ _ _ _) (JE _)) (@Jg _ _ _ (@Jn _ _ _ _ (@J2 _ _ _ _ _ _ _ _ _ _ _ _ _ _ _ _ _ _ _ _ (@pv _ 0 _ _ rfl (.inl rfl) rfl rfl) T.JM T.Jer.m (JnL T) (hr.mono (by decide)) T.Jer.b .nil Yw (@Ja _ _ _ _ _ (@pv _ 1 _ _ rfl (.inl rfl) rfl rfl) (@Ja _ _ _ _ _ (@pv _ 3 _ _ rfl (.inl rfl) rfl rfl) (@Jc _) rfl) rfl) rfl rfl rfl))) (@Jp _)) (@Jd _ _ _ _ _ (@JH _ _ _ _ _ _ _ _ (@Js _ _ _ _ _ _ _ _ (@Yg _) (@pv _ 2 _ _ rfl (.inl rfl) rfl rfl) (@Jz _ _ _ _) (JE _)) (@Jg _ _ _ (@Jn _ _ _ _ (@J2 _ _ _ _ _ _ _ _ _ _ _ _ _ _ _ _ _ _ _ _ (@pv _ 0 _ _ rfl (.inl rfl) rfl rfl) T.JM T.Jb4.m (JkN T) (hr.mono (by decide)) T.Jb4.b .nil Yw (@Ja _ _ _ _ _ (@pv _ 1 _ _ rfl (.inl rfl) rfl rfl) (@Ja _ _ _ _ _ (@pv _ 3 _ _ rfl (.inl rfl) rfl rfl) (@Jc _) rfl) rfl) rfl rfl rfl))) (@Jp _)) (@Jg _ _ _ (@Jn _ _ _ _ (@J2 _ _ _ _ _ _ _ _ _ _ _ _ _ _ _ _ _ _ _ _ (@pv _ 0 _ _ rfl (.inl rfl) rfl rfl) T.JM T.Ja5.m (Jhz T) (hr.mono (by decide)) T.Ja5.b .nil Yw (@Ja _ _ _ _ _ (@pv _ 1 _ _ rfl (.inl rfl) rfl rfl) (@Ja _ _ _ _ _ (@pv _ 3 _ _ rfl (.inl rfl) rfl rfl) (@Jc _) rfl) rfl) rfl rfl rfl))))),?_⟩;obtain ⟨dg,hg⟩:=A0.gi;have gi:=A0.sm _ _ hg;rcases hw with ⟨rfl,y,rfl⟩ | ⟨rfl,y,rfl⟩ | ⟨rfl,y,rfl,ty⟩
  ·refine ⟨_,rfl,rfl,_,rfl,YF (by decide +kernel) ⟨_,rfl,G.g,dg,_,rfl,gi,rfl,_,rfl,_,rfl,G,ds,ms,a,x,z,y,rfl,A0,hdl,hml,tz,fun hn=>q1 (fun h=>hn (JhG.mp h)),fun hp hz hy H1 e1=>?_,fun hp hz hy d a' H1 c1 A1=>?_⟩⟩
   ·have h:=JhG.mpr ⟨hp,hz⟩;have q2:=q2 h.1 h.2 (fun hgd=>by unfold Zk at hgd; rw [hp] at hgd; obtain ⟨y',e,h1⟩:=hgd; cases e; exact hy h1) H1 e1;rw [if_neg (by decide +kernel)] at q2;exact q2
   ·have h:=JhG.mpr ⟨hp,hz⟩;have e:Zw (G.zs.map (·.2)) G.gs x (.int y)=⟨x.p,x.m,x.n,x.r,.ans y⟩:=by unfold Zw; rw [hp]
    have q:=q h.1 h.2 (by unfold Zk; rw [hp]; exact ⟨y,rfl,hy⟩) d a' H1 c1;rw [e] at q;exact q A1
  ·refine ⟨_,rfl,rfl,_,rfl,Yb (by decide +kernel) ⟨_,rfl,rfl,_,rfl,YF (by decide +kernel) ⟨_,rfl,G.g,dg,_,rfl,gi,rfl,_,rfl,_,rfl,G,ds,ms,a,x,z,y,rfl,A0,hdl,hml,tz,fun hn=>q1 (fun h=>by obtain ⟨b,h1,h2⟩:=JhH.mp h; exact hn b h1 h2),fun b hp hz hy H1 e1=>?_,fun b hp hz hy d a' H1 c1 A1=>?_⟩⟩⟩
   ·have h:=JhH.mpr ⟨b,hp,hz⟩;have q2:=q2 h.1 h.2 (fun hgd=>by unfold Zk at hgd; rw [hp] at hgd; obtain ⟨y',e,h1⟩:=hgd; cases e; exact hy h1) H1 e1;rw [if_neg (by decide +kernel)] at q2;exact q2
   ·have h:=JhH.mpr ⟨b,hp,hz⟩;have e:Zw (G.zs.map (·.2)) G.gs x (.int y)=⟨x.p,x.m,(after x.n x.r b y).2.1,(after x.n x.r b y).2.2,.step (after x.n x.r b y).1⟩:=by unfold Zw; rw [hp]
    have q:=q h.1 h.2 (by unfold Zk; rw [hp]; exact ⟨y,rfl,hy⟩) d a' H1 c1;rw [e] at q;exact q A1
  ·refine ⟨_,rfl,rfl,_,rfl,Yb (by decide +kernel) ⟨_,rfl,rfl,_,rfl,Yb (by decide +kernel) ⟨_,rfl,G.g,dg,_,rfl,gi,rfl,_,rfl,_,rfl,G,ds,ms,a,x,z,y,rfl,A0,hdl,hml,tz,ty,fun hn=>q1 (fun h=>by obtain ⟨b,h1,h2⟩:=Jgv.mp h; exact hn b h1 h2),fun b hp hz hy H1 e1=>?_,fun b hp hz hy d a' H1 c1 A1=>?_⟩⟩⟩
   ·have h:=Jgv.mpr ⟨b,hp,hz⟩;have q2:=q2 h.1 h.2 (fun hgd=>by unfold Zk at hgd; rw [hp] at hgd; obtain ⟨y',e,h1⟩:=hgd; cases e; exact hy h1) H1 e1;rw [if_pos rfl] at q2;exact q2
   ·have h:=Jgv.mpr ⟨b,hp,hz⟩;have e:Zw (G.zs.map (·.2)) G.gs x (.str y)=Y9 (G.zs.map (·.2)) G.gs y (x.m - 1) x.n x.r:=by unfold Zw; rw [hp]
    have q:=q h.1 h.2 (by unfold Zk; rw [hp]; exact ⟨y,rfl,hy⟩) d a' H1 c1;rw [e,Jbv.1] at q;exact q A1
end
section
variable {P:Program} {w:World} {K:PySem.W.Frag} {mg:Str→Option Value} {base:Heap} {x:Mo}
def kindOf (w:Str):Str:=if w = "step" then "NoLane" else "BadBid"
def JsV (T:Txt K mg):Sp:=fun vs H Q _=>∃ (G:Gm) (ds:List (Addr×List V)) (ms:List (Addr×Mo)) (a:Addr) (x:Mo) (z w:Str) (v:V),vs=[.ref G.g,.str z,.str w,v]∧J1 T G H ds (ms ++ [(a,x)])∧ds.length≤1000∧ms.length≤1000∧YG z∧Jjy w v∧(¬ (x.hand=.str z∧x.word=.str w)→∀ p H',Jh H H'→H' p=some (.tup (rf "NotDue"))→Q (.ref p) H')∧(x.hand=.str z→x.word=.str w→¬ Zk (G.zs.map (·.2)) G.c x v→∀ p H',Jh H H'→H' p=some (.tup (rf (kindOf w)))→Q (.ref p) H') ∧
 (x.hand=.str z→x.word=.str w→Zk (G.zs.map (·.2)) G.c x v→∀ d a' H',Z0 [G.ld,G.lm] H H'→J1 T G H' (ds ++ [(d,[.str z,.str w,v])]) ((ms ++ [(a,x)]) ++ [(a',Zw (G.zs.map (·.2)) G.gs x v)])→Q (Zw (G.zs.map (·.2)) G.gs x v).told H')
def Jjx:List Str:=["BadName", "BadHand", "OutOfRange", "Twice", "NoPlace", "BadBid", "NoLane", "NotDue", "NothingDone", "Taken", "Full", "Missing"]
def JjX (j:Nat):List V:=(List.range 12).map (fun k=>V.bl (k == j)) ++ [.bl true]
def Jq9:Sp:=fun vs H Q _=>∃ (l:Addr) (j:Nat) (x:Str),vs=[.ref l]∧H l=some (.lst (JjX j))∧Jjx[j]?=some x∧∀ p H',Jh H H'→H' p=some (.tup (rf x))→Q (.ref p) H'
theorem Jr0 (j i:Nat) (h:i < 12):atI (JjX j) ((0:Int) + (i:Int))=some (.bl (i == j)):=by
 rw [Int.zero_add];refine Zr ?_;unfold JjX;rw [List.getElem?_append_left (by simp; exact h),List.getElem?_map,List.getElem?_range h];rfl
theorem Jq3 (i:Nat) (h:i < 12):∃ x,Jjx[i]?=some x∧atI (Jjx.map V.str) ((0:Int) + (i:Int))=some (.str x):=by
 refine ⟨Jjx[i]'h,List.getElem?_eq_getElem h,?_⟩;rw [Int.zero_add];refine Zr ?_;rw [List.getElem?_map,List.getElem?_eq_getElem h];rfl
theorem JrQ (T:Txt K mg):JK P w K mg base YB 1 T.Jk0 T.Ji7 ["_law_marks"] Jq9:=by
 refine T.Jlf.F.ok JgL (fun vs H Q E h=>?_) (fun cdv A outer s H vs Q E hr h=>?_)
 ·obtain ⟨_,_,_,rfl,_⟩:=h;rfl
 ·obtain ⟨l,j,x,rfl,hl,hx,q⟩:=h;refine ⟨_,(@Jd _ _ _ _ _ (@J4 _ _ _ (@Jr _ _ 1 _ _ _ _ JgL.nd rfl (Or.inr rfl) (@YX _ _ _ _ (@Ja _ _ _ _ _ (@Jz _ _ _ _) (@Ja _ _ _ _ _ (@Jz _ _ _ _) (@Ja _ _ _ _ _ (@Jz _ _ _ _) (@Ja _ _ _ _ _ (@Jz _ _ _ _) (@Ja _ _ _ _ _ (@Jz _ _ _ _) (@Ja _ _ _ _ _ (@Jz _ _ _ _) (@Jc _) rfl) rfl) rfl) rfl) rfl) rfl)) rfl (by first | exact .inl rfl | exact .inr rfl | assumption))) (@Jd _ _ _ _ _ (@J4 _ _ _ (@Jr _ _ 1 _ _ _ _ JgL.nd rfl (Or.inr rfl) (@Jm _ _ _ _ _ _ _ _ (@Jp3 _) (@pv _ 1 _ _ rfl (.inr (.inl rfl)) rfl rfl) (@YX _ _ _ _ (@Ja _ _ _ _ _ (@Jz _ _ _ _) (@Ja _ _ _ _ _ (@Jz _ _ _ _) (@Ja _ _ _ _ _ (@Jz _ _ _ _) (@Ja _ _ _ _ _ (@Jz _ _ _ _) (@Ja _ _ _ _ _ (@Jz _ _ _ _) (@Ja _ _ _ _ _ (@Jz _ _ _ _) (@Jc _) rfl) rfl) rfl) rfl) rfl) rfl))) rfl (by first | exact .inl rfl | exact .inr rfl | assumption))) (@Jd _ _ _ _ _ (@JoO _ _ _ _ _ _ _ _ _ _ 2 1 ["_law_k", "_law_words", "_law_marks"] [1,0] _ _ _ _ ["_law_marks", "_law_words", "_law_found"] ((Jl Jig).names) (by decide +kernel) JgL.nd rfl (@ZL _ _ _ _ _ _ rfl T.Z3 (@Ja _ _ _ _ _ (@Je _ _ _ _) (@Jc _) rfl) rfl) (fun _ _ _ _=>(@JaT _ _ _ _ _ _ _ _ _ 0 (by decide +kernel) rfl rfl)) (fun _ _ _ _=>(@Jik _ _ _ (@Zf _ _ _ (@JG _ _ _ _ _ _ _ (show IxR _ (Jhs K) from (@JU _)) (@Jbt _ _ _ _ _ _ _ _ _ 2 rfl rfl (by decide) (by decide)) (@Z8 _ _ _ _ _ _ _ _ _ 0 rfl rfl (by decide) (by decide)) (fun _ _=>rfl)) (by intro _; rfl)))) (fun _ _ _ _=>(@JG _ _ _ _ _ _ _ (show IxR _ (Jhs K) from (@JU _)) (@Jbt _ _ _ _ _ _ _ _ _ 1 rfl rfl (by decide) (by decide)) (@Z8 _ _ _ _ _ _ _ _ _ 0 rfl rfl (by decide) (by decide)) (fun _ _=>rfl))) rfl rfl rfl rfl rfl (by intro _; rfl)) (@Jd _ _ _ _ _ (@JH _ _ _ _ _ _ _ _ (@PW.pt _ _ _ (@JmN _ _ _ _ _ _ _ (@Js _ _ _ _ _ _ _ _ (@Yg _) (@JF _ _ _ _ _ _ _ _ _ (@Yh _) rfl T.Zy PySem.boot_len (@Ja _ _ _ _ _ (@pv _ 2 _ _ rfl (.inl rfl) rfl rfl) (@Jc _) rfl) (by decide) (by decide) rfl rfl) (@Je _ _ _ _) (JE _)) (@JkG _ _ _ _ (@Zf _ _ _ (@JG _ _ _ _ _ _ _ (@JU _) (@pv _ 0 _ _ rfl (.inr (.inl rfl)) rfl rfl) (@Je _ _ _ _) (fun _ _=>rfl)) (by intro _; rfl))))) (@Jg _ _ _ (@Jn _ _ _ _ (@Yn _ _ _ _ _ (@Ja _ _ _ _ _ (@Jz _ _ _ _) (@Ja _ _ _ _ _ (@JG _ _ _ _ _ _ _ (@JU _) (@pv _ 2 _ _ rfl (.inl rfl) rfl rfl) (@Je _ _ _ _) (fun _ _=>rfl)) (@Jc _) rfl) rfl)))) (@Jp _)) (@Jg _ _ _ (@Jn _ _ _ _ (@Yn _ _ _ _ _ (@Ja _ _ _ _ _ (@Jz _ _ _ _) (@Ja _ _ _ _ _ (@Jz _ _ _ _) (@Jc _) rfl) rfl)))))))),?_⟩;have hj:j < 12:=(List.getElem?_eq_some_iff.mp hx).1;refine ⟨fun σ1 H1=>∃ p1,Jh H H1∧H1 p1=some (.lst [.str "BadName",.str "BadHand",.str "OutOfRange",.str "Twice",.str "NoPlace",.str "BadBid"])∧σ1=[some (.ref l),some (.ref p1),none],
   ⟨by show 6≤sizeLine; decide,fun p1 hp1=>⟨p1,Jh.upd hp1,Ji,rfl⟩⟩,?_⟩
  rintro σ1 H1 ⟨p1,s1,hp1,rfl⟩;refine ⟨fun σ2 H3=>∃ p3,Jh H1 H3∧H3 p3=some (.lst (Jjx.map V.str))∧σ2=[some (.ref l),some (.ref p3),none],
   ⟨_,rfl,by show 6≤sizeLine; decide,fun p2 hp2=>⟨p1,p2,_,_,rfl,rfl,(Jh.upd hp2) _ _ hp1,Ji,by show 12≤sizeLine; decide,fun p3 hp3=>⟨p3,(Jh.upd hp2).trans (Jh.upd hp3),Ji,rfl⟩⟩⟩,?_⟩
  rintro σ2 H3 ⟨p3,s13,hw3,rfl⟩;have s3:=s1.trans s13;refine ⟨12,rfl,by decide,by decide,fun D hD=>Jj7 (n:=12) (fun i ys H4=>Jh H3 H4∧H4 D=some (.lst ys)∧ys=if j < i then [.str x] else []) rfl ?_ ?_ ?_ ?_⟩
  ·exact ⟨Jh.upd hD,Ji,by simp⟩
  ·exact fun i ys H4 p=>p.2.1
  ·rintro i ys H4 hi ⟨e4,hD4,hys⟩;have keep:∀ o,Jh H3 (upd H4 D o):=fun o b u e=>by rw [JB (JD e hD)]; exact e4 b u e
   refine ⟨_,rfl,_,rfl,l,_,_,_,rfl,rfl,JC.of (e4 _ _ (s3 _ _ hl)),Jr0 j i hi,_,rfl,?_⟩;by_cases hij:i=j
   ·subst hij;obtain ⟨y,hy1,hy2⟩:=Jq3 i hi;rw [hx] at hy1;cases hy1;rw [if_neg (Nat.lt_irrefl _)] at hys;subst hys;refine YF (by simp) ⟨_,rfl,_,rfl,p3,_,_,.str x,rfl,rfl,JC.of (e4 _ _ hw3),hy2,hD4,by show 0 < sizeLine; decide,keep _,Ji,?_⟩;rw [if_pos (Nat.lt_succ_self _)]; rfl
   ·refine Yb (by simpa using hij) ⟨e4,hD4,?_⟩;rw [hys];by_cases hlt:j < i
    ·rw [if_pos hlt,if_pos (by omega)]
    ·rw [if_neg hlt,if_neg (by omega)]
  ·rintro ys H4 ⟨e4,hD4,hys⟩;rw [if_pos hj] at hys;subst hys;have s4:=s3.trans e4;refine ⟨_,rfl,D,_,rfl,.inl (JC.of hD4),rfl,_,rfl,YF (decide_eq_true rfl) ?_⟩;refine ⟨_,rfl,l,_,_,.bl true,rfl,rfl,JC.of (s4 _ _ hl),?_,_,rfl,YD ?_⟩
   ·have z:atI (JjX j) ((12:Nat):Int)=some (.bl true):=Zr (by unfold JjX; rw [List.getElem?_append_right (by simp)]; simp);exact z
   refine ⟨_,rfl,D,_,_,.str x,rfl,rfl,JC.of hD4,rfl,by show 2≤sizeLine; decide,fun p hp=>q p _ (s4.trans (Jh.upd hp)) Ji⟩
theorem Jur (T:Txt K mg):JK P w K mg base YB 9 T.Jo8 T.Jna ["_law_game", "_law_hand_here", "_law_word", "_law_what"] (JsV T):=by
 refine T.Jps.F.ok JjG (fun vs H Q E h=>?_) (fun cdv A outer s H vs Q E hr h=>?_)
 ·obtain ⟨_,_,_,_,_,_,_,_,rfl,_⟩:=h;rfl
 ·obtain ⟨G,ds,ms,a,x,z,w,v,rfl,A0,hdl,hml,tz,wo,q1,q2,q3⟩:=h;refine ⟨_,(@Jd _ _ _ _ _ (@Jr _ _ 4 _ _ _ _ JjG.nd rfl (Or.inl rfl) (@YX _ _ _ _ (@Jc _)) rfl (.inl rfl)) (@Jd _ _ _ _ _ (@Juh _ _ _ _ 5 _ _ _ _ _ _ _ _ (fun c _ H2=>Jh H H2∧((c=.ref T.Yl∧¬ (x.hand=.str z∧x.word=.str w))∨(c=.ref (if w = "step" then T.Yv else T.Yi)∧x.hand=.str z∧x.word=.str w∧¬ Zk (G.zs.map (·.2)) G.c x v))) JjG.nd T.JfQ rfl (fun pn xe hx=>(@Jg _ _ _ (@Jn _ _ _ _ (@Jk _ _ _ _ _ _ _ _ _ _ _ _ _ _ _ T.Jkm (Jn2 T) (hr.mono (by decide)) hx (@Ja _ _ _ _ _ (@pv _ 0 _ _ rfl (.inl rfl) rfl rfl) (@Ja _ _ _ _ _ (@pv _ 1 _ _ rfl (.inl rfl) rfl rfl) (@Ja _ _ _ _ _ (@pv _ 2 _ _ rfl (.inl rfl) rfl rfl) (@Ja _ _ _ _ _ (@pv _ 3 _ _ rfl (.inl rfl) rfl rfl) (@Jc _) rfl) rfl) rfl) rfl) rfl (by decide) rfl rfl)))) (fun ea C oe A pn hp hc=>(@Jg _ _ _ (@Jr _ _ 4 _ _ _ _ JjG.nd rfl (Or.inl rfl) (@YX _ _ _ _ (@Ja _ _ _ _ _ (@JF _ _ _ _ _ _ _ _ _ (show Yx _ _ (Jcw K ea C) from Za hp hc) rfl T.J7 PyProof.Rows.boot_isinstance (@Ja _ _ _ _ _ (@pv _ 5 _ _ rfl (.inl rfl) rfl rfl) (@Ja _ _ _ _ _ (@ZO _ _ _ _ rfl T.JlO (by decide)) (@Jc _) rfl) rfl) (by decide) (by decide) rfl rfl) (@Ja _ _ _ _ _ (@JF _ _ _ _ _ _ _ _ _ (show Yx _ _ (Jcw K ea C) from Za hp hc) rfl T.J7 PyProof.Rows.boot_isinstance (@Ja _ _ _ _ _ (@pv _ 5 _ _ rfl (.inl rfl) rfl rfl) (@Ja _ _ _ _ _ (@ZO _ _ _ _ rfl T.Jh5 (by decide)) (@Jc _) rfl) rfl) (by decide) (by decide) rfl rfl) (@Ja _ _ _ _ _ (@JF _ _ _ _ _ _ _ _ _ (show Yx _ _ (Jcw K ea C) from Za hp hc) rfl T.J7 PyProof.Rows.boot_isinstance (@Ja _ _ _ _ _ (@pv _ 5 _ _ rfl (.inl rfl) rfl rfl) (@Ja _ _ _ _ _ (@ZO _ _ _ _ rfl T.JcM (by decide)) (@Jc _) rfl) rfl) (by decide) (by decide) rfl rfl) (@Ja _ _ _ _ _ (@JF _ _ _ _ _ _ _ _ _ (show Yx _ _ (Jcw K ea C) from Za hp hc) rfl T.J7 PyProof.Rows.boot_isinstance (@Ja _ _ _ _ _ (@pv _ 5 _ _ rfl (.inl rfl) rfl rfl) (@Ja _ _ _ _ _ (@ZO _ _ _ _ rfl T.Jok (by decide)) (@Jc _) rfl) rfl) (by decide) (by decide) rfl rfl) (@Ja _ _ _ _ _ (@JF _ _ _ _ _ _ _ _ _ (show Yx _ _ (Jcw K ea C) from Za hp hc) rfl T.J7 PyProof.Rows.boot_isinstance (@Ja _ _ _ _ _ (@pv _ 5 _ _ rfl (.inl rfl) rfl rfl) (@Ja _ _ _ _ _ (@ZO _ _ _ _ rfl T.Jh4 (by decide)) (@Jc _) rfl) rfl) (by decide) (by decide) rfl rfl) (@Ja _ _ _ _ _ (@JF _ _ _ _ _ _ _ _ _ (show Yx _ _ (Jcw K ea C) from Za hp hc) rfl T.J7 PyProof.Rows.boot_isinstance (@Ja _ _ _ _ _ (@pv _ 5 _ _ rfl (.inl rfl) rfl rfl) (@Ja _ _ _ _ _ (@ZO _ _ _ _ rfl T.Jjo (by decide)) (@Jc _) rfl) rfl) (by decide) (by decide) rfl rfl) (@Ja _ _ _ _ _ (@JF _ _ _ _ _ _ _ _ _ (show Yx _ _ (Jcw K ea C) from Za hp hc) rfl T.J7 PyProof.Rows.boot_isinstance (@Ja _ _ _ _ _ (@pv _ 5 _ _ rfl (.inl rfl) rfl rfl) (@Ja _ _ _ _ _ (@ZO _ _ _ _ rfl T.Jjn (by decide)) (@Jc _) rfl) rfl) (by decide) (by decide) rfl rfl) (@Ja _ _ _ _ _ (@JF _ _ _ _ _ _ _ _ _ (show Yx _ _ (Jcw K ea C) from Za hp hc) rfl T.J7 PyProof.Rows.boot_isinstance (@Ja _ _ _ _ _ (@pv _ 5 _ _ rfl (.inl rfl) rfl rfl) (@Ja _ _ _ _ _ (@ZO _ _ _ _ rfl T.Jjm (by decide)) (@Jc _) rfl) rfl) (by decide) (by decide) rfl rfl) (@Ja _ _ _ _ _ (@JF _ _ _ _ _ _ _ _ _ (show Yx _ _ (Jcw K ea C) from Za hp hc) rfl T.J7 PyProof.Rows.boot_isinstance (@Ja _ _ _ _ _ (@pv _ 5 _ _ rfl (.inl rfl) rfl rfl) (@Ja _ _ _ _ _ (@ZO _ _ _ _ rfl T.Jd2 (by decide)) (@Jc _) rfl) rfl) (by decide) (by decide) rfl rfl) (@Ja _ _ _ _ _ (@JF _ _ _ _ _ _ _ _ _ (show Yx _ _ (Jcw K ea C) from Za hp hc) rfl T.J7 PyProof.Rows.boot_isinstance (@Ja _ _ _ _ _ (@pv _ 5 _ _ rfl (.inl rfl) rfl rfl) (@Ja _ _ _ _ _ (@ZO _ _ _ _ rfl T.Jol (by decide)) (@Jc _) rfl) rfl) (by decide) (by decide) rfl rfl) (@Ja _ _ _ _ _ (@JF _ _ _ _ _ _ _ _ _ (show Yx _ _ (Jcw K ea C) from Za hp hc) rfl T.J7 PyProof.Rows.boot_isinstance (@Ja _ _ _ _ _ (@pv _ 5 _ _ rfl (.inl rfl) rfl rfl) (@Ja _ _ _ _ _ (@ZO _ _ _ _ rfl T.JqT (by decide)) (@Jc _) rfl) rfl) (by decide) (by decide) rfl rfl) (@Ja _ _ _ _ _ (@JF _ _ _ _ _ _ _ _ _ (show Yx _ _ (Jcw K ea C) from Za hp hc) rfl T.J7 PyProof.Rows.boot_isinstance (@Ja _ _ _ _ _ (@pv _ 5 _ _ rfl (.inl rfl) rfl rfl) (@Ja _ _ _ _ _ (@ZO _ _ _ _ rfl T.JlN (by decide)) (@Jc _) rfl) rfl) (by decide) (by decide) rfl rfl) (@Ja _ _ _ _ _ (@JF _ _ _ _ _ _ _ _ _ (show Yx _ _ (Jcw K ea C) from Za hp hc) rfl T.J7 PyProof.Rows.boot_isinstance (@Ja _ _ _ _ _ (@pv _ 5 _ _ rfl (.inl rfl) rfl rfl) (@Ja _ _ _ _ _ (@Je1 _ _ _ _ rfl T.JhE Jkc (by decide) (by decide)) (@Jc _) rfl) rfl) (by decide) (by decide) rfl rfl) (@Jc _) rfl) rfl) rfl) rfl) rfl) rfl) rfl) rfl) rfl) rfl) rfl) rfl) rfl)) rfl (.inl rfl)))) rfl rfl rfl rfl (by decide)) (@Jg _ _ _ (@Jn _ _ _ _ (@Jk _ _ _ _ _ _ _ _ _ _ _ _ _ _ _ T.Jlf (JrQ T) (hr.mono (by decide)) Jt (@Ja _ _ _ _ _ (@pv _ 4 _ _ rfl (.inl rfl) rfl rfl) (@Jc _) rfl) rfl (by decide) rfl rfl))))),?_⟩
  try dsimp only [cxK,Jdd]
  refine ⟨by show 0≤sizeLine; decide,fun p0 hp0=>?_⟩;have s0:Jh H (upd H p0 (.lst [])):=Jh.upd hp0;refine ⟨⟨_,rfl,_,rfl,_,rfl,_,rfl,G,ds,ms,a,x,z,w,v,rfl,A0.same s0,hdl,hml,tz,wo,fun hn H1 e1=>⟨s0.trans e1,.inl ⟨rfl,hn⟩⟩,fun h1 h2 h3 H1 e1=>⟨s0.trans e1,.inr ⟨rfl,h1,h2,h3⟩⟩,fun h1 h2 h3 d a' H1 c1 A1=>q3 h1 h2 h3 d a' H1 ((Z0.of s0).trans c1) A1⟩,fun ea C H' hE=>?_⟩;obtain ⟨s1,⟨e,hn⟩ | ⟨e,h1,h2,h3⟩⟩:=hE
  ·obtain rfl:C=T.Yl:=Value.ref.inj e;refine ⟨T.JlI,_,rfl,_,_,rfl,⟨"",.inr ⟨_,rfl⟩⟩,T.Y3,T.Jd9,_,rfl,_,_,rfl,⟨"",.inr ⟨_,rfl⟩⟩,T.Y3,T.Jea,_,rfl,_,_,rfl,⟨"",.inr ⟨_,rfl⟩⟩,T.Y3,T.JcB,_,rfl,_,_,rfl,⟨"",.inr ⟨_,rfl⟩⟩,T.Y3,T.JfJ,_,rfl,_,_,rfl,⟨"",.inr ⟨_,rfl⟩⟩,T.Y3,T.Jd7,_,rfl,_,_,rfl,⟨"",.inr ⟨_,rfl⟩⟩,T.Y3,T.Je9,_,rfl,_,_,rfl,⟨"",.inr ⟨_,rfl⟩⟩,T.Y3,T.Je8,_,rfl,_,_,rfl,⟨"",.inr ⟨_,rfl⟩⟩,T.Y3,T.Je7,_,rfl,_,_,rfl,⟨"",.inr ⟨_,rfl⟩⟩,T.Y3,T.Jcl,_,rfl,_,_,rfl,⟨"",.inr ⟨_,rfl⟩⟩,T.Y3,T.JfK,_,rfl,_,_,rfl,⟨"",.inr ⟨_,rfl⟩⟩,T.Y3,T.Jgz,_,rfl,_,_,rfl,⟨"",.inr ⟨_,rfl⟩⟩,T.Y3,T.Jd8,_,rfl,_,_,rfl,⟨_,.inl rfl⟩,T.Y3,T.Jlz,by show 13≤sizeLine; decide,fun l hl=>?_⟩;exact ⟨_,rfl,l,7, "NotDue",rfl,by rw [Ji]; rfl,rfl,fun p H2 e2 hp=>q1 hn p H2 ((s1.trans (Jh.upd hl)).trans e2) hp⟩
  ·have q2:=q2 h1 h2 h3;unfold kindOf at q2;by_cases hw:w = "step"
   ·rw [if_pos hw] at e q2;obtain rfl:C=T.Yv:=Value.ref.inj e;refine ⟨T.JlJ,_,rfl,_,_,rfl,⟨"",.inr ⟨_,rfl⟩⟩,T.Y4,T.Jed,_,rfl,_,_,rfl,⟨"",.inr ⟨_,rfl⟩⟩,T.Y4,T.Jee,_,rfl,_,_,rfl,⟨"",.inr ⟨_,rfl⟩⟩,T.Y4,T.JcC,_,rfl,_,_,rfl,⟨"",.inr ⟨_,rfl⟩⟩,T.Y4,T.JfL,_,rfl,_,_,rfl,⟨"",.inr ⟨_,rfl⟩⟩,T.Y4,T.Jeb,_,rfl,_,_,rfl,⟨"",.inr ⟨_,rfl⟩⟩,T.Y4,T.Jfc,_,rfl,_,_,rfl,⟨"",.inr ⟨_,rfl⟩⟩,T.Y4,T.Jfb,_,rfl,_,_,rfl,⟨"",.inr ⟨_,rfl⟩⟩,T.Y4,T.Jfa,_,rfl,_,_,rfl,⟨"",.inr ⟨_,rfl⟩⟩,T.Y4,T.Jcm,_,rfl,_,_,rfl,⟨"",.inr ⟨_,rfl⟩⟩,T.Y4,T.JfM,_,rfl,_,_,rfl,⟨"",.inr ⟨_,rfl⟩⟩,T.Y4,T.JgA,_,rfl,_,_,rfl,⟨"",.inr ⟨_,rfl⟩⟩,T.Y4,T.Jec,_,rfl,_,_,rfl,⟨_,.inl rfl⟩,T.Y4,T.JlA,by show 13≤sizeLine; decide,fun l hl=>?_⟩;exact ⟨_,rfl,l,6, "NoLane",rfl,by rw [Ji]; rfl,rfl,fun p H2 e2 hp=>q2 p H2 ((s1.trans (Jh.upd hl)).trans e2) hp⟩
   ·rw [if_neg hw] at e q2;obtain rfl:C=T.Yi:=Value.ref.inj e;refine ⟨T.JlK,_,rfl,_,_,rfl,⟨"",.inr ⟨_,rfl⟩⟩,T.Y5,T.Jeh,_,rfl,_,_,rfl,⟨"",.inr ⟨_,rfl⟩⟩,T.Y5,T.Jei,_,rfl,_,_,rfl,⟨"",.inr ⟨_,rfl⟩⟩,T.Y5,T.JcD,_,rfl,_,_,rfl,⟨"",.inr ⟨_,rfl⟩⟩,T.Y5,T.JfN,_,rfl,_,_,rfl,⟨"",.inr ⟨_,rfl⟩⟩,T.Y5,T.Jef,_,rfl,_,_,rfl,⟨"",.inr ⟨_,rfl⟩⟩,T.Y5,T.Jff,_,rfl,_,_,rfl,⟨"",.inr ⟨_,rfl⟩⟩,T.Y5,T.Jfe,_,rfl,_,_,rfl,⟨"",.inr ⟨_,rfl⟩⟩,T.Y5,T.Jfd,_,rfl,_,_,rfl,⟨"",.inr ⟨_,rfl⟩⟩,T.Y5,T.Jcn,_,rfl,_,_,rfl,⟨"",.inr ⟨_,rfl⟩⟩,T.Y5,T.JfO,_,rfl,_,_,rfl,⟨"",.inr ⟨_,rfl⟩⟩,T.Y5,T.JgB,_,rfl,_,_,rfl,⟨"",.inr ⟨_,rfl⟩⟩,T.Y5,T.Jeg,_,rfl,_,_,rfl,⟨_,.inl rfl⟩,T.Y5,T.JlB,by show 13≤sizeLine; decide,fun l hl=>?_⟩;exact ⟨_,rfl,l,5, "BadBid",rfl,by rw [Ji]; rfl,rfl,fun p H2 e2 hp=>q2 p H2 ((s1.trans (Jh.upd hl)).trans e2) hp⟩
def Mo.far (x:Mo):Nat:=match x.ph with
 | .over=>0
 | .bid=>3 * x.m
 | .ans _=>3 * x.m - 1
 | .step _=>3 * x.m - 2
theorem Jsc {ps:List Str} {zs:List (Str×Str)} {gs:List Str} {c:Int} {T0:Nat} {x:Mo} {v:V} (ok:JbT ps zs gs c T0 x) (ho:x.ph≠.over) (hv:Zk zs c x v):(Zw zs gs x v).far + 1≤x.far:=by
 have hm:x.m≠0:=fun z=>ho (ok.e.mpr (.inr (.inl z)))
 unfold Zk at hv;unfold Zw;cases hp:x.ph with
 | over=>exact absurd hp ho
 | bid =>
  rw [hp] at hv;obtain ⟨y,rfl,_⟩:=hv;unfold Mo.far;rw [hp];show 3 * x.m - 1 + 1≤3 * x.m;omega
 | ans b =>
  rw [hp] at hv;obtain ⟨y,rfl,_⟩:=hv;unfold Mo.far;rw [hp];show 3 * x.m - 2 + 1≤3 * x.m - 1;omega
 | step h =>
  rw [hp] at hv;obtain ⟨y,rfl,_⟩:=hv;have e:x.far=3 * x.m - 2:=by unfold Mo.far; rw [hp]
  rw [e];show (Y9 zs gs y (x.m - 1) x.n x.r).far + 1≤3 * x.m - 2;unfold Mo.far Y9;by_cases he:Yq zs gs (x.m - 1) y
  ·simp only [if_pos he]; omega
  ·simp only [if_neg he]; omega
theorem Jp8 {zs:List (Str×Str)} {gs:List Str} {p:Str} {m:Nat} {n c:Int} {r:Bool}:JaE c (Y9 zs gs p m n r)=[.str p,.int (m:Int),.int n,.int (c - n),.str (hs r),.non,.str ""]:=by
 unfold JaE;rw [Jbv.2.1,Jbv.2.2]; rfl
theorem JqG {ps:List Str} {zs:List (Str×Str)} {gs:List Str} {c:Int} {T0:Nat} {v:V} (ok:JbT ps zs gs c T0 x) (ho:x.ph≠.over) (hv:Zk zs c x v) (B:Jdf ps zs gs):∃ y w,x.hand=.str y∧x.word=.str w∧YG y∧Jjy w v:=by
 unfold Mo.hand Mo.word;unfold Zk at hv;cases hp:x.ph with
 | over=>exact absurd hp ho
 | bid =>
  rw [hp] at hv;obtain ⟨y,rfl,_⟩:=hv;exact ⟨_,_,rfl,rfl,Ze _,.inl ⟨rfl,y,rfl⟩⟩
 | ans b =>
  rw [hp] at hv;obtain ⟨y,rfl,_⟩:=hv;exact ⟨_,_,rfl,rfl,Ze _,.inr (.inl ⟨rfl,y,rfl⟩)⟩
 | step h =>
  rw [hp] at hv;obtain ⟨y,rfl,hy⟩:=hv;exact ⟨_,_,rfl,rfl,Ze _,.inr (.inr ⟨rfl,y,rfl,YO (B.p3 y (Jch B hy))⟩)⟩
def JpR (T:Txt K mg):Sp:=fun vs H Q _=>∃ (G:Gm) (t tn ll a:Addr) (x:Mo) (ds:List (Addr×List V)) (ms:List (Addr×Mo)) (ls:List Addr) (ps:List Str) (zs:List (V×(Str×Str))) (gs:List Str),vs=[.ref G.g,.ref t,.ref tn,.ref ll]∧J1 T G H ds (ms ++ [(a,x)])∧x.ph=.over∧H tn=some (.tup (JaE G.c x))∧GG K H t ps zs gs G.ps G.zs G.gs∧H ll=some (.lst (ls.map V.ref))∧ZP H ls ds∧ds.length≤1000∧ms.length≤1000∧(∀ d∈ds,d.2.length≤1000∧d.2.all Zz=true)∧∀ H',Jh H H'→Q (.bl true) H'
theorem Jq5 {i:Nat} {y a b c:V} (h:[a,b,c][i]?=some y):y=a∨y=b∨y=c:=by
 match i,h with
 | 0,h=>exact .inl (Option.some.inj h).symm
 | 1,h=>exact .inr (.inl (Option.some.inj h).symm)
 | 2,h=>exact .inr (.inr (Option.some.inj h).symm)
 | i + 3,h=>cases h
theorem Jlv (T:Txt K mg):JK P w K mg base YB 12 T.Jjk T.JhV ["_law_game", "_law_ground_here", "_law_now", "_law_log"] (JpR T):=by
 refine T.Jha.F.ok Jcj (fun vs H Q E h=>?_) (fun cdv A outer s H vs Q E hr h=>?_)
 ·obtain ⟨_,_,_,_,_,_,_,_,_,_,_,_,rfl,_⟩:=h;rfl
 ·obtain ⟨G,t,tn,ll,a,x,ds,ms,ls,ps,zs,gs,rfl,A0,ho,htn,g,hll,hL,hdl,hml,hdf,q⟩:=h;have szl:sizeLine=16777216:=sizeLine_eq;refine ⟨_,(@Jd _ _ _ _ _ (@Jr _ _ 4 _ _ _ _ Jcj.nd rfl (Or.inl rfl) (@Jk _ _ _ _ _ _ _ _ _ _ _ _ _ _ _ T.Jit (JjN T) (hr.mono (by decide)) Jt (@Ja _ _ _ _ _ (@pv _ 1 _ _ rfl (.inl rfl) rfl rfl) (@Ja _ _ _ _ _ (@JG _ _ _ _ _ _ _ (@JX _) (@pv _ 2 _ _ rfl (.inl rfl) rfl rfl) (@Je _ _ _ _) (fun _ _=>rfl)) (@Ja _ _ _ _ _ (@JG _ _ _ _ _ _ _ (@JX _) (@pv _ 2 _ _ rfl (.inl rfl) rfl rfl) (@Je _ _ _ _) (fun _ _=>rfl)) (@Jc _) rfl) rfl) rfl) rfl (by decide) rfl rfl) rfl (.inl rfl)) (@Jd _ _ _ _ _ (@J4 _ _ _ (@JH _ _ _ _ _ _ _ _ (@PW.pt _ _ _ (@ZX _ _ _ _ _ _ _ (@Js _ _ _ _ _ _ _ _ (@Yg _) (@pv _ 4 _ _ rfl (.inl rfl) rfl rfl) (@Jz _ _ _ _) (JE _)) (@ZX _ _ _ _ _ _ _ (@ZU _ _ _ _ (@Zf _ _ _ (@Jk _ _ _ _ _ _ _ _ _ _ _ _ _ _ _ T.Jdg (Je2 T) (hr.mono (by decide)) Jt (@Ja _ _ _ _ _ (@Zc _ _ _ _ _ _ _ _ _ _ _ _ _ _ _ _ _ (@pv _ 0 _ _ rfl (.inl rfl) rfl rfl) T.JM T.Zs.m (JcA T) (hr.mono (by decide)) T.Zs.b .nil Jt rfl) (@Ja _ _ _ _ _ (@pv _ 4 _ _ rfl (.inl rfl) rfl rfl) (@Jc _) rfl) rfl) rfl (by decide) rfl rfl) (by intro _; rfl))) (@ZT _ _ _ _ (@ZU _ _ _ _ (@Zf _ _ _ (@Jk _ _ _ _ _ _ _ _ _ _ _ _ _ _ _ T.Jdg (Je2 T) (hr.mono (by decide)) Jt (@Ja _ _ _ _ _ (@Zc _ _ _ _ _ _ _ _ _ _ _ _ _ _ _ _ _ (@pv _ 0 _ _ rfl (.inl rfl) rfl rfl) T.JM T.Jb3.m (JkM T) (hr.mono (by decide)) T.Jb3.b .nil Jt rfl) (@Ja _ _ _ _ _ (@pv _ 4 _ _ rfl (.inl rfl) rfl rfl) (@Jc _) rfl) rfl) rfl (by decide) rfl rfl) (by intro _; rfl))))))) (@Jg _ _ _ (@Jn _ _ _ _ (@Jay _ _ _ _))) (@Jp _))) (@Jd _ _ _ _ _ (@J4 _ _ _ (@JH _ _ _ _ _ _ _ _ (@PW.pt _ _ _ (@ZX _ _ _ _ _ _ _ (@Zm _ _ _ _ _ _ (@Jag _ _ _ _ _ (@Zc _ _ _ _ _ _ _ _ _ _ _ _ _ _ _ _ _ (@pv _ 0 _ _ rfl (.inl rfl) rfl rfl) T.JM T.ZK.m (Jdk T) (hr.mono (by decide)) T.ZK.b .nil Jt rfl)) (by first | exact Yj _ (by decide) (by decide) | rfl)) (@ZX _ _ _ _ _ _ _ (@Zm _ _ _ _ _ _ (@Jag _ _ _ _ _ (@Zc _ _ _ _ _ _ _ _ _ _ _ _ _ _ _ _ _ (@pv _ 0 _ _ rfl (.inl rfl) rfl rfl) T.JM T.Ja4.m (Jhy T) (hr.mono (by decide)) T.Ja4.b .nil Jt rfl)) (by first | exact Yj _ (by decide) (by decide) | rfl)) (@ZT _ _ _ _ (@Zm _ _ _ _ _ _ (@Jag _ _ _ _ _ (@Zc _ _ _ _ _ _ _ _ _ _ _ _ _ _ _ _ _ (@pv _ 0 _ _ rfl (.inl rfl) rfl rfl) T.JM T.JaJ.m (Jhc T) (hr.mono (by decide)) T.JaJ.b .nil Jt rfl)) (by first | exact Yj _ (by decide) (by decide) | rfl)))))) (@Jg _ _ _ (@Jn _ _ _ _ (@Jay _ _ _ _))) (@Jp _))) (@Jd _ _ _ _ _ (@Zn _ _ _ _ _ _ _ _ PassesOwn.never rfl (@Ja0 _ _ _ _ (@YX _ _ _ _ (@Ja _ _ _ _ _ (@Jz _ _ _ _) (@Ja _ _ _ _ _ (@Jz _ _ _ _) (@Jc _) rfl) rfl))) (@JQ _ _ 5 _ Jcj.nd rfl (Or.inl rfl) (.inl rfl)) (@Jg _ _ _ (@Zn _ _ _ _ _ _ _ _ PassesOwn.never rfl (@Ja0 _ _ _ _ (@YX _ _ _ _ (@Ja _ _ _ _ _ (@Jz _ _ _ _) (@Ja _ _ _ _ _ (@Jz _ _ _ _) (@Ja _ _ _ _ _ (@Jz _ _ _ _) (@Jc _) rfl) rfl) rfl))) (@JQ _ _ 6 _ Jcj.nd rfl (Or.inl rfl) (.inl rfl)) (@Jd _ _ _ _ _ (@Jr _ _ 7 _ _ _ _ Jcj.nd rfl (Or.inl rfl) (@Je _ _ _ _) rfl (.inl rfl)) (@Jd _ _ _ _ _ (@J4 _ _ _ (@JH _ _ _ _ _ _ _ _ (@Js _ _ _ _ _ _ _ _ (@Yg _) (@pv _ 6 _ _ rfl (.inl rfl) rfl rfl) (@Jz _ _ _ _) (JE _)) (@Jg _ _ _ (@Jr _ _ 7 _ _ _ _ Jcj.nd rfl (Or.inl rfl) (@JG _ _ _ _ _ _ _ (@JU _) (@Jm _ _ _ _ _ _ _ _ (@Jp3 _) (@Jk _ _ _ _ _ _ _ _ _ _ _ _ _ _ _ T.Jh9 (JkJ T) (hr.mono (by decide)) Jt (@Ja _ _ _ _ _ (@pv _ 1 _ _ rfl (.inl rfl) rfl rfl) (@Ja _ _ _ _ _ (@JG _ _ _ _ _ _ _ (@JX _) (@pv _ 2 _ _ rfl (.inl rfl) rfl rfl) (@Je _ _ _ _) (fun _ _=>rfl)) (@Jc _) rfl) rfl) rfl (by decide) rfl rfl) (@YX _ _ _ _ (@Ja _ _ _ _ _ (@JG _ _ _ _ _ _ _ (@JX _) (@pv _ 2 _ _ rfl (.inl rfl) rfl rfl) (@Je _ _ _ _) (fun _ _=>rfl)) (@Jc _) rfl))) (@Je _ _ _ _) (fun _ _=>rfl)) rfl (.inl rfl))) (@Jp _))) (@Jg _ _ _ (@JH _ _ _ _ _ _ _ _ (@ZU _ _ _ _ (@Zf _ _ _ (@Jk _ _ _ _ _ _ _ _ _ _ _ _ _ _ _ T.Jdy (Jez T) (hr.mono (by decide)) Jt (@Ja _ _ _ _ _ (@Jk _ _ _ _ _ _ _ _ _ _ _ _ _ _ _ T.Jps (Jur T) (hr.mono (by decide)) Jt (@Ja _ _ _ _ _ (@pv _ 0 _ _ rfl (.inl rfl) rfl rfl) (@Ja _ _ _ _ _ (@pv _ 5 _ _ rfl (.inl rfl) rfl rfl) (@Ja _ _ _ _ _ (@pv _ 6 _ _ rfl (.inl rfl) rfl rfl) (@Ja _ _ _ _ _ (@pv _ 7 _ _ rfl (.inl rfl) rfl rfl) (@Jc _) rfl) rfl) rfl) rfl) rfl (by decide) rfl rfl) (@Ja _ _ _ _ _ (@Yn _ _ _ _ _ (@Ja _ _ _ _ _ (@Jz _ _ _ _) (@Ja _ _ _ _ _ (@Jz _ _ _ _) (@Jc _) rfl) rfl)) (@Jc _) rfl) rfl) rfl (by decide) rfl rfl) (by intro _; rfl))) (@Jg _ _ _ (@Jn _ _ _ _ (@Jay _ _ _ _))) (@Jp _))))) (by intro _; rfl))) (by intro _; rfl)) (@Jg _ _ _ (@Jn _ _ _ _ (@Jk _ _ _ _ _ _ _ _ _ _ _ _ _ _ _ T.Jiu (JmS T) (hr.mono (by decide)) Jt (@Ja _ _ _ _ _ (@pv _ 0 _ _ rfl (.inl rfl) rfl rfl) (@Ja _ _ _ _ _ (@pv _ 1 _ _ rfl (.inl rfl) rfl rfl) (@Ja _ _ _ _ _ (@pv _ 2 _ _ rfl (.inl rfl) rfl rfl) (@Ja _ _ _ _ _ (@ZM _ _ _ _ _ _ _ _ _ (@ZS _) rfl T.Ja2 PyProof.Rows.boot_tuple (@Ja _ _ _ _ _ (@pv _ 3 _ _ rfl (.inl rfl) rfl rfl) (@Jc _) rfl) (by decide) (by decide) rfl rfl) (@Jc _) rfl) rfl) rfl) rfl) rfl (by decide) rfl rfl))))))),?_⟩
  try dsimp only [cxK,Jdd]
  obtain ⟨dg,hg⟩:=A0.gi;have ok:JbT G.ps (G.zs.map (·.2)) G.gs G.c G.T x:=A0.mo (a,x) (List.mem_append_right _ (List.mem_singleton.mpr rfl));have he:=ok.e.mp ho;have eo:Zl x.p (x.m:Int) (G.zs.map (·.2)) G.gs=.str (hs (Jhi (G.zs.map (·.2)) G.gs G.c x)):=by
   rw [JqE he];unfold Jhi;rw [ho]
  have ew:V.str (JbJ x.p (x.m:Int) (zs.map (·.2)) gs)=.str (hs (Jhi (G.zs.map (·.2)) G.gs G.c x)):=by rw [← Joc (g.zp.map _) g.gp he,eo]
  refine ⟨_,rfl,_,rfl,tn,_,_,.str x.p,rfl,rfl,JL.of htn,rfl,_,rfl,tn,_,_,.int (x.m:Int),rfl,rfl,JL.of htn,rfl,t,x.p,(x.m:Int),ps,zs,gs,rfl,g.G,fun H1 e1=>?_⟩;rw [ew];generalize hwb:Jhi (G.zs.map (·.2)) G.gs G.c x=wb at eo;refine ⟨fun σ1 H2=>Jh H H2∧σ1=[some (.ref G.g),some (.ref t),some (.ref tn),some (.ref ll),some (.str (hs wb)),none,none,none],?_,?_⟩
  ·have A1:=A0.same e1;refine ⟨_,rfl,rfl,_,rfl,Yb (by cases wb <;> decide +kernel) ⟨_,rfl,G.g,dg,_,rfl,A1.sm _ _ hg,rfl,G,ds,ms,a,x,rfl,A1,fun H2 e2=>?_⟩⟩;rw [eo];have A2:=A1.same e2;refine ⟨_,rfl,_,rfl,rfl,_,rfl,Yo ⟨_,rfl,G.g,dg,_,rfl,A2.sm _ _ hg,rfl,G,ds,ms,a,x,rfl,A2,fun H3 e3=>?_⟩⟩;rw [hwb];exact ⟨_,rfl,_,rfl,rfl,_,rfl,Yo ⟨(e1.trans e2).trans e3,rfl⟩⟩
  rintro σ1 H2 ⟨e2,rfl⟩;refine ⟨fun σ1 H3=>Jh H H3∧σ1=[some (.ref G.g),some (.ref t),some (.ref tn),some (.ref ll),some (.str (hs wb)),none,none,none],?_,?_⟩
  ·have A2:=A0.same e2;have hn:JaL (G.zs.map (·.2)) G.gs G.c x=.non:=by unfold JaL; rw [ho]
   have hh:x.heard=.non:=by unfold Mo.heard; rw [ho]
   refine ⟨_,rfl,G.g,dg,_,rfl,A2.sm _ _ hg,rfl,G,ds,ms,a,x,rfl,A2,fun _=>⟨_,rfl,Yo ?_⟩,fun z=>absurd ho z⟩;refine ⟨_,rfl,G.g,dg,_,rfl,A2.sm _ _ hg,rfl,G,ds,ms,a,x,rfl,A2,fun _ H3 e3=>⟨_,rfl,Yo ?_⟩,fun z=>absurd hn z⟩;have A3:=A2.same e3;refine ⟨_,rfl,G.g,dg,_,rfl,A3.sm _ _ hg,rfl,G,ds,ms,a,x,rfl,A3,?_⟩;rw [hh];exact ⟨_,rfl,Yo ⟨e2.trans e3,rfl⟩⟩
  rintro σ1 H3 ⟨e3,rfl⟩;refine ⟨by show 2≤sizeLine; decide,fun l4 n4=>⟨l4,rfl,⟨_,JC.of Ji⟩,?_⟩⟩;have s4:=Jh.upd (o:=.lst [.str "north",.str "south"]) n4;have hl4:upd H3 l4 (.lst [.str "north",.str "south"]) l4=some (.lst [.str "north",.str "south"]):=Ji;generalize upd H3 l4 (.lst [.str "north",.str "south"])=H4 at s4 hl4;have e04:=e3.trans s4;refine JcY (xs:=[.str "north",.str "south"]) (fun j σ H5=>Jh H4 H5∧∃ v5 v6 v7,σ=[some (.ref G.g),some (.ref t),some (.ref tn),some (.ref ll),some (.str (hs wb)),v5,v6,v7]) ⟨Jh.refl _,_,_,_,rfl⟩ (fun j σ H5 _ y=>JC.of (y.1 _ _ hl4)) ?_ ?_
  ·rintro j hv σ H5 hx ⟨e5,v5,v6,v7,rfl⟩;obtain ⟨hb,rfl⟩:=JtO hx;refine ⟨by show 3≤sizeLine; decide,fun l6 n6=>⟨l6,rfl,⟨_,JC.of Ji⟩,?_⟩⟩;have s6:=Jh.upd (o:=.lst [.str "bid",.str "answer",.str "step"]) n6;have hl6:upd H5 l6 (.lst [.str "bid",.str "answer",.str "step"]) l6=some (.lst [.str "bid",.str "answer",.str "step"]):=Ji;generalize upd H5 l6 (.lst [.str "bid",.str "answer",.str "step"])=H6 at s6 hl6;refine JcY (xs:=[.str "bid",.str "answer",.str "step"]) (fun j σ H7=>Jh H6 H7∧∃ v6 v7,σ=[some (.ref G.g),some (.ref t),some (.ref tn),some (.ref ll),some (.str (hs wb)),some (.str (hs hb)),v6,v7]) ⟨Jh.refl _,_,_,rfl⟩ (fun j σ H7 _ y=>JC.of (y.1 _ _ hl6)) ?_ ?_
   ·rintro j wv σ H7 hx ⟨e7,v6,v7,rfl⟩;obtain ⟨w,rfl,hw3⟩:∃ w,wv=.str w∧(w = "bid"∨w = "answer"∨w = "step"):=by
     rcases Jq5 hx with rfl | rfl | rfl
     ·exact ⟨_,rfl,.inl rfl⟩
     ·exact ⟨_,rfl,.inr (.inl rfl)⟩
     ·exact ⟨_,rfl,.inr (.inr rfl)⟩
    have e07:=((e04.trans e5).trans s6).trans e7;refine ⟨fun σ1 H8=>∃ v:V,Jh H7 H8∧Jjy w v∧σ1=[some (.ref G.g),some (.ref t),some (.ref tn),some (.ref ll),some (.str (hs wb)),some (.str (hs hb)),some (.str w),some v],?_,?_⟩
    ·by_cases hs1:w = "step"
     ·subst hs1;refine ⟨_,rfl,rfl,_,rfl,YF (by decide +kernel) ⟨_,rfl,_,rfl,tn,_,_,.str x.p,rfl,rfl,JL.of (e07 _ _ htn),rfl,t,x.p,ps,zs,gs,rfl,g.G.same e07,fun lw ws H8 e8 hlw wp wsrt=>?_⟩⟩;obtain rfl:=Jmi g.zo (g.zp.map _) wp wsrt;have hwl:=Jhj g.B x.p;refine ⟨_,rfl,tn,_,_,.str x.p,rfl,rfl,JL.of ((e07.trans e8) _ _ htn),rfl,by show 1≤sizeLine; decide,fun l2 n2=>?_⟩;have s2:=Jh.upd (o:=.lst [.str x.p]) n2;refine ⟨lw,l2,_,_,rfl,rfl,s2 _ _ hlw,Ji,by rw [List.length_map]; show _ + 1≤_; omega,fun l3 n3=>?_⟩;obtain ⟨y,hy,hym⟩:∃ y,((Jy (G.zs.map (·.2)) x.p).map V.str ++ [V.str x.p])[0]?=some (.str y)∧YG y:=by
       cases hz:Jy (G.zs.map (·.2)) x.p with
       | nil=>exact ⟨x.p,rfl,YO (g.B.p3 _ ok.p)⟩
       | cons y r=>exact ⟨y,rfl,YO (g.B.p3 y (Jch g.B (p:=x.p) (by rw [hz]; exact List.mem_cons_self ..)))⟩
      exact ⟨l3,_,_,.str y,rfl,rfl,JC.of Ji,Zr (j:=0) hy,.str y,(e8.trans s2).trans (Jh.upd n3),.inr (.inr ⟨rfl,y,rfl,hym⟩),rfl⟩
     ·refine ⟨_,rfl,rfl,_,rfl,Yb (decide_eq_false fun z=>hs1 (V.str.inj z)) ⟨.int 0,Jh.refl _,?_,rfl⟩⟩;rcases hw3 with rfl | rfl | rfl
      ·exact .inl ⟨rfl,0,rfl⟩
      ·exact .inr (.inl ⟨rfl,0,rfl⟩)
      ·exact absurd rfl hs1
    rintro σ1 H8 ⟨v,e8,wo,rfl⟩;have e08:=e07.trans e8;have hn:¬ (x.hand=.str (hs hb)∧x.word=.str w):=fun h=>by have:=h.1; unfold Mo.hand at this; rw [ho] at this; cases this
    refine ⟨_,rfl,_,rfl,_,rfl,_,rfl,G,ds,ms,a,x,hs hb,w,v,rfl,A0.same e08,hdl,hml,Ze _,wo,fun _ p H11 e11 hp=>?_,fun h1 h2 _=>absurd ⟨h1,h2⟩ hn,fun h1 h2 _=>absurd ⟨h1,h2⟩ hn⟩;refine ⟨by show 2≤sizeLine; decide,fun t12 n12=>?_⟩;exact ⟨.ref p,.ref t12,rfl,⟨_,rfl,Yo ⟨((e7.trans e8).trans e11).trans (Jh.upd n12),_,_,rfl⟩⟩,.inr ⟨p,t12,_,rfl,rfl,JL.of ((Jh.upd n12) _ _ hp),.inr (JL.of Ji),by show 2≤1000; decide,rfl⟩⟩
   ·rintro σ H7 ⟨e7,v6,v7,rfl⟩;exact ⟨(e5.trans s6).trans e7,_,_,_,rfl⟩
  ·rintro σ H5 ⟨e5,v5,v6,v7,rfl⟩;have e05:=e04.trans e5;refine ⟨_,rfl,_,rfl,_,rfl,_,rfl,ll,_,rfl,.inl ⟨JC.of (e05 _ _ hll),fun tl ntl=>?_⟩⟩;have s6:=e05.trans (Jh.upd (o:=.tup (ls.map V.ref)) ntl);exact ⟨G,t,tn,tl,a,x,ds,ms,ls,ps,zs,gs,rfl,A0.same s6,s6 _ _ htn,g.same s6,.inr (JL.of Ji),hL.same s6,hdl,hdf,fun H7 e7=>q H7 (s6.trans e7)⟩
end
section
variable {P:Program} {w:World} {K:PySem.W.Frag} {mg:Str→Option Value} {base:Heap}
structure KG (T:Txt K mg) (G:Gm) (H:Hp) (ds:List (Addr×List V)) (ms:List (Addr×Mo)) (a:Addr) (x:Mo) (tn ll:Addr) (ls:List Addr) (i:Nat):Prop where
 A:J1 T G H ds (ms ++ [(a,x)])
 d1:ds.length≤i
 d2:ms.length≤i
 hn:H tn=some (.tup (JaE G.c x))
 hl:H ll=some (.lst (ls.map V.ref))
 L:ZP H ls ds
 df:∀ d∈ds,d.2.length≤1000∧d.2.all Zz=true
 nl:G.S ll=none
 l1:G.ld≠ll
 l2:G.lm≠ll
section
variable {T:Txt K mg} {G:Gm} {H H':Hp} {ds:List (Addr×List V)} {ms:List (Addr×Mo)} {a:Addr} {x:Mo} {tn ll:Addr} {ls:List Addr} {i:Nat}
theorem KG.L1 (h:KG T G H ds ms a x tn ll ls i):ls.length=ds.length:=h.L.1
theorem KG.same (h:KG T G H ds ms a x tn ll ls i) (e:Jh H H'):KG T G H' ds ms a x tn ll ls i:=⟨h.A.same e,h.d1,h.d2,e _ _ h.hn,e _ _ h.hl,h.L.same e,h.df,h.nl,h.l1,h.l2⟩
theorem KG.next (h:KG T G H ds ms a x tn ll ls i):KG T G H ds ms a x tn ll ls (i + 1):=⟨h.A,by have:=h.d1; omega,by have:=h.d2; omega,h.hn,h.hl,h.L,h.df,h.nl,h.l1,h.l2⟩
structure KM (T:Txt K mg) (G:Gm) (H:Hp) (ds:List (Addr×List V)) (ms:List (Addr×Mo)) (a d a':Addr) (dv:List V) (x x':Mo) (tn ll:Addr) (ls:List Addr) (i:Nat):Prop where
 A:J1 T G H (ds ++ [(d,dv)]) ((ms ++ [(a,x)]) ++ [(a',x')])
 d1:ds.length≤i
 d2:ms.length≤i
 hn:H tn=some (.tup (JaE G.c x))
 hl:H ll=some (.lst (ls.map V.ref))
 L:ZP H ls ds
 df:∀ d∈ds,d.2.length≤1000∧d.2.all Zz=true
 nl:G.S ll=none
 l1:G.ld≠ll
 l2:G.lm≠ll
theorem KM.L1 {d a':Addr} {dv:List V} {x':Mo} (h:KM T G H ds ms a d a' dv x x' tn ll ls i):ls.length=ds.length:=h.L.1
theorem KG.more {d a':Addr} {dv:List V} {x':Mo} (h:KG T G H ds ms a x tn ll ls i) (e:Z0 [G.ld,G.lm] H H') (A':J1 T G H' (ds ++ [(d,dv)]) ((ms ++ [(a,x)]) ++ [(a',x')])):KM T G H' ds ms a d a' dv x x' tn ll ls i :=
 ⟨A',h.d1,h.d2,e.tup h.A.lists h.hn,e _ _ (by simp; exact ⟨fun z=>h.l1 z.symm,fun z=>h.l2 z.symm⟩) h.hl,h.L.chg e h.A.lists,h.df,h.nl,h.l1,h.l2⟩
theorem KM.put {d a' td tn':Addr} {y:V} {w:Str} {v:V} {x':Mo} (h:KM T G H ds ms a d a' [y,.str w,v] x x' tn ll ls i) {H2:Hp} (e:Jh H H2) (fv:Zz v=true) (_:True) (htd:H2 td=some (.tup [y,.str w,v])) (fy:Zz y=true) (htn:H2 tn'=some (.tup (JaE G.c x'))) :
  KG T G (upd H2 ll (.lst (ls.map V.ref ++ [.ref td]))) (ds ++ [(d,[y,.str w,v])]) (ms ++ [(a,x)]) a' x' tn' ll (ls ++ [td]) (i + 1)∧Z0 [ll] H (upd H2 ll (.lst (ls.map V.ref ++ [.ref td]))):=by
 have c2:Z0 [ll] H2 (upd H2 ll (.lst (ls.map V.ref ++ [.ref td]))):=fun b u hn q=>by rw [JB (fun z=>hn (List.mem_singleton.mpr z))]; exact q
 have hX:∀ x∈[ll],∃ vs,H2 x=some (.lst vs):=fun x hx=>by rw [List.mem_singleton.mp hx]; exact ⟨_,e _ _ h.hl⟩
 have A2:=h.A.same e;refine ⟨⟨A2.frame c2 hX (fun x hx=>by rw [List.mem_singleton.mp hx]; exact h.nl) (fun z=>h.l1 (List.mem_singleton.mp z)) (fun z=>h.l2 (List.mem_singleton.mp z)),by rw [List.length_append]; have:=h.d1; show _ + 1≤_; omega,by rw [List.length_append]; have:=h.d2; show _ + 1≤_; omega,c2.tup hX htn,by rw [Ji,List.map_append]; rfl,ZP.snoc ((h.L.same e).chg c2 hX) (c2.tup hX htd),fun q hq=>?_,h.nl,h.l1,h.l2⟩,(Z0.of e).trans c2⟩;rcases List.mem_append.mp hq with z | z
 ·exact h.df q z
 ·rw [List.mem_singleton.mp z];refine ⟨by show 3≤1000; decide,?_⟩;show (Zz y && (true && (Zz v && true)))=true;rw [fy,fv]; rfl
end
theorem ex4 {α0 α1 α2 α3:Type} {p:α0→α1→α2→α3→Prop} {b:Prop} (h:∃ a0 a1 a2 a3,p a0 a1 a2 a3) (k:∀ a0 a1 a2 a3,p a0 a1 a2 a3→b):b:=let ⟨a0,a1,a2,a3,h⟩:=h; k a0 a1 a2 a3 h
theorem ex6 {α0 α1 α2 α3 α4 α5:Type} {p:α0→α1→α2→α3→α4→α5→Prop} {b:Prop} (h:∃ a0 a1 a2 a3 a4 a5,p a0 a1 a2 a3 a4 a5) (k:∀ a0 a1 a2 a3 a4 a5,p a0 a1 a2 a3 a4 a5→b):b:=let ⟨a0,a1,a2,a3,a4,a5,h⟩:=h; k a0 a1 a2 a3 a4 a5 h
theorem ex8 {α0 α1 α2 α3 α4 α5 α6 α7:Type} {p:α0→α1→α2→α3→α4→α5→α6→α7→Prop} {b:Prop} (h:∃ a0 a1 a2 a3 a4 a5 a6 a7,p a0 a1 a2 a3 a4 a5 a6 a7) (k:∀ a0 a1 a2 a3 a4 a5 a6 a7,p a0 a1 a2 a3 a4 a5 a6 a7→b):b:=let ⟨a0,a1,a2,a3,a4,a5,a6,a7,h⟩:=h; k a0 a1 a2 a3 a4 a5 a6 a7 h
theorem JuD {α0 α1 α2 α3 α4 α5 α6 α7 α8 α9 α10:Type} {p:α0→α1→α2→α3→α4→α5→α6→α7→α8→α9→α10→Prop} {b:Prop} (h:∃ a0 a1 a2 a3 a4 a5 a6 a7 a8 a9 a10,p a0 a1 a2 a3 a4 a5 a6 a7 a8 a9 a10) (k:∀ a0 a1 a2 a3 a4 a5 a6 a7 a8 a9 a10,p a0 a1 a2 a3 a4 a5 a6 a7 a8 a9 a10→b):b:=let ⟨a0,a1,a2,a3,a4,a5,a6,a7,a8,a9,a10,h⟩:=h; k a0 a1 a2 a3 a4 a5 a6 a7 a8 a9 a10 h
theorem an3 {A0 A1 A2 b:Prop} (h:A0∧A1∧A2) (k:A0→A1→A2→b):b:=let ⟨h0,h1,h2⟩:=h; k h0 h1 h2
theorem an5 {A0 A1 A2 A3 A4 b:Prop} (h:A0∧A1∧A2∧A3∧A4) (k:A0→A1→A2→A3→A4→b):b:=let ⟨h0,h1,h2,h3,h4⟩:=h; k h0 h1 h2 h3 h4
theorem an6 {A0 A1 A2 A3 A4 A5 b:Prop} (h:A0∧A1∧A2∧A3∧A4∧A5) (k:A0→A1→A2→A3→A4→A5→b):b:=let ⟨h0,h1,h2,h3,h4,h5⟩:=h; k h0 h1 h2 h3 h4 h5
theorem an7 {A0 A1 A2 A3 A4 A5 A6 b:Prop} (h:A0∧A1∧A2∧A3∧A4∧A5∧A6) (k:A0→A1→A2→A3→A4→A5→A6→b):b:=let ⟨h0,h1,h2,h3,h4,h5,h6⟩:=h; k h0 h1 h2 h3 h4 h5 h6
theorem Jsi {xs:List V} {y:V}:ZR (xs ++ [y]) none (some (-1))=xs:=by
 unfold ZR;have a1:HT.Yz (xs ++ [y]).length (xs ++ [y]).length (some (-1))=xs.length:=by
  show (if (-1:Int) < 0 then ((-1:Int) + ((xs ++ [y]).length:Int)).toNat else min (-1:Int).toNat (xs ++ [y]).length)=_;rw [if_pos (by decide),List.length_append]; simp; omega
 rw [a1,HT.JmI,List.drop_zero,Nat.sub_zero,List.take_left]
def JuO (zs:List (Str×Str)) (gs:List Str) (c:Int) (H:Hp) (ta:Addr) (ds:List (Addr×List V)) (ms:List (Addr×Mo)) (x:Mo):Prop:=ds=[]∨∃ ds0 d z w v ms0 a0 x0,ds=ds0 ++ [(d,[.str z,.str w,v])]∧ms=ms0 ++ [(a0,x0)]∧x=Zw zs gs x0 v∧Zk zs c x0 v∧x0.hand=.str z∧x0.word=.str w∧H ta=some (.tup (JaE c x0))
theorem Jp0 {zs:List (Str×Str)} {gs:List Str} {c:Int} {x0:Mo} {v:V} (hv:Zk zs c x0 v) (h:(Zw zs gs x0 v).ph=.over):∃ hd w,x0.ph=.step hd∧v=.str w∧w∈Jy zs x0.p:=by
 unfold Zk at hv;unfold Zw at h;cases hp:x0.ph with
 | over=>rw [hp] at hv; exact hv.elim
 | bid=>rw [hp] at hv h; obtain ⟨y,rfl,_⟩:=hv; cases h
 | ans b=>rw [hp] at hv h; obtain ⟨y,rfl,_⟩:=hv; cases h
 | step hd=>rw [hp] at hv; obtain ⟨y,rfl,hy⟩:=hv; exact ⟨hd,y,rfl,rfl,hy⟩
theorem Jus (T:Txt K mg):JK P w K mg base YB 14 T.Jpb T.Jnd ["_law_script"] (JoB K):=by
 refine T.JsO.F.ok Jam (fun vs H Q E h=>?_) (fun cdv A outer s H vs Q E hr h=>?_)
 ·obtain ⟨_,_,rfl,_⟩:=h;rfl
 ·obtain ⟨a,ns,rfl,hS,hl,q⟩:=h;have szl:sizeLine=16777216:=sizeLine_eq;refine ⟨_,(@Jd _ _ _ _ _ (@Jr _ _ 1 _ _ _ _ Jam.nd rfl (Or.inl rfl) (@Jk _ _ _ _ _ _ _ _ _ _ _ _ _ _ _ T.Jjv (Jp5 T) (hr.mono (by decide)) Jt (@Ja _ _ _ _ _ (@pv _ 0 _ _ rfl (.inl rfl) rfl rfl) (@Ja _ _ _ _ _ (@Je _ _ _ _) (@Jc _) rfl) rfl) rfl (by decide) rfl rfl) rfl (.inl rfl)) (@Jd _ _ _ _ _ (@J4 _ _ _ (@Jr _ _ 2 _ _ _ _ Jam.nd rfl (Or.inl rfl) (@JcU _ _ _ _ _ _ _ _ _ _ _ _ _ _ _ _ _ T.Jm0 (Jl9 T) (hr.mono (by decide)) rfl T.Jom T.JfE.b .nil Jt (@Ja _ _ _ _ _ (@ZM _ _ _ _ _ _ _ _ _ (@Jfx _) rfl T.JjV PyProof.Rows.boot_list (@Ja _ _ _ _ _ (@JG _ _ _ _ _ _ _ (@JX _) (@pv _ 1 _ _ rfl (.inl rfl) rfl rfl) (@Je _ _ _ _) (fun _ _=>rfl)) (@Jc _) rfl) (by decide) (by decide) rfl rfl) (@Ja _ _ _ _ _ (@ZM _ _ _ _ _ _ _ _ _ (@Jfx _) rfl T.JjV PyProof.Rows.boot_list (@Ja _ _ _ _ _ (@JG _ _ _ _ _ _ _ (@JX _) (@pv _ 1 _ _ rfl (.inl rfl) rfl rfl) (@Je _ _ _ _) (fun _ _=>rfl)) (@Jc _) rfl) (by decide) (by decide) rfl rfl) (@Ja _ _ _ _ _ (@ZM _ _ _ _ _ _ _ _ _ (@Jfx _) rfl T.JjV PyProof.Rows.boot_list (@Ja _ _ _ _ _ (@JG _ _ _ _ _ _ _ (@JX _) (@pv _ 1 _ _ rfl (.inl rfl) rfl rfl) (@Je _ _ _ _) (fun _ _=>rfl)) (@Jc _) rfl) (by decide) (by decide) rfl rfl) (@Jc _) rfl) rfl) rfl) (by decide) rfl rfl) rfl (.inl rfl))) (@Jd _ _ _ _ _ (@J4 _ _ _ (@Jr _ _ 3 _ _ _ _ Jam.nd rfl (Or.inl rfl) (@Jk _ _ _ _ _ _ _ _ _ _ _ _ _ _ _ T.Jib (JoW T) (hr.mono (by decide)) Jt (@Ja _ _ _ _ _ (@pv _ 0 _ _ rfl (.inl rfl) rfl rfl) (@Ja _ _ _ _ _ (@pv _ 1 _ _ rfl (.inl rfl) rfl rfl) (@Ja _ _ _ _ _ (@Je _ _ _ _) (@Jc _) rfl) rfl) rfl) rfl (by decide) rfl rfl) rfl (.inl rfl))) (@Jd _ _ _ _ _ (@J4 _ _ _ (@JH _ _ _ _ _ _ _ _ (@Js _ _ _ _ _ _ _ _ (@Yg _) (@Jm _ _ _ _ _ _ _ _ (@JV _) (@Jk _ _ _ _ _ _ _ _ _ _ _ _ _ _ _ T.JbU (Jbg T) (hr.mono (by decide)) Jt (@Ja _ _ _ _ _ (@pv _ 0 _ _ rfl (.inl rfl) rfl rfl) (@Ja _ _ _ _ _ (@Je _ _ _ _) (@Jc _) rfl) rfl) rfl (by decide) rfl rfl) (@Je _ _ _ _)) (@Je _ _ _ _) (JE _)) (@Jg _ _ _ (@Jr _ _ 3 _ _ _ _ Jam.nd rfl (Or.inl rfl) (@Yn _ _ _ _ _ (@Ja _ _ _ _ _ (@JG _ _ _ _ _ _ _ (@JX _) (@pv _ 3 _ _ rfl (.inl rfl) rfl rfl) (@Je _ _ _ _) (fun _ _=>rfl)) (@Ja _ _ _ _ _ (@Jm _ _ _ _ _ _ _ _ (@JV _) (@JG _ _ _ _ _ _ _ (@JX _) (@pv _ 3 _ _ rfl (.inl rfl) rfl rfl) (@Je _ _ _ _) (fun _ _=>rfl)) (@Je _ _ _ _)) (@Ja _ _ _ _ _ (@JG _ _ _ _ _ _ _ (@JX _) (@pv _ 3 _ _ rfl (.inl rfl) rfl rfl) (@Je _ _ _ _) (fun _ _=>rfl)) (@Ja _ _ _ _ _ (@JG _ _ _ _ _ _ _ (@JX _) (@pv _ 3 _ _ rfl (.inl rfl) rfl rfl) (@Je _ _ _ _) (fun _ _=>rfl)) (@Ja _ _ _ _ _ (@JG _ _ _ _ _ _ _ (@JX _) (@pv _ 3 _ _ rfl (.inl rfl) rfl rfl) (@Je _ _ _ _) (fun _ _=>rfl)) (@Ja _ _ _ _ _ (@Zo _ _ _) (@Ja _ _ _ _ _ (@Jz _ _ _ _) (@Jc _) rfl) rfl) rfl) rfl) rfl) rfl) rfl)) rfl (.inl rfl))) (@Jp _))) (@Jd _ _ _ _ _ (@J4 _ _ _ (@Jr _ _ 4 _ _ _ _ Jam.nd rfl (Or.inl rfl) (@JcU _ _ _ _ _ _ _ _ _ _ _ _ _ _ _ _ _ T.Jn3 (JmW T) (hr.mono (by decide)) rfl T.JqS T.Jgj.b .nil Y7 (@Ja _ _ _ _ _ (@pv _ 2 _ _ rfl (.inl rfl) rfl rfl) (@Ja _ _ _ _ _ (@JG _ _ _ _ _ _ _ (@JX _) (@pv _ 3 _ _ rfl (.inl rfl) rfl rfl) (@Je _ _ _ _) (fun _ _=>rfl)) (@Ja _ _ _ _ _ (@JG _ _ _ _ _ _ _ (@JX _) (@pv _ 3 _ _ rfl (.inl rfl) rfl rfl) (@Je _ _ _ _) (fun _ _=>rfl)) (@Ja _ _ _ _ _ (@JG _ _ _ _ _ _ _ (@JX _) (@pv _ 3 _ _ rfl (.inl rfl) rfl rfl) (@Je _ _ _ _) (fun _ _=>rfl)) (@Ja _ _ _ _ _ (@JG _ _ _ _ _ _ _ (@JX _) (@pv _ 3 _ _ rfl (.inl rfl) rfl rfl) (@Je _ _ _ _) (fun _ _=>rfl)) (@Ja _ _ _ _ _ (@JG _ _ _ _ _ _ _ (@JX _) (@pv _ 3 _ _ rfl (.inl rfl) rfl rfl) (@Je _ _ _ _) (fun _ _=>rfl)) (@Jc _) rfl) rfl) rfl) rfl) rfl) rfl) (by decide) rfl rfl) rfl (.inl rfl))) (@Jd _ _ _ _ _ (@Jr _ _ 5 _ _ _ _ Jam.nd rfl (Or.inl rfl) (@pv _ 3 _ _ rfl (.inl rfl) rfl rfl) rfl (.inl rfl)) (@Jd _ _ _ _ _ (@Jr _ _ 6 _ _ _ _ Jam.nd rfl (Or.inl rfl) (@YX _ _ _ _ (@Jc _)) rfl (.inl rfl)) (@Jd _ _ _ _ _ (@Zn _ _ _ _ _ _ _ _ PassesOwn.never rfl (@Ja0 _ _ _ _ (@Jk _ _ _ _ _ _ _ _ _ _ _ _ _ _ _ T.Jiv (JjO T) (hr.mono (by decide)) Jt (@Ja _ _ _ _ _ (@Jk _ _ _ _ _ _ _ _ _ _ _ _ _ _ _ T.JbU (Jbg T) (hr.mono (by decide)) Jt (@Ja _ _ _ _ _ (@pv _ 0 _ _ rfl (.inl rfl) rfl rfl) (@Ja _ _ _ _ _ (@Je _ _ _ _) (@Jc _) rfl) rfl) rfl (by decide) rfl rfl) (@Ja _ _ _ _ _ (@Je _ _ _ _) (@Ja _ _ _ _ _ (@Je _ _ _ _) (@Jc _) rfl) rfl) rfl) rfl (by decide) rfl rfl)) (@JQ _ _ 7 _ Jam.nd rfl (Or.inl rfl) (.inl rfl)) (@Jd _ _ _ _ _ (@Jr _ _ 8 _ _ _ _ Jam.nd rfl (Or.inl rfl) (@Jk _ _ _ _ _ _ _ _ _ _ _ _ _ _ _ T.Jkl (JmV T) (hr.mono (by decide)) Jt (@Ja _ _ _ _ _ (@pv _ 1 _ _ rfl (.inl rfl) rfl rfl) (@Ja _ _ _ _ _ (@pv _ 3 _ _ rfl (.inl rfl) rfl rfl) (@Jc _) rfl) rfl) rfl (by decide) rfl rfl) rfl (.inl rfl)) (@Jg _ _ _ (@J4 _ _ _ (@JH _ _ _ _ _ _ _ _ (@Zm _ _ _ _ _ _ (@Jag _ _ _ _ _ (@pv _ 8 _ _ rfl (.inl rfl) rfl rfl)) (by first | exact Yj _ (by decide) (by decide) | rfl)) (@Jd _ _ _ _ _ (@J4 _ _ _ (@JH _ _ _ _ _ _ _ _ (@PW.pt _ _ _ (@ZX _ _ _ _ _ _ _ (@Zm _ _ _ _ _ _ (@Jag _ _ _ _ _ (@Zc _ _ _ _ _ _ _ _ _ _ _ _ _ _ _ _ _ (@pv _ 4 _ _ rfl (.inl rfl) rfl rfl) T.JM T.Zs.m (JcA T) (hr.mono (by decide)) T.Zs.b .nil Jt rfl)) (by first | exact Yj _ (by decide) (by decide) | rfl)) (@ZT _ _ _ _ (@ZU _ _ _ _ (@Zf _ _ _ (@Jk _ _ _ _ _ _ _ _ _ _ _ _ _ _ _ T.Jdy (Jez T) (hr.mono (by decide)) Jt (@Ja _ _ _ _ _ (@Zc _ _ _ _ _ _ _ _ _ _ _ _ _ _ _ _ _ (@pv _ 4 _ _ rfl (.inl rfl) rfl rfl) T.JM T.ZK.m (Jdk T) (hr.mono (by decide)) T.ZK.b .nil Jt rfl) (@Ja _ _ _ _ _ (@pv _ 8 _ _ rfl (.inl rfl) rfl rfl) (@Jc _) rfl) rfl) rfl (by decide) rfl rfl) (by intro _; rfl)))))) (@Jg _ _ _ (@Jn _ _ _ _ (@Jay _ _ _ _))) (@Jp _))) (@Jd _ _ _ _ _ (@Jr _ _ 9 _ _ _ _ Jam.nd rfl (Or.inl rfl) (@Jk _ _ _ _ _ _ _ _ _ _ _ _ _ _ _ T.Jnz (Jtp T) (hr.mono (by decide)) Jt (@Ja _ _ _ _ _ (@pv _ 1 _ _ rfl (.inl rfl) rfl rfl) (@Ja _ _ _ _ _ (@pv _ 3 _ _ rfl (.inl rfl) rfl rfl) (@Ja _ _ _ _ _ (@pv _ 7 _ _ rfl (.inl rfl) rfl rfl) (@Jc _) rfl) rfl) rfl) rfl (by decide) rfl rfl) rfl (.inl rfl)) (@Jd _ _ _ _ _ (@JJ _ _ _ _ (@Jk _ _ _ _ _ _ _ _ _ _ _ _ _ _ _ T.Jkm (Jn2 T) (hr.mono (by decide)) Y7 (@Ja _ _ _ _ _ (@pv _ 4 _ _ rfl (.inl rfl) rfl rfl) (@Ja _ _ _ _ _ (@JG _ _ _ _ _ _ _ (@JX _) (@pv _ 8 _ _ rfl (.inl rfl) rfl rfl) (@Je _ _ _ _) (fun _ _=>rfl)) (@Ja _ _ _ _ _ (@JG _ _ _ _ _ _ _ (@JX _) (@pv _ 8 _ _ rfl (.inl rfl) rfl rfl) (@Je _ _ _ _) (fun _ _=>rfl)) (@Ja _ _ _ _ _ (@pv _ 9 _ _ rfl (.inl rfl) rfl rfl) (@Jc _) rfl) rfl) rfl) rfl) rfl (by decide) rfl rfl) rfl) (@Jd _ _ _ _ _ (@Jr _ _ 5 _ _ _ _ Jam.nd rfl (Or.inl rfl) (@pv _ 3 _ _ rfl (.inl rfl) rfl rfl) rfl (.inl rfl)) (@Jd _ _ _ _ _ (@Jr _ _ 3 _ _ _ _ Jam.nd rfl (Or.inl rfl) (@Jk _ _ _ _ _ _ _ _ _ _ _ _ _ _ _ T.JnB (Jtr T) (hr.mono (by decide)) Jt (@Ja _ _ _ _ _ (@pv _ 3 _ _ rfl (.inl rfl) rfl rfl) (@Ja _ _ _ _ _ (@JG _ _ _ _ _ _ _ (@JX _) (@pv _ 8 _ _ rfl (.inl rfl) rfl rfl) (@Je _ _ _ _) (fun _ _=>rfl)) (@Ja _ _ _ _ _ (@pv _ 9 _ _ rfl (.inl rfl) rfl rfl) (@Jc _) rfl) rfl) rfl) rfl (by decide) rfl rfl) rfl (.inl rfl)) (@Jg _ _ _ (@JJ _ _ _ _ (@JbC _ _ _ _ _ _ _ _ _ _ _ _ PySem.F.plainAttrs_list PySem.F.slot_list_append PySem.F.type_list_append (@Zp _) (@pv _ 6 _ _ rfl (.inl rfl) rfl rfl) (@Ja _ _ _ _ _ (@Yn _ _ _ _ _ (@Ja _ _ _ _ _ (@JG _ _ _ _ _ _ _ (@JX _) (@pv _ 8 _ _ rfl (.inl rfl) rfl rfl) (@Je _ _ _ _) (fun _ _=>rfl)) (@Ja _ _ _ _ _ (@JG _ _ _ _ _ _ _ (@JX _) (@pv _ 8 _ _ rfl (.inl rfl) rfl rfl) (@Je _ _ _ _) (fun _ _=>rfl)) (@Ja _ _ _ _ _ (@pv _ 9 _ _ rfl (.inl rfl) rfl rfl) (@Jc _) rfl) rfl) rfl)) (@Jc _) rfl) rfl rfl rfl rfl rfl) rfl))))))) (@Jp _))))) (by intro _; rfl)) (@Jd _ _ _ _ _ (@J4 _ _ _ (@JH _ _ _ _ _ _ _ _ (@ZU _ _ _ _ (@Zf _ _ _ (@Jk _ _ _ _ _ _ _ _ _ _ _ _ _ _ _ T.Jha (Jlv T) (hr.mono (by decide)) Jt (@Ja _ _ _ _ _ (@pv _ 4 _ _ rfl (.inl rfl) rfl rfl) (@Ja _ _ _ _ _ (@pv _ 1 _ _ rfl (.inl rfl) rfl rfl) (@Ja _ _ _ _ _ (@pv _ 3 _ _ rfl (.inl rfl) rfl rfl) (@Ja _ _ _ _ _ (@pv _ 6 _ _ rfl (.inl rfl) rfl rfl) (@Jc _) rfl) rfl) rfl) rfl) rfl (by decide) rfl rfl) (by intro _; rfl))) (@Jg _ _ _ (@Jn _ _ _ _ (@Jay _ _ _ _))) (@Jp _))) (@Jd _ _ _ _ _ (@JH _ _ _ _ _ _ _ _ (@Js _ _ _ _ _ _ _ _ (@Ji0 _ hr.units0) (@pv _ 6 _ _ rfl (.inl rfl) rfl rfl) (@YX _ _ _ _ (@Jc _)) (JE _)) (@Jg _ _ _ (@Jn _ _ _ _ (@Jay _ _ _ _))) (@Jp _)) (@Jd _ _ _ _ _ (@Jr _ _ 10 _ _ _ _ Jam.nd rfl (Or.inl rfl) (@JG _ _ _ _ _ _ _ (@JU _) (@pv _ 6 _ _ rfl (.inl rfl) rfl rfl) (@Jcx _ _ _ _ _ _ (@Jbk _) (@Je _ _ _ _)) (fun _ _=>rfl)) rfl (.inl rfl)) (@Jd _ _ _ _ _ (@J4 _ _ _ (@JH _ _ _ _ _ _ _ _ (@PW.pt _ _ _ (@ZX _ _ _ _ _ _ _ (@ZU _ _ _ _ (@Zf _ _ _ (@Jk _ _ _ _ _ _ _ _ _ _ _ _ _ _ _ T.Jdy (Jez T) (hr.mono (by decide)) Jt (@Ja _ _ _ _ _ (@Zc _ _ _ _ _ _ _ _ _ _ _ _ _ _ _ _ _ (@pv _ 4 _ _ rfl (.inl rfl) rfl rfl) T.JM T.Jdo.m (JmX T) (hr.mono (by decide)) T.Jdo.b .nil Y7 rfl) (@Ja _ _ _ _ _ (@pv _ 10 _ _ rfl (.inl rfl) rfl rfl) (@Jc _) rfl) rfl) rfl (by decide) rfl rfl) (by intro _; rfl))) (@ZT _ _ _ _ (@ZU _ _ _ _ (@Zf _ _ _ (@Jk _ _ _ _ _ _ _ _ _ _ _ _ _ _ _ T.Jiu (JmS T) (hr.mono (by decide)) Jt (@Ja _ _ _ _ _ (@pv _ 4 _ _ rfl (.inl rfl) rfl rfl) (@Ja _ _ _ _ _ (@pv _ 1 _ _ rfl (.inl rfl) rfl rfl) (@Ja _ _ _ _ _ (@pv _ 5 _ _ rfl (.inl rfl) rfl rfl) (@Ja _ _ _ _ _ (@ZM _ _ _ _ _ _ _ _ _ (@ZS _) rfl T.Ja2 PyProof.Rows.boot_tuple (@Ja _ _ _ _ _ (@Je0 _ _ _ _ _ _ _ _ _ _ (@Jie _) (@pv _ 6 _ _ rfl (.inl rfl) rfl rfl) (@Jij _) (@Jeu _ _ _ (@Jcx _ _ _ _ _ _ (@Jbk _) (@Je _ _ _ _)))) (@Jc _) rfl) (by decide) (by decide) rfl rfl) (@Jc _) rfl) rfl) rfl) rfl) rfl (by decide) rfl rfl) (by intro _; rfl)))))) (@Jg _ _ _ (@Jn _ _ _ _ (@Jay _ _ _ _))) (@Jp _))) (@Jg _ _ _ (@Jn _ _ _ _ (@JjM _ _ _ _ _ _ _ (@Jhv _ _ _ _ _ _ (@JaD _ _ _ _ _ (@J2 _ _ _ _ _ _ _ _ _ _ _ _ _ _ _ _ _ _ _ _ (@pv _ 4 _ _ rfl (.inl rfl) rfl rfl) T.JM T.Ja5.m (Jhz T) (hr.mono (by decide)) T.Ja5.b .nil Y7 (@Ja _ _ _ _ _ (@JG _ _ _ _ _ _ _ (@JX _) (@pv _ 10 _ _ rfl (.inl rfl) rfl rfl) (@Je _ _ _ _) (fun _ _=>rfl)) (@Ja _ _ _ _ _ (@JG _ _ _ _ _ _ _ (@JX _) (@pv _ 10 _ _ rfl (.inl rfl) rfl rfl) (@Je _ _ _ _) (fun _ _=>rfl)) (@Jc _) rfl) rfl) rfl rfl rfl)) (by first | exact Yj _ (by decide) (by decide) | rfl)) (@JjL _ _ _ _ _ (@Jk _ _ _ _ _ _ _ _ _ _ _ _ _ _ _ T.Jha (Jlv T) (hr.mono (by decide)) Jt (@Ja _ _ _ _ _ (@pv _ 4 _ _ rfl (.inl rfl) rfl rfl) (@Ja _ _ _ _ _ (@pv _ 1 _ _ rfl (.inl rfl) rfl rfl) (@Ja _ _ _ _ _ (@pv _ 3 _ _ rfl (.inl rfl) rfl rfl) (@Ja _ _ _ _ _ (@pv _ 6 _ _ rfl (.inl rfl) rfl rfl) (@Jc _) rfl) rfl) rfl) rfl) rfl (by decide) rfl rfl))))))))))))))))),?_⟩
  try dsimp only [cxK,Jdd]
  refine ⟨_,rfl,a,ns,0,rfl,hS,by decide,fun t ps zs gs H1 e1 G=>?_⟩;refine ⟨fun σ1 H2=>∃ (b:Addr) (ps':List Str) (zs':List (V×(Str×Str))) (gs':List Str),Jh H1 H2∧Bd K T.JP H2 b ps' zs' gs'∧ps'.Perm ps∧zs'.Perm zs∧gs'.Perm gs∧(zs'.map (·.2)).Pairwise ple∧σ1=[some (.ref a),some (.ref t),some (.ref b),none,none,none,none,none,none,none,none],?_,?_⟩
  ·skip
   obtain ⟨pn,pl,pg,g1,g2,g3,g4,g5⟩:=(G).at_;refine ⟨_,rfl,t,_,_,.ref pn,rfl,rfl,JL.of g1,rfl,pn,_,rfl,.inl (JC.of g2),fun l1 n1=>?_⟩;have f2:=Jh.upd (o:=.lst (ps.map V.str)) n1;refine ⟨_,rfl,t,_,_,.ref pl,rfl,rfl,JL.of (f2 _ _ g1),rfl,pl,_,rfl,.inl (JC.of (f2 _ _ g3)),fun l2 n2=>?_⟩;have f3:=f2.trans (Jh.upd (o:=.lst (zs.map (·.1))) n2);refine ⟨_,rfl,t,_,_,.ref pg,rfl,rfl,JL.of (f3 _ _ g1),rfl,pg,_,rfl,.inl (JC.of (f3 _ _ g5)),fun l3 n3=>?_⟩;have f4:=f3.trans (Jh.upd (o:=.lst (gs.map V.str)) n3);refine fun b dx nx ndx hne=>Jo2 f4 (((Jh.upd n2).trans (Jh.upd n3)) _ _ Ji) ((Jh.upd n3) _ _ Ji) Ji (JaO g4 f4) (G).good nx ndx fun ps' zs' gs' H2 e2 B pp ps3 zp zs3 gp gs3=>⟨rfl,?_⟩
   clear hne f4 f3 f2 g1 g2 g3 g4 g5 n1 n2 n3 nx ndx pn pl pg l1 l2 l3 dx;exact ⟨b,ps',zs',gs',e2,B,pp,zp,gp,zs3,rfl⟩
  intro σ1 H2 h; refine ex4 h fun b ps' zs' gs' h=>an7 h fun e2 B pp zp gp zs3 es=>?_; subst es; clear h
  refine ⟨fun σ1 H3=>∃ (tn:Addr) (p:Str) (m:Nat) (n c:Int) (r:Bool),Jh H2 H3∧p∈ps∧m≤30∧(0≤n∧n≤c)∧c≤20∧H3 tn=some (.tup [.str p,.int (m:Int),.int n,.int (c - n),.str (hs r),.non,.str ""])∧σ1=[some (.ref a),some (.ref t),some (.ref b),some (.ref tn),none,none,none,none,none,none,none],⟨_,rfl,_,rfl,a,t,ns,5,ps,zs,gs,rfl,(e1.trans e2).seq hS,by decide,G.same e2,fun tn p m n c r H3 e3 hpm hm hn c1 htn=>⟨tn,p,m,n,c,r,e3,hpm,hm,hn,c1,htn,rfl⟩⟩,?_⟩;rintro σ1 H3 ⟨tn,p,m,n,c,r,e3,hpm,hm,hn,c1,htn,rfl⟩;refine ⟨fun σ1 H3=>∃ (tn:Addr) (p:Str) (m:Nat) (n c:Int) (r:Bool),Jh H2 H3∧p∈ps∧m≤30∧(0≤n∧n≤c)∧c≤20∧H3 tn=some (.tup [.str p,.int (m:Int),.int n,.int (c - n),.str (hs r),.non,.str ""])∧σ1=[some (.ref a),some (.ref t),some (.ref b),some (.ref tn),none,none,none,none,none,none,none],?_,?_⟩
  ·refine ⟨_,rfl,a,ns,10,rfl,((e1.trans e2).trans e3).seq hS,by decide,_,_,rfl,rfl,(by show (0:Int) < 2; decide),rfl,_,rfl,YV (fun _=>?_) (fun _=>⟨tn,p,m,n,c,r,e3,hpm,hm,hn,c1,htn,rfl⟩)⟩;refine ⟨_,rfl,tn,_,_,.str p,rfl,rfl,JL.of htn,rfl,_,rfl,tn,_,_,.int (m:Int),rfl,rfl,JL.of htn,rfl,_,_,rfl,rfl,(by show (0:Int) < 4; decide),_,rfl,tn,_,_,.int n,rfl,rfl,JL.of htn,rfl,_,rfl,tn,_,_,.int (c - n),rfl,rfl,JL.of htn,rfl,_,rfl,tn,_,_,.str (hs r),rfl,rfl,JL.of htn,rfl,by show 7≤sizeLine; decide,fun t4 n4=>⟨t4,p,m % 4,n,c,r,e3.trans (Jh.upd n4),hpm,by omega,hn,c1,?_,rfl⟩⟩;show upd _ _ (HO.tup [V.str p,V.int ((m:Int) % 4),V.int n,V.int (c - n),V.str (hs r),.non,.str ""]) _=_;rw [Ji,show (m:Int) % 4=((m % 4:Nat):Int) by omega]
  clear htn hm hpm hn c1 e3 tn p m n c r;rintro σ1 H3 ⟨tn,p,m,n,c,r,e3,hpm,hm,hn,c1,htn,rfl⟩;have hp':p∈ps':=pp.mem_iff.mpr hpm;refine ⟨fun σ1 H4=>∃ (g:Addr) (S:Hp) (k ld lm a0:Addr),Jh H3 S∧J1 T ⟨S,g,b,k,ld,lm,ps',zs',gs',c,m⟩ H4 [] ([] ++ [(a0,Y9 (zs'.map (·.2)) gs' p m n r)])∧σ1=[some (.ref a),some (.ref t),some (.ref b),some (.ref tn),some (.ref g),none,none,none,none,none,none],?_,?_⟩
  ·skip
   refine ⟨_,rfl,_,rfl,tn,_,_,.str p,rfl,rfl,JL.of htn,rfl,_,rfl,tn,_,_,.int (m:Int),rfl,rfl,JL.of htn,rfl,_,rfl,tn,_,_,.int n,rfl,rfl,JL.of htn,rfl,_,rfl,tn,_,_,.int (c - n),rfl,rfl,JL.of htn,rfl,_,rfl,tn,_,_,.str (hs r),rfl,rfl,JL.of htn,rfl,fun g dx nx ndx hne=>Jqg (B.same e3) (YO (((B.same e3)).G.p3 _ hp')) (Ze r) nx ndx (fun H' _=>JpA T ⟨hp',⟨by omega,by omega⟩,⟨by omega,by omega,by omega⟩,Zq r⟩) fun _ _ _ r' hr' S k ld lm a0 H4 e4 A4=>⟨rfl,?_⟩⟩;obtain rfl:=Zh hr';rw [show n + (c - n)=c by omega,Int.toNat_natCast] at A4;clear hne nx ndx dx hr';exact ⟨g,S,k,ld,lm,a0,e4,A4,rfl⟩
  intro σ1 H4 h; refine ex6 h fun g S k ld lm a0 h=>an3 h fun e4 A4 es=>?_; subst es; clear h
  have htn4:H4 tn=some (.tup (JaE c (Y9 (zs'.map (·.2)) gs' p m n r))):=by rw [Jp8]; exact A4.sm _ _ (e4 _ _ htn)
  have gg:GG K S t ps zs gs ps' zs' gs':=⟨G.same ((e2.trans e3).trans e4),pp,zp,gp,zs3,B.G⟩
  have sS:Jh H S:=((e1.trans e2).trans e3).trans e4;refine ⟨_,rfl,?_⟩;refine ⟨by show 0≤sizeLine; decide,fun ll nll=>?_⟩;have s5:=Jh.upd (o:=.lst []) nll;have hll:upd H4 ll (.lst []) ll=some (.lst []):=Ji;have lld:ld≠ll:=JD A4.hd nll;have llm:lm≠ll:=JD A4.hm nll;have Sll:S ll=none:=A4.sm.free nll;generalize upd H4 ll (.lst [])=H5 at s5 hll;have A5:=A4.same s5;refine ⟨_,rfl,a,ns,11,rfl,(sS.trans A5.sm).seq hS,by decide,_,90,252,rfl,by decide,by decide,by decide,fun l8 xs H8 n8 s8 hl8 hxl hxb=>?_⟩;have l8d:ld≠l8:=JD A5.hd n8;have l8m:lm≠l8:=JD A5.hm n8;have l8l:ll≠l8:=JD hll n8;refine ⟨l8,rfl,⟨_,JC.of hl8⟩,?_⟩;let Gx:Gm:=⟨S,g,b,k,ld,lm,ps',zs',gs',c,m⟩
  refine JcY (xs:=xs.map V.int) (fun i σ H9=>∃ (tn ta:Addr) (x:Mo) (ds:List (Addr×List V)) (ms:List (Addr×Mo)) (a1:Addr) (ls:List Addr) (v7 v8 v9 v10:Option V),KG T Gx H9 ds ms a1 x tn ll ls i∧H9 l8=some (.lst (xs.map V.int))∧(x.ph=.over∨x.far + i≤90)∧JuO (zs'.map (·.2)) gs' c H9 ta ds ms x∧σ=[some (.ref a),some (.ref t),some (.ref b),some (.ref tn),some (.ref g),some (.ref ta),some (.ref ll),v7,v8,v9,v10])
   ⟨tn,tn,_,[],[],a0,[],none,none,none,none,⟨A5.same s8,Nat.zero_le _,Nat.zero_le _,s8 _ _ (s5 _ _ htn4),s8 _ _ hll,⟨rfl,fun i a d h=>by simp at h⟩,(fun d hd=>nomatch hd),Sll,lld,llm⟩,hl8,?_,.inl rfl,rfl⟩ (fun i σ H9 _ h=>by obtain ⟨_,_,_,_,_,_,_,_,_,_,_,_,h,_⟩:=h; exact JC.of h) ?_ ?_
  ·by_cases he:Yq (zs'.map (·.2)) gs' m p
   ·exact .inl (by unfold Y9; rw [if_pos he])
   ·refine .inr ?_;unfold Mo.far Y9;simp only [if_neg he];omega
  ·intro i xv σ H9 hx h; refine JuD h fun tn ta x ds ms a1 ls v7 v8 v9 v10 h=>an5 h fun k9 hl8 hfar hlast es=>?_; subst es; clear h
   rw [List.getElem?_map] at hx;obtain ⟨ce,hce,rfl⟩:=Option.map_eq_some_iff.mp hx;have hi:i < xs.length:=(List.getElem?_eq_some_iff.mp hce).1;obtain ⟨dg,hg⟩:=k9.A.gi;have hg:S g=_:=hg;have ok:JbT ps' (zs'.map (·.2)) gs' c m x:=k9.A.mo (a1,x) (List.mem_append_right _ (List.mem_singleton.mpr rfl));refine ⟨_,rfl,_,rfl,t,tn,x,ps,zs,gs,ps',zs',gs',c,m,rfl,k9.hn,gg.same k9.A.sm,ok,fun ho H12 e12=>?_,fun ho tt H12 e12 htt=>?_⟩
   ·refine ⟨_,?_,fun _ _ z=>z⟩;refine ⟨_,rfl,_,rfl,Yo ⟨tn,ta,x,ds,ms,a1,ls,_,_,_,_,(k9.same e12).next,e12 _ _ hl8,.inl ho,?_,rfl⟩⟩;rcases hlast with h | ⟨ds0,d,z,w,v,ms0,a0,x0,h1,h2,h3,h4,h5,h6,h7⟩
    ·exact .inl h
    ·exact .inr ⟨ds0,d,z,w,v,ms0,a0,x0,h1,h2,h3,h4,h5,h6,e12 _ _ h7⟩
   ·refine ⟨_,?_,fun _ _ z=>z⟩;have he:¬ Yq (zs'.map (·.2)) gs' x.m x.p:=fun z=>ho (ok.e.mpr z)
    have k12:=k9.same e12;have fd:=Ji4 (x:=x);refine ⟨_,rfl,_,rfl,YD ?_⟩;refine ⟨fun σ1 H13=>Jh H12 H13∧σ1=[some (.ref a),some (.ref t),some (.ref b),some (.ref tn),some (.ref g),some (.ref ta),some (.ref ll),some (.int ce),some (.ref tt),v9,v10],?_,?_⟩
    ·skip
     refine ⟨_,rfl,g,dg,_,rfl,k12.A.sm _ _ hg,rfl,Gx,ds,ms,a1,x,rfl,k12.A,fun H12a e12a=>?_⟩;have ev:Zl x.p (x.m:Int) (zs'.map (·.2)) gs'=.non:=Jdc.2 he;show ∃ _,_;rw [ev];have A12a:=k12.A.same e12a;refine ⟨_,rfl,Yo ⟨_,rfl,g,dg,_,rfl,A12a.sm _ _ hg,rfl,Gx,ds,ms,a1,x,rfl,A12a,(fun z=>absurd z ho),fun _ t3 H12b e12b h3=>?_⟩⟩;have e12c:=e12a.trans e12b;refine ⟨_,rfl,.ref t3,.ref tt,rfl,⟨_,rfl,Yo ⟨e12c,rfl⟩⟩,.inr ⟨t3,tt,_,rfl,rfl,JL.of (h3),.inr (JL.of (e12c _ _ htt)),by show 2≤1000; decide,by show (Zz x.hand && (Zz x.word && true))=true; rw [fd.1,fd.2.1]; rfl⟩⟩
    rintro σ1 H12d ⟨e12c,rfl⟩;have k12:=k12.same e12c;have hl12:=(e12.trans e12c) _ _ hl8;refine ⟨_,rfl,_,rfl,_,rfl,t,tn,x,ce,ps,zs,gs,ps',zs',gs',c,m,rfl,k12.hn,gg.same k12.A.sm,ok,ho,fun v H13 e13 hv=>?_⟩;have k13:=k12.same e13;have hl13:=e13 _ _ hl12;obtain ⟨y1,w1,hh,hw,ty,wo⟩:=JqG ok ho hv gg.B;rw [hh,hw] at htt;have htt13:=(e12c.trans e13) _ _ htt;refine ⟨_,rfl,_,rfl,tt,_,_,.str y1,rfl,rfl,JL.of htt13,rfl,_,rfl,tt,_,_,.str w1,rfl,rfl,JL.of htt13,rfl,_,rfl,?_⟩;refine ⟨Gx,ds,ms,a1,x,y1,w1,v,rfl,k13.A,by have:=k9.d1; omega,by have:=k9.d2; omega,ty,wo,fun z=>absurd ⟨hh,hw⟩ z,fun _ _ z=>absurd hv z,fun _ _ _ d a' H14 c14 A14=>?_⟩;have k14:=k13.more c14 A14;have hl14:=c14 _ _ (by simp; exact ⟨fun z=>l8d z.symm,fun z=>l8m z.symm⟩) hl13;have htt14:=c14.tup k13.A.lists htt13;refine ⟨_,rfl,?_⟩;refine ⟨_,rfl,_,rfl,tt,_,_,.str w1,rfl,rfl,JL.of htt14,rfl,_,rfl,tn,x,w1,v,zs'.map (·.2),gs',c,rfl,k14.hn,hw,hv,(fun h hp=>fun z=>absurd (ok.e.mpr (.inr (.inl z))) (by rw [hp]; exact fun z=>nomatch z)),fun tn' H15 e15 htn'=>?_⟩;have htt15:=e15 _ _ htt14;refine ⟨_,rfl,.inl ⟨rfl,_,JC.of (e15 _ _ k14.hl)⟩,_,rfl,tt,_,_,.str y1,rfl,rfl,JL.of htt15,rfl,_,rfl,tt,_,_,.str w1,rfl,rfl,JL.of htt15,rfl,_,rfl,by show 3≤sizeLine; decide,fun td ntd=>?_⟩;have s16:=e15.trans (Jh.upd (o:=.tup [.str y1,.str w1,v]) ntd);refine ⟨ll,_,_,rfl,rfl,s16 _ _ k14.hl,by rw [List.length_map,k14.L1]; have:=k9.d1; omega,?_⟩;obtain ⟨k17,ch17⟩:=k14.put (tn':=tn') s16 (hv.flat) trivial Ji (by rw [← hh]; exact Ji4.1) ((Jh.upd ntd) _ _ htn');have hl17:=ch17 _ _ (fun z=>l8l (List.mem_singleton.mp z).symm) hl14;have hta17:=ch17.tup (fun x hx=>by rw [List.mem_singleton.mp hx]; exact ⟨_,k14.hl⟩) k14.hn;refine ⟨tn',tn,_,_,_,a',_,_,_,_,_,k17,hl17,?_,.inr ⟨ds,d,y1,w1,v,ms,a1,x,rfl,rfl,rfl,hv,hh,hw,hta17⟩,rfl⟩;rcases hfar with h | h
    ·exact absurd h ho
    ·exact .inr (by have:=Jsc ok ho hv; show (Zw (zs'.map (·.2)) gs' x v).far + (i + 1)≤90; omega)
  ·intro σ H9 h; refine JuD h fun tn ta x ds ms a1 ls v7 v8 v9 v10 h=>an5 h fun k9 hl8 hfar hlast es=>?_; subst es; clear h
   have d1:=k9.d1;have d2:=k9.d2;rw [List.length_map] at d1 d2 hfar;have ok:JbT ps' (zs'.map (·.2)) gs' c m x:=k9.A.mo (a1,x) (List.mem_append_right _ (List.mem_singleton.mpr rfl));have ho:x.ph=.over:=by
    rcases hfar with h | h
    ·exact h
    ·by_cases hz:x.far=0
     ·have hq:x.ph≠.over→x.m≠0:=fun h z=>h (ok.e.mpr (.inr (.inl z)))
      cases hp:x.ph with
      | over=>rfl
      | bid=>have e:x.far=3 * x.m:=(by unfold Mo.far; rw [hp]); have:=hq (by rw [hp]; exact fun z=>nomatch z); omega
      | ans bb=>have e:x.far=3 * x.m - 1:=(by unfold Mo.far; rw [hp]); have:=hq (by rw [hp]; exact fun z=>nomatch z); omega
      | step hh=>have e:x.far=3 * x.m - 2:=(by unfold Mo.far; rw [hp]); have:=hq (by rw [hp]; exact fun z=>nomatch z); omega
     ·omega
   obtain ⟨dg,hg⟩:=k9.A.gi;have hg:S g=_:=hg;refine ⟨fun σ1 H10=>Jh H9 H10∧σ1=[some (.ref a),some (.ref t),some (.ref b),some (.ref tn),some (.ref g),some (.ref ta),some (.ref ll),v7,v8,v9,v10],⟨_,rfl,_,rfl,_,rfl,_,rfl,Gx,t,tn,ll,a1,x,ds,ms,ls,ps,zs,gs,rfl,k9.A,ho,k9.hn,gg.same k9.A.sm,k9.hl,k9.L,by omega,by omega,k9.df,fun H10 e10=>⟨_,rfl,Yo ⟨e10,rfl⟩⟩⟩,?_⟩;rintro σ1 H10 ⟨e10,rfl⟩;have k10:=k9.same e10;refine ⟨_,rfl,by show 0≤sizeLine; decide,fun l11 n11=>⟨ll,l11,_,rfl,rfl,JC.of ((Jh.upd n11) _ _ k10.hl),JC.of Ji,_,rfl,?_⟩⟩;have s11:=Jh.upd (o:=.lst []) n11;generalize upd H10 l11 (.lst [])=H11 at s11;have k11:=k10.same s11;rw [List.isEmpty_map];rcases hlast with hd0 | hl
   ·have hl0:ls=[]:=List.eq_nil_of_length_eq_zero (by rw [k9.L1,hd0]; rfl);rw [hl0];exact YD (q H11)
   ·refine ex8 hl fun ds0 d z w v ms0 am x0 h=>an7 h fun es1 es2 hx hv hh hw hta=>?_; subst es1; subst es2; clear h hl
    have hln:ls≠[]:=fun z=>by have:=k9.L1; rw [z,List.length_append] at this; simp at this
    obtain ⟨ls0,td,rfl⟩:∃ ls0 td,ls=ls0 ++ [td]:=⟨_,_,(List.dropLast_concat_getLast hln).symm⟩
    have hle:(ls0 ++ [td]).isEmpty=false:=by simp
    rw [hle];refine Yo ?_;have hLl:ls0.length=ds0.length:=by have:=k9.L1; rw [List.length_append,List.length_append] at this; simpa using this
    have hta11:=(e10.trans s11) _ _ hta;have htd:H11 td=some (.tup [.str z,.str w,v]):=k11.L.2 ls0.length td (d,[.str z,.str w,v]) (by rw [List.getElem?_append_right (Nat.le_refl _),Nat.sub_self]; rfl) (by rw [hLl,List.getElem?_append_right (Nat.le_refl _),Nat.sub_self]; rfl);have hll11:=k11.hl;rw [List.map_append] at hll11;refine ⟨_,rfl,_,rfl,ll,_,_,.ref td,rfl,rfl,JC.of hll11,Jab,?_⟩;rw [hx] at ho;obtain ⟨hb,w',hp0,rfl,hwm⟩:=Jp0 hv ho;have hz:z=hs hb:=by unfold Mo.hand at hh; rw [hp0] at hh; exact (V.str.inj hh).symm
    have hww:w = "step":=by unfold Mo.word at hw; rw [hp0] at hw; exact (V.str.inj hw).symm
    subst hz;subst hww;have A11:=k11.A;have hfl:=(k11.df _ (List.mem_append_right _ (List.mem_singleton.mpr rfl))).2;refine ⟨fun σ1 H15=>J1 T Gx H15 ds0 (ms0 ++ [(am,x0)])∧H15 td=some (.tup [.str (hs hb),.str "step",.str w'])∧H15 tn=some (.tup (JaE c x))∧H15 ll=some (.lst (ls0.map V.ref ++ [td].map V.ref))∧ZP H15 ls0 ds0∧σ1=[some (.ref a),some (.ref t),some (.ref b),some (.ref tn),some (.ref g),some (.ref ta),some (.ref ll),v7,v8,v9,some (.ref td)],?_,?_⟩
    ·skip
     refine ⟨_,rfl,g,dg,_,rfl,A11.sm _ _ hg,rfl,Gx,_,_,rfl,A11,(fun z=>absurd z (by simp)),(fun ds' d' ms' m' hd' hm' H12 c12 A12=>?_),(fun _=>by simp)⟩;obtain ⟨q1,q2⟩:=List.append_inj' hd' rfl;obtain ⟨q3,q4⟩:=List.append_inj' hm' rfl;subst q1;subst q3;cases List.singleton_inj.mp q2;have hdd:H12 d=some (.tup [.str (hs hb),.str "step",.str w']):=c12.tup A11.lists (A11.dt _ (List.mem_append_right _ (List.mem_singleton.mpr rfl)));have htd12:=c12.tup A11.lists htd;have hta12:=c12.tup A11.lists hta11;have htn12:=c12.tup A11.lists k11.hn;have nll2:ll∉[ld,lm]:=by simp; exact ⟨fun z=>lld z.symm,fun z=>llm z.symm⟩
     have hll12:=c12 _ _ nll2 hll11;have L12:=k11.L.chg c12 A11.lists;refine ⟨_,rfl,.ref d,.ref td,rfl,⟨_,rfl,Yo ?_⟩,.inr ⟨d,td,_,rfl,rfl,JL.of (hdd),.inr (JL.of htd12),by show 3≤1000; decide,hfl⟩⟩;refine ⟨_,rfl,_,rfl,_,rfl,_,rfl,_,rfl,_,rfl,ll,_,rfl,JC.of hll12,fun l13 n13=>?_⟩;have s13:=Jh.upd (o:=.lst (ZR (ls0.map V.ref ++ [td].map V.ref) none (some (-1)))) n13;refine ⟨l13,_,rfl,.inl ⟨JC.of Ji,fun t14 n14=>?_⟩⟩;have s14:=s13.trans (Jh.upd (o:=.tup (ZR (ls0.map V.ref ++ [td].map V.ref) none (some (-1)))) n14);have L0:ZP H12 ls0 ds0:=⟨hLl,fun i a d h1 h2=>L12.2 i a d (by rw [List.getElem?_append_left (List.getElem?_eq_some_iff.mp h1).1]; exact h1) (by rw [List.getElem?_append_left (List.getElem?_eq_some_iff.mp h2).1]; exact h2)⟩
     have hdl:=d1;rw [List.length_append] at hdl;refine ⟨Gx,t,ta,t14,am,x0,ds0,ms0,ls0,ps,zs,gs,rfl,A12.same s14,s14 _ _ hta12,(gg.same A12.sm).same s14,.inr (JL.of (by rw [Ji]; exact congrArg (fun z=>some (HO.tup z)) Jsi)),L0.same s14,by omega,fun q hq=>k11.df q (List.mem_append_left _ hq),fun H15 e15=>⟨_,rfl,Yo ⟨A12.same (s14.trans e15),(s14.trans e15) _ _ htd12,(s14.trans e15) _ _ htn12,(s14.trans e15) _ _ hll12,L0.same (s14.trans e15),rfl⟩⟩⟩
    intro σ1 H15 h; refine an6 h fun A15 htd15 htn15 hll15 L15 es=>?_; subst es; clear h
    have hdl:=d1;rw [List.length_append] at hdl;have nll2:ll∉[ld,lm]:=by simp; exact ⟨fun z=>lld z.symm,fun z=>llm z.symm⟩
    have ok0:JbT ps' (zs'.map (·.2)) gs' c m x0:=A15.mo (am,x0) (List.mem_append_right _ (List.mem_singleton.mpr rfl));have d2':=d2;rw [List.length_append] at d2';refine ⟨_,rfl,g,dg,_,rfl,A15.sm _ _ hg,rfl,_,rfl,td,_,_,.str (hs hb),rfl,rfl,JL.of htd15,rfl,_,rfl,td,_,_,.str w',rfl,rfl,JL.of htd15,rfl,Gx,ds0,ms0,am,x0,hs hb,w',rfl,A15,by omega,by omega,Ze _,YO (gg.B.p3 _ (Jch gg.B hwm)),(fun hn=>absurd rfl (hn hb hp0)),(fun h hp hz hn=>absurd hwm hn),fun h hp hz _ d2 a2 H16 c16 A16=>?_⟩;refine ⟨_,rfl,YD ?_⟩;have hx16:x=Y9 (zs'.map (·.2)) gs' w' (x0.m - 1) x0.n x0.r:=by rw [hx]; unfold Zw; rw [hp0]
    have htn16:=c16.tup A15.lists htn15;have hll16:=c16 _ _ nll2 hll15;have L16:ZP H16 (ls0 ++ [td]) (ds0 ++ [(d2,[.str (hs hb),.str "step",.str w'])]):=ZP.snoc (L15.chg c16 A15.lists) (c16.tup A15.lists htd15);refine ⟨_,rfl,_,rfl,_,rfl,_,rfl,Gx,t,tn,ll,a2,x,_,_,ls0 ++ [td],ps,zs,gs,rfl,(by rw [hx16]; exact A16),(by rw [hx]; exact ho),htn16,gg.same A16.sm,(by rw [List.map_append]; exact hll16),L16,by rw [List.length_append]; show _ + 1≤1000; omega,by rw [List.length_append]; show _ + 1≤1000; omega,fun q hq=>?_,fun H17 e17=>q H17⟩;rcases List.mem_append.mp hq with h | h
    ·exact k11.df q (List.mem_append_left _ h)
    ·rw [List.mem_singleton.mp h]; exact ⟨by show 3≤1000; decide,hfl⟩
end
def Jpp (K:PySem.W.Frag):Prop:=(JrA K,Jrz K,Jrx K,Jry K,Jrv K,Jrw K)=Jmd
theorem Jb {α:Type} {a b:α} (h:some a=some b):a=b:=Option.some.inj h
theorem JuI {w:World} {K:PySem.W.Frag} {h:Heap} {mg:Str→Option Value} {fa:Addr} {P:Program} (hS:Jpp K) (X:K.In h) (G:h.Ns mainGlobals mg) (hfa:mg "law" = some (.ref fa)) :
  ∃ fd:FuncData,(∀ (s:Shared) (v:Value),BindsTo s fd ⟨[v],[]⟩ [("_law_script",v)])∧∀ base:Heap,K.In base→base.Ns mainGlobals mg→JK P w K mg base YB 14 fa fd ["_law_script"] (JoB K):=by
 have hB:JrA K=isB:=congrArg (fun x=>x.1) hS;have hF:Jrz K=isF:=congrArg (fun x=>x.2.1) hS;have hN:Jrx K=isN:=congrArg (fun x=>x.2.2.1) hS;have hK:Jry K=isK:=congrArg (fun x=>x.2.2.2.1) hS;have hV:Jrv K=isV:=congrArg (fun x=>x.2.2.2.2.1) hS;have hT:Jrw K=isT:=congrArg (fun x=>x.2.2.2.2.2) hS;obtain ⟨Jbm,JcE,Jcu⟩:=mgV X G (Jb (at_ hV 0));obtain ⟨Jbl,JaG,JaB⟩:=mgV X G (Jb (at_ hV 1));obtain ⟨Jbo,JaH,JaC⟩:=mgV X G (Jb (at_ hV 2));obtain ⟨JaS,Jb0,JbY⟩:=mgV X G (Jb (at_ hV 3));obtain ⟨Jbn,JcF,Jcv⟩:=mgV X G (Jb (at_ hV 4));have e:=hfa.symm.trans (PySem.W.mg_of X G (Jx (Option.some.inj (at_ hB 110))));cases e;let T:Txt K mg:={
  Jn9:=Jf K "_wall"
  Jng:=JO K (Jf K "_wall")
  JtM:=⟨Jj (Jb (at_ hF 0)),(Jj (Jb (at_ hF 0))).binds (ps:=["k"]) (fun | _,_,_,_,_,_,[_],_=>rfl),PySem.W.mg_of X G (Jx (Jb (at_ hB 0)))⟩
  Jgb:=Jf K "good_name"
  Jfh:=JO K (Jf K "good_name")
  Jgi:=⟨Jj (Jb (at_ hF 1)),(Jj (Jb (at_ hF 1))).binds (ps:=["text"]) (fun | _,_,_,_,_,_,[_],_=>rfl),PySem.W.mg_of X G (Jx (Jb (at_ hB 1)))⟩
  Jfr:=Jf K "check_hand"
  JdN:=JO K (Jf K "check_hand")
  JaI:=⟨Jj (Jb (at_ hF 2)),(Jj (Jb (at_ hF 2))).binds (ps:=["hand"]) (fun | _,_,_,_,_,_,[_],_=>rfl),PySem.W.mg_of X G (Jx (Jb (at_ hB 2)))⟩
  Jk4:=Jf K "other"
  Jjb:=JO K (Jf K "other")
  JeG:=⟨Jj (Jb (at_ hF 3)),(Jj (Jb (at_ hF 3))).binds (ps:=["hand"]) (fun | _,_,_,_,_,_,[_],_=>rfl),PySem.W.mg_of X G (Jx (Jb (at_ hB 3)))⟩
  JdT:=Jf K "check_up_to"
  JcZ:=JO K (Jf K "check_up_to")
  ZC:=⟨Jj (Jb (at_ hF 4)),(Jj (Jb (at_ hF 4))).binds (ps:=["number", "most"]) (fun | _,_,_,_,_,_,[_,_],_=>rfl),PySem.W.mg_of X G (Jx (Jb (at_ hB 4)))⟩
  JdW:=Jf K "check_coins"
  Jc2:=JO K (Jf K "check_coins")
  Jb2:=⟨Jj (Jb (at_ hF 5)),(Jj (Jb (at_ hF 5))).binds (ps:=["north", "south"]) (fun | _,_,_,_,_,_,[_,_],_=>rfl),PySem.W.mg_of X G (Jx (Jb (at_ hB 5)))⟩
  Jgc:=Jf K "check_bid"
  Jfi:=JO K (Jf K "check_bid")
  Ja3:=⟨Jj (Jb (at_ hF 6)),(Jj (Jb (at_ hF 6))).binds (ps:=["named", "coins"]) (fun | _,_,_,_,_,_,[_,_],_=>rfl),PySem.W.mg_of X G (Jx (Jb (at_ hB 6)))⟩
  Jcd:=Jf K "check_standing"
  JbO:=JO K (Jf K "check_standing")
  Jcg:=⟨Jj (Jb (at_ hF 7)),(Jj (Jb (at_ hF 7))).binds (ps:=["board", "place", "turns", "north", "south", "ribbon"]) (fun | _,_,_,_,_,_,[_,_,_,_,_,_],_=>rfl),PySem.W.mg_of X G (Jx (Jb (at_ hB 7)))⟩
  Jk8:=Jf K "ended"
  Jjf:=JO K (Jf K "ended")
  Jcq:=⟨Jj (Jb (at_ hF 8)),(Jj (Jb (at_ hF 8))).binds (ps:=["board", "place", "turns"]) (fun | _,_,_,_,_,_,[_,_,_],_=>rfl),PySem.W.mg_of X G (Jx (Jb (at_ hB 8)))⟩
  Jg1:=Jf K "coins_of"
  Jf7:=JO K (Jf K "coins_of")
  JaQ:=⟨Jj (Jb (at_ hF 9)),(Jj (Jb (at_ hF 9))).binds (ps:=["hand", "north", "south"]) (fun | _,_,_,_,_,_,[_,_,_],_=>rfl),PySem.W.mg_of X G (Jx (Jb (at_ hB 9)))⟩
  Jpa:=Jf K "pay"
  Jnc:=JO K (Jf K "pay")
  Jkk:=⟨Jj (Jb (at_ hF 10)),(Jj (Jb (at_ hF 10))).binds (ps:=["hand", "price", "north", "south", "ribbon"]) (fun | _,_,_,_,_,_,[_,_,_,_,_],_=>rfl),PySem.W.mg_of X G (Jx (Jb (at_ hB 10)))⟩
  Jji:=Jf K "settle"
  JhT:=JO K (Jf K "settle")
  Jg8:=⟨Jj (Jb (at_ hF 11)),(Jj (Jb (at_ hF 11))).binds (ps:=["north", "south", "ribbon", "bid", "answer"]) (fun | _,_,_,_,_,_,[_,_,_,_,_],_=>rfl),PySem.W.mg_of X G (Jx (Jb (at_ hB 11)))⟩
  Jfp:=Jf K "turn_begin"
  JdL:=JO K (Jf K "turn_begin")
  JcO:=⟨Jj (Jb (at_ hF 25)),(Jj (Jb (at_ hF 25))).binds (ps:=["board", "place", "turns", "north", "south", "ribbon"]) (fun | _,_,_,_,_,_,[_,_,_,_,_,_],_=>rfl),PySem.W.mg_of X G (Jx (Jb (at_ hB 38)))⟩
  JhW:=Jf K "told_by"
  JgZ:=JO K (Jf K "told_by")
  Jia:=⟨Jj (Jb (at_ hF 26)),(Jj (Jb (at_ hF 26))).binds (ps:=["book", "now"]) (fun | _,_,_,_,_,_,[_,_],_=>rfl),PySem.W.mg_of X G (Jx (Jb (at_ hB 39)))⟩
  JbR:=Jf K "check_each_once"
  Jby:=JO K (Jf K "check_each_once")
  ZW:=⟨Jj (Jb (at_ hF 41)),(Jj (Jb (at_ hF 41))).binds (ps:=["things"]) (fun | _,_,_,_,_,_,[_],_=>rfl),PySem.W.mg_of X G (Jx (Jb (at_ hB 68)))⟩
  JdX:=Jf K "check_among"
  Jc3:=JO K (Jf K "check_among")
  Jai:=⟨Jj (Jb (at_ hF 42)),(Jj (Jb (at_ hF 42))).binds (ps:=["place", "places"]) (fun | _,_,_,_,_,_,[_,_],_=>rfl),PySem.W.mg_of X G (Jx (Jb (at_ hB 69)))⟩
  Jc9:=Jf K "check_places"
  JcG:=JO K (Jf K "check_places")
  Jdh:=⟨Jj (Jb (at_ hF 43)),(Jj (Jb (at_ hF 43))).binds (ps:=["places"]) (fun | _,_,_,_,_,_,[_],_=>rfl),PySem.W.mg_of X G (Jx (Jb (at_ hB 70)))⟩
  JdU:=Jf K "check_lanes"
  Jc0:=JO K (Jf K "check_lanes")
  Jd4:=⟨Jj (Jb (at_ hF 44)),(Jj (Jb (at_ hF 44))).binds (ps:=["lanes", "places"]) (fun | _,_,_,_,_,_,[_,_],_=>rfl),PySem.W.mg_of X G (Jx (Jb (at_ hB 71)))⟩
  JdV:=Jf K "check_goals"
  Jc1:=JO K (Jf K "check_goals")
  Jd5:=⟨Jj (Jb (at_ hF 45)),(Jj (Jb (at_ hF 45))).binds (ps:=["goals", "places"]) (fun | _,_,_,_,_,_,[_,_],_=>rfl),PySem.W.mg_of X G (Jx (Jb (at_ hB 72)))⟩
  Jsd:=Jf K "_law_at"
  Jo6:=JO K (Jf K "_law_at")
  JbU:=⟨Jj (Jb (at_ hF 50)),(Jj (Jb (at_ hF 50))).binds (ps:=["_law_script", "_law_k"]) (fun | _,_,_,_,_,_,[_,_],_=>rfl),PySem.W.mg_of X G (Jx (Jb (at_ hB 81)))⟩
  Jo9:=Jf K "_law_row"
  Jnb:=JO K (Jf K "_law_row")
  Jiv:=⟨Jj (Jb (at_ hF 51)),(Jj (Jb (at_ hF 51))).binds (ps:=["_law_cell", "_law_many", "_law_base"]) (fun | _,_,_,_,_,_,[_,_,_],_=>rfl),PySem.W.mg_of X G (Jx (Jb (at_ hB 82)))⟩
  JkZ:=Jf K "_law_whole"
  Ji6:=JO K (Jf K "_law_whole")
  Jle:=⟨Jj (Jb (at_ hF 52)),(Jj (Jb (at_ hF 52))).binds (ps:=["_law_found"]) (fun | _,_,_,_,_,_,[_],_=>rfl),PySem.W.mg_of X G (Jx (Jb (at_ hB 83)))⟩
  Jk5:=Jf K "_law_names"
  Jjc:=JO K (Jf K "_law_names")
  Jli:=⟨Jj (Jb (at_ hF 53)),(Jj (Jb (at_ hF 53))).binds (ps:=["_law_cell", "_law_many"]) (fun | _,_,_,_,_,_,[_,_],_=>rfl),PySem.W.mg_of X G (Jx (Jb (at_ hB 84)))⟩
  Jk3:=Jf K "_law_pairs"
  Jja:=JO K (Jf K "_law_pairs")
  Jlh:=⟨Jj (Jb (at_ hF 54)),(Jj (Jb (at_ hF 54))).binds (ps:=["_law_cell", "_law_draw", "_law_size"]) (fun | _,_,_,_,_,_,[_,_,_],_=>rfl),PySem.W.mg_of X G (Jx (Jb (at_ hB 85)))⟩
  Jk7:=Jf K "_law_goals"
  Jje:=JO K (Jf K "_law_goals")
  Jlj:=⟨Jj (Jb (at_ hF 55)),(Jj (Jb (at_ hF 55))).binds (ps:=["_law_cell", "_law_kind", "_law_size"]) (fun | _,_,_,_,_,_,[_,_,_],_=>rfl),PySem.W.mg_of X G (Jx (Jb (at_ hB 86)))⟩
  Jjj:=Jf K "_law_ground"
  JhU:=JO K (Jf K "_law_ground")
  Jjv:=⟨Jj (Jb (at_ hF 56)),(Jj (Jb (at_ hF 56))).binds (ps:=["_law_script", "_law_at_here"]) (fun | _,_,_,_,_,_,[_,_],_=>rfl),PySem.W.mg_of X G (Jx (Jb (at_ hB 87)))⟩
  Jk1:=Jf K "_law_total"
  Ji8:=JO K (Jf K "_law_total")
  Jlg:=⟨Jj (Jb (at_ hF 57)),(Jj (Jb (at_ hF 57))).binds (ps:=["_law_cell"]) (fun | _,_,_,_,_,_,[_],_=>rfl),PySem.W.mg_of X G (Jx (Jb (at_ hB 88)))⟩
  Jnl:=Jf K "_law_left"
  JkV:=JO K (Jf K "_law_left")
  JnC:=⟨Jj (Jb (at_ hF 58)),(Jj (Jb (at_ hF 58))).binds (ps:=["_law_cell"]) (fun | _,_,_,_,_,_,[_],_=>rfl),PySem.W.mg_of X G (Jx (Jb (at_ hB 89)))⟩
  Jnh:=Jf K "_law_ways"
  JkR:=JO K (Jf K "_law_ways")
  Jh9:=⟨Jj (Jb (at_ hF 59)),(Jj (Jb (at_ hF 59))).binds (ps:=["_law_ground_here", "_law_place"]) (fun | _,_,_,_,_,_,[_,_],_=>rfl),PySem.W.mg_of X G (Jx (Jb (at_ hB 90)))⟩
  Jpc:=Jf K "_law_foe"
  Jne:=JO K (Jf K "_law_foe")
  Jiw:=⟨Jj (Jb (at_ hF 60)),(Jj (Jb (at_ hF 60))).binds (ps:=["_law_hand_here"]) (fun | _,_,_,_,_,_,[_],_=>rfl),PySem.W.mg_of X G (Jx (Jb (at_ hB 91)))⟩
  Jnm:=Jf K "_law_hand"
  JkW:=JO K (Jf K "_law_hand")
  JnD:=⟨Jj (Jb (at_ hF 61)),(Jj (Jb (at_ hF 61))).binds (ps:=["_law_cell"]) (fun | _,_,_,_,_,_,[_],_=>rfl),PySem.W.mg_of X G (Jx (Jb (at_ hB 92)))⟩
  Jo7:=Jf K "_law_won"
  Jm9:=JO K (Jf K "_law_won")
  Jit:=⟨Jj (Jb (at_ hF 62)),(Jj (Jb (at_ hF 62))).binds (ps:=["_law_ground_here", "_law_place", "_law_left_here"]) (fun | _,_,_,_,_,_,[_,_,_],_=>rfl),PySem.W.mg_of X G (Jx (Jb (at_ hB 93)))⟩
  Jjh:=Jf K "_law_turned"
  JhS:=JO K (Jf K "_law_turned")
  Jju:=⟨Jj (Jb (at_ hF 63)),(Jj (Jb (at_ hF 63))).binds (ps:=["_law_north", "_law_south", "_law_ribbon", "_law_bid", "_law_reply"]) (fun | _,_,_,_,_,_,[_,_,_,_,_],_=>rfl),PySem.W.mg_of X G (Jx (Jb (at_ hB 94)))⟩
  Jk0:=Jf K "_law_which"
  Ji7:=JO K (Jf K "_law_which")
  Jlf:=⟨Jj (Jb (at_ hF 64)),(Jj (Jb (at_ hF 64))).binds (ps:=["_law_marks"]) (fun | _,_,_,_,_,_,[_],_=>rfl),PySem.W.mg_of X G (Jx (Jb (at_ hB 95)))⟩
  Jk6:=Jf K "_law_holds"
  Jjd:=JO K (Jf K "_law_holds")
  Jdg:=⟨Jj (Jb (at_ hF 65)),(Jj (Jb (at_ hF 65))).binds (ps:=["_law_found", "_law_due_here"]) (fun | _,_,_,_,_,_,[_,_],_=>rfl),PySem.W.mg_of X G (Jx (Jb (at_ hB 96)))⟩
  Jnn:=Jf K "_law_flat"
  JkX:=JO K (Jf K "_law_flat")
  Jdy:=⟨Jj (Jb (at_ hF 66)),(Jj (Jb (at_ hF 66))).binds (ps:=["_law_found", "_law_due_here"]) (fun | _,_,_,_,_,_,[_,_],_=>rfl),PySem.W.mg_of X G (Jx (Jb (at_ hB 97)))⟩
  Jk9:=Jf K "_law_deeds"
  Jjg:=JO K (Jf K "_law_deeds")
  Jlk:=⟨Jj (Jb (at_ hF 67)),(Jj (Jb (at_ hF 67))).binds (ps:=["_law_found", "_law_due_here"]) (fun | _,_,_,_,_,_,[_,_],_=>rfl),PySem.W.mg_of X G (Jx (Jb (at_ hB 98)))⟩
  Jpd:=Jf K "_law_due"
  Jnf:=JO K (Jf K "_law_due")
  Jkl:=⟨Jj (Jb (at_ hF 68)),(Jj (Jb (at_ hF 68))).binds (ps:=["_law_ground_here", "_law_now"]) (fun | _,_,_,_,_,_,[_,_],_=>rfl),PySem.W.mg_of X G (Jx (Jb (at_ hB 99)))⟩
  Jnk:=Jf K "_law_next"
  JkU:=JO K (Jf K "_law_next")
  JnB:=⟨Jj (Jb (at_ hF 69)),(Jj (Jb (at_ hF 69))).binds (ps:=["_law_now", "_law_word", "_law_what"]) (fun | _,_,_,_,_,_,[_,_,_],_=>rfl),PySem.W.mg_of X G (Jx (Jb (at_ hB 100)))⟩
  Jg2:=Jf K "_law_bid_pick"
  Jf8:=JO K (Jf K "_law_bid_pick")
  Jg9:=⟨Jj (Jb (at_ hF 70)),(Jj (Jb (at_ hF 70))).binds (ps:=["_law_own", "_law_his", "_law_cell"]) (fun | _,_,_,_,_,_,[_,_,_],_=>rfl),PySem.W.mg_of X G (Jx (Jb (at_ hB 101)))⟩
  Jfq:=Jf K "_law_reply_pick"
  JdM:=JO K (Jf K "_law_reply_pick")
  JfD:=⟨Jj (Jb (at_ hF 71)),(Jj (Jb (at_ hF 71))).binds (ps:=["_law_bid", "_law_own", "_law_cell"]) (fun | _,_,_,_,_,_,[_,_,_],_=>rfl),PySem.W.mg_of X G (Jx (Jb (at_ hB 102)))⟩
  Jni:=Jf K "_law_pick"
  JkS:=JO K (Jf K "_law_pick")
  Jnz:=⟨Jj (Jb (at_ hF 72)),(Jj (Jb (at_ hF 72))).binds (ps:=["_law_ground_here", "_law_now", "_law_cell"]) (fun | _,_,_,_,_,_,[_,_,_],_=>rfl),PySem.W.mg_of X G (Jx (Jb (at_ hB 103)))⟩
  JhX:=Jf K "_law_opening"
  Jg0:=JO K (Jf K "_law_opening")
  Jib:=⟨Jj (Jb (at_ hF 73)),(Jj (Jb (at_ hF 73))).binds (ps:=["_law_script", "_law_ground_here", "_law_at_here"]) (fun | _,_,_,_,_,_,[_,_,_],_=>rfl),PySem.W.mg_of X G (Jx (Jb (at_ hB 104)))⟩
  Jk2:=Jf K "_law_shows"
  Ji9:=JO K (Jf K "_law_shows")
  Jiu:=⟨Jj (Jb (at_ hF 74)),(Jj (Jb (at_ hF 74))).binds (ps:=["_law_game", "_law_ground_here", "_law_now", "_law_log"]) (fun | _,_,_,_,_,_,[_,_,_,_],_=>rfl),PySem.W.mg_of X G (Jx (Jb (at_ hB 105)))⟩
  Jno:=Jf K "_law_does"
  JkY:=JO K (Jf K "_law_does")
  Jkm:=⟨Jj (Jb (at_ hF 75)),(Jj (Jb (at_ hF 75))).binds (ps:=["_law_game", "_law_hand_here", "_law_word", "_law_what"]) (fun | _,_,_,_,_,_,[_,_,_,_],_=>rfl),PySem.W.mg_of X G (Jx (Jb (at_ hB 106)))⟩
  Jnj:=Jf K "_law_open"
  JkT:=JO K (Jf K "_law_open")
  JnA:=⟨Jj (Jb (at_ hF 76)),(Jj (Jb (at_ hF 76))).binds (ps:=["_law_ground_here", "_law_cell"]) (fun | _,_,_,_,_,_,[_,_],_=>rfl),PySem.W.mg_of X G (Jx (Jb (at_ hB 107)))⟩
  Jo8:=Jf K "_law_try"
  Jna:=JO K (Jf K "_law_try")
  Jps:=⟨Jj (Jb (at_ hF 77)),(Jj (Jb (at_ hF 77))).binds (ps:=["_law_game", "_law_hand_here", "_law_word", "_law_what"]) (fun | _,_,_,_,_,_,[_,_,_,_],_=>rfl),PySem.W.mg_of X G (Jx (Jb (at_ hB 108)))⟩
  Jjk:=Jf K "_law_at_end"
  JhV:=JO K (Jf K "_law_at_end")
  Jha:=⟨Jj (Jb (at_ hF 78)),(Jj (Jb (at_ hF 78))).binds (ps:=["_law_game", "_law_ground_here", "_law_now", "_law_log"]) (fun | _,_,_,_,_,_,[_,_,_,_],_=>rfl),PySem.W.mg_of X G (Jx (Jb (at_ hB 109)))⟩
  Jpb:=Jf K "law"
  Jnd:=JO K (Jf K "law")
  JsO:=⟨Jj (Jb (at_ hF 79)),(Jj (Jb (at_ hF 79))).binds (ps:=["_law_script"]) (fun | _,_,_,_,_,_,[_],_=>rfl),PySem.W.mg_of X G (Jx (Jb (at_ hB 110)))⟩
  JgH:=Jf K "HANDS"
  JkQ:=PySem.W.mg_of X G (Jx (Jb (at_ hB 111)))
  Jic:=fun H=>Jut (xs:=[.inr "north",.inr "south"]) (Jb (at_ hT 0)) H
  Jbm:=Jbm
  JcE:=JcE
  Jcu:=Jcu
  Jbl:=Jbl
  JaG:=JaG
  JaB:=JaB
  Jbo:=Jbo
  JaH:=JaH
  JaC:=JaC
  JaS:=JaS
  Jb0:=Jb0
  JbY:=JbY
  Jbn:=Jbn
  JcF:=JcF
  Jcv:=Jcv
  JsF:=PySem.W.mg_none_of X G (Jb (at_ hN 0))
  Zy:=PySem.W.mg_none_of X G (Jb (at_ hN 1))
  Z3:=PySem.W.mg_none_of X G (Jb (at_ hN 2))
  JjU:=PySem.W.mg_none_of X G (Jb (at_ hN 3))
  JgW:=PySem.W.mg_none_of X G (Jb (at_ hN 4))
  Ja2:=PySem.W.mg_none_of X G (Jb (at_ hN 5))
  JsD:=PySem.W.mg_none_of X G (Jb (at_ hN 6))
  Je5:=PySem.W.mg_none_of X G (Jb (at_ hN 7))
  J7:=PySem.W.mg_none_of X G (Jb (at_ hN 8))
  JsE:=PySem.W.mg_none_of X G (Jb (at_ hN 9))
  Jqd:=PySem.W.mg_none_of X G (Jb (at_ hN 10))
  JoY:=PySem.W.mg_none_of X G (Jb (at_ hN 11))
  JhE:=PySem.W.mg_none_of X G (Jb (at_ hN 12))
  JjV:=PySem.W.mg_none_of X G (Jb (at_ hN 13))
  Jav:=Jf K "BidmoverError"
  JfQ:=PySem.W.mg_of X G (Jx (Jb (at_ hB 112)))
  Jco:=Jf K "BadName"
  JlO:=PySem.W.mg_of X G (Jx (Jb (at_ hB 113)))
  Y2:=Jf K "BadHand"
  Jh5:=PySem.W.mg_of X G (Jx (Jb (at_ hB 114)))
  J8:=Jf K "OutOfRange"
  JcM:=PySem.W.mg_of X G (Jx (Jb (at_ hB 115)))
  JeA:=Jf K "Twice"
  Jok:=PySem.W.mg_of X G (Jx (Jb (at_ hB 116)))
  YM:=Jf K "NoPlace"
  Jh4:=PySem.W.mg_of X G (Jx (Jb (at_ hB 117)))
  Yi:=Jf K "BadBid"
  Jjo:=PySem.W.mg_of X G (Jx (Jb (at_ hB 118)))
  Yv:=Jf K "NoLane"
  Jjn:=PySem.W.mg_of X G (Jx (Jb (at_ hB 119)))
  Yl:=Jf K "NotDue"
  Jjm:=PySem.W.mg_of X G (Jx (Jb (at_ hB 120)))
  ZQ:=Jf K "NothingDone"
  Jd2:=PySem.W.mg_of X G (Jx (Jb (at_ hB 121)))
  JgC:=Jf K "Taken"
  Jol:=PySem.W.mg_of X G (Jx (Jb (at_ hB 122)))
  JhN:=Jf K "Full"
  JqT:=PySem.W.mg_of X G (Jx (Jb (at_ hB 123)))
  Jdu:=Jf K "Missing"
  JlN:=PySem.W.mg_of X G (Jx (Jb (at_ hB 124)))
  JS:=Jf K "Book"
  JqU:=PySem.W.mg_of X G (Jx (Jb (at_ hB 125)))
  JY:=⟨(Jb (at_ hB 129)),(Jb (at_ hB 130)),(Jb (at_ hB 131)),(Jb (at_ hN 14))⟩
  Jdn:=JA K "Book" "__init__"
  Jfo:=JO K (JA K "Book" "__init__")
  Jgk:=⟨Jj (Jb (at_ hF 12)),(Jj (Jb (at_ hF 12))).binds (ps:=["self", "board", "coins", "turns"]) (fun | _,_,_,_,_,_,[_,_,_,_],_=>rfl),⟨JR (Jb (at_ hB 12)),(Jb (at_ hB 13)),Yk (Jb (at_ hF 12))⟩⟩
  JbS:=JA K "Book" "needs_with"
  Jbz:=JO K (JA K "Book" "needs_with")
  Jaz:=⟨Jj (Jb (at_ hF 13)),(Jj (Jb (at_ hF 13))).binds (ps:=["self", "turns"]) (fun | _,_,_,_,_,_,[_,_],_=>rfl),⟨JR (Jb (at_ hB 14)),(Jb (at_ hB 15)),Yk (Jb (at_ hF 13))⟩⟩
  Jdb:=JA K "Book" "need_at"
  JcI:=JO K (JA K "Book" "need_at")
  JbH:=⟨Jj (Jb (at_ hF 14)),(Jj (Jb (at_ hF 14))).binds (ps:=["self", "place", "turns", "ribbon"]) (fun | _,_,_,_,_,_,[_,_,_,_],_=>rfl),⟨JR (Jb (at_ hB 16)),(Jb (at_ hB 17)),Yk (Jb (at_ hF 14))⟩⟩
  ZE:=JA K "Book" "need_where_north_leads"
  ZB:=JO K (JA K "Book" "need_where_north_leads")
  Yu:=⟨Jj (Jb (at_ hF 15)),(Jj (Jb (at_ hF 15))).binds (ps:=["self", "place", "turns"]) (fun | _,_,_,_,_,_,[_,_,_],_=>rfl),⟨JR (Jb (at_ hB 18)),(Jb (at_ hB 19)),Yk (Jb (at_ hF 15))⟩⟩
  ZD:=JA K "Book" "need_where_south_leads"
  ZA:=JO K (JA K "Book" "need_where_south_leads")
  Yt:=⟨Jj (Jb (at_ hF 16)),(Jj (Jb (at_ hF 16))).binds (ps:=["self", "place", "turns"]) (fun | _,_,_,_,_,_,[_,_,_],_=>rfl),⟨JR (Jb (at_ hB 20)),(Jb (at_ hB 21)),Yk (Jb (at_ hF 16))⟩⟩
  JbA:=JA K "Book" "check_share"
  Ja9:=JO K (JA K "Book" "check_share")
  YN:=⟨Jj (Jb (at_ hF 17)),(Jj (Jb (at_ hF 17))).binds (ps:=["self", "place", "turns", "north", "ribbon"]) (fun | _,_,_,_,_,_,[_,_,_,_,_],_=>rfl),⟨JR (Jb (at_ hB 22)),(Jb (at_ hB 23)),Yk (Jb (at_ hF 17))⟩⟩
  Jd0:=JA K "Book" "winner"
  Jc7:=JO K (JA K "Book" "winner")
  Jak:=⟨Jj (Jb (at_ hF 18)),(Jj (Jb (at_ hF 18))).binds (ps:=["self", "place", "turns", "north", "ribbon"]) (fun | _,_,_,_,_,_,[_,_,_,_,_],_=>rfl),⟨JR (Jb (at_ hB 24)),(Jb (at_ hB 25)),Yk (Jb (at_ hF 18))⟩⟩
  JhY:=JA K "Book" "least"
  Jhf:=JO K (JA K "Book" "least")
  JnE:=⟨Jj (Jb (at_ hF 19)),(Jj (Jb (at_ hF 19))).binds (ps:=["self", "place", "turns", "ribbon"]) (fun | _,_,_,_,_,_,[_,_,_,_],_=>rfl),⟨JR (Jb (at_ hB 26)),(Jb (at_ hB 27)),Yk (Jb (at_ hF 19))⟩⟩
  Jd1:=JA K "Book" "bid_of"
  Jc8:=JO K (JA K "Book" "bid_of")
  Jb5:=⟨Jj (Jb (at_ hF 20)),(Jj (Jb (at_ hF 20))).binds (ps:=["self", "place", "turns", "north", "ribbon"]) (fun | _,_,_,_,_,_,[_,_,_,_,_],_=>rfl),⟨JR (Jb (at_ hB 28)),(Jb (at_ hB 29)),Yk (Jb (at_ hF 20))⟩⟩
  Jcf:=JA K "Book" "answer_of"
  JbQ:=JO K (JA K "Book" "answer_of")
  JaR:=⟨Jj (Jb (at_ hF 21)),(Jj (Jb (at_ hF 21))).binds (ps:=["self", "place", "turns", "north", "ribbon", "bid"]) (fun | _,_,_,_,_,_,[_,_,_,_,_,_],_=>rfl),⟨JR (Jb (at_ hB 30)),(Jb (at_ hB 31)),Yk (Jb (at_ hF 21))⟩⟩
  JbB:=JA K "Book" "answer_wins"
  Jba:=JO K (JA K "Book" "answer_wins")
  Jax:=⟨Jj (Jb (at_ hF 22)),(Jj (Jb (at_ hF 22))).binds (ps:=["self", "place", "turns", "settled", "holder"]) (fun | _,_,_,_,_,_,[_,_,_,_,_],_=>rfl),⟨JR (Jb (at_ hB 32)),(Jb (at_ hB 33)),Yk (Jb (at_ hF 22))⟩⟩
  Jda:=JA K "Book" "step_of"
  JcH:=JO K (JA K "Book" "step_of")
  Z4:=⟨Jj (Jb (at_ hF 23)),(Jj (Jb (at_ hF 23))).binds (ps:=["self", "place", "turns", "north", "ribbon", "hand"]) (fun | _,_,_,_,_,_,[_,_,_,_,_,_],_=>rfl),⟨JR (Jb (at_ hB 34)),(Jb (at_ hB 35)),Yk (Jb (at_ hF 23))⟩⟩
  Jn4:=⟨(Jb (at_ hB 132)),JR (Jb (at_ hB 12)),(Jb (at_ hB 13)),(Jb (at_ hB 133))⟩
  YR:=(Jb (at_ hN 15))
  JaX:=(Jb (at_ hN 16))
  JdK:=(Jb (at_ hN 17))
  Jah:=(Jb (at_ hN 18))
  J5:=Jf K "Moment"
  Jfy:=PySem.W.mg_of X G (Jx (Jb (at_ hB 126)))
  Ju:=⟨(Jb (at_ hB 134)),(Jb (at_ hB 135)),(Jb (at_ hB 136)),(Jb (at_ hN 19))⟩
  Jb1:=JA K "Moment" "__init__"
  Jc4:=JO K (JA K "Moment" "__init__")
  Jaj:=⟨Jj (Jb (at_ hF 24)),(Jj (Jb (at_ hF 24))).binds (ps:=["self", "place", "turns", "north", "south", "ribbon", "hand", "word", "heard"]) (fun | _,_,_,_,_,_,[_,_,_,_,_,_,_,_,_],_=>rfl),⟨JR (Jb (at_ hB 36)),(Jb (at_ hB 37)),Yk (Jb (at_ hF 24))⟩⟩
  Jds:=⟨(Jb (at_ hB 137)),JR (Jb (at_ hB 36)),(Jb (at_ hB 37)),(Jb (at_ hB 138))⟩
  YJ:=(Jb (at_ hN 20))
  YI:=(Jb (at_ hN 21))
  YK:=(Jb (at_ hN 22))
  Zx:=(Jb (at_ hN 23))
  YC:=(Jb (at_ hN 24))
  Z2:=(Jb (at_ hN 25))
  YH:=(Jb (at_ hN 26))
  Jau:=(Jb (at_ hN 27))
  JZ:=Jf K "Game"
  JqS:=PySem.W.mg_of X G (Jx (Jb (at_ hB 127)))
  JM:=⟨(Jb (at_ hB 139)),(Jb (at_ hB 140)),(Jb (at_ hB 141)),(Jb (at_ hN 28))⟩
  Jdm:=JA K "Game" "__init__"
  Jfm:=JO K (JA K "Game" "__init__")
  Jgj:=⟨Jj (Jb (at_ hF 27)),(Jj (Jb (at_ hF 27))).binds (ps:=["self", "board", "place", "turns", "north", "south", "ribbon"]) (fun | _,_,_,_,_,_,[_,_,_,_,_,_,_],_=>rfl),⟨JR (Jb (at_ hB 40)),(Jb (at_ hB 41)),Yk (Jb (at_ hF 27))⟩⟩
  JcJ:=JA K "Game" "standing"
  Jcb:=JO K (JA K "Game" "standing")
  Jbi:=⟨Jj (Jb (at_ hF 28)),(Jj (Jb (at_ hF 28))).binds (ps:=["self"]) (fun | _,_,_,_,_,_,[_],_=>rfl),⟨JR (Jb (at_ hB 42)),(Jb (at_ hB 43)),Yk (Jb (at_ hF 28))⟩⟩
  Jg3:=JA K "Game" "due"
  Jf9:=JO K (JA K "Game" "due")
  ZK:=⟨Jj (Jb (at_ hF 29)),(Jj (Jb (at_ hF 29))).binds (ps:=["self"]) (fun | _,_,_,_,_,_,[_],_=>rfl),⟨JR (Jb (at_ hB 44)),(Jb (at_ hB 45)),Yk (Jb (at_ hF 29))⟩⟩
  Jfs:=JA K "Game" "named"
  JdO:=JO K (JA K "Game" "named")
  JaJ:=⟨Jj (Jb (at_ hF 30)),(Jj (Jb (at_ hF 30))).binds (ps:=["self"]) (fun | _,_,_,_,_,_,[_],_=>rfl),⟨JR (Jb (at_ hB 46)),(Jb (at_ hB 47)),Yk (Jb (at_ hF 30))⟩⟩
  Jfu:=JA K "Game" "deeds"
  JdQ:=JO K (JA K "Game" "deeds")
  JcP:=⟨Jj (Jb (at_ hF 31)),(Jj (Jb (at_ hF 31))).binds (ps:=["self"]) (fun | _,_,_,_,_,_,[_],_=>rfl),⟨JR (Jb (at_ hB 48)),(Jb (at_ hB 49)),Yk (Jb (at_ hF 31))⟩⟩
  Jgf:=JA K "Game" "over"
  Jfl:=JO K (JA K "Game" "over")
  Zs:=⟨Jj (Jb (at_ hF 32)),(Jj (Jb (at_ hF 32))).binds (ps:=["self"]) (fun | _,_,_,_,_,_,[_],_=>rfl),⟨JR (Jb (at_ hB 50)),(Jb (at_ hB 51)),Yk (Jb (at_ hF 32))⟩⟩
  JdY:=JA K "Game" "winner"
  Jc5:=JO K (JA K "Game" "winner")
  Jb3:=⟨Jj (Jb (at_ hF 33)),(Jj (Jb (at_ hF 33))).binds (ps:=["self"]) (fun | _,_,_,_,_,_,[_],_=>rfl),⟨JR (Jb (at_ hB 52)),(Jb (at_ hB 53)),Yk (Jb (at_ hF 33))⟩⟩
  Jgd:=JA K "Game" "told"
  Jfj:=JO K (JA K "Game" "told")
  Ja4:=⟨Jj (Jb (at_ hF 34)),(Jj (Jb (at_ hF 34))).binds (ps:=["self"]) (fun | _,_,_,_,_,_,[_],_=>rfl),⟨JR (Jb (at_ hB 54)),(Jb (at_ hB 55)),Yk (Jb (at_ hF 34))⟩⟩
  Jce:=JA K "Game" "check_due"
  JbP:=JO K (JA K "Game" "check_due")
  Y6:=⟨Jj (Jb (at_ hF 35)),(Jj (Jb (at_ hF 35))).binds (ps:=["self", "hand", "word"]) (fun | _,_,_,_,_,_,[_,_,_],_=>rfl),⟨JR (Jb (at_ hB 56)),(Jb (at_ hB 57)),Yk (Jb (at_ hF 35))⟩⟩
  Jft:=JA K "Game" "go_on"
  JdP:=JO K (JA K "Game" "go_on")
  ZN:=⟨Jj (Jb (at_ hF 36)),(Jj (Jb (at_ hF 36))).binds (ps:=["self", "deed", "moment"]) (fun | _,_,_,_,_,_,[_,_,_],_=>rfl),⟨JR (Jb (at_ hB 58)),(Jb (at_ hB 59)),Yk (Jb (at_ hF 36))⟩⟩
  Jg4:=JA K "Game" "bid"
  Jga:=JO K (JA K "Game" "bid")
  Jer:=⟨Jj (Jb (at_ hF 37)),(Jj (Jb (at_ hF 37))).binds (ps:=["self", "hand", "coins"]) (fun | _,_,_,_,_,_,[_,_,_],_=>rfl),⟨JR (Jb (at_ hB 60)),(Jb (at_ hB 61)),Yk (Jb (at_ hF 37))⟩⟩
  JdZ:=JA K "Game" "answer"
  Jc6:=JO K (JA K "Game" "answer")
  Jb4:=⟨Jj (Jb (at_ hF 38)),(Jj (Jb (at_ hF 38))).binds (ps:=["self", "hand", "coins"]) (fun | _,_,_,_,_,_,[_,_,_],_=>rfl),⟨JR (Jb (at_ hB 62)),(Jb (at_ hB 63)),Yk (Jb (at_ hF 38))⟩⟩
  Jge:=JA K "Game" "step"
  Jfk:=JO K (JA K "Game" "step")
  Ja5:=⟨Jj (Jb (at_ hF 39)),(Jj (Jb (at_ hF 39))).binds (ps:=["self", "hand", "place"]) (fun | _,_,_,_,_,_,[_,_,_],_=>rfl),⟨JR (Jb (at_ hB 64)),(Jb (at_ hB 65)),Yk (Jb (at_ hF 39))⟩⟩
  Jgg:=JA K "Game" "back"
  Jfn:=JO K (JA K "Game" "back")
  Jdo:=⟨Jj (Jb (at_ hF 40)),(Jj (Jb (at_ hF 40))).binds (ps:=["self"]) (fun | _,_,_,_,_,_,[_],_=>rfl),⟨JR (Jb (at_ hB 66)),(Jb (at_ hB 67)),Yk (Jb (at_ hF 40))⟩⟩
  Jn3:=⟨(Jb (at_ hB 142)),JR (Jb (at_ hB 40)),(Jb (at_ hB 41)),(Jb (at_ hB 143))⟩
  JaW:=(Jb (at_ hN 29))
  Je4:=(Jb (at_ hN 30))
  JaF:=(Jb (at_ hN 31))
  Yp:=(Jb (at_ hN 32))
  JP:=Jf K "Board"
  Jom:=PySem.W.mg_of X G (Jx (Jb (at_ hB 128)))
  YQ:=⟨(Jb (at_ hB 144)),(Jb (at_ hB 145)),(Jb (at_ hB 146)),(Jb (at_ hN 33))⟩
  JcL:=JA K "Board" "__init__"
  JdS:=JO K (JA K "Board" "__init__")
  JfE:=⟨Jj (Jb (at_ hF 46)),(Jj (Jb (at_ hF 46))).binds (ps:=["self", "places", "lanes", "goals"]) (fun | _,_,_,_,_,_,[_,_,_,_],_=>rfl),⟨JR (Jb (at_ hB 73)),(Jb (at_ hB 74)),Yk (Jb (at_ hF 46))⟩⟩
  Jbb:=JA K "Board" "check_place"
  JaP:=JO K (JA K "Board" "check_place")
  Yc:=⟨Jj (Jb (at_ hF 47)),(Jj (Jb (at_ hF 47))).binds (ps:=["self", "place"]) (fun | _,_,_,_,_,_,[_,_],_=>rfl),⟨JR (Jb (at_ hB 75)),(Jb (at_ hB 76)),Yk (Jb (at_ hF 47))⟩⟩
  Jfv:=JA K "Board" "ways"
  JdR:=JO K (JA K "Board" "ways")
  YT:=⟨Jj (Jb (at_ hF 48)),(Jj (Jb (at_ hF 48))).binds (ps:=["self", "place"]) (fun | _,_,_,_,_,_,[_,_],_=>rfl),⟨JR (Jb (at_ hB 77)),(Jb (at_ hB 78)),Yk (Jb (at_ hF 48))⟩⟩
  JcK:=JA K "Board" "is_goal"
  Jcc:=JO K (JA K "Board" "is_goal")
  Jbj:=⟨Jj (Jb (at_ hF 49)),(Jj (Jb (at_ hF 49))).binds (ps:=["self", "place"]) (fun | _,_,_,_,_,_,[_,_],_=>rfl),⟨JR (Jb (at_ hB 79)),(Jb (at_ hB 80)),Yk (Jb (at_ hF 49))⟩⟩
  Jm0:=⟨(Jb (at_ hB 147)),JR (Jb (at_ hB 73)),(Jb (at_ hB 74)),(Jb (at_ hB 148))⟩
  Jbh:=(Jb (at_ hN 34))
  JcW:=(Jb (at_ hN 35))
  JcX:=(Jb (at_ hN 36))
  Jkh:=⟨(Jb (at_ hB 149)),(Jb (at_ hN 38)),(Jb (at_ hN 39)),(Jb (at_ hN 40)),(Jb (at_ hN 37)),(Jb (at_ hK 0)),(Jb (at_ hK 1)),(Jb (at_ hK 2)),(Jb (at_ hB 150))⟩
  Jd3:=⟨(Jb (at_ hB 151)),(Jb (at_ hN 41)),(Jb (at_ hN 42)),(Jb (at_ hN 43)),(Jb (at_ hN 37)),(Jb (at_ hK 0)),(Jb (at_ hK 3)),(Jb (at_ hK 4)),(Jb (at_ hB 152))⟩
  Y5:=⟨(Jb (at_ hB 153)),(Jb (at_ hN 44)),(Jb (at_ hN 45)),(Jb (at_ hN 46)),(Jb (at_ hN 37)),(Jb (at_ hK 0)),(Jb (at_ hK 5)),(Jb (at_ hK 6)),(Jb (at_ hB 154))⟩
  JlK:=(Jb (at_ hK 7))
  JlB:=(Jb (at_ hK 8))
  Jeh:=(Jb (at_ hK 9))
  Jei:=(Jb (at_ hK 10))
  JcD:=(Jb (at_ hK 11))
  JfN:=(Jb (at_ hK 12))
  Jef:=(Jb (at_ hK 13))
  Jff:=(Jb (at_ hK 14))
  Jfe:=(Jb (at_ hK 15))
  Jfd:=(Jb (at_ hK 16))
  Jcn:=(Jb (at_ hK 17))
  JfO:=(Jb (at_ hK 18))
  JgB:=(Jb (at_ hK 19))
  Jeg:=(Jb (at_ hK 20))
  Y3:=⟨(Jb (at_ hB 155)),(Jb (at_ hN 47)),(Jb (at_ hN 48)),(Jb (at_ hN 49)),(Jb (at_ hN 37)),(Jb (at_ hK 0)),(Jb (at_ hK 21)),(Jb (at_ hK 22)),(Jb (at_ hB 156))⟩
  JlI:=(Jb (at_ hK 23))
  Jlz:=(Jb (at_ hK 24))
  Jd9:=(Jb (at_ hK 25))
  Jea:=(Jb (at_ hK 26))
  JcB:=(Jb (at_ hK 27))
  JfJ:=(Jb (at_ hK 28))
  Jd7:=(Jb (at_ hK 29))
  Je9:=(Jb (at_ hK 30))
  Je8:=(Jb (at_ hK 31))
  Je7:=(Jb (at_ hK 32))
  Jcl:=(Jb (at_ hK 33))
  JfK:=(Jb (at_ hK 34))
  Jgz:=(Jb (at_ hK 35))
  Jd8:=(Jb (at_ hK 36))
  Y4:=⟨(Jb (at_ hB 157)),(Jb (at_ hN 50)),(Jb (at_ hN 51)),(Jb (at_ hN 52)),(Jb (at_ hN 37)),(Jb (at_ hK 0)),(Jb (at_ hK 37)),(Jb (at_ hK 38)),(Jb (at_ hB 158))⟩
  JlJ:=(Jb (at_ hK 39))
  JlA:=(Jb (at_ hK 40))
  Jed:=(Jb (at_ hK 41))
  Jee:=(Jb (at_ hK 42))
  JcC:=(Jb (at_ hK 43))
  JfL:=(Jb (at_ hK 44))
  Jeb:=(Jb (at_ hK 45))
  Jfc:=(Jb (at_ hK 46))
  Jfb:=(Jb (at_ hK 47))
  Jfa:=(Jb (at_ hK 48))
  Jcm:=(Jb (at_ hK 49))
  JfM:=(Jb (at_ hK 50))
  JgA:=(Jb (at_ hK 51))
  Jec:=(Jb (at_ hK 52))
  JgI:=⟨(Jb (at_ hB 159)),(Jb (at_ hN 53)),(Jb (at_ hN 54)),(Jb (at_ hN 55)),(Jb (at_ hN 37)),(Jb (at_ hK 0)),(Jb (at_ hK 53)),(Jb (at_ hK 54)),(Jb (at_ hB 160))⟩
  Jsp:=⟨(Jb (at_ hB 161)),(Jb (at_ hN 56)),(Jb (at_ hN 57)),(Jb (at_ hN 58)),(Jb (at_ hN 37)),(Jb (at_ hK 0)),(Jb (at_ hK 55)),(Jb (at_ hK 56)),(Jb (at_ hB 162))⟩
  Jkg:=⟨(Jb (at_ hB 163)),(Jb (at_ hN 59)),(Jb (at_ hN 60)),(Jb (at_ hN 61)),(Jb (at_ hN 37)),(Jb (at_ hK 0)),(Jb (at_ hK 57)),(Jb (at_ hK 58)),(Jb (at_ hB 164))⟩
  Jpo:=⟨(Jb (at_ hB 165)),(Jb (at_ hN 62)),(Jb (at_ hN 63)),(Jb (at_ hN 64)),(Jb (at_ hN 37)),(Jb (at_ hK 0)),(Jb (at_ hK 59)),(Jb (at_ hK 60)),(Jb (at_ hB 166))⟩ }
 obtain ⟨oc,od,kV,doc,pm,an,cdv,ct,osl,z1,z2,z3,z4⟩:=Jp7 (Option.some.inj (at_ hF 79));exact ⟨_,fun s v=>by show BindsTo s (JO K (Jf K "law")) _ _; rw [z1]; exact .of_eq rfl,fun base _ _=>Jus T⟩
def JuF:DefRec:=⟨"law",JeF JgN,Jcp JgN,Jl JgN,JuE JgN⟩
theorem Jvz:PySem.W.WalkO qv lo0 (PySem.W.XL qv []) (fun _ h=>∃ K:PySem.W.Frag,K.In h∧Jpp K) PySem.Challenge.rw_bidmover_k44_whole_end.row.toRowW JuF [] (fun f vs=>PySem.call f vs) :=
 L2.Jq4 (l:=PySem.Challenge.rw_bidmover_k44_whole_end) (n:=63) (k:=14) (x := "_law_script") (CX:=YB) (sp:=JoB) (C:=Jpp) rfl (by decide) rfl ⟨rfl,by decide,by decide⟩ (fun _ _ y=>y) (fun w K mg fa h hS X G hfa=>JuI hS X G hfa) (fun _ _ a ns hl _ hS=>⟨a,ns,rfl,hS,hl,fun _=>rfl⟩) fun _ _ _ _ z=>z
end Pf
open PySem PySem.W PyProof.Rows
set_option maxRecDepth 100000 in
set_option maxHeartbeats 0 in
theorem PySem.Challenge.cw_bidmover_k44_whole_end_holds : PySem.Challenge.rw_bidmover_k44_whole_end.Holds := by
 refine holds_law Pf.JrG fun JrG=>?_
 refine holds_open (q:=Pf.qv) (loose:=Pf.lo0) (Xt:=Pf.xt) (XP:=XL Pf.qv []) (Yf:=Pf.see) (Ya:=fun _=>Pf.Jmd) (YP:=fun _ h=>∃ K:Frag,K.In h∧Pf.Jpp K) (d:=Pf.JuF) (kwd:=[]) Pf.left (fun w s e=>⟨_,L2.Jqx _,e⟩) (fun w h h' y hk=>y.elim fun K z=>⟨K,z.1.keeps hk,z.2⟩) (fun s e=>xl_of s (Bool.and_eq_true_iff.mp e).1) XL.keeps ?h1 ?h2 ?h3 (fun s e=>recFacts_of (Bool.and_eq_true_iff.mp e).2) ?h4 JrG ?h5 ⟨rfl,rfl,rfl,rfl,rfl,by decide +kernel⟩ ?hw Pf.Jvz
 case h1=>kernel_rfl
 case h2=>kernel_rfl
 case h3=>kernel_rfl
 case h4=>kernel_rfl
 case h5=>kernel_rfl
 case hw=>w_witness2
