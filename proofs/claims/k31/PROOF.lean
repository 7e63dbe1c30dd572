import PyProof.Rows.All
import Wide.All
import OpenK.AllK
import Wide.FinOn
import Lean
import PyProof.EqAt
import PyProof.EqKinds
import PyProof.TupleCall
import PyProof.ExcAttrAll.ValueError
import PyProof.FString4
import PyProof.FString5
import PyProof.StrLawsRepr
import PyProof.Rows.SetFrom
import KE.KSortTup
import PyProof.NeKinds
import PyProof.Rows.MinMaxN
import KE.KDictSum
import PySem.Challenge.RW_bidmover_k31_hall_missing
set_option Elab.async false
set_option linter.all false
set_option maxRecDepth 100000
namespace L2
open PySem PySem.W
def JO (s:Stmt) (j:Nat):Stmt:=match s with
 | .ClassDef _ _ _ body _ _ _ _ _ _ _=>body.getD j (.Pass ⟨0,0,0,0⟩)
 | _=>.Pass ⟨0,0,0,0⟩
def Jew (s:Stmt):Arguments:=match s with
 | .FunctionDef _ a _ _ _ _ _ _ _ _=>a
 | _=>{ posonlyargs:=[],args:=[],vararg:=none,kwonlyargs:=[],kw_defaults:=[],kwarg:=none,defaults:=[] }
def JbO (s:Stmt):List Stmt:=match s with
 | .FunctionDef _ _ b _ _ _ _ _ _ _=>b
 | _=>[]
def Jk (s:Stmt):Scope:=match s with
 | .FunctionDef _ _ _ _ _ _ sc _ _ _=>sc
 | _=>{ kind:=.function,names:=[],isGenerator:=false,isCoroutine:=false }
def Jvq (s:Stmt):Pos:=match s with
 | .FunctionDef _ _ _ _ _ _ _ _ _ p=>p
 | _=>⟨0,0,0,0⟩
def Jrb (h:Heap):Frag:=h.objs.toList.zipIdx.filterMap fun x=>(alive x.1).map fun o=>(x.2,o)
theorem Jra (h:Heap):(Jrb h).In h:=by
 intro a o e;have key:∀ (l:List Obj) (k:Nat),((l.zipIdx k).filterMap fun x=>(alive x.1).map fun o=>(x.2,o)).lookup a=some o→k≤a∧∃ u,l[a - k]?=some u∧alive u=some o:=by
  intro l
  induction l with
  | nil=>intro k e; cases e
  | cons b l ih =>
   intro k e;rw [List.zipIdx_cons,List.filterMap_cons] at e;have next:((l.zipIdx (k + 1)).filterMap fun x=>(alive x.1).map fun o=>(x.2,o)).lookup a=some o→k≤a∧∃ u,(b :: l)[a - k]?=some u∧alive u=some o:=fun e=>by
    obtain ⟨h1,u,h2,h3⟩:=ih (k + 1) e;refine ⟨by omega,u,?_,h3⟩;have e:a - k=(a - (k + 1)) + 1:=(Nat.succ_pred_eq_of_pos (Nat.sub_pos_of_lt h1)).symm;rw [e,List.getElem?_cons_succ];exact h2
   cases hb:alive b with
   | none =>
    have e:((l.zipIdx (k + 1)).filterMap fun x=>(alive x.1).map fun o=>(x.2,o)).lookup a=some o:=by
     simp only [hb,Option.map_none] at e;exact e
    exact next e
   | some u =>
    have e:List.lookup a ((k,u) :: ((l.zipIdx (k + 1)).filterMap fun x=>(alive x.1).map fun o=>(x.2,o)))=some o:=by
     simp only [hb,Option.map_some] at e;exact e
    rw [List.lookup_cons] at e;cases hab:a == k with
    | true =>
     rw [hab] at e;have ak:=beq_iff_eq.mp hab;subst ak;refine ⟨Nat.le_refl _,b,by rw [Nat.sub_self]; rfl,?_⟩;rw [hb]; exact e
    | false=>rw [hab] at e; exact next e
 obtain ⟨_,u,h2,h3⟩:=key _ 0 e;rw [Nat.sub_zero,Array.getElem?_toList] at h2;unfold Heap.get?;rw [h2];obtain ⟨c,d,dt,sl⟩:=u;cases dt <;> exact h3
def Jf (K:Frag) (n:Str):Addr:=match nsIn K mainGlobals n with
 | some (some (.ref k))=>k
 | _=>0
def JQ (K:Frag) (n:Str):Bool:=match nsIn K mainGlobals n with
 | some (some (.ref _))=>true
 | _=>false
theorem Jr {K:Frag} {n:Str} (h:JQ K n=true):nsIn K mainGlobals n=some (some (.ref (Jf K n))):=by
 unfold JQ at h;unfold Jf;split at h
 ·rename_i k e; rw [e]
 ·cases h
def Jl (K:Frag) (n m:Str):Addr:=match findIn K (.ref (Jf K n)) m with
 | some (some (.ref k))=>k
 | _=>0
def JS (K:Frag) (n m:Str):Bool:=match findIn K (.ref (Jf K n)) m with
 | some (some (.ref _))=>true
 | _=>false
theorem Jt {K:Frag} {n m:Str} (h:JS K n m=true):findIn K (.ref (Jf K n)) m=some (some (.ref (Jl K n m))):=by
 unfold JS at h;unfold Jl;split at h
 ·rename_i k e; rw [e]
 ·cases h
def JF (K:Frag) (f:Addr):FuncData:=match K.lookup f with
 | some ⟨_,_,.func fd,_⟩=>fd
 | _=>default
def JpW (fd:FuncData):FuncData:={ fd with kwdefaults:=.none,doc:=.none,pyModule:=.none,annotations:=none,code:=.none,closureTuple:=.none }
def JW (K:Frag) (f:Addr) (q:Str):Option (FuncData×Bool):=match K.lookup f with
 | some ⟨_,_,.func fd,_⟩=>some (JpW fd,codeIn K fd.code q && keepIn K (.ref f))
 | _=>none
abbrev JX (x q:Str) (st:Stmt):Option (FuncData×Bool):=some (fnOf x q (Jew st) (JbO st) (Jk st) .none .none .none .none none .none .none,true)
theorem JqJ {K:Frag} {f:Addr} {x q:Str} {st:Stmt} (h:JW K f q=JX x q st):∃ (oc:Value) (od:Option Addr) (kV doc pm:Value) (an:Option Addr) (cdv ct:Value) (osl:Array (Option Value)),
  JF K f=fnOf x q (Jew st) (JbO st) (Jk st) .none kV doc pm an cdv ct∧K.lookup f=some ⟨oc,od,.func (JF K f),osl⟩∧codeIn K cdv q=true∧keepIn K (.ref f)=true:=by
 unfold JW at h;unfold JF;split at h
 ·rename_i oc od fd sl e;rw [e];have h:=Option.some.inj h;have h1:=congrArg Prod.fst h;have h2:(codeIn K fd.code q && keepIn K (.ref f))=true:=congrArg Prod.snd h;rw [Bool.and_eq_true] at h2;obtain ⟨n,qn,ps,b,sc,gl,cl,df,kd,dc,pm,an,cd,ct,bu⟩:=fd;have h1:JpW ⟨n,qn,ps,b,sc,gl,cl,df,kd,dc,pm,an,cd,ct,bu⟩=fnOf x q (Jew st) (JbO st) (Jk st) .none .none .none .none none .none .none:=h1;unfold JpW fnOf at h1;simp only [FuncData.mk.injEq] at h1;obtain ⟨rfl,rfl,rfl,rfl,rfl,rfl,rfl,rfl,_,_,_,_,_,_,rfl⟩:=h1;exact ⟨oc,od,kd,dc,pm,an,cd,ct,sl,rfl,rfl,h2.1,h2.2⟩
 ·cases h
def Jha:Value→Option (Sum Int Str)
 | .int i _=>some (.inl i)
 | .str x _=>some (.inr x)
 | _=>none
def obV (K:Frag) (n:Str):Option (Sum Int Str):=match nsIn K mainGlobals n with
 | some (some v)=>Jha v
 | _=>none
theorem Jua {K:Frag} {n:Str} {i:Int} (h:obV K n=some (.inl i)):∃ t,nsIn K mainGlobals n=some (some (.int i t)):=by
 unfold obV at h;split at h
 ·rename_i v e;unfold Jha at h;split at h
  ·cases h; exact ⟨_,e⟩
  ·cases h
  ·cases h
 ·cases h
def obT (K:Frag) (n:Str):Option (Bool×List (Option (Sum Int Str))):=match K.lookup (Jf K n) with
 | some ⟨.type "tuple",_,.seq its _,_⟩=>some (decide (its.size≤1000),its.toList.map Jha)
 | _=>none
theorem at_ {α:Type} {l l':List α} (h:l=l') (i:Nat):l[i]?=l'[i]?:=by rw [h]
def Jgw (okf:Thread→Bool) (stf:SharedT→Thread→Option (SharedT×Thread)):Nat→SharedT→Thread→Option SharedT
 | 0,_,_=>none
 | n + 1,s,t=>match through t with
  | true=>some s
  | false=>match okf t with
   | false=>none
   | true=>match stf s t with
    | some (s',t')=>Jgw okf stf n s' t'
    | none=>none
theorem JjJ {tb:String→Option Builtin} {p:Program} {w:World} {n₀:Nat} {ann:Option Value}:∀ {n:Nat} {s s':SharedT} {t:Thread},Jgw (stepOk n₀ ann) (stepT (denote tb) p w) n s t=some s'→topRun tb p w n₀ ann n s.abs t=some s'.abs
 | 0,_,_,_,h=>nomatch h
 | n + 1,s,s',t,h=>by
  unfold Jgw at h;unfold topRun;split at h
  ·rename_i e; rw [e]; cases h; rfl
  ·rename_i e; rw [e];split at h
   ·cases h
   ·rename_i e2; rw [e2];split at h
    ·rename_i s2 t2 e3;rw [stepT_spec e3];exact JjJ h
    ·cases h
noncomputable def JkA (p:Program) (w:World) (N:Nat) (s:SharedT):Option SharedT :=
 Jgw (Fast.tw6613529449190102663 ((boot_heap w.params).objs.size) ((boot_heap w.params).nsMap mainGlobals "__annotations__")) (Fast.tw10156331382660048174 (Fast.tw11892475500146522536 Fast.tw14364793385576792824) p w) N s (topStub p)
theorem Jo5 {p:Program} {w:World} {N:Nat} {s:SharedT}:JkA p w N s=Jgw (stepOk ((boot_heap w.params).objs.size) ((boot_heap w.params).nsMap mainGlobals "__annotations__")) (stepT (denote treeTable) p w) N s (topStub p):=by
 rw [Fast.te6613529449190102663,Fast.te10156331382660048174,Fast.te11892475500146522536,Fast.te14364793385576792824];rfl
noncomputable def JjB (P:Params):BT:=(boot_heap P).objs.toList.zipIdx.foldl (fun t x=>t.ins x.2 x.1) .nil
noncomputable def JpV (P:Params) (os:OsState):SharedT:=⟨JjB P,(boot_heap P).objs.size,(boot_heap P).life,Array.mk [],boot_drawn,boot_toks,os⟩
theorem Jrw (P:Params) (os:OsState):(JpV P os).abs=⟨boot_heap P,Array.mk [],boot_drawn,boot_toks,os⟩:=by
 show (⟨absHeap (JjB P) (boot_heap P).objs.size (boot_heap P).life,_,_,_,_⟩:Shared)=_;have e:absHeap (JjB P) (boot_heap P).objs.size (boot_heap P).life=boot_heap P:=by kernel_rfl
 rw [e]; rfl
noncomputable def Jpg {α:Type} (p q:Program) (loose:List Str) (Xt:Shared→Bool) (Yf:Shared→α) (P:Params) (s:Shared) :=
 (staticsOk (importedModules p.main.body) (boot_heap P) s.heap && namesBound p s.heap && gensDone s && laidKept (boot_heap P) s.heap,Fast.tw4187177175401517315 q loose (importedModules p.main.body) Xt true s,Yf s)
theorem Jui {p q:Program} {loose:List Str} {Xt:Shared→Bool} {α:Type} {Yf:Shared→α} {Ya:World→α} {N:Nat} (e:opening p=plainProg p.main.scope.names) (hN:Nat.ble 600 N=true) (f:∀ s,fenceModules? p s=some s)
  (h:∀ (w:World) (os:OsState),(JkA p w N (JpV w.params os)).map (fun s=>Jpg p q loose Xt Yf w.params s.abs)=some (true,openGood q loose,Ya w))
  (hb:∀ P:Params,((boot_heap P).isNs mainGlobals && (Array.mk ([]:List GenState)).size == 0)=true):LeftO p q loose Xt Yf Ya N:=by
 intro w;have o:=boot_open e hN f w;obtain ⟨s0,e0,e1⟩:=Option.map_eq_some_iff.mp o;obtain ⟨h0,g0,d0,k0,os⟩:=s0;obtain ⟨rfl,rfl,rfl,rfl⟩:h0=boot_heap w.params∧g0=Array.mk []∧d0=boot_drawn∧k0=boot_toks:=by simpa using e1
 obtain ⟨s1,r1,l1⟩:=Option.map_eq_some_iff.mp (h w os);rw [Jo5] at r1;have r:=JjJ r1;rw [Jrw] at r;have l:(staticsOk (importedModules p.main.body) (boot_heap w.params) s1.abs.heap && namesBound p s1.abs.heap && gensDone s1.abs && laidKept (boot_heap w.params) s1.abs.heap)=true∧openSeen q loose (importedModules p.main.body) Xt true s1.abs=openGood q loose∧Yf s1.abs=Ya w:=by
  have z:=l1;unfold Jpg at z;rw [← Fast.te4187177175401517315] at z;exact ⟨congrArg Prod.fst z,congrArg (fun x=>x.2.1) z,congrArg (fun x=>x.2.2) z⟩
 have t:topFrom treeTable p w N ⟨boot_heap w.params,Array.mk [],boot_drawn,boot_toks,os⟩=some s1.abs:=by
  unfold topFrom;dsimp only;rw [hb w.params,r];show (match staticsOk (importedModules p.main.body) (boot_heap w.params) s1.abs.heap && namesBound p s1.abs.heap && gensDone s1.abs && laidKept (boot_heap w.params) s1.abs.heap with | true=>_ | false=>_)=_;rw [l.1]
 unfold openEnds;rw [e0];show (topFrom treeTable p w N _).map _=_;rw [t];exact congrArg some (Prod.ext l.2.1 l.2.2)
end L2
namespace Pf
open PySem PySem.W L2
abbrev pg:Program:=PySem.Challenge.pw_bidmover_k31_hall_missing
def JZ (i:Nat):Stmt:=pg.main.body.getD i (.Pass ⟨0,0,0,0⟩)
def qv:Program:={ pg with main:={ pg.main with body:=[JZ 78] } }
def lo0:List Str:=(["good_name", "check_hand", "other", "check_up_to", "check_coins", "check_bid", "check_standing", "ended", "coins_of", "pay", "settle", "turn_begin", "told_by", "check_new", "find_kept", "check_each_once", "check_among", "check_places", "check_lanes", "check_goals", "_law_at", "_law_row", "_law_whole", "_law_names", "_law_pairs", "_law_goals", "_law_ground", "_law_total", "_law_left", "_law_ways", "_law_foe", "_law_hand", "_law_won", "_law_which", "_law_holds", "_law_flat", "_law_deeds", "_law_due", "_law_opening", "_law_hall_shows", "_law_open", "_law_ask", "_law_try", "_law_strange", "BidmoverError", "BadName", "BadHand", "OutOfRange", "Twice", "NoPlace", "BadBid", "NoLane", "NotDue", "NothingDone", "Taken", "Full", "Missing", "Book", "Moment", "Game", "Hall", "Board", "HANDS", "MOST_SIGNS", "MOST_TURNS", "MOST_COINS", "MOST_BOARDS", "MOST_GAMES", "MOST_PLACES", "MOST_LANES"]:List String).map Str.ofString
abbrev JcV:Stmt:=JZ 17
abbrev JeE:Stmt:=JZ 18
abbrev JkV:Stmt:=JZ 19
abbrev Jdm:Stmt:=JZ 23
abbrev Jdp:Stmt:=JZ 24
abbrev JiT:Stmt:=JZ 25
abbrev JbB:Stmt:=JZ 26
abbrev JkX:Stmt:=JZ 27
abbrev JjU:Stmt:=JZ 28
abbrev Jtk:Stmt:=JZ 29
abbrev Jnd:Stmt:=JZ 30
abbrev Jgb:Stmt:=JO (JZ 32) 0
abbrev Jba:Stmt:=JO (JZ 32) 1
abbrev Jcx:Stmt:=JO (JZ 32) 2
abbrev YM:Stmt:=JO (JZ 32) 3
abbrev YL:Stmt:=JO (JZ 32) 4
abbrev JaN:Stmt:=JO (JZ 32) 5
abbrev Jdx:Stmt:=JO (JZ 32) 6
abbrev JeO:Stmt:=JO (JZ 32) 7
abbrev Jhn:Stmt:=JO (JZ 32) 8
abbrev JeP:Stmt:=JO (JZ 32) 9
abbrev Jdc:Stmt:=JO (JZ 32) 10
abbrev JgA:Stmt:=JO (JZ 32) 11
abbrev Jdr:Stmt:=JO (JZ 34) 0
abbrev JeB:Stmt:=JZ 35
abbrev JlQ:Stmt:=JZ 36
abbrev Jf9:Stmt:=JO (JZ 37) 0
abbrev JbS:Stmt:=JO (JZ 37) 1
abbrev JgY:Stmt:=JO (JZ 37) 2
abbrev JeL:Stmt:=JO (JZ 37) 3
abbrev JeM:Stmt:=JO (JZ 37) 4
abbrev Jf8:Stmt:=JO (JZ 37) 5
abbrev Jdv:Stmt:=JO (JZ 37) 6
abbrev Jf6:Stmt:=JO (JZ 37) 7
abbrev JeN:Stmt:=JO (JZ 37) 8
abbrev JhE:Stmt:=JO (JZ 37) 9
abbrev JgZ:Stmt:=JO (JZ 37) 10
abbrev Jdw:Stmt:=JO (JZ 37) 11
abbrev Jf7:Stmt:=JO (JZ 37) 12
abbrev Jga:Stmt:=JO (JZ 37) 13
abbrev JfZ:Stmt:=JZ 41
abbrev JfY:Stmt:=JZ 42
abbrev Jf3:Stmt:=JO (JZ 43) 0
abbrev JbC:Stmt:=JO (JZ 43) 1
abbrev JbR:Stmt:=JO (JZ 43) 2
abbrev JeK:Stmt:=JO (JZ 43) 3
abbrev Jcw:Stmt:=JO (JZ 43) 4
abbrev Jf4:Stmt:=JO (JZ 43) 5
abbrev Jdt:Stmt:=JO (JZ 43) 6
abbrev JeI:Stmt:=JO (JZ 43) 7
abbrev JbQ:Stmt:=JO (JZ 43) 8
abbrev JgW:Stmt:=JO (JZ 43) 9
abbrev JeF:Stmt:=JO (JZ 43) 10
abbrev JeJ:Stmt:=JO (JZ 43) 11
abbrev Jf2:Stmt:=JO (JZ 43) 12
abbrev Jds:Stmt:=JO (JZ 43) 13
abbrev Jf0:Stmt:=JO (JZ 43) 14
abbrev JgX:Stmt:=JO (JZ 43) 15
abbrev Jdu:Stmt:=JO (JZ 43) 16
abbrev Jf1:Stmt:=JO (JZ 43) 17
abbrev Jf5:Stmt:=JO (JZ 43) 18
abbrev JeH:Stmt:=JO (JZ 43) 19
abbrev JeG:Stmt:=JO (JZ 43) 20
abbrev Ja9:Stmt:=JZ 47
abbrev Jdq:Stmt:=JZ 48
abbrev Jcv:Stmt:=JZ 49
abbrev Jdn:Stmt:=JZ 50
abbrev Jdo:Stmt:=JZ 51
abbrev JeQ:Stmt:=JO (JZ 52) 0
abbrev Jax:Stmt:=JO (JZ 52) 1
abbrev JbT:Stmt:=JO (JZ 52) 2
abbrev JbU:Stmt:=JO (JZ 52) 3
abbrev Jsl:Stmt:=JZ 54
abbrev Jpk:Stmt:=JZ 55
abbrev JkS:Stmt:=JZ 56
abbrev Jiy:Stmt:=JZ 57
abbrev JkU:Stmt:=JZ 58
abbrev Jiz:Stmt:=JZ 59
abbrev JeD:Stmt:=JZ 60
abbrev JkT:Stmt:=JZ 61
abbrev Jnf:Stmt:=JZ 62
abbrev JjT:Stmt:=JZ 63
abbrev Jpl:Stmt:=JZ 64
abbrev Jng:Stmt:=JZ 65
abbrev Jpi:Stmt:=JZ 66
abbrev Jix:Stmt:=JZ 67
abbrev JkW:Stmt:=JZ 68
abbrev Jnh:Stmt:=JZ 69
abbrev JkY:Stmt:=JZ 70
abbrev Jpm:Stmt:=JZ 71
abbrev JhD:Stmt:=JZ 72
abbrev JeC:Stmt:=JZ 73
abbrev Jne:Stmt:=JZ 74
abbrev Jpn:Stmt:=JZ 75
abbrev Jpj:Stmt:=JZ 76
abbrev JhC:Stmt:=JZ 77
abbrev JgV:Stmt:=JZ 78
def Jse (K:Frag):List (Bool):=[JQ K "good_name",
 JQ K "check_hand",
 JQ K "other",
 JQ K "check_up_to",
 JQ K "check_coins",
 JQ K "check_bid",
 JQ K "check_standing",
 JQ K "ended",
 JQ K "coins_of",
 JQ K "pay",
 JQ K "settle",
 JS K "Book" "__init__",
 PySem.W.isFn K (.ref (Jl K "Book" "__init__")),
 JS K "Book" "needs_with",
 PySem.W.isFn K (.ref (Jl K "Book" "needs_with")),
 JS K "Book" "need_at",
 PySem.W.isFn K (.ref (Jl K "Book" "need_at")),
 JS K "Book" "need_where_north_leads",
 PySem.W.isFn K (.ref (Jl K "Book" "need_where_north_leads")),
 JS K "Book" "need_where_south_leads",
 PySem.W.isFn K (.ref (Jl K "Book" "need_where_south_leads")),
 JS K "Book" "check_share",
 PySem.W.isFn K (.ref (Jl K "Book" "check_share")),
 JS K "Book" "winner",
 PySem.W.isFn K (.ref (Jl K "Book" "winner")),
 JS K "Book" "least",
 PySem.W.isFn K (.ref (Jl K "Book" "least")),
 JS K "Book" "bid_of",
 PySem.W.isFn K (.ref (Jl K "Book" "bid_of")),
 JS K "Book" "answer_of",
 PySem.W.isFn K (.ref (Jl K "Book" "answer_of")),
 JS K "Book" "answer_wins",
 PySem.W.isFn K (.ref (Jl K "Book" "answer_wins")),
 JS K "Book" "step_of",
 PySem.W.isFn K (.ref (Jl K "Book" "step_of")),
 JS K "Moment" "__init__",
 PySem.W.isFn K (.ref (Jl K "Moment" "__init__")),
 JQ K "turn_begin",
 JQ K "told_by",
 JS K "Game" "__init__",
 PySem.W.isFn K (.ref (Jl K "Game" "__init__")),
 JS K "Game" "standing",
 PySem.W.isFn K (.ref (Jl K "Game" "standing")),
 JS K "Game" "due",
 PySem.W.isFn K (.ref (Jl K "Game" "due")),
 JS K "Game" "named",
 PySem.W.isFn K (.ref (Jl K "Game" "named")),
 JS K "Game" "deeds",
 PySem.W.isFn K (.ref (Jl K "Game" "deeds")),
 JS K "Game" "over",
 PySem.W.isFn K (.ref (Jl K "Game" "over")),
 JS K "Game" "winner",
 PySem.W.isFn K (.ref (Jl K "Game" "winner")),
 JS K "Game" "told",
 PySem.W.isFn K (.ref (Jl K "Game" "told")),
 JS K "Game" "check_due",
 PySem.W.isFn K (.ref (Jl K "Game" "check_due")),
 JS K "Game" "go_on",
 PySem.W.isFn K (.ref (Jl K "Game" "go_on")),
 JS K "Game" "bid",
 PySem.W.isFn K (.ref (Jl K "Game" "bid")),
 JS K "Game" "answer",
 PySem.W.isFn K (.ref (Jl K "Game" "answer")),
 JS K "Game" "step",
 PySem.W.isFn K (.ref (Jl K "Game" "step")),
 JS K "Game" "back",
 PySem.W.isFn K (.ref (Jl K "Game" "back")),
 JQ K "check_new",
 JQ K "find_kept",
 JS K "Hall" "__init__",
 PySem.W.isFn K (.ref (Jl K "Hall" "__init__")),
 JS K "Hall" "add_board",
 PySem.W.isFn K (.ref (Jl K "Hall" "add_board")),
 JS K "Hall" "board_of",
 PySem.W.isFn K (.ref (Jl K "Hall" "board_of")),
 JS K "Hall" "begin",
 PySem.W.isFn K (.ref (Jl K "Hall" "begin")),
 JS K "Hall" "game_of",
 PySem.W.isFn K (.ref (Jl K "Hall" "game_of")),
 JS K "Hall" "drop",
 PySem.W.isFn K (.ref (Jl K "Hall" "drop")),
 JS K "Hall" "boards",
 PySem.W.isFn K (.ref (Jl K "Hall" "boards")),
 JS K "Hall" "games",
 PySem.W.isFn K (.ref (Jl K "Hall" "games")),
 JS K "Hall" "standing",
 PySem.W.isFn K (.ref (Jl K "Hall" "standing")),
 JS K "Hall" "due",
 PySem.W.isFn K (.ref (Jl K "Hall" "due")),
 JS K "Hall" "named",
 PySem.W.isFn K (.ref (Jl K "Hall" "named")),
 JS K "Hall" "deeds",
 PySem.W.isFn K (.ref (Jl K "Hall" "deeds")),
 JS K "Hall" "over",
 PySem.W.isFn K (.ref (Jl K "Hall" "over")),
 JS K "Hall" "winner",
 PySem.W.isFn K (.ref (Jl K "Hall" "winner")),
 JS K "Hall" "told",
 PySem.W.isFn K (.ref (Jl K "Hall" "told")),
 JS K "Hall" "bid",
 PySem.W.isFn K (.ref (Jl K "Hall" "bid")),
 JS K "Hall" "answer",
 PySem.W.isFn K (.ref (Jl K "Hall" "answer")),
 JS K "Hall" "step",
 PySem.W.isFn K (.ref (Jl K "Hall" "step")),
 JS K "Hall" "back",
 PySem.W.isFn K (.ref (Jl K "Hall" "back")),
 JS K "Hall" "judge",
 PySem.W.isFn K (.ref (Jl K "Hall" "judge")),
 JS K "Hall" "least",
 PySem.W.isFn K (.ref (Jl K "Hall" "least")),
 JQ K "check_each_once",
 JQ K "check_among",
 JQ K "check_places",
 JQ K "check_lanes",
 JQ K "check_goals",
 JS K "Board" "__init__",
 PySem.W.isFn K (.ref (Jl K "Board" "__init__")),
 JS K "Board" "check_place",
 PySem.W.isFn K (.ref (Jl K "Board" "check_place")),
 JS K "Board" "ways",
 PySem.W.isFn K (.ref (Jl K "Board" "ways")),
 JS K "Board" "is_goal",
 PySem.W.isFn K (.ref (Jl K "Board" "is_goal")),
 JQ K "_law_at",
 JQ K "_law_row",
 JQ K "_law_whole",
 JQ K "_law_names",
 JQ K "_law_pairs",
 JQ K "_law_goals",
 JQ K "_law_ground",
 JQ K "_law_total",
 JQ K "_law_left",
 JQ K "_law_ways",
 JQ K "_law_foe",
 JQ K "_law_hand",
 JQ K "_law_won",
 JQ K "_law_which",
 JQ K "_law_holds",
 JQ K "_law_flat",
 JQ K "_law_deeds",
 JQ K "_law_due",
 JQ K "_law_opening",
 JQ K "_law_hall_shows",
 JQ K "_law_open",
 JQ K "_law_ask",
 JQ K "_law_try",
 JQ K "_law_strange",
 JQ K "law",
 JQ K "HANDS",
 JQ K "BidmoverError",
 JQ K "BadName",
 JQ K "BadHand",
 JQ K "OutOfRange",
 JQ K "Twice",
 JQ K "NoPlace",
 JQ K "BadBid",
 JQ K "NoLane",
 JQ K "NotDue",
 JQ K "NothingDone",
 JQ K "Taken",
 JQ K "Full",
 JQ K "Missing",
 JQ K "Book",
 JQ K "Moment",
 JQ K "Game",
 JQ K "Hall",
 JQ K "Board",
 PySem.W.plainGet K (Jf K "Book") Str.empty,
 PySem.W.hasDictIn K (Jf K "Book"),
 PySem.W.plainOver K (Jf K "Book"),
 PySem.W.makesIn K (Jf K "Book"),
 PySem.W.keepIn K (.ref (Jf K "Book")),
 PySem.W.plainGet K (Jf K "Moment") Str.empty,
 PySem.W.hasDictIn K (Jf K "Moment"),
 PySem.W.plainOver K (Jf K "Moment"),
 PySem.W.makesIn K (Jf K "Moment"),
 PySem.W.keepIn K (.ref (Jf K "Moment")),
 PySem.W.plainGet K (Jf K "Game") Str.empty,
 PySem.W.hasDictIn K (Jf K "Game"),
 PySem.W.plainOver K (Jf K "Game"),
 PySem.W.makesIn K (Jf K "Game"),
 PySem.W.keepIn K (.ref (Jf K "Game")),
 PySem.W.plainGet K (Jf K "Hall") Str.empty,
 PySem.W.hasDictIn K (Jf K "Hall"),
 PySem.W.plainOver K (Jf K "Hall"),
 PySem.W.makesIn K (Jf K "Hall"),
 PySem.W.keepIn K (.ref (Jf K "Hall")),
 PySem.W.plainGet K (Jf K "Board") Str.empty,
 PySem.W.hasDictIn K (Jf K "Board"),
 PySem.W.plainOver K (Jf K "Board"),
 PySem.W.makesIn K (Jf K "Board"),
 PySem.W.keepIn K (.ref (Jf K "Board")),
 PySem.W.excIn K (Jf K "BadHand") [.type "ValueError",.type "Exception",.type "BaseException",.type "object"] "ValueError.__new__",
 (PySem.W.clsIn K (Jf K "BadHand")).isSome,
 PySem.W.excIn K (Jf K "OutOfRange") [.type "ValueError",.type "Exception",.type "BaseException",.type "object"] "ValueError.__new__",
 (PySem.W.clsIn K (Jf K "OutOfRange")).isSome,
 PySem.W.excIn K (Jf K "BadBid") [.type "ValueError",.type "Exception",.type "BaseException",.type "object"] "ValueError.__new__",
 (PySem.W.clsIn K (Jf K "BadBid")).isSome,
 PySem.W.excIn K (Jf K "NotDue") [.type "ValueError",.type "Exception",.type "BaseException",.type "object"] "ValueError.__new__",
 (PySem.W.clsIn K (Jf K "NotDue")).isSome,
 PySem.W.excIn K (Jf K "NoLane") [.type "ValueError",.type "Exception",.type "BaseException",.type "object"] "ValueError.__new__",
 (PySem.W.clsIn K (Jf K "NoLane")).isSome,
 PySem.W.excIn K (Jf K "NothingDone") [.type "ValueError",.type "Exception",.type "BaseException",.type "object"] "ValueError.__new__",
 (PySem.W.clsIn K (Jf K "NothingDone")).isSome,
 PySem.W.excIn K (Jf K "BadName") [.type "ValueError",.type "Exception",.type "BaseException",.type "object"] "ValueError.__new__",
 (PySem.W.clsIn K (Jf K "BadName")).isSome,
 PySem.W.excIn K (Jf K "Taken") [.type "ValueError",.type "Exception",.type "BaseException",.type "object"] "ValueError.__new__",
 (PySem.W.clsIn K (Jf K "Taken")).isSome,
 PySem.W.excIn K (Jf K "Full") [.type "ValueError",.type "Exception",.type "BaseException",.type "object"] "ValueError.__new__",
 (PySem.W.clsIn K (Jf K "Full")).isSome,
 PySem.W.excIn K (Jf K "Missing") [.type "ValueError",.type "Exception",.type "BaseException",.type "object"] "ValueError.__new__",
 (PySem.W.clsIn K (Jf K "Missing")).isSome,
 PySem.W.excIn K (Jf K "Twice") [.type "ValueError",.type "Exception",.type "BaseException",.type "object"] "ValueError.__new__",
 (PySem.W.clsIn K (Jf K "Twice")).isSome,
 PySem.W.excIn K (Jf K "NoPlace") [.type "ValueError",.type "Exception",.type "BaseException",.type "object"] "ValueError.__new__",
 (PySem.W.clsIn K (Jf K "NoPlace")).isSome]
def isB:List (Bool):=List.replicate 217 true
def Jsd (K:Frag):List (Option (FuncData×Bool)):=[JW K (Jf K "good_name") "good_name",
 JW K (Jf K "check_hand") "check_hand",
 JW K (Jf K "other") "other",
 JW K (Jf K "check_up_to") "check_up_to",
 JW K (Jf K "check_coins") "check_coins",
 JW K (Jf K "check_bid") "check_bid",
 JW K (Jf K "check_standing") "check_standing",
 JW K (Jf K "ended") "ended",
 JW K (Jf K "coins_of") "coins_of",
 JW K (Jf K "pay") "pay",
 JW K (Jf K "settle") "settle",
 JW K (Jl K "Book" "__init__") "Book.__init__",
 JW K (Jl K "Book" "needs_with") "Book.needs_with",
 JW K (Jl K "Book" "need_at") "Book.need_at",
 JW K (Jl K "Book" "need_where_north_leads") "Book.need_where_north_leads",
 JW K (Jl K "Book" "need_where_south_leads") "Book.need_where_south_leads",
 JW K (Jl K "Book" "check_share") "Book.check_share",
 JW K (Jl K "Book" "winner") "Book.winner",
 JW K (Jl K "Book" "least") "Book.least",
 JW K (Jl K "Book" "bid_of") "Book.bid_of",
 JW K (Jl K "Book" "answer_of") "Book.answer_of",
 JW K (Jl K "Book" "answer_wins") "Book.answer_wins",
 JW K (Jl K "Book" "step_of") "Book.step_of",
 JW K (Jl K "Moment" "__init__") "Moment.__init__",
 JW K (Jf K "turn_begin") "turn_begin",
 JW K (Jf K "told_by") "told_by",
 JW K (Jl K "Game" "__init__") "Game.__init__",
 JW K (Jl K "Game" "standing") "Game.standing",
 JW K (Jl K "Game" "due") "Game.due",
 JW K (Jl K "Game" "named") "Game.named",
 JW K (Jl K "Game" "deeds") "Game.deeds",
 JW K (Jl K "Game" "over") "Game.over",
 JW K (Jl K "Game" "winner") "Game.winner",
 JW K (Jl K "Game" "told") "Game.told",
 JW K (Jl K "Game" "check_due") "Game.check_due",
 JW K (Jl K "Game" "go_on") "Game.go_on",
 JW K (Jl K "Game" "bid") "Game.bid",
 JW K (Jl K "Game" "answer") "Game.answer",
 JW K (Jl K "Game" "step") "Game.step",
 JW K (Jl K "Game" "back") "Game.back",
 JW K (Jf K "check_new") "check_new",
 JW K (Jf K "find_kept") "find_kept",
 JW K (Jl K "Hall" "__init__") "Hall.__init__",
 JW K (Jl K "Hall" "add_board") "Hall.add_board",
 JW K (Jl K "Hall" "board_of") "Hall.board_of",
 JW K (Jl K "Hall" "begin") "Hall.begin",
 JW K (Jl K "Hall" "game_of") "Hall.game_of",
 JW K (Jl K "Hall" "drop") "Hall.drop",
 JW K (Jl K "Hall" "boards") "Hall.boards",
 JW K (Jl K "Hall" "games") "Hall.games",
 JW K (Jl K "Hall" "standing") "Hall.standing",
 JW K (Jl K "Hall" "due") "Hall.due",
 JW K (Jl K "Hall" "named") "Hall.named",
 JW K (Jl K "Hall" "deeds") "Hall.deeds",
 JW K (Jl K "Hall" "over") "Hall.over",
 JW K (Jl K "Hall" "winner") "Hall.winner",
 JW K (Jl K "Hall" "told") "Hall.told",
 JW K (Jl K "Hall" "bid") "Hall.bid",
 JW K (Jl K "Hall" "answer") "Hall.answer",
 JW K (Jl K "Hall" "step") "Hall.step",
 JW K (Jl K "Hall" "back") "Hall.back",
 JW K (Jl K "Hall" "judge") "Hall.judge",
 JW K (Jl K "Hall" "least") "Hall.least",
 JW K (Jf K "check_each_once") "check_each_once",
 JW K (Jf K "check_among") "check_among",
 JW K (Jf K "check_places") "check_places",
 JW K (Jf K "check_lanes") "check_lanes",
 JW K (Jf K "check_goals") "check_goals",
 JW K (Jl K "Board" "__init__") "Board.__init__",
 JW K (Jl K "Board" "check_place") "Board.check_place",
 JW K (Jl K "Board" "ways") "Board.ways",
 JW K (Jl K "Board" "is_goal") "Board.is_goal",
 JW K (Jf K "_law_at") "_law_at",
 JW K (Jf K "_law_row") "_law_row",
 JW K (Jf K "_law_whole") "_law_whole",
 JW K (Jf K "_law_names") "_law_names",
 JW K (Jf K "_law_pairs") "_law_pairs",
 JW K (Jf K "_law_goals") "_law_goals",
 JW K (Jf K "_law_ground") "_law_ground",
 JW K (Jf K "_law_total") "_law_total",
 JW K (Jf K "_law_left") "_law_left",
 JW K (Jf K "_law_ways") "_law_ways",
 JW K (Jf K "_law_foe") "_law_foe",
 JW K (Jf K "_law_hand") "_law_hand",
 JW K (Jf K "_law_won") "_law_won",
 JW K (Jf K "_law_which") "_law_which",
 JW K (Jf K "_law_holds") "_law_holds",
 JW K (Jf K "_law_flat") "_law_flat",
 JW K (Jf K "_law_deeds") "_law_deeds",
 JW K (Jf K "_law_due") "_law_due",
 JW K (Jf K "_law_opening") "_law_opening",
 JW K (Jf K "_law_hall_shows") "_law_hall_shows",
 JW K (Jf K "_law_open") "_law_open",
 JW K (Jf K "_law_ask") "_law_ask",
 JW K (Jf K "_law_try") "_law_try",
 JW K (Jf K "_law_strange") "_law_strange",
 JW K (Jf K "law") "law"]
def isF:List (Option (FuncData×Bool)):=[JX "good_name" "good_name" JcV,
 JX "check_hand" "check_hand" JeE,
 JX "other" "other" JkV,
 JX "check_up_to" "check_up_to" Jdm,
 JX "check_coins" "check_coins" Jdp,
 JX "check_bid" "check_bid" JiT,
 JX "check_standing" "check_standing" JbB,
 JX "ended" "ended" JkX,
 JX "coins_of" "coins_of" JjU,
 JX "pay" "pay" Jtk,
 JX "settle" "settle" Jnd,
 JX "__init__" "Book.__init__" Jgb,
 JX "needs_with" "Book.needs_with" Jba,
 JX "need_at" "Book.need_at" Jcx,
 JX "need_where_north_leads" "Book.need_where_north_leads" YM,
 JX "need_where_south_leads" "Book.need_where_south_leads" YL,
 JX "check_share" "Book.check_share" JaN,
 JX "winner" "Book.winner" Jdx,
 JX "least" "Book.least" JeO,
 JX "bid_of" "Book.bid_of" Jhn,
 JX "answer_of" "Book.answer_of" JeP,
 JX "answer_wins" "Book.answer_wins" Jdc,
 JX "step_of" "Book.step_of" JgA,
 JX "__init__" "Moment.__init__" Jdr,
 JX "turn_begin" "turn_begin" JeB,
 JX "told_by" "told_by" JlQ,
 JX "__init__" "Game.__init__" Jf9,
 JX "standing" "Game.standing" JbS,
 JX "due" "Game.due" JgY,
 JX "named" "Game.named" JeL,
 JX "deeds" "Game.deeds" JeM,
 JX "over" "Game.over" Jf8,
 JX "winner" "Game.winner" Jdv,
 JX "told" "Game.told" Jf6,
 JX "check_due" "Game.check_due" JeN,
 JX "go_on" "Game.go_on" JhE,
 JX "bid" "Game.bid" JgZ,
 JX "answer" "Game.answer" Jdw,
 JX "step" "Game.step" Jf7,
 JX "back" "Game.back" Jga,
 JX "check_new" "check_new" JfZ,
 JX "find_kept" "find_kept" JfY,
 JX "__init__" "Hall.__init__" Jf3,
 JX "add_board" "Hall.add_board" JbC,
 JX "board_of" "Hall.board_of" JbR,
 JX "begin" "Hall.begin" JeK,
 JX "game_of" "Hall.game_of" Jcw,
 JX "drop" "Hall.drop" Jf4,
 JX "boards" "Hall.boards" Jdt,
 JX "games" "Hall.games" JeI,
 JX "standing" "Hall.standing" JbQ,
 JX "due" "Hall.due" JgW,
 JX "named" "Hall.named" JeF,
 JX "deeds" "Hall.deeds" JeJ,
 JX "over" "Hall.over" Jf2,
 JX "winner" "Hall.winner" Jds,
 JX "told" "Hall.told" Jf0,
 JX "bid" "Hall.bid" JgX,
 JX "answer" "Hall.answer" Jdu,
 JX "step" "Hall.step" Jf1,
 JX "back" "Hall.back" Jf5,
 JX "judge" "Hall.judge" JeH,
 JX "least" "Hall.least" JeG,
 JX "check_each_once" "check_each_once" Ja9,
 JX "check_among" "check_among" Jdq,
 JX "check_places" "check_places" Jcv,
 JX "check_lanes" "check_lanes" Jdn,
 JX "check_goals" "check_goals" Jdo,
 JX "__init__" "Board.__init__" JeQ,
 JX "check_place" "Board.check_place" Jax,
 JX "ways" "Board.ways" JbT,
 JX "is_goal" "Board.is_goal" JbU,
 JX "_law_at" "_law_at" Jsl,
 JX "_law_row" "_law_row" Jpk,
 JX "_law_whole" "_law_whole" JkS,
 JX "_law_names" "_law_names" Jiy,
 JX "_law_pairs" "_law_pairs" JkU,
 JX "_law_goals" "_law_goals" Jiz,
 JX "_law_ground" "_law_ground" JeD,
 JX "_law_total" "_law_total" JkT,
 JX "_law_left" "_law_left" Jnf,
 JX "_law_ways" "_law_ways" JjT,
 JX "_law_foe" "_law_foe" Jpl,
 JX "_law_hand" "_law_hand" Jng,
 JX "_law_won" "_law_won" Jpi,
 JX "_law_which" "_law_which" Jix,
 JX "_law_holds" "_law_holds" JkW,
 JX "_law_flat" "_law_flat" Jnh,
 JX "_law_deeds" "_law_deeds" JkY,
 JX "_law_due" "_law_due" Jpm,
 JX "_law_opening" "_law_opening" JhD,
 JX "_law_hall_shows" "_law_hall_shows" JeC,
 JX "_law_open" "_law_open" Jne,
 JX "_law_ask" "_law_ask" Jpn,
 JX "_law_try" "_law_try" Jpj,
 JX "_law_strange" "_law_strange" JhC,
 JX "law" "law" JgV]
def Jsb (K:Frag):List (Option (Option Value)):=[PySem.W.nsIn K mainGlobals "all",
 PySem.W.nsIn K mainGlobals "len",
 PySem.W.nsIn K mainGlobals "range",
 PySem.W.nsIn K mainGlobals "min",
 PySem.W.nsIn K mainGlobals "max",
 PySem.W.nsIn K mainGlobals "tuple",
 PySem.W.nsIn K mainGlobals "sorted",
 PySem.W.nsIn K mainGlobals "set",
 PySem.W.nsIn K mainGlobals "isinstance",
 PySem.W.nsIn K mainGlobals "int",
 PySem.W.nsIn K mainGlobals "bool",
 PySem.W.nsIn K mainGlobals "str",
 PySem.W.nsIn K mainGlobals "ValueError",
 PySem.W.nsIn K mainGlobals "list",
 PySem.W.findIn K (.ref (Jf K "Book")) "__setattr__",
 PySem.W.findIn K (.ref (Jf K "Book")) "board",
 PySem.W.findIn K (.ref (Jf K "Book")) "coins",
 PySem.W.findIn K (.ref (Jf K "Book")) "turns",
 PySem.W.findIn K (.ref (Jf K "Book")) "needs",
 PySem.W.findIn K (.ref (Jf K "Moment")) "__setattr__",
 PySem.W.findIn K (.ref (Jf K "Moment")) "place",
 PySem.W.findIn K (.ref (Jf K "Moment")) "turns",
 PySem.W.findIn K (.ref (Jf K "Moment")) "north",
 PySem.W.findIn K (.ref (Jf K "Moment")) "south",
 PySem.W.findIn K (.ref (Jf K "Moment")) "ribbon",
 PySem.W.findIn K (.ref (Jf K "Moment")) "hand",
 PySem.W.findIn K (.ref (Jf K "Moment")) "word",
 PySem.W.findIn K (.ref (Jf K "Moment")) "heard",
 PySem.W.findIn K (.ref (Jf K "Game")) "__setattr__",
 PySem.W.findIn K (.ref (Jf K "Game")) "board",
 PySem.W.findIn K (.ref (Jf K "Game")) "book",
 PySem.W.findIn K (.ref (Jf K "Game")) "done",
 PySem.W.findIn K (.ref (Jf K "Game")) "moments",
 PySem.W.findIn K (.ref (Jf K "Hall")) "__setattr__",
 PySem.W.findIn K (.ref (Jf K "Hall")) "kept_boards",
 PySem.W.findIn K (.ref (Jf K "Hall")) "kept_games",
 PySem.W.findIn K (.ref (Jf K "Board")) "__setattr__",
 PySem.W.findIn K (.ref (Jf K "Board")) "places",
 PySem.W.findIn K (.ref (Jf K "Board")) "lanes",
 PySem.W.findIn K (.ref (Jf K "Board")) "goals",
 PySem.W.specialIn K (.builtin "object.__class__") "__get__",
 PySem.W.findIn K (.ref (Jf K "BadHand")) "__getattribute__",
 PySem.W.findIn K (.ref (Jf K "BadHand")) "__getattr__",
 PySem.W.findIn K (.ref (Jf K "BadHand")) "__class__",
 PySem.W.findIn K (.ref (Jf K "OutOfRange")) "__getattribute__",
 PySem.W.findIn K (.ref (Jf K "OutOfRange")) "__getattr__",
 PySem.W.findIn K (.ref (Jf K "OutOfRange")) "__class__",
 PySem.W.findIn K (.ref (Jf K "BadBid")) "__getattribute__",
 PySem.W.findIn K (.ref (Jf K "BadBid")) "__getattr__",
 PySem.W.findIn K (.ref (Jf K "BadBid")) "__class__",
 PySem.W.findIn K (.ref (Jf K "NotDue")) "__getattribute__",
 PySem.W.findIn K (.ref (Jf K "NotDue")) "__getattr__",
 PySem.W.findIn K (.ref (Jf K "NotDue")) "__class__",
 PySem.W.findIn K (.ref (Jf K "NoLane")) "__getattribute__",
 PySem.W.findIn K (.ref (Jf K "NoLane")) "__getattr__",
 PySem.W.findIn K (.ref (Jf K "NoLane")) "__class__",
 PySem.W.findIn K (.ref (Jf K "NothingDone")) "__getattribute__",
 PySem.W.findIn K (.ref (Jf K "NothingDone")) "__getattr__",
 PySem.W.findIn K (.ref (Jf K "NothingDone")) "__class__",
 PySem.W.findIn K (.ref (Jf K "BadName")) "__getattribute__",
 PySem.W.findIn K (.ref (Jf K "BadName")) "__getattr__",
 PySem.W.findIn K (.ref (Jf K "BadName")) "__class__",
 PySem.W.findIn K (.ref (Jf K "Taken")) "__getattribute__",
 PySem.W.findIn K (.ref (Jf K "Taken")) "__getattr__",
 PySem.W.findIn K (.ref (Jf K "Taken")) "__class__",
 PySem.W.findIn K (.ref (Jf K "Full")) "__getattribute__",
 PySem.W.findIn K (.ref (Jf K "Full")) "__getattr__",
 PySem.W.findIn K (.ref (Jf K "Full")) "__class__",
 PySem.W.findIn K (.ref (Jf K "Missing")) "__getattribute__",
 PySem.W.findIn K (.ref (Jf K "Missing")) "__getattr__",
 PySem.W.findIn K (.ref (Jf K "Missing")) "__class__",
 PySem.W.findIn K (.ref (Jf K "Twice")) "__getattribute__",
 PySem.W.findIn K (.ref (Jf K "Twice")) "__getattr__",
 PySem.W.findIn K (.ref (Jf K "Twice")) "__class__",
 PySem.W.findIn K (.ref (Jf K "NoPlace")) "__getattribute__",
 PySem.W.findIn K (.ref (Jf K "NoPlace")) "__getattr__",
 PySem.W.findIn K (.ref (Jf K "NoPlace")) "__class__"]
def isN:List (Option (Option Value)):=[some none,
 some none,
 some none,
 some none,
 some none,
 some none,
 some none,
 some none,
 some none,
 some none,
 some none,
 some none,
 some none,
 some none,
 some (some (.builtin "object.__setattr__")),
 some none,
 some none,
 some none,
 some none,
 some (some (.builtin "object.__setattr__")),
 some none,
 some none,
 some none,
 some none,
 some none,
 some none,
 some none,
 some none,
 some (some (.builtin "object.__setattr__")),
 some none,
 some none,
 some none,
 some none,
 some (some (.builtin "object.__setattr__")),
 some none,
 some none,
 some (some (.builtin "object.__setattr__")),
 some none,
 some none,
 some none,
 some (some (.builtin "getset_descriptor.__get__")),
 some (some (.builtin "BaseException.__getattribute__")),
 some none,
 some (some (.builtin "object.__class__")),
 some (some (.builtin "BaseException.__getattribute__")),
 some none,
 some (some (.builtin "object.__class__")),
 some (some (.builtin "BaseException.__getattribute__")),
 some none,
 some (some (.builtin "object.__class__")),
 some (some (.builtin "BaseException.__getattribute__")),
 some none,
 some (some (.builtin "object.__class__")),
 some (some (.builtin "BaseException.__getattribute__")),
 some none,
 some (some (.builtin "object.__class__")),
 some (some (.builtin "BaseException.__getattribute__")),
 some none,
 some (some (.builtin "object.__class__")),
 some (some (.builtin "BaseException.__getattribute__")),
 some none,
 some (some (.builtin "object.__class__")),
 some (some (.builtin "BaseException.__getattribute__")),
 some none,
 some (some (.builtin "object.__class__")),
 some (some (.builtin "BaseException.__getattribute__")),
 some none,
 some (some (.builtin "object.__class__")),
 some (some (.builtin "BaseException.__getattribute__")),
 some none,
 some (some (.builtin "object.__class__")),
 some (some (.builtin "BaseException.__getattribute__")),
 some none,
 some (some (.builtin "object.__class__")),
 some (some (.builtin "BaseException.__getattribute__")),
 some none,
 some (some (.builtin "object.__class__"))]
def Jsc (K:Frag):List (Option Bool):=[PySem.W.takesIn K (.builtin "object.__class__"),
 PySem.W.mroIn K (Jf K "BadHand") (.type "object"),
 PySem.W.mroIn K (Jf K "BadHand") (.type "BaseException"),
 PySem.W.mroIn K (Jf K "OutOfRange") (.type "object"),
 PySem.W.mroIn K (Jf K "OutOfRange") (.type "BaseException"),
 PySem.W.mroIn K (Jf K "BadBid") (.type "object"),
 PySem.W.mroIn K (Jf K "BadBid") (.type "BaseException"),
 PySem.W.mroIn K (Jf K "NotDue") (.type "object"),
 PySem.W.mroIn K (Jf K "NotDue") (.type "BaseException"),
 PySem.W.mroIn K (Jf K "NoLane") (.type "object"),
 PySem.W.mroIn K (Jf K "NoLane") (.type "BaseException"),
 PySem.W.mroIn K (Jf K "NothingDone") (.type "object"),
 PySem.W.mroIn K (Jf K "NothingDone") (.type "BaseException"),
 PySem.W.mroIn K (Jf K "BadName") (.type "object"),
 PySem.W.mroIn K (Jf K "BadName") (.type "BaseException"),
 PySem.W.mroIn K (Jf K "Taken") (.type "object"),
 PySem.W.mroIn K (Jf K "Taken") (.type "BaseException"),
 PySem.W.mroIn K (Jf K "Full") (.type "object"),
 PySem.W.mroIn K (Jf K "Full") (.type "BaseException"),
 PySem.W.mroIn K (Jf K "Missing") (.type "object"),
 PySem.W.mroIn K (Jf K "Missing") (.type "BaseException"),
 PySem.W.exmOne K (.ref (Jf K "Missing")) (.ref (Jf K "BidmoverError")),
 PySem.W.kitOne K (.ref (Jf K "Missing")) (.type "ValueError"),
 PySem.W.kitOne K (.ref (Jf K "Missing")) (.ref (Jf K "BadName")),
 PySem.W.kitOne K (.ref (Jf K "Missing")) (.ref (Jf K "BadHand")),
 PySem.W.kitOne K (.ref (Jf K "Missing")) (.ref (Jf K "OutOfRange")),
 PySem.W.kitOne K (.ref (Jf K "Missing")) (.ref (Jf K "Twice")),
 PySem.W.kitOne K (.ref (Jf K "Missing")) (.ref (Jf K "NoPlace")),
 PySem.W.kitOne K (.ref (Jf K "Missing")) (.ref (Jf K "BadBid")),
 PySem.W.kitOne K (.ref (Jf K "Missing")) (.ref (Jf K "NoLane")),
 PySem.W.kitOne K (.ref (Jf K "Missing")) (.ref (Jf K "NotDue")),
 PySem.W.kitOne K (.ref (Jf K "Missing")) (.ref (Jf K "NothingDone")),
 PySem.W.kitOne K (.ref (Jf K "Missing")) (.ref (Jf K "Taken")),
 PySem.W.kitOne K (.ref (Jf K "Missing")) (.ref (Jf K "Full")),
 PySem.W.kitOne K (.ref (Jf K "Missing")) (.ref (Jf K "Missing")),
 PySem.W.mroIn K (Jf K "Twice") (.type "object"),
 PySem.W.mroIn K (Jf K "Twice") (.type "BaseException"),
 PySem.W.mroIn K (Jf K "NoPlace") (.type "object"),
 PySem.W.mroIn K (Jf K "NoPlace") (.type "BaseException")]
def isK:List (Option Bool):=[some true,
 some true,
 some true,
 some true,
 some true,
 some true,
 some true,
 some true,
 some true,
 some true,
 some true,
 some true,
 some true,
 some true,
 some true,
 some true,
 some true,
 some true,
 some true,
 some true,
 some true,
 some true,
 some true,
 some false,
 some false,
 some false,
 some false,
 some false,
 some false,
 some false,
 some false,
 some false,
 some false,
 some false,
 some true,
 some true,
 some true,
 some true,
 some true]
def Jr9 (K:Frag):List (Option (Sum Int Str)):=[obV K "MOST_SIGNS",
 obV K "MOST_TURNS",
 obV K "MOST_COINS",
 obV K "MOST_BOARDS",
 obV K "MOST_GAMES",
 obV K "MOST_PLACES",
 obV K "MOST_LANES"]
def isV:List (Option (Sum Int Str)):=[some (.inl 6),
 some (.inl 30),
 some (.inl 20),
 some (.inl 12),
 some (.inl 20),
 some (.inl 12),
 some (.inl 40)]
def Jsa (K:Frag):List (Option (Bool×List (Option (Sum Int Str)))):=[obT K "HANDS"]
def isT:List (Option (Bool×List (Option (Sum Int Str)))):=[some (true,([.inr "north",.inr "south"]:List (Sum Int Str)).map some)]
def see (s:Shared):=(fun K=>(Jse K,Jsd K,Jsb K,Jsc K,Jr9 K,Jsa K)) (Jrb s.heap)
def JmI:=(isB,isF,isN,isK,isV,isT)
def xt (s:Shared):Bool:=xlAt qv [] s && recOk [] s
set_option maxHeartbeats 0 in
theorem JuP (w:World) (os:OsState):(JkA pg w 14102 (JpV w.params os)).map (fun s=>Jpg pg qv lo0 xt see w.params s.abs)=some (true,openGood qv lo0,JmI):=by
 kernel_rfl
theorem Juo (P:Params):((boot_heap P).isNs mainGlobals && (Array.mk ([]:List GenState)).size == 0)=true:=by kernel_rfl
theorem Jsk:PySem.W.OpenLaw.wellSaid PySem.Challenge.rw_bidmover_k31_hall_missing=true:=by kernel_rfl
theorem left:LeftO pg qv lo0 xt see (fun _=>JmI) 14102:=Jui (by kernel_rfl) (by decide) (fun s=>by kernel_rfl) JuP Juo
end Pf
namespace L2
open PySem PySem.Spec PyProof.Rows
abbrev JI:=Sum Int Str
def Jg3:JI→Value→Bool
 | .inl k,v=>Value.isInt k v
 | .inr x,v=>Value.isStrOf x v
def JwC (w:World):JI→Int
 | .inl k=>hashInt k
 | .inr x=>hashStr w x
theorem Y8:∀ {k:JI} {v:Value},Jg3 k v=true→(∃ i t,k=Sum.inl i∧v=Value.int i t)∨(∃ x t,k=Sum.inr x∧v=Value.str x t)
 | .inl i,v,h=>by
  obtain ⟨t,e⟩:=Value.isInt_shape (k:=i) (v:=v) h;exact .inl ⟨i,t,rfl,e⟩
 | .inr x,v,h=>by
  obtain ⟨t,e⟩:=Value.isStrOf_shape (x:=x) (v:=v) h;exact .inr ⟨x,t,rfl,e⟩
theorem Jq2 (i:Int) (t:Tok):Jg3 (.inl i) (.int i t)=true:=by simp [Jg3,Value.isInt]
theorem Jq1 (x:Str) (t:Tok):Jg3 (.inr x) (.str x t)=true:=by simp [Jg3,Value.isStrOf]
theorem Jvm (a b:Int):decide ((Sum.inl a:JI)=Sum.inl b)=(a == b):=by
 by_cases e:a=b
 ·subst e; simp
 ·have h:¬ (Sum.inl a:JI)=Sum.inl b:=fun q=>e (Sum.inl.inj q)
  rw [decide_eq_false h];exact (beq_eq_false_iff_ne.mpr e).symm
theorem Jq0 (a b:Str):decide ((Sum.inr a:JI)=Sum.inr b)=decide (a=b):=by
 by_cases e:a=b
 ·subst e; simp
 ·have h:¬ (Sum.inr a:JI)=Sum.inr b:=fun q=>e (Sum.inr.inj q)
  rw [decide_eq_false h,decide_eq_false e]
theorem Jvl (a:Int) (b:Str):decide ((Sum.inl a:JI)=Sum.inr b)=false:=decide_eq_false (fun q=>nomatch q)
theorem Jvk (a:Str) (b:Int):decide ((Sum.inr a:JI)=Sum.inl b)=false:=decide_eq_false (fun q=>nomatch q)
def Yq (prog:Program) (w:World):PySem.KeyKind prog w JI where
 is:=Jg3
 hash:=JwC w
 inj:=fun v a b ha hb=>by
  rcases Y8 ha with ⟨i,t,rfl,rfl⟩ | ⟨x,t,rfl,rfl⟩
  ·rcases Y8 hb with ⟨j,u,rfl,e⟩ | ⟨y,u,rfl,e⟩
   ·injection e with e1 _; rw [e1]
   ·exact nomatch e
  ·rcases Y8 hb with ⟨j,u,rfl,e⟩ | ⟨y,u,rfl,e⟩
   ·exact nomatch e
   ·injection e with e1 _; rw [e1]
 byValue:=fun k v h=>by
  rcases Y8 h with ⟨i,t,rfl,rfl⟩ | ⟨x,t,rfl,rfl⟩ <;> rfl
 pyHash:=fun hv h=>by
  rcases Y8 hv with ⟨i,t,rfl,rfl⟩ | ⟨x,t,rfl,rfl⟩
  ·exact wpAny_pyHash_int h
  ·exact wpAny_pyHash_str h
 eqBool:=fun hu hv h=>by
  rcases Y8 hu with ⟨i,t,rfl,rfl⟩ | ⟨x,t,rfl,rfl⟩
  ·rcases Y8 hv with ⟨j,u,rfl,rfl⟩ | ⟨y,u,rfl,rfl⟩
   ·rw [Jvm] at h; exact wpAny_eqBool_int h
   ·rw [Jvl] at h; exact SeqAt.EqAt.int_str i t y u _ _ _ _ h
  ·rcases Y8 hv with ⟨j,u,rfl,rfl⟩ | ⟨y,u,rfl,rfl⟩
   ·rw [Jvk] at h; exact SeqAt.EqAt.str_int x t j u _ _ _ _ h
   ·rw [Jq0] at h; exact wpAny_eqBool_str h
 «strs»:=fun k x t v h=>by
  rcases Y8 h with ⟨i,u,rfl,e⟩ | ⟨y,u,rfl,e⟩
  ·exact nomatch e
  ·injection e with e1 _;subst e1;cases v <;> rfl
theorem Jpy (prog:Program) (w:World) (k:JI) (v:Value):(Yq prog w).is k v=Jg3 k v:=rfl
theorem Jow (prog:Program) (w:World) (i:Int) (t:Tok):(Yq prog w).is (.inl i) (.int i t)=true:=Jq2 i t
theorem Jbh (prog:Program) (w:World) (x:Str) (t:Tok):(Yq prog w).is (.inr x) (.str x t)=true:=Jq1 x t
end L2
namespace L2
open PySem PySem.Spec PyProof.Rows
inductive V where
 | non | bl (b:Bool) | int (i:Int) | str (x:Str) | byt (b:Array UInt8) | flt (b:UInt64) | ref (a:Addr) | ty (n:String)
 deriving DecidableEq
def JU:V→Value→Prop
 | .non,u=>u=Value.none
 | .bl b,u=>u=Value.bool b
 | .int i,u=>∃ t,u=Value.int i t
 | .str x,u=>∃ t,u=Value.str x t
 | .byt b,u=>∃ t,u=Value.bytes b t
 | .flt b,u=>∃ t,u=Value.float b t
 | .ref a,u=>u=Value.ref a
 | .ty n,u=>u=Value.type n
abbrev JK:List V→List Value→Prop:=Paired JU
theorem JK.length {xs:List V} {us:List Value} (r:JK xs us):xs.length=us.length:=Paired.length r
theorem JK.get:∀ {xs:List V} {us:List Value} {i:Nat} {x:V},JK xs us→xs[i]?=some x→∃ u,us[i]?=some u∧JU x u
 | _,_,_,_,.nil,e=>by simp at e
 | _,_,0,_,.cons r _,e=>by simp at e; subst e; exact ⟨_,rfl,r⟩
 | _,_,i + 1,x,.cons _ t,e=>by
  obtain ⟨u,h1,h2⟩:=JK.get (i:=i) (x:=x) t (by simpa using e);exact ⟨u,by simpa using h1,h2⟩
theorem JK.set {x:V} {u:Value} (r:JU x u):∀ {xs:List V} {us:List Value} (i:Nat),JK xs us→JK (xs.set i x) (us.set i u)
 | _,_,_,.nil=>.nil
 | _,_,0,.cons _ t=>.cons r t
 | _,_,i + 1,.cons q t=>.cons q (JK.set r i t)
theorem JK.append:∀ {xs ys:List V} {us ws:List Value},JK xs us→JK ys ws→JK (xs ++ ys) (us ++ ws)
 | _,_,_,_,.nil,s=>s
 | _,_,_,_,.cons r t,s=>.cons r (JK.append t s)
theorem JK.take:∀ {xs:List V} {us:List Value} (n:Nat),JK xs us→JK (xs.take n) (us.take n)
 | _,_,0,_=>.nil
 | _,_,_ + 1,.nil=>.nil
 | _,_,n + 1,.cons r t=>.cons r (JK.take n t)
theorem JK.drop:∀ {xs:List V} {us:List Value} (n:Nat),JK xs us→JK (xs.drop n) (us.drop n)
 | _,_,0,r=>r
 | _,_,_ + 1,.nil=>.nil
 | _,_,n + 1,.cons _ t=>JK.drop n t
theorem JK.none_of:∀ {xs:List V} {us:List Value} {i:Nat},JK xs us→xs[i]?=none→us[i]?=none:=fun {xs us i} r e=>by
 have h1:=r.length;have h2:xs.length≤i:=List.getElem?_eq_none_iff.mp e;exact List.getElem?_eq_none_iff.mpr (by omega)
def Jal:Option V→Option Value→Prop
 | some v,some u=>JU v u
 | none,none=>True
 | _,_=>False
def KV {κ:Type}:List (κ×V)→List (κ×Value)→Prop:=Paired fun (p:κ×V) (q:κ×Value)=>p.1=q.1∧JU p.2 q.2
def kV:JI→V
 | .inl i=>.int i
 | .inr x=>.str x
inductive HO where
 | lst (xs:List V)
 | tup (xs:List V)
 | dK (kvs:List (JI×V)) | dT (kvs:List (List JI×V))
 | set (S:Int→Bool) (n:Nat)
 | ins (C dx:Addr) (fs:List (Str×V))
 | own (x:Addr)
 | xd (fs:List (Str×V))
 | met (f x:Addr)
 | rng (lo hi:Int)
 | frz (o:Obj) (u:HO)
 | tbl (ps:Array Value)
 | ext (φ:Heap→Prop)
abbrev Hp:=Addr→Option HO
def upd (H:Hp) (a:Addr) (o:HO):Hp:=fun b=>if b=a then some o else H b
theorem Jj {H:Hp} {a:Addr} {o:HO}:upd H a o a=some o:=by unfold upd; rw [if_pos rfl]
theorem Js {H:Hp} {a b:Addr} {o:HO} (h:b≠a):upd H a o b=H b:=by unfold upd; rw [if_neg h]
theorem Jct {H:Hp} {a:Addr} {o u:HO}:upd (upd H a o) a u=upd H a u:=by
 funext b; unfold upd; split <;> rfl
theorem Jaj {H:Hp} {a b:Addr} {o u:HO} (h:H a=some o) (h':H b=some u) (d:o≠u):a≠b:=by
 intro e; subst e; rw [h] at h'; exact d (Option.some.inj h')
theorem Ju {H:Hp} {a b:Addr} {o:HO} (h:H a=some o) (h':H b=none):a≠b:=by
 intro e; subst e; rw [h] at h'; cases h'
section
variable (P:Program) (w:World)
def YD (H:Hp) (h:Heap) (a:Addr):HO→Prop
 | .lst xs=>xs.length≤sizeLine∧∃ (its:List Value) (n:Nat),JK xs its∧h.get? a=some { cls:=.type "list",data:=.seq its.toArray n }
 | .tup xs=>xs.length≤sizeLine∧∃ its:List Value,JK xs its∧IsTup h a its.toArray
 | .dK kvs=>kvs.length≤sizeLine∧(a == sysModules)=false∧∃ vs,KV kvs vs∧h.DictOf (Yq P w) a vs
 | .dT kvs=>kvs.length≤sizeLine∧(a == sysModules)=false∧∃ xs:List (List JI×Addr×Value),
   Paired (fun (p:List JI×V) (q:List JI×Addr×Value)=>p.1=q.1∧H q.2.1=some (.tup (p.1.map kV))∧JU p.2 q.2.2) kvs xs ∧
   ∃ o es ep,h.get? a=some o∧o.ExactDict∧o.data=.dict es ep∧es.toList=xs.map (entryOfKey (tupleKind (Yq P w)))∧(xs.map (·.1)).Nodup
 | .set S n=>h.SetOf (intKind P w) a S n
 | .ins C dx fs=>H dx=some (.own a)∧fs.length≤1000∧dx≠a∧h.get? a=some (PySem.W.instObj C dx) ∧
   ∃ mA,h.Ns1 dx mA∧(∀ f,Jal (fs.lookup f) (mA f))∧PySem.Within mA (fs.map (·.1))
 | .own _=>∃ o,h.get? a=some o
 | .xd fs=>∃ mA,h.Ns1 a mA∧∀ f,Jal (fs.lookup f) (mA f)
 | .rng lo hi=>∃ t u v,h.get? a=some { cls:=.type "range",data:=.fields #[.int lo t,.int hi u,.int 1 v] }
 | .frz o u=>h.get? a=some o∧YD H h a u
 | .tbl ps=>h.get? a=some { cls:=.none,data:=.fields ps }
 | .met f x=>h.get? a=some (PySem.W.methodObj (.ref f) (.ref x))
 | .ext φ=>φ h∧(∃ o,h.get? a=some o)∧∀ h1 h2:Heap,φ h1→(∀ o,h1.get? a=some o→h2.get? a=some o)→φ h2
def ZG (H:Hp) (h:Heap):Prop:=∀ a o,H a=some o→YD P w H h a o
end
section
variable {P:Program} {w:World} {H H':Hp} {h h':Heap} {a:Addr} {o:HO}
theorem YD.lt (x:YD P w H h a o):a < h.objs.size:=by
 cases o with
 | lst xs=>obtain ⟨_,_,_,_,e⟩:=x; exact Heap.lt_size e
 | tup xs=>obtain ⟨_,_,_,p⟩:=x; exact p.lt
 | dK kvs=>obtain ⟨_,_,_,_,o,_,_,e,_⟩:=x; exact Heap.lt_size e
 | dT kvs=>obtain ⟨_,_,_,_,o,_,_,e,_⟩:=x; exact Heap.lt_size e
 | set S n=>obtain ⟨o,_,_,_,e,_⟩:=x; exact Heap.lt_size e
 | ins C dx fs=>obtain ⟨_,_,_,e,_⟩:=x; exact Heap.lt_size e
 | own y=>obtain ⟨_,e⟩:=x; exact Heap.lt_size e
 | xd fs=>obtain ⟨_,⟨_,_,_,e,_⟩,_⟩:=x; exact Heap.lt_size e
 | rng lo hi=>obtain ⟨_,_,_,e⟩:=x; exact Heap.lt_size e
 | frz ob u=>obtain ⟨e,_⟩:=x; exact Heap.lt_size e
 | tbl ps=>exact Heap.lt_size (show h.get? a=some _ from x)
 | met f y=>exact Heap.lt_size (show h.get? a=some _ from x)
 | ext φ=>obtain ⟨_,⟨_,e⟩,_⟩:=x; exact Heap.lt_size e
theorem Paired.mapP {α β:Type} {F G:α→β→Prop}:∀ {l₁:List α} {l₂:List β},Paired F l₁ l₂→(∀ a b,F a b→G a b)→Paired G l₁ l₂
 | _,_,.nil,_=>.nil
 | _,_,.cons r t,f=>.cons (f _ _ r) (Paired.mapP t f)
theorem YD.stay (x:YD P w H h a o) (k:∀ b u,(b=a∨H b=some (.own a))→h.get? b=some u→h'.get? b=some u)
  (ho:∀ b,H b=some (.own a)→H' b=some (.own a)) (ht:∀ b xs,H b=some (.tup xs)→H' b=some (.tup xs)):YD P w H' h' a o:=by
 induction o with
 | lst xs=>obtain ⟨z,its,n,r,e⟩:=x; exact ⟨z,its,n,r,k _ _ (.inl rfl) e⟩
 | tup xs=>obtain ⟨z,its,r,ob,e,c⟩:=x; exact ⟨z,its,r,ob,k _ _ (.inl rfl) e,c⟩
 | dK kvs=>obtain ⟨z,y,vs,r,ob,es,ep,e,c⟩:=x; exact ⟨z,y,vs,r,ob,es,ep,k _ _ (.inl rfl) e,c⟩
 | dT kvs =>
  obtain ⟨z,y,xs,r,ob,es,ep,e,c⟩:=x;exact ⟨z,y,xs,Paired.mapP r fun p q z=>⟨z.1,ht _ _ z.2.1,z.2.2⟩,ob,es,ep,k _ _ (.inl rfl) e,c⟩
 | set S n=>obtain ⟨ob,es,ep,t,e,c⟩:=x; exact ⟨ob,es,ep,t,k _ _ (.inl rfl) e,c⟩
 | ins C dx fs =>
  obtain ⟨d,z,ne,e,mA,⟨od,es,ep,e2,c⟩,r⟩:=x;exact ⟨ho _ d,z,ne,k _ _ (.inl rfl) e,mA,⟨od,es,ep,k _ _ (.inr d) e2,c⟩,r⟩
 | own y=>obtain ⟨ob,e⟩:=x; exact ⟨ob,k _ _ (.inl rfl) e⟩
 | xd fs=>obtain ⟨mA,⟨od,es,ep,e,c⟩,r⟩:=x; exact ⟨mA,⟨od,es,ep,k _ _ (.inl rfl) e,c⟩,r⟩
 | rng lo hi=>obtain ⟨t,u,v,e⟩:=x; exact ⟨t,u,v,k _ _ (.inl rfl) e⟩
 | frz ob u ih=>obtain ⟨e,q⟩:=x; exact ⟨k _ _ (.inl rfl) e,ih q⟩
 | tbl ps =>
  have e:h.get? a=some { cls:=.none,data:=.fields ps }:=x;show h'.get? a=some { cls:=.none,data:=.fields ps };exact k a _ (.inl rfl) e
 | met f y =>
  have e:h.get? a=some (PySem.W.methodObj (.ref f) (.ref y)):=x;show h'.get? a=some (PySem.W.methodObj (.ref f) (.ref y));exact k a _ (.inl rfl) e
 | ext φ=>obtain ⟨p,⟨o,e⟩,st⟩:=x; exact ⟨st _ _ p fun o q=>k _ _ (.inl rfl) q,⟨o,k _ _ (.inl rfl) e⟩,st⟩
theorem ZG.lt (x:ZG P w H h) (e:H a=some o):a < h.objs.size:=(x a o e).lt
theorem ZG.fresh (x:ZG P w H h) (e:h.objs.size≤a):H a=none:=by
 cases q:H a with
 | none=>rfl
 | some u=>exact absurd (Nat.lt_of_lt_of_le (x.lt q) e) (Nat.lt_irrefl _)
theorem ZG.kept (x:ZG P w H h) (k:∀ b u,h.get? b=some u→h'.get? b=some u):ZG P w H h':=fun a o e =>
 (x a o e).stay (fun b u _ q=>k b u q) (fun _ q=>q) fun _ _ q=>q
theorem ZG.laid (x:ZG P w H h) (k:∀ b u,h.get? b=some u→h'.get? b=some u) (hp:h.objs.size≤a) (new:YD P w (upd H a o) h' a o):ZG P w (upd H a o) h':=fun b u e=>by
 have hn:=x.fresh hp;by_cases hb:b=a
 ·subst hb; rw [Jj] at e; cases e; exact new
 ·rw [Js hb] at e;exact (x b u e).stay (fun c v _ q=>k c v q) (fun c q=>by rw [Js (Ju q hn)]; exact q) fun c xs q=>by rw [Js (Ju q hn)]; exact q
end
def Rd (H:Hp) (a:Addr) (u:HO):Prop:=H a=some u∨∃ o,H a=some (.frz o u)
theorem Rd.of {H:Hp} {a:Addr} {u:HO} (h:H a=some u):Rd H a u:=.inl h
theorem Rd.ok {P:Program} {w:World} {H:Hp} {h:Heap} {a:Addr} {u:HO} (r:Rd H a u) (x:ZG P w H h):YD P w H h a u:=by
 rcases r with r | ⟨o,r⟩
 ·exact x a u r
 ·obtain ⟨_,q⟩:=x a _ r;exact q
def Mut:Option HO→Prop
 | some (.lst _)=>True
 | some (.dK _)=>True
 | some (.dT _)=>True
 | some (.set _ _)=>True
 | some (.ins _ _ _)=>True
 | some (.ext _)=>True
 | _=>False
section
variable {P:Program} {w:World} {H:Hp} {h h':Heap} {x e:Addr} {o':HO}
theorem ZG.write (ok:ZG P w H h) (mu:Mut (H x)) (he:e=x∨H e=some (.own x)) (k:∀ b u,b≠e→h.get? b=some u→h'.get? b=some u) (heo:∃ u,h'.get? e=some u)
  (new:YD P w (upd H x o') h' x o'):ZG P w (upd H x o') h':=fun b u q=>by
 have nown:∀ c y,H c=some (.own y)→c≠x:=fun c y r z=>by subst z; rw [r] at mu; exact mu
 have ntup:∀ c xs,H c=some (.tup xs)→c≠x:=fun c xs r z=>by subst z; rw [r] at mu; exact mu
 by_cases hb:b=x
 ·subst hb; rw [Jj] at q; cases q; exact new
 ·rw [Js hb] at q;by_cases hbe:b=e
  ·have q':H b=some (.own x):=by
    rcases he with z | z
    ·exact absurd (hbe.trans z) hb
    ·rw [hbe]; exact z
   rw [q] at q'; cases q';obtain ⟨v,hv⟩:=heo;exact ⟨v,by rw [hbe]; exact hv⟩
  ·refine (ok b u q).stay (fun c v hc r=>k c v ?_ r) (fun c r=>by rw [Js (nown c b r)]; exact r) fun c xs r=>by rw [Js (ntup c xs r)]; exact r
   rcases hc with rfl | hc
   ·exact hbe
   ·rintro rfl;rcases he with z | z
    ·exact nown c b hc z
    ·rw [hc] at z; cases z; exact hb rfl
end
structure Un (fs ex:List Addr) (H H':Hp) (h h':Heap):Prop where
 keep:∀ b o,h.get? b=some o→H b=none→b∉fs→b∉ex→h'.get? b=some o
 slot:∀ b o,h.get? b=some o→H b=none→b∈fs→b∉ex→∃ sl,h'.get? b=some { o with slots:=sl }
 free:∀ b o,h.get? b=some o→H b=none→b∉ex→H' b=none
 there:∀ b o,h.get? b=some o→b∉ex→∃ o',h'.get? b=some o'
 tups:∀ b xs,H b=some (.tup xs)→H' b=some (.tup xs)
 frzs:∀ b o u,H b=some (.frz o u)→H' b=some (.frz o u)
 tbls:∀ b ps,H b=some (.tbl ps)→∃ more,H' b=some (.tbl (ps ++ more))
section
variable {fs fs' ex ex':List Addr} {H H1 H2:Hp} {h h1 h2 h':Heap} {a x e:Addr} {o:HO}
theorem Un.any (u:Un fs ex H H1 h h1) {b:Addr} {ob:Obj} (q:h.get? b=some ob) (n:H b=none) (hx:b∉ex):∃ sl,h1.get? b=some { ob with slots:=sl }:=by
 by_cases hb:b∈fs
 ·exact u.slot b ob q n hb hx
 ·exact ⟨ob.slots,u.keep b ob q n hb hx⟩
theorem Un.trans (a:Un fs ex H H1 h h1) (b:Un fs ex H1 H2 h1 h2):Un fs ex H H2 h h2 where
 keep:=fun c ob q n hc hx=>b.keep c ob (a.keep c ob q n hc hx) (a.free c ob q n hx) hc hx
 slot:=fun c ob q n hc hx=>by
  obtain ⟨sl,e1⟩:=a.slot c ob q n hc hx;obtain ⟨sl',e2⟩:=b.slot c _ e1 (a.free c ob q n hx) hc hx;exact ⟨sl',e2⟩
 free:=fun c ob q n hx=>by
  obtain ⟨o',e1⟩:=a.there c ob q hx;exact b.free c o' e1 (a.free c ob q n hx) hx
 there:=fun c ob q hx=>by
  obtain ⟨o',e1⟩:=a.there c ob q hx;exact b.there c o' e1 hx
 tups:=fun c xs q=>b.tups c xs (a.tups c xs q)
 frzs:=fun c ob xs q=>b.frzs c ob xs (a.frzs c ob xs q)
 tbls:=fun c ps q=>by
  obtain ⟨m1,e1⟩:=a.tbls c ps q;obtain ⟨m2,e2⟩:=b.tbls c _ e1;exact ⟨m1 ++ m2,by rw [e2,Array.append_assoc]⟩
theorem Un.kept (k:∀ b u,h.get? b=some u→h'.get? b=some u):Un fs ex H H h h' :=
 ⟨fun b ob q _ _ _=>k b ob q,fun b ob q _ _ _=>⟨ob.slots,k b ob q⟩,fun _ _ _ n _=>n,fun b ob q _=>⟨ob,k b ob q⟩,fun _ _ q=>q,fun _ _ _ q=>q,fun _ ps q=>⟨#[],by rw [q]; simp⟩⟩
theorem Un.refl:Un fs ex H H h h:=Un.kept fun _ _ q=>q
theorem Un.laid (k:∀ b u,h.get? b=some u→h'.get? b=some u) (hp:h.objs.size≤a) (hn:H a=none):Un fs ex H (upd H a o) h h' where
 keep:=fun b u q _ _ _=>k b u q
 slot:=fun b u q _ _ _=>⟨u.slots,k b u q⟩
 free:=fun b u q n _=>by rw [Js (Nat.ne_of_lt (Nat.lt_of_lt_of_le (Heap.lt_size q) hp))]; exact n
 there:=fun b u q _=>⟨u,k b u q⟩
 tups:=fun b xs q=>by rw [Js (Ju q hn)]; exact q
 frzs:=fun b u xs q=>by rw [Js (Ju q hn)]; exact q
 tbls:=fun b ps q=>⟨#[],by rw [Js (Ju q hn),q]; simp⟩
theorem Un.write (mu:Mut (H x)) (he:e=x∨H e=some (.own x)) (k:∀ b u,b≠e→h.get? b=some u→h'.get? b=some u) (heo:∃ u,h'.get? e=some u):Un fs ex H (upd H x o) h h':=by
 have hx:∀ b,H b=none→b≠x:=fun b n z=>by subst z; rw [n] at mu; exact mu
 have hb:∀ b,H b=none→b≠e:=fun b n z=>by
  subst z;rcases he with r | r
  ·exact hx b n r
  ·rw [n] at r; cases r
 have hm:∀ b u,H b=some u→¬ Mut (some u)→b≠x:=fun b u q nm z=>by subst z; rw [q] at mu; exact nm mu
 refine ⟨fun b u q n _ _=>k b u (hb b n) q,fun b u q n _ _=>⟨u.slots,k b u (hb b n) q⟩,fun b u q n _=>by rw [Js (hx b n)]; exact n,fun b u q _=>?_,
  fun b xs q=>by rw [Js (hm b _ q fun z=>z)]; exact q,fun b u xs q=>by rw [Js (hm b _ q fun z=>z)]; exact q,fun b ps q=>⟨#[],by rw [Js (hm b _ q fun z=>z),q]; simp⟩⟩
 by_cases hbe:b=e
 ·subst hbe; exact heo
 ·exact ⟨u,k b u hbe q⟩
theorem Un.mono (u:Un fs ex H H1 h h1) (hs:∀ b∈fs,b∈fs') (hx:∀ b∈ex,b∈ex'):Un fs' ex' H H1 h h1 :=
 ⟨fun b ob q n hb he=>u.keep b ob q n (fun z=>hb (hs b z)) fun z=>he (hx b z),fun _ _ q n _ he=>u.any q n fun z=>he (hx _ z),fun b ob q n he=>u.free b ob q n fun z=>he (hx b z),fun b ob q he=>u.there b ob q fun z=>he (hx b z),u.tups,u.frzs,u.tbls⟩
end
def trk (h:Heap) (H:Hp):List Addr:=(List.range h.objs.size).filter fun a=>(H a).isSome
def Jg8 (h:Heap) (H:Hp):Heap:=PySem.W.hideAll h (trk h H)
theorem Jq8 (h:Heap) (H:Hp):(Jg8 h H).objs.size=h.objs.size:=PySem.W.hideAll_size _ _
theorem JsQ {h:Heap} {H:Hp} {b:Addr} {o:Obj} (e:h.get? b=some o) (n:H b=none):(Jg8 h H).get? b=some o :=
 PySem.W.hideAll_get _ e fun hm=>by
  have q:(H b).isSome=true:=(List.mem_filter.mp hm).2;rw [n] at q; simp at q
theorem Jt9 {h:Heap} {H:Hp} {b:Addr} {o:Obj} (e:(Jg8 h H).get? b=some o):h.get? b=some o∧H b=none:=by
 have e':h.get? b=some o:=PySem.W.of_hideAll (trk h H) e;refine ⟨e',?_⟩;cases q:H b with
 | none=>rfl
 | some x =>
  have hm:b∈trk h H:=List.mem_filter.mpr ⟨List.mem_range.mpr (Heap.lt_size e'),by simp [q]⟩;have z:(Jg8 h H).get? b=none:=PySem.W.hideAll_none (trk h H) hm;rw [z] at e; cases e
def Juq (g h:Heap) (L:Addr):List (Addr×Obj):=(List.range h.objs.size).filterMap fun a=>if a=L∨(g.get? a).isSome=true then none else (h.get? a).map fun o=>(a,o)
def rest (g h:Heap) (L d:Addr):List (Addr×Obj):=(Juq g h L).filter fun p=>decide (p.1≠d)
end L2
namespace L2
open PySem PySem.Spec PyProof.Rows
structure Mod (K:PySem.W.Frag) (mg:Str→Option Value) (base:Heap):Prop where
 kin:K.In base
 glob:base.Ns mainGlobals mg
 blt:∃ mb,base.Ns builtinsNs mb∧∀ x:Str,x ≠ "__name__"→mb x=bootBuiltins x
 nolimit:base.NoLimit
structure Cx where
 prog:Program
 w:World
 K:PySem.W.Frag
 mg:Str→Option Value
 base:Heap
 A:Around
 N:List Str
 s₀:Shared
 H₀:Hp
 env:Env
 outer:List Env
 stack:List Env
 ex:List Addr
 fn:Str→Bool
 calm:Bool
 pn:List (Addr×Obj)
 xe:Value→Shared→Prop
def ZQ (l:List Env):List Addr:=l.filterMap (·.frame)
abbrev Cx.fs (X:Cx):List Addr:=ZQ X.outer
def Vis (sc:Scope) (x:Str):Prop:=sc.names.lookup x=some .local∨sc.names.lookup x=some .cell∨sc.names.lookup x=some .free
def Loc (sc:Scope) (x:Str):Prop:=sc.names.lookup x=some .local∨sc.names.lookup x=some .cell
def JwI (env:Env) (h:Heap) (m:Str→Option Value) (x:Str) (u:Value):Prop :=
 (env.kindOf x=some .local∧m x=some u)∨((env.kindOf x=some .cell∨env.kindOf x=some .free)∧∃ c,env.cells.lookup x=some c∧h.IsCell c (some u))
structure Cx.Ok (X:Cx):Prop where
 mod:Mod X.K X.mg X.base
 kind:X.env.scope.kind=.function
 glob:X.env.globals=mainGlobals
 blt:X.env.builtins=builtinsNs
 above:X.s₀.heap.objs.size≤X.env.locals
 inj:∀ x y c,X.env.cells.lookup x=some c→X.env.cells.lookup y=some c→x=y
 has:∀ x,(X.env.kindOf x=some .cell∨X.env.kindOf x=some .free)→∃ c,X.env.cells.lookup x=some c
 cab:∀ x c,X.fn x=true→X.env.cells.lookup x=some c→X.s₀.heap.objs.size≤c
 hd:X.calm=true→X.A.handled=none
 frames:X.A.frames=some X.stack
 stk:X.stack=X.outer∨(X.stack=X.env :: X.outer∧X.env.frame=some X.env.locals)
 exf:∀ b∈X.ex,b≠X.env.locals∧∀ x c,X.env.cells.lookup x=some c→c≠b
 bs:∀ b o,X.base.get? b=some o→X.s₀.heap.get? b=some o∧X.H₀ b=none
 bsz:X.base.objs.size≤X.s₀.heap.objs.size
 noex:∀ b o,X.base.get? b=some o→b∉X.ex
 exfs:∀ b∈X.ex,b∉X.fs
 funs:X.s₀.heap.FunFrames X.base X.outer
 frf:∀ b∈X.fs,X.H₀ b=none
structure Jn (X:Cx) (pins:List (Addr×Obj)) (σ:List (Option V)) (H:Hp) (s:Shared):Prop where
 ok:X.Ok
 os:s.os=X.s₀.os
 bare:AllBare s.gens
 base:Un X.fs X.ex X.H₀ H X.s₀.heap s.heap
 loc:∃ m,s.heap.Ns X.env.locals m∧∀ (i:Nat) (x:Str) (v:V),X.N[i]?=some x→σ[i]?=some (some v)→Vis X.env.scope x→∃ u,JU v u∧JwI X.env s.heap m x u
 cell:∀ x c,X.env.cells.lookup x=some c→∃ v,s.heap.IsCell c v
 free:H X.env.locals=none
 freeC:∀ x c,X.env.cells.lookup x=some c→H c=none
 pin:∀ p∈X.pn ++ pins,s.heap.get? p.1=some p.2∧H p.1=none∧p.1≠X.env.locals∧p.1∉X.fs∧∀ v,p.2.data≠.cell v
 hok:ZG X.prog X.w H s.heap
 len:σ.length=X.N.length
section
variable {X:Cx} {pins:List (Addr×Obj)} {σ:List (Option V)} {H H':Hp} {s:Shared} {h':Heap}
theorem Cx.Ok.nofr (ok:X.Ok) {b:Addr} {o:Obj} (e:X.base.get? b=some o):b∉X.fs:=fun hb=>by
 have:=(ok.funs.mem hb).1;rw [e] at this; cases this
theorem Jn.bs (I:Jn X pins σ H s):∀ b o,X.base.get? b=some o→s.heap.get? b=some o∧H b=none:=fun b o e =>
 ⟨I.base.keep b o (I.ok.bs b o e).1 (I.ok.bs b o e).2 (I.ok.nofr e) (I.ok.noex b o e),I.base.free b o (I.ok.bs b o e).1 (I.ok.bs b o e).2 (I.ok.noex b o e)⟩
theorem Jn.bk (I:Jn X pins σ H s):∀ b o,X.base.get? b=some o→s.heap.get? b=some o:=fun b o e=>(I.bs b o e).1
theorem Jn.mod (I:Jn X pins σ H s):Mod X.K X.mg X.base:=I.ok.mod
theorem Jn.kIn (I:Jn X pins σ H s):X.K.In s.heap:=I.ok.mod.kin.keeps I.bk
theorem Jn.nolimit (I:Jn X pins σ H s):s.heap.NoLimit:=I.ok.mod.nolimit.keeps I.bk
theorem Jn.fr (I:Jn X pins σ H s):∃ m,Fr X.base X.env.locals s.heap m :=
 let ⟨m,hn,_⟩:=I.loc
 ⟨m,hn,I.bk,Nat.le_trans I.ok.bsz I.ok.above⟩
theorem Jn.lt (I:Jn X pins σ H s):X.env.locals < s.heap.objs.size:=let ⟨_,hn,_⟩:=I.loc; hn.lt
theorem Jn.sz (I:Jn X pins σ H s):X.s₀.heap.objs.size≤s.heap.objs.size:=Nat.le_trans I.ok.above (Nat.le_of_lt I.lt)
theorem Jn.nofs (I:Jn X pins σ H s) {a:Addr} (h:s.heap.objs.size≤a):a∉X.fs:=fun hb=>by
 obtain ⟨_,o,ho,_⟩:=I.ok.funs.mem hb;exact absurd (Nat.lt_of_lt_of_le (Heap.lt_size ho) (Nat.le_trans I.sz h)) (Nat.lt_irrefl _)
theorem Jn.cne (I:Jn X pins σ H s):∀ x c,X.env.cells.lookup x=some c→c≠X.env.locals:=fun x c e z=>by
 obtain ⟨v,o,ho,hd⟩:=I.cell x c e;obtain ⟨m,⟨o',es,ep,ho',hd',_⟩,_⟩:=I.loc;rw [z,ho'] at ho; cases ho; rw [hd'] at hd; cases hd
theorem Jn.funs (I:Jn X pins σ H s):s.heap.FunFrames X.base X.outer:=by
 have all:∀ (l:List Env),(∀ b∈ZQ l,b∈X.fs)→X.s₀.heap.FunFrames X.base l→s.heap.FunFrames X.base l:=by
  intro l
  induction l with
  | nil=>intro _ _; trivial
  | cons env r ih =>
   intro hs hl;obtain ⟨hk,⟨L,o,hf,hn,ho,hd⟩,hr⟩:=hl;have hL:L∈X.fs:=hs L (by unfold ZQ; rw [List.filterMap_cons,hf]; exact List.mem_cons_self);obtain ⟨sl,e⟩:=I.base.slot L o ho (I.ok.frf L hL) hL fun z=>I.ok.exfs L z hL
   exact ⟨hk,⟨L,_,hf,hn,e,hd⟩,ih (fun b hb=>hs b (by unfold ZQ; rw [List.filterMap_cons,hf]; exact List.mem_cons_of_mem _ hb)) hr⟩
 exact all X.outer (fun _ hb=>hb) I.ok.funs
theorem Jn.stack (I:Jn X pins σ H s):s.heap.FunFrames X.base X.stack:=by
 rcases I.ok.stk with e | ⟨e,hf⟩
 ·rw [e]; exact I.funs
 ·rw [e];obtain ⟨m,hn,_⟩:=I.loc;refine .cons (by rw [I.ok.kind]; decide) hf hn ?_ I.funs;exact Heap.get?_none_of_le (Nat.le_trans I.ok.bsz I.ok.above)
theorem Jn.stkSub (I:Jn X pins σ H s):∀ b∈ZQ X.stack,b∈X.env.locals :: X.fs:=fun b hb=>by
 rcases I.ok.stk with e | ⟨e,hf⟩
 ·rw [e] at hb; exact List.mem_cons_of_mem _ hb
 ·rw [e] at hb;unfold ZQ at hb;rw [List.filterMap_cons,hf] at hb;exact hb
theorem Jn.stkFree (I:Jn X pins σ H s):∀ b∈ZQ X.stack,H b=none:=fun b hb=>by
 rcases List.mem_cons.mp (I.stkSub b hb) with e | hb
 ·rw [e]; exact I.free
 ·obtain ⟨_,o,ho,_⟩:=I.ok.funs.mem hb;exact I.base.free b o ho (I.ok.frf b hb) fun z=>I.ok.exfs b z hb
theorem Jn.step {g':Array GenState} {t':Nat} {d':Drawn} {ch:List Addr} (I:Jn X pins σ H s)
  (hch:∀ b∈ch,(b∈X.ex∨X.s₀.heap.objs.size≤b)∧b≠X.env.locals∧(∀ x c,X.env.cells.lookup x=some c→c≠b)∧∀ p∈X.pn ++ pins,p.1≠b)
  (keep:∀ b o,b≠X.env.locals→b∉X.fs→b∉ch→s.heap.get? b=some o→H b=none→h'.get? b=some o)
  (slot:∀ b o,b≠X.env.locals→b∈X.fs→b∉ch→s.heap.get? b=some o→H b=none→∃ sl,h'.get? b=some { o with slots:=sl }) (free:∀ b o,b∉ch→s.heap.get? b=some o→H b=none→H' b=none)
  (there:∀ b o,b∉ch→s.heap.get? b=some o→∃ o',h'.get? b=some o')
  (tups:∀ b xs,H b=some (.tup xs)→H' b=some (.tup xs)) (frzs:∀ b o u,H b=some (.frz o u)→H' b=some (.frz o u)) (tbls:∀ b ps,H b=some (.tbl ps)→∃ more,H' b=some (.tbl (ps ++ more)))
  (ns:∀ m,s.heap.Ns X.env.locals m→h'.Ns X.env.locals m) (hok:ZG X.prog X.w H' h') (hg:AllBare g') :
  Jn X pins σ H' { s with heap:=h',gens:=g',drawn:=d',toks:=t' }:=by
 have neL:∀ b o,X.s₀.heap.get? b=some o→b≠X.env.locals:=fun b o e=>Nat.ne_of_lt (Nat.lt_of_lt_of_le (Heap.lt_size e) I.ok.above)
 have neC:∀ b o,X.s₀.heap.get? b=some o→b∉X.ex→b∉ch:=fun b o e hx hb=>by
  rcases (hch b hb).1 with z | z
  ·exact hx z
  ·exact absurd (Nat.lt_of_lt_of_le (Heap.lt_size e) z) (Nat.lt_irrefl _)
 have cellK:∀ x c,X.env.cells.lookup x=some c→∀ v,s.heap.IsCell c v→h'.IsCell c v:=fun x c e v ⟨o,ho,hd⟩=>by
  have nch:c∉ch:=fun z=>(hch c z).2.2.1 x c e rfl
  by_cases hc:c∈X.fs
  ·obtain ⟨sl,q⟩:=slot c o (I.cne x c e) hc nch ho (I.freeC x c e);exact ⟨_,q,hd⟩
  ·exact ⟨o,keep c o (I.cne x c e) hc nch ho (I.freeC x c e),hd⟩
 refine ⟨I.ok,I.os,hg,⟨fun b o e n hb hx=>?_,fun b o e n hb hx=>?_,fun b o e n hx=>?_,fun b o e hx=>?_,fun b xs e=>tups b xs (I.base.tups b xs e),fun b o xs e=>frzs b o xs (I.base.frzs b o xs e),fun b ps e=>?_⟩,?_,fun x c e=>?_,?_,fun x c e=>?_,fun p hp=>?_,hok,I.len⟩
 ·exact keep b o (neL b o e) hb (neC b o e hx) (I.base.keep b o e n hb hx) (I.base.free b o e n hx)
 ·obtain ⟨sl,e1⟩:=I.base.slot b o e n hb hx;obtain ⟨sl',e2⟩:=slot b _ (neL b o e) hb (neC b o e hx) e1 (I.base.free b o e n hx);exact ⟨sl',e2⟩
 ·obtain ⟨o',e1⟩:=I.base.there b o e hx;exact free b o' (neC b o e hx) e1 (I.base.free b o e n hx)
 ·obtain ⟨o',e1⟩:=I.base.there b o e hx;exact there b o' (neC b o e hx) e1
 ·obtain ⟨m1,e1⟩:=I.base.tbls b ps e;obtain ⟨m2,e2⟩:=tbls b _ e1;exact ⟨m1 ++ m2,by rw [e2,Array.append_assoc]⟩
 ·obtain ⟨m,hn,hl⟩:=I.loc;refine ⟨m,ns m hn,fun i x v e1 e2 e3=>?_⟩;obtain ⟨u,r,l⟩:=hl i x v e1 e2 e3;refine ⟨u,r,?_⟩;rcases l with l | ⟨k,c,e,z⟩
  ·exact .inl l
  ·exact .inr ⟨k,c,e,cellK x c e _ z⟩
 ·obtain ⟨v,z⟩:=I.cell x c e;exact ⟨v,cellK x c e v z⟩
 ·obtain ⟨m,⟨o,_,_,ho,_⟩,_⟩:=I.loc;exact free _ o (fun z=>(hch _ z).2.1 rfl) ho I.free
 ·obtain ⟨v,o,ho,hd⟩:=I.cell x c e;exact free c o (fun z=>(hch c z).2.2.1 x c e rfl) ho (I.freeC x c e)
 ·obtain ⟨e,n,ne,nf,d⟩:=I.pin p hp;have nch:p.1∉ch:=fun z=>(hch p.1 z).2.2.2 p hp rfl
  exact ⟨keep p.1 p.2 ne nf nch e n,free p.1 p.2 nch e n,ne,nf,d⟩
theorem Jn.un {t':Nat} (I:Jn X pins σ H s) (u:Un X.fs [] H H' s.heap h') (hok:ZG X.prog X.w H' h'):Jn X pins σ H' { s with heap:=h',toks:=t' }:=by
 obtain ⟨m,⟨o,es,ep,ho,r⟩,_⟩:=id I.loc;obtain ⟨sl,hL⟩:=u.any ho I.free (by simp);exact I.step (g':=s.gens) (d':=s.drawn) (ch:=[]) (fun _ z=>nomatch z) (fun b o _ hb _ e n=>u.keep b o e n hb (by simp)) (fun b o _ hb _ e n=>u.slot b o e n hb (by simp)) (fun b o _ e n=>u.free b o e n (by simp)) (fun b o _ e=>u.there b o e (by simp)) u.tups u.frzs u.tbls (fun m' hm=>by
  obtain ⟨o',es',ep',ho',r'⟩:=hm;rw [ho] at ho'; cases ho';exact ⟨_,es',ep',hL,r'⟩) hok I.bare
theorem Jn.call {g':Array GenState} {t':Nat} {d':Drawn} {ch:List Addr} (I:Jn X pins σ H s) (u:Un (ZQ X.stack) ch H H' s.heap h') (hok:ZG X.prog X.w H' h') (hg:AllBare g')
  (hch:∀ b∈ch,(b∈X.ex∨X.s₀.heap.objs.size≤b)∧b≠X.env.locals∧(∀ x c,X.env.cells.lookup x=some c→c≠b)∧∀ p∈X.pn ++ pins,p.1≠b) :
  Jn X pins σ H' { s with heap:=h',gens:=g',drawn:=d',toks:=t' }:=by
 obtain ⟨m,⟨o,es,ep,ho,r⟩,_⟩:=id I.loc;obtain ⟨sl,hL⟩:=u.any ho I.free fun z=>(hch _ z).2.1 rfl
 exact I.step (ch:=ch) hch (fun b o hL hb hc e n=>u.keep b o e n (fun z=>(List.mem_cons.mp (I.stkSub b z)).elim hL hb) hc) (fun b o _ _ hc e n=>u.any e n hc) (fun b o hc e n=>u.free b o e n hc) (fun b o hc e=>u.there b o e hc) u.tups u.frzs u.tbls (fun m' hm=>by
  obtain ⟨o',es',ep',ho',r'⟩:=hm;rw [ho] at ho'; cases ho';exact ⟨_,es',ep',hL,r'⟩) hok hg
theorem Jn.turned {t':Nat} {it:Addr} (I:Jn X pins σ H s) (k:∀ b o,b≠it→s.heap.get? b=some o→h'.get? b=some o) (hn:H it=none) (hL:it≠X.env.locals)
  (h1:it∈X.ex∨X.s₀.heap.objs.size≤it) (h2:∀ x c,X.env.cells.lookup x=some c→c≠it) (h3:∀ p∈X.pn ++ pins,p.1≠it):Jn X pins σ H { s with heap:=h',toks:=t' }:=by
 have nit:∀ b u,H b=some u→b≠it:=fun b u e z=>by rw [z,hn] at e; cases e
 refine I.step (g':=s.gens) (d':=s.drawn) (ch:=[it]) (fun b hb=>?_) (fun b o _ _ hc e _=>k b o (fun z=>hc (by simp [z])) e) (fun b o _ _ hc e _=>⟨o.slots,k b o (fun z=>hc (by simp [z])) e⟩) (fun _ _ _ _ n=>n)
  (fun b o hc e=>⟨o,k b o (fun z=>hc (by simp [z])) e⟩) (fun _ _ e=>e) (fun _ _ _ e=>e) (fun b ps e=>⟨#[],by rw [e]; simp⟩) (fun m hm=>?_) (fun b u e=>?_) I.bare
 ·have e:b=it:=by simpa using hb
  subst e;exact ⟨h1,hL,h2,h3⟩
 ·obtain ⟨o,es,ep,ho,r⟩:=hm;exact ⟨o,es,ep,k _ o (Ne.symm hL) ho,r⟩
 ·refine (I.hok b u e).stay (fun c v hc q=>k c v ?_ q) (fun _ q=>q) fun _ _ q=>q
  rcases hc with z | z
  ·rw [z]; exact nit b u e
  ·exact nit c _ z
theorem Jn.tok (I:Jn X pins σ H s) (t:Nat):Jn X pins σ H { s with toks:=t }:=I.un (h':=s.heap) (t':=t) Un.refl I.hok
theorem Jn.kept {t':Nat} (I:Jn X pins σ H s) (k:∀ b u,s.heap.get? b=some u→h'.get? b=some u):Jn X pins σ H { s with heap:=h',toks:=t' }:=I.un (Un.kept k) (I.hok.kept k)
theorem Jn.laid {a:Addr} {o:HO} {t':Nat} (I:Jn X pins σ H s) (k:∀ b u,s.heap.get? b=some u→h'.get? b=some u) (hp:s.heap.objs.size≤a) (new:YD X.prog X.w (upd H a o) h' a o) :
  Jn X pins σ (upd H a o) { s with heap:=h',toks:=t' }:=I.un (Un.laid k hp (I.hok.fresh hp)) (I.hok.laid k hp new)
theorem Jn.write {x e:Addr} {o:HO} {t':Nat} (I:Jn X pins σ H s) (mu:Mut (H x)) (he:e=x∨H e=some (.own x)) (k:∀ b u,b≠e→s.heap.get? b=some u→h'.get? b=some u) (heo:∃ u,h'.get? e=some u)
  (new:YD X.prog X.w (upd H x o) h' x o):Jn X pins σ (upd H x o) { s with heap:=h',toks:=t' }:=I.un (Un.write mu he k heo) (I.hok.write mu he k heo new)
theorem Jn.weak {σ':List (Option V)} (I:Jn X pins σ H s) (hl:σ'.length=σ.length) (w:∀ (i:Nat) v,σ'[i]?=some (some v)→σ[i]?=some (some v)):Jn X pins σ' H s :=
 ⟨I.ok,I.os,I.bare,I.base,let ⟨m,hn,hl'⟩:=I.loc; ⟨m,hn,fun i x v e1 e2 e3=>hl' i x v e1 (w i v e2) e3⟩,I.cell,I.free,I.freeC,I.pin,I.hok,hl.trans I.len⟩
theorem Jn.pins_of {pins':List (Addr×Obj)} (I:Jn X pins σ H s) (h:∀ p∈pins',s.heap.get? p.1=some p.2∧H p.1=none∧p.1≠X.env.locals∧p.1∉X.fs∧∀ v,p.2.data≠.cell v):Jn X pins' σ H s :=
 ⟨I.ok,I.os,I.bare,I.base,I.loc,I.cell,I.free,I.freeC,fun p hp=>(List.mem_append.mp hp).elim (fun z=>I.pin p (List.mem_append_left _ z)) (h p),I.hok,I.len⟩
theorem Jjm {N:List Str} (hN:N.Nodup) {i j:Nat} {x:Str} (a:N[i]?=some x) (b:N[j]?=some x):i=j:=by
 obtain ⟨h1,e1⟩:=List.getElem?_eq_some_iff.mp a;obtain ⟨h2,e2⟩:=List.getElem?_eq_some_iff.mp b;exact (List.getElem_inj hN).mp (e1.trans e2.symm)
theorem JlN {M:Model} {A:Around} {E:Value→Shared→Prop} {i:Nat} {x:Str} {v:V} {u:Value} {Q:Unit→Shared→Prop} (I:Jn X pins σ H s) (hN:X.N.Nodup) (hi:X.N[i]?=some x) (hx:Loc X.env.scope x) (r:JU v u)
  (h:∀ s',Jn X pins (σ.set i (some v)) H s'→(∃ a,Heap.SameBut a s.heap s'.heap∧(a=X.env.locals∨X.env.cells.lookup x=some a))→Q () s') (hf:X.fn x=true∨X.env.scope.names.lookup x=some .local:=by first | exact .inl rfl | exact .inr rfl | assumption):wpAny M A (storeName X.env x u) Q E s:=by
 obtain ⟨m,hn,hl⟩:=id I.loc;have hcls:(X.env.scope.kind == .class || (X.env.scope.kind == .module && X.env.locals != X.env.globals))=false:=by rw [I.ok.kind]; rfl
 have hiσ:i < σ.length:=by rw [I.len]; exact (List.getElem?_eq_some_iff.mp hi).1
 have cne:=I.cne;have tracked:∀ {a:Addr} {h':Heap},(∃ o,s.heap.get? a=some o∧H a=none)→Heap.SameBut a s.heap h'→ZG X.prog X.w H h':=fun {a h'} ha hs b ob e=>by
  obtain ⟨_,_,hfree⟩:=ha;refine (I.hok b ob e).stay (fun c w' hc q=>(hs.2 c ?_).trans q) (fun _ q=>q) fun _ _ q=>q
  rintro rfl;rcases hc with rfl | hc
  ·rw [hfree] at e; cases e
  ·rw [hfree] at hc; cases hc
 rcases hx with hk | hk
 ·refine wpAny_storeName_local hk hn (fun h' hn' hs=>?_) hcls;obtain ⟨oL,_,_,hoL,_⟩:=id hn;refine h _ ⟨I.ok,I.os,I.bare,⟨fun b o e n hb hx=>?_,fun b o e n hb hx=>?_,I.base.free,fun b o e hx=>?_,I.base.tups,I.base.frzs,I.base.tbls⟩,⟨_,hn',fun j y v' e1 e2 e3=>?_⟩,fun y c e=>?_,I.free,I.freeC,fun p hp=>?_,tracked ⟨oL,hoL,I.free⟩ hs,by simpa using I.len⟩ ⟨_,hs,.inl rfl⟩
  ·exact (hs.2 b (Nat.ne_of_lt (Nat.lt_of_lt_of_le (Heap.lt_size e) I.ok.above))).trans (I.base.keep b o e n hb hx)
  ·obtain ⟨sl,e1⟩:=I.base.slot b o e n hb hx;exact ⟨sl,(hs.2 b (Nat.ne_of_lt (Nat.lt_of_lt_of_le (Heap.lt_size e) I.ok.above))).trans e1⟩
  ·obtain ⟨o',e1⟩:=I.base.there b o e hx;exact ⟨o',(hs.2 b (Nat.ne_of_lt (Nat.lt_of_lt_of_le (Heap.lt_size e) I.ok.above))).trans e1⟩
  ·by_cases hj:j=i
   ·subst hj;rw [hi] at e1; cases e1;rw [List.getElem?_set_self hiσ] at e2;cases e2;exact ⟨u,r,.inl ⟨hk,by simp⟩⟩
   ·rw [List.getElem?_set_ne (Ne.symm hj)] at e2;obtain ⟨u',r',q⟩:=hl j y v' e1 e2 e3;refine ⟨u',r',?_⟩;rcases q with ⟨k,e⟩ | ⟨k,c,e,z⟩
    ·refine .inl ⟨k,?_⟩;have:y≠x:=fun e=>hj (Jjm hN e1 (e ▸ hi))
     simp [this,e]
    ·exact .inr ⟨k,c,e,z.sameBut hs (cne y c e)⟩
  ·obtain ⟨w',z⟩:=I.cell y c e;exact ⟨w',z.sameBut hs (cne y c e)⟩
  ·obtain ⟨e,n,ne,nf,d⟩:=I.pin p hp;exact ⟨(hs.2 p.1 ne).trans e,n,ne,nf,d⟩
 ·have hfn:X.fn x=true:=by
   rcases hf with z | z
   ·exact z
   ·rw [z] at hk; cases hk
  obtain ⟨c,hc⟩:=I.ok.has x (.inl hk);obtain ⟨w',z⟩:=I.cell x c hc;refine wpAny_storeName_cell I.ok.kind hk hc z (fun h' hc' hs=>?_);obtain ⟨oc,hoc,hocd⟩:=id z;refine h { s with heap:=h' } ⟨I.ok,I.os,I.bare,⟨fun b o e n hb hx=>?_,fun b o e n hb hx=>?_,I.base.free,fun b o e hx=>?_,I.base.tups,I.base.frzs,I.base.tbls⟩,⟨m,hn.sameBut hs (Ne.symm (cne x c hc)),fun j y v' e1 e2 e3=>?_⟩,fun y c' e=>?_,I.free,I.freeC,fun p hp=>?_,tracked ⟨oc,hoc,I.freeC x c hc⟩ hs,by simpa using I.len⟩ ⟨c,hs,.inr hc⟩
  ·exact (hs.2 b (Nat.ne_of_lt (Nat.lt_of_lt_of_le (Heap.lt_size e) (I.ok.cab x c hfn hc)))).trans (I.base.keep b o e n hb hx)
  ·obtain ⟨sl,e1⟩:=I.base.slot b o e n hb hx;exact ⟨sl,(hs.2 b (Nat.ne_of_lt (Nat.lt_of_lt_of_le (Heap.lt_size e) (I.ok.cab x c hfn hc)))).trans e1⟩
  ·obtain ⟨o',e1⟩:=I.base.there b o e hx;exact ⟨o',(hs.2 b (Nat.ne_of_lt (Nat.lt_of_lt_of_le (Heap.lt_size e) (I.ok.cab x c hfn hc)))).trans e1⟩
  ·by_cases hj:j=i
   ·subst hj;rw [hi] at e1; cases e1;rw [List.getElem?_set_self hiσ] at e2;cases e2;exact ⟨u,r,.inr ⟨.inl hk,c,hc,hc'⟩⟩
   ·rw [List.getElem?_set_ne (Ne.symm hj)] at e2;obtain ⟨u',r',q⟩:=hl j y v' e1 e2 e3;refine ⟨u',r',?_⟩;rcases q with q | ⟨k,c',e,z'⟩
    ·exact .inl q
    ·refine .inr ⟨k,c',e,z'.sameBut hs ?_⟩;rintro rfl;exact hj (Jjm hN e1 (I.ok.inj _ _ _ e hc ▸ hi))
  ·by_cases hcc:c'=c
   ·subst hcc; exact ⟨_,hc'⟩
   ·obtain ⟨w2,z2⟩:=I.cell y c' e;exact ⟨w2,z2.sameBut hs hcc⟩
  ·obtain ⟨e,n,ne,nf,d⟩:=I.pin p hp;refine ⟨(hs.2 p.1 ?_).trans e,n,ne,nf,d⟩;intro q;rw [q,hoc] at e;have q':oc=p.2:=Option.some.inj e;exact d w' (by rw [← q']; exact hocd)
theorem Ji9 {M:Model} {A:Around} {E:Value→Shared→Prop} {i:Nat} {x:Str} {v:V} {u:Value} {Q:Unit→Shared→Prop} (I:Jn X pins σ H s) (hN:X.N.Nodup) (hi:X.N[i]?=some x) (hx:Loc X.env.scope x) (r:JU v u)
  (h:∀ s',Jn X pins (σ.set i (some v)) H s'→Q () s') (hf:X.fn x=true∨X.env.scope.names.lookup x=some .local:=by first | exact .inl rfl | exact .inr rfl | assumption):wpAny M A (storeName X.env x u) Q E s :=
 JlN I hN hi hx r (fun s' I' _=>h s' I') hf
theorem Jn.call' {s':Shared} {ch:List Addr} (I:Jn X pins σ H s) (ho:s'.os=s.os) (u:Un (ZQ X.stack) ch H H' s.heap s'.heap) (hok:ZG X.prog X.w H' s'.heap) (hg:AllBare s'.gens)
  (hch:∀ b∈ch,(b∈X.ex∨X.s₀.heap.objs.size≤b)∧b≠X.env.locals∧(∀ x c,X.env.cells.lookup x=some c→c≠b)∧∀ p∈X.pn ++ pins,p.1≠b):Jn X pins σ H' s':=by
 obtain ⟨h',g',d',t',o'⟩:=s';have e:o'=s.os:=ho;subst e;exact I.call (g':=g') (t':=t') (d':=d') u hok hg hch
end
abbrev XK:=Value→Option Addr→Hp→Prop
abbrev St:=List (Option V)
abbrev VK:=V→Hp→Prop
abbrev TE:=St→Hp→VK→Prop
abbrev TT:=St→Hp→(Bool→Hp→Prop)→Prop
abbrev TA:=St→Hp→(List V→Hp→Prop)→Prop
structure Jir where
 nx:St→Hp→Prop
 rt:VK
 bk:St→Hp→Prop:=fun _ _=>False
 ct:St→Hp→Prop:=fun _ _=>False
abbrev TS:=Jir→St→Hp→Prop
def EP (X:Cx) (pins:List (Addr×Obj)) (σ:St) (Q:VK) (u:Value) (s':Shared):Prop:=∃ v H',Jn X pins σ H' s'∧JU v u∧Q v H'
def TP (X:Cx) (pins:List (Addr×Obj)) (σ:St) (Q:Bool→Hp→Prop) (b:Bool) (s':Shared):Prop:=∃ H',Jn X pins σ H' s'∧Q b H'
def AP (X:Cx) (pins:List (Addr×Obj)) (σ:St) (Q:List V→Hp→Prop) (us:List Value) (s':Shared):Prop:=∃ vs H',Jn X pins σ H' s'∧JK vs us∧Q vs H'
def SP (X:Cx) (pins:List (Addr×Obj)) (D:Jir) (f:Flow) (s':Shared):Prop :=
 match f with
 | .next=>∃ σ' H',Jn X pins σ' H' s'∧D.nx σ' H'
 | .brk=>∃ σ' H',Jn X pins σ' H' s'∧D.bk σ' H'
 | .cont=>∃ σ' H',Jn X pins σ' H' s'∧D.ct σ' H'
 | .ret u=>∃ v σ' H',Jn X pins σ' H' s'∧JU v u∧D.rt v H'
def PE (X:Cx) (e:Expr) (t:TE):Prop :=
 ∀ (pins:List (Addr×Obj)) (s:Shared) (σ:St) (H:Hp) (Q:VK),Jn X pins σ H s→t σ H Q→wpAny (model X.prog X.w) X.A (eval e X.env) (EP X pins σ Q) X.xe s
def PT (X:Cx) (e:Expr) (t:TT):Prop :=
 ∀ (pins:List (Addr×Obj)) (s:Shared) (σ:St) (H:Hp) (Q:Bool→Hp→Prop),Jn X pins σ H s→t σ H Q→wpAny (model X.prog X.w) X.A (isTrue e X.env (eval e X.env)) (TP X pins σ Q) X.xe s
def PW (X:Cx) (e:Expr) (t:TT):Prop :=
 ∀ (whole:Sem Value) (pins:List (Addr×Obj)) (s:Shared) (σ:St) (H:Hp) (Q:Bool→Hp→Prop),Jn X pins σ H s→t σ H Q→wpAny (model X.prog X.w) X.A (isTrue e X.env whole) (TP X pins σ Q) X.xe s
theorem PW.pt {X:Cx} {e:Expr} {t:TT} (h:PW X e t):PT X e t:=h _
def PA (X:Cx) (es:List Expr) (t:TA):Prop :=
 ∀ (pos:Pos) (pins:List (Addr×Obj)) (s:Shared) (σ:St) (H:Hp) (Q:List V→Hp→Prop),Jn X pins σ H s→t σ H Q→wpAny (model X.prog X.w) X.A (spliced (backTo pos (starEach es X.env))) (AP X pins σ Q) X.xe s
def PS (X:Cx) (st:Stmt) (t:TS):Prop :=
 ∀ (pins:List (Addr×Obj)) (s:Shared) (σ:St) (H:Hp) (D:Jir),Jn X pins σ H s→t D σ H→wpAny (model X.prog X.w) X.A (exec st X.env) (SP X pins D) X.xe s
def PSs (X:Cx) (st:List Stmt) (t:TS):Prop :=
 ∀ (pins:List (Addr×Obj)) (s:Shared) (σ:St) (H:Hp) (D:Jir),Jn X pins σ H s→t D σ H→wpAny (model X.prog X.w) X.A (execs st X.env) (SP X pins D) X.xe s
theorem J3 {α:Type} {t:Sem α} {Q Q':α→Shared→Prop} {M:Model} {A:Around} {E:Value→Shared→Prop} {s:Shared} (h:wpAny M A t Q E s) (hQ:∀ a s,Q a s→Q' a s):wpAny M A t Q' E s:=wpAny_mono h hQ fun _ _ x=>x
end L2
namespace L2
open PySem PySem.Spec PyProof.Rows
section
variable {X:Cx}
def Jo8 (i:Nat):TE:=fun σ H Q=>∃ v,σ[i]?=some (some v)∧Q v H
def tC (v:V):TE:=fun _ H Q=>Q v H
theorem Jnr {i:Nat} {x:Str} {pos:Pos} (hN:X.N[i]?=some x) (hv:Vis X.env.scope x) (hd:(x == ("__debug__" : Str))=false:=by decide) (hcd:(x == ("__classdict__" : Str))=false:=by decide):PE X (.Name x pos) (Jo8 i):=by
 intro pins s σ H Q I h;obtain ⟨v,e,h⟩:=h;obtain ⟨m,hn,hl⟩:=I.loc;obtain ⟨u,r,l⟩:=hl i x v hN e hv;have fin:EP X pins σ Q u s:=⟨v,H,I,r,h⟩
 rcases l with ⟨hk,hm⟩ | ⟨hk,c,hc,hcell⟩
 ·exact wpAny_Name (wpAny_loadName_local I.ok.kind hk hn hm fin) hd
 ·rcases hk with hk | hk
  ·exact wpAny_Name (wpAny_loadName_cell I.ok.kind hk hc hcell fin) hd
  ·exact wpAny_Name (wpAny_loadName_free I.ok.kind hk hc hcell fin hcd) hd
theorem Je {i j pos}:PE X (.Constant (.int i) j pos) (tC (.int i)):=fun _ _ _ H _ I h=>wpAny_Constant_int ⟨.int i,H,I.tok _,⟨_,rfl⟩,h⟩
theorem Ja1 {b j pos}:PE X (.Constant (.bool b) j pos) (tC (.bl b)):=fun _ _ _ H _ I h=>Constant_bool ⟨.bl b,H,I,rfl,h⟩
theorem Jbg {j pos}:PE X (.Constant .none j pos) (tC .non):=fun _ _ _ H _ I h=>Constant_none ⟨.non,H,I,rfl,h⟩
theorem Jy {x j pos}:PE X (.Constant (.str x) j pos) (tC (.str x)):=fun _ _ _ H _ I h=>Calls.Constant_str ⟨.str x,H,I.tok _,⟨_,rfl⟩,h⟩
def Gl (X:Cx) (x:Str):Prop:=X.env.kindOf x=some .globalImplicit
theorem Jes {E:Value→Shared→Prop} {pins:List (Addr×Obj)} {s:Shared} {σ:St} {H:Hp} {x:Str} {u:Value} {pos:Pos} {Q:Value→Shared→Prop} (I:Jn X pins σ H s) (hg:Gl X x) (hm:X.mg x=some u) (h:Q u s)
  (hd:(x == ("__debug__" : Str))=false:=by decide):wpAny (model X.prog X.w) X.A (eval (.Name x pos) X.env) Q E s :=
 Calls.Name_function_global I.ok.kind hg (Calls.loadGlobal_global (by rw [I.ok.glob]; exact I.mod.glob.keeps I.bk) hm h) hd
theorem Jh2 {E:Value→Shared→Prop} {pins:List (Addr×Obj)} {s:Shared} {σ:St} {H:Hp} {x:Str} {u:Value} {pos:Pos} {Q:Value→Shared→Prop} (I:Jn X pins σ H s) (hg:Gl X x) (hm:X.mg x=none) (hv:bootBuiltins x=some u) (h:Q u s)
  (hn:x ≠ "__name__":=by decide) (hd:(x == ("__debug__" : Str))=false:=by decide):wpAny (model X.prog X.w) X.A (eval (.Name x pos) X.env) Q E s:=by
 obtain ⟨mb,h1,h2⟩:=I.mod.blt;exact Calls.Name_function_global I.ok.kind hg (Calls.loadGlobal_builtin (by rw [I.ok.glob]; exact I.mod.glob.keeps I.bk) hm (by rw [I.ok.blt]; exact h1.keeps I.bk) ((h2 x hn).trans hv) h) hd
theorem ZH {x:Str} {v:V} {u:Value} {pos:Pos} (hg:Gl X x) (hm:X.mg x=some u) (r:JU v u) (hd:(x == ("__debug__" : Str))=false:=by decide):PE X (.Name x pos) (tC v) :=
 fun _ _ _ H _ I h=>Jes I hg hm ⟨v,H,I,r,h⟩ hd
theorem Jt3 {x:Str} {v:V} {u:Value} {pos:Pos} (hg:Gl X x) (hm:X.mg x=none) (hv:bootBuiltins x=some u) (r:JU v u) (hn:x ≠ "__name__":=by decide) (hd:(x == ("__debug__" : Str))=false:=by decide):PE X (.Name x pos) (tC v) :=
 fun _ _ _ H _ I h=>Jh2 I hg hm hv ⟨v,H,I,r,h⟩ hn hd
variable {a b:Expr} {ta tb:TE} {pos:Pos}
def PC (X:Cx) (op:CmpOp) (a b:Expr) (t:TE):Prop :=
 ∀ (pins:List (Addr×Obj)) (s:Shared) (σ:St) (H:Hp) (Q:VK),Jn X pins σ H s→t σ H Q →
  wpAny (model X.prog X.w) X.A (eval a X.env) (fun v s₁=>wpAny (model X.prog X.w) X.A (eval b X.env) (fun u s₂=>wpAny (model X.prog X.w) X.A (compareOp op v u) (EP X pins σ Q) X.xe s₂) X.xe s₁) X.xe s
theorem Zc (b:Expr) {op:CmpOp} (h:op≠.In) (h2:op≠.NotIn):behindInMarks op b=false:=by
 have e1:(op == CmpOp.In)=false:=by cases op <;> first | rfl | exact absurd rfl h
 have e2:(op == CmpOp.NotIn)=false:=by cases op <;> first | rfl | exact absurd rfl h2
 cases b <;> simp [behindInMarks,e1,e2]
def Jwo (ta:TE):TE:=fun σ H Q=>ta σ H fun x H1=>Q (.bl (decide (x=.non))) H1
def JvF (ta:TE):TE:=fun σ H Q=>ta σ H fun x H1=>Q (.bl (!decide (x=.non))) H1
theorem JU.none_iff {x:V} {v:Value} (r:JU x v):(v == Value.none)=decide (x=.non):=by
 cases x with
 | non=>cases r; rfl
 | bl _=>cases r; rfl
 | int _=>obtain ⟨t,rfl⟩:=r; rfl
 | str _=>obtain ⟨t,rfl⟩:=r; rfl
 | byt _=>obtain ⟨t,rfl⟩:=r; rfl
 | flt _=>obtain ⟨t,rfl⟩:=r; rfl
 | ref _=>cases r; rfl
 | ty _=>cases r; rfl
theorem JgD {j pos'} (ha:PE X a ta):PC X .Is a (.Constant .none j pos') (Jwo ta):=by
 intro pins s σ H Q I h;refine J3 (ha pins s σ H _ I h) fun v s1 ⟨x,H1,I1,r1,q1⟩=>?_
 exact Constant_none (is_none_gen ⟨.bl _,H1,I1,by rw [r1.none_iff]; rfl,q1⟩)
theorem JiD {j pos'} (ha:PE X a ta):PC X .IsNot a (.Constant .none j pos') (JvF ta):=by
 intro pins s σ H Q I h;refine J3 (ha pins s σ H _ I h) fun v s1 ⟨x,H1,I1,r1,q1⟩=>?_
 exact Constant_none (isnot_none_gen ⟨.bl _,H1,I1,by rw [r1.none_iff]; rfl,q1⟩)
def tB (t:TE):TT:=fun σ H Q=>t σ H fun x H1=>∃ c,x=.bl c∧Q c H1
theorem JqC {op:CmpOp} {t:TE} (h:PC X op a b t) (h1:behindInMarks op b=false:=by first | exact Zc _ (by decide) (by decide) | rfl):PE X (.Compare a [op] [b] pos) t:=fun pins s σ H Q I hw=>wpAny_Compare1 (h pins s σ H Q I hw) h1
theorem Jbf {op:CmpOp} {t:TE} (h:PC X op a b t) (h1:behindInMarks op b=false:=by first | exact Zc _ (by decide) (by decide) | rfl):PT X (.Compare a [op] [b] pos) (tB t):=by
 intro pins s σ H Q I hw;refine wpAny_isTrue_Compare1 (J3 (h pins s σ H _ I hw) fun v s1 h1=>J3 h1 fun u s2 h2=>J3 h2 fun c s3 ⟨x,H1,I1,r1,q1⟩=>?_) h1;obtain ⟨d,rfl,q⟩:=q1;cases r1;exact wpAny_truthy_bool ⟨H1,I1,q⟩
theorem Zr {e:Expr} {t:TE} (h:PE X e t) (he:∀ whole,isTrue e X.env whole=(do let v ← whole; standAt e.pos; holding [v] (truthy v)):=by intro _; rfl):PT X e (tB t):=by
 intro pins s σ H Q I hw;refine isTrue_plain (J3 (h pins s σ H _ I hw) fun v s1 ⟨x,H1,I1,r1,q1⟩=>?_) (he _);obtain ⟨d,rfl,q⟩:=q1;cases r1;exact wpAny_truthy_bool ⟨H1,I1,q⟩
variable {tA tB':TT} {rest:List Expr}
def Jwu (t u:TT):TT:=fun σ H Q=>t σ H fun c H1=>if c=true then u σ H1 Q else Q false H1
def tOr (t u:TT):TT:=fun σ H Q=>t σ H fun c H1=>if c=true then Q true H1 else u σ H1 Q
def Jwl (t:TT):TT:=fun σ H Q=>t σ H fun c H1=>Q (!c) H1
theorem Jk0 (ha:PT X a tA):PW X (.BoolOp .And [a] pos) tA:=by
 intro wh pins s σ H Q I h;refine isTrue_and (J3 (ha pins s σ H Q I h) fun c s1 e=>?_);cases c with
 | true=>exact isTrue_and_nil e
 | false=>exact e
theorem JaO (ha:PT X a tA):PW X (.BoolOp .Or [a] pos) tA:=by
 intro wh pins s σ H Q I h;refine isTrue_or (J3 (ha pins s σ H Q I h) fun c s1 e=>?_);cases c with
 | false=>exact isTrue_or_nil e
 | true=>exact e
theorem Jno (ha:PT X a tA) (hb:PW X (.BoolOp .And (b :: rest) pos) tB'):PW X (.BoolOp .And (a :: b :: rest) pos) (Jwu tA tB'):=by
 intro wh pins s σ H Q I h;refine isTrue_and (J3 (ha pins s σ H _ I h) fun c s1 ⟨H1,I1,q1⟩=>?_);cases c with
 | true=>exact hb wh pins s1 σ H1 Q I1 q1
 | false=>exact ⟨H1,I1,q1⟩
theorem Jbn (ha:PT X a tA) (hb:PW X (.BoolOp .Or (b :: rest) pos) tB'):PW X (.BoolOp .Or (a :: b :: rest) pos) (tOr tA tB'):=by
 intro wh pins s σ H Q I h;refine isTrue_or (J3 (ha pins s σ H _ I h) fun c s1 ⟨H1,I1,q1⟩=>?_);cases c with
 | true=>exact ⟨H1,I1,q1⟩
 | false=>exact hb wh pins s1 σ H1 Q I1 q1
theorem Z8 (ha:PT X a tA):PT X (.UnaryOp .Not a pos) (Jwl tA):=by
 intro pins s σ H Q I h;exact isTrue_not (ha pins s σ H (fun c H1=>Q (!c) H1) I h)
def JvK (ta tb:TE):TE:=fun σ H Q=>ta σ H fun x H1=>∃ c,x=.bl c∧if c=true then tb σ H1 Q else Q (.bl false) H1
def JvE (ta:TE):TE:=fun σ H Q=>ta σ H fun x H1=>∃ c,x=.bl c∧Q (.bl (!c)) H1
theorem Jns {op} {t:TE} (h:PE X a t):PE X (.BoolOp op [a] pos) t:=fun pins s σ H Q I hw=>BoolOp_one (h pins s σ H Q I hw)
theorem Jnu (ha:PE X a ta) (hb:PE X (.BoolOp .And (b :: rest) pos) tb):PE X (.BoolOp .And (a :: b :: rest) pos) (JvK ta tb):=by
 intro pins s σ H Q I h;refine BoolOp_and (J3 (ha pins s σ H _ I h) fun v s1 ⟨x,H1,I1,r1,q1⟩=>?_);obtain ⟨c,rfl,q1⟩:=q1;cases r1;refine wpAny_truthy_bool ?_;cases c with
 | true=>exact hb pins s1 σ H1 Q I1 q1
 | false=>exact ⟨.bl false,H1,I1,rfl,q1⟩
theorem Ju4 (ha:PE X a ta):PE X (.UnaryOp .Not a pos) (JvE ta):=by
 intro pins s σ H Q I h;refine UnaryOp_ (J3 (ha pins s σ H _ I h) fun v s1 ⟨x,H1,I1,r1,q1⟩=>?_);obtain ⟨c,rfl,q1⟩:=q1;cases r1;exact not_of (wpAny_truthy_bool ⟨.bl (!c),H1,I1,rfl,q1⟩)
def tIf (t:TT) (ta tb:TE):TE:=fun σ H Q=>t σ H fun c H1=>if c=true then ta σ H1 Q else tb σ H1 Q
theorem JeW {c:Expr} (hc:PT X c tA) (ha:PE X a ta) (hb:PE X b tb):PE X (.IfExp c a b pos) (tIf tA ta tb):=by
 intro pins s σ H Q I h;refine wpAny_IfExp (J3 (hc pins s σ H _ I h) fun d s1 ⟨H1,I1,q1⟩=>?_);cases d with
 | true=>exact ha pins s1 σ H1 Q I1 q1
 | false=>exact hb pins s1 σ H1 Q I1 q1
end
end L2
namespace L2
open PySem PySem.Spec PyProof.Rows
def JA (K:PySem.W.Frag) (H:Hp) (a:Addr) (xs:List V):Prop :=
 Rd H a (.lst xs) ∨
  ∃ (o:Obj) (its:Array Value) (n:Nat),K.lookup a=some o∧o.cls=.type "list"∧o.dict=none∧o.data=.seq its n∧its.size≤sizeLine∧JK xs its.toList
def J1 (K:PySem.W.Frag) (H:Hp) (a:Addr) (xs:List V):Prop :=
 Rd H a (.tup xs) ∨
  ∃ (o:Obj) (its:Array Value) (n:Nat),K.lookup a=some o∧o.cls=.type "tuple"∧o.data=.seq its n∧its.size≤sizeLine∧JK xs its.toList
def JwH:Value→Option V
 | .none=>some .non
 | .bool b=>some (.bl b)
 | .int i _=>some (.int i)
 | .str x _=>some (.str x)
 | .bytes b _=>some (.byt b)
 | .float b _=>some (.flt b)
 | .ref a=>some (.ref a)
 | .type n=>some (.ty n)
 | _=>none
theorem JU.abs {x:V} {u:Value} (r:JU x u):JwH u=some x:=by
 cases x with
 | non=>cases r; rfl
 | bl _=>cases r; rfl
 | int _=>obtain ⟨t,rfl⟩:=r; rfl
 | str _=>obtain ⟨t,rfl⟩:=r; rfl
 | byt _=>obtain ⟨t,rfl⟩:=r; rfl
 | flt _=>obtain ⟨t,rfl⟩:=r; rfl
 | ref _=>cases r; rfl
 | ty _=>cases r; rfl
theorem JU.inj {x y:V} {u:Value} (r:JU x u) (q:JU y u):x=y:=Option.some.inj (r.abs.symm.trans q.abs)
theorem JK.inj:∀ {xs ys:List V} {us:List Value},JK xs us→JK ys us→xs=ys
 | _,_,_,.nil,.nil=>rfl
 | _,_,_,.cons r t,.cons r' t'=>by rw [r.inj r',JK.inj t t']
section
variable {X:Cx} {pins:List (Addr×Obj)} {σ:St} {H:Hp} {s:Shared} {a:Addr} {xs ys:List V}
theorem JA.of {K:PySem.W.Frag} (h:H a=some (.lst xs)):JA K H a xs:=.inl (.inl h)
theorem J1.of {K:PySem.W.Frag} (h:H a=some (.tup xs)):J1 K H a xs:=.inl (.inl h)
theorem Jn.list (I:Jn X pins σ H s) (h:JA X.K H a xs):∃ its:List Value,JK xs its∧PlainL s.heap a its.toArray∧xs.length≤sizeLine:=by
 rcases h with h | ⟨o,its,n,hk,hc,hd,hs,hz,r⟩
 ·obtain ⟨z,its,n,r,e⟩:=h.ok I.hok;exact ⟨its,r,⟨_,n,e,rfl,rfl,rfl⟩,z⟩
 ·refine ⟨its.toList,r,⟨o,n,I.kIn a o hk,hc,hd,by simpa using hs⟩,?_⟩;have e:=r.length;simp only [Array.length_toList] at e;omega
theorem Jn.tuple (I:Jn X pins σ H s) (h:J1 X.K H a xs):∃ its:List Value,JK xs its∧IsTup s.heap a its.toArray∧xs.length≤sizeLine:=by
 rcases h with h | ⟨o,its,n,hk,hc,hs,hz,r⟩
 ·obtain ⟨z,its,r,p⟩:=h.ok I.hok;exact ⟨its,r,p,z⟩
 ·refine ⟨its.toList,r,⟨o,I.kIn a o hk,hc,n,by simpa using hs⟩,?_⟩;have e:=r.length;simp only [Array.length_toList] at e;omega
theorem Jn.list_inj (I:Jn X pins σ H s) (h:JA X.K H a xs) (h':JA X.K H a ys):xs=ys:=by
 obtain ⟨its,r,⟨o,n,e,_,_,d⟩,_⟩:=I.list h;obtain ⟨its',r',⟨o',n',e',_,_,d'⟩,_⟩:=I.list h';rw [e] at e'; cases e';rw [d] at d';injection d' with d1 _;have:its=its':=by simpa using congrArg Array.toList d1
 subst this;exact r.inj r'
theorem Jn.tuple_inj (I:Jn X pins σ H s) (h:J1 X.K H a xs) (h':J1 X.K H a ys):xs=ys:=by
 obtain ⟨its,r,⟨o,e,_,n,d⟩,_⟩:=I.tuple h;obtain ⟨its',r',⟨o',e',_,n',d'⟩,_⟩:=I.tuple h';rw [e] at e'; cases e';rw [d] at d';injection d' with d1 _;have:its=its':=by simpa using congrArg Array.toList d1
 subst this;exact r.inj r'
end
abbrev Cx.wish (X:Cx) (E:Value→Shared→Prop):Cx:={ X with xe:=E }
abbrev Cx.nox (X:Cx):Cx:=X.wish fun _ _=>False
theorem Cx.Ok.wish {X:Cx} (ok:X.Ok) (E:Value→Shared→Prop):(X.wish E).Ok :=
 ⟨ok.mod,ok.kind,ok.glob,ok.blt,ok.above,ok.inj,ok.has,ok.cab,ok.hd,ok.frames,ok.stk,ok.exf,ok.bs,ok.bsz,ok.noex,ok.exfs,ok.funs,ok.frf⟩
theorem Cx.Ok.unwish {X:Cx} {E:Value→Shared→Prop} (ok:(X.wish E).Ok):X.Ok :=
 ⟨ok.mod,ok.kind,ok.glob,ok.blt,ok.above,ok.inj,ok.has,ok.cab,ok.hd,ok.frames,ok.stk,ok.exf,ok.bs,ok.bsz,ok.noex,ok.exfs,ok.funs,ok.frf⟩
section
variable {X:Cx} {pins:List (Addr×Obj)} {σ:St} {H:Hp} {s:Shared} {E:Value→Shared→Prop}
theorem Jn.wish (I:Jn X pins σ H s) (E:Value→Shared→Prop):Jn (X.wish E) pins σ H s:=⟨I.ok.wish E,I.os,I.bare,I.base,I.loc,I.cell,I.free,I.freeC,I.pin,I.hok,I.len⟩
theorem Jn.unwish (I:Jn (X.wish E) pins σ H s):Jn X pins σ H s:=⟨I.ok.unwish,I.os,I.bare,I.base,I.loc,I.cell,I.free,I.freeC,I.pin,I.hok,I.len⟩
theorem SP.unwish {D:Jir} {f:Flow} {s':Shared} (h:SP (X.wish E) pins D f s'):SP X pins D f s':=by
 cases f with
 | next=>obtain ⟨σ',H',I,q⟩:=h; exact ⟨σ',H',I.unwish,q⟩
 | brk=>obtain ⟨σ',H',I,q⟩:=h; exact ⟨σ',H',I.unwish,q⟩
 | cont=>obtain ⟨σ',H',I,q⟩:=h; exact ⟨σ',H',I.unwish,q⟩
 | ret u=>obtain ⟨v,σ',H',I,r,q⟩:=h; exact ⟨v,σ',H',I.unwish,r,q⟩
theorem PE.nox {e:Expr} {t:TE} (h:PE X.nox e t):PE X e t:=fun pins s σ H Q I hw =>
 wpAny_mono (h pins s σ H Q (I.wish _) hw) (fun _ _ ⟨v,H',I',r,q⟩=>⟨v,H',I'.unwish,r,q⟩) fun _ _ z=>False.elim z
theorem PT.nox {e:Expr} {t:TT} (h:PT X.nox e t):PT X e t:=fun pins s σ H Q I hw =>
 wpAny_mono (h pins s σ H Q (I.wish _) hw) (fun _ _ ⟨H',I',q⟩=>⟨H',I'.unwish,q⟩) fun _ _ z=>False.elim z
theorem PSs.nox {st:List Stmt} {t:TS} (h:PSs X.nox st t):PSs X st t:=fun pins s σ H D I hw =>
 wpAny_mono (h pins s σ H D (I.wish _) hw) (fun _ _ q=>q.unwish) fun _ _ z=>False.elim z
end
section
variable {X:Cx} {st:Stmt} {rest:List Stmt} {t u:TS} {e:Expr} {te:TE} {pos:Pos}
def JvG:TS:=fun D σ H=>D.nx σ H
def Jwj (t u:TS):TS:=fun D σ H=>@Jir.rec (fun _=>Prop) (fun nx rt bk ct=>t ⟨u ⟨nx,rt,bk,ct⟩,rt,bk,ct⟩ σ H) D
theorem Jw:PSs X [] JvG:=fun _ _ σ H _ I h=>wpAny_execs_nil ⟨σ,H,I,h⟩
theorem Jd (h1:PS X st t) (h2:PSs X rest u):PSs X (st :: rest) (Jwj t u):=by
 intro pins s σ H D I h;refine wpAny_execs_cons (J3 (h1 pins s σ H { D with nx:=u D } I h) fun f s1 q=>?_);cases f with
 | next =>
  obtain ⟨σ',H',I',q⟩:=q;exact h2 pins s1 σ' H' D I' q
 | ret v=>exact q
 | brk=>exact q
 | cont=>exact q
theorem Jg (h1:PS X st t):PSs X [st] t:=by
 intro pins s σ H D I h;refine wpAny_execs_cons (J3 (h1 pins s σ H D I h) fun f s1 q=>?_);cases f with
 | next=>exact wpAny_execs_nil q
 | ret v=>exact q
 | brk=>exact q
 | cont=>exact q
def JuA:TS:=fun D σ H=>D.bk σ H
theorem Jsn:PS X (.Break pos) JuA:=fun _ _ σ H _ I h=>wpAny_Break ⟨σ,H,I,h⟩
theorem Jn.quiet {pins:List (Addr×Obj)} {σ:St} {H:Hp} {s:Shared} (I:Jn X pins σ H s):interactive X.env=false:=by simp [interactive,I.ok.kind]
def JvH (te:TE):TS:=fun D σ H=>te σ H fun _ H1=>D.nx σ H1
theorem JP (he:PE X e te) (hs:swapsWith e none pos.line X.env=pure false:=by rfl):PS X (.Expr e pos) (JvH te):=by
 intro pins s σ H D I h;exact wpAny_Expr_any (J3 (he pins s σ H _ I h) fun v s1 ⟨x,H1,I1,r1,q1⟩=>⟨σ,H1,I1,q1⟩) I.quiet hs
def Jwk (te:TE):TS:=fun D σ H=>te σ H D.rt
theorem Jq (he:PE X e te):PS X (.Return (some e) pos) (Jwk te):=by
 intro pins s σ H D I h;exact wpAny_Return_some (J3 (he pins s σ H _ I h) fun v s1 ⟨x,H1,I1,r1,q1⟩=>⟨x,σ,H1,I1,r1,q1⟩)
def Jwp (c:TT) (t u:TS):TS:=fun D σ H=>c σ H fun b H1=>if b=true then t D σ H1 else u D σ H1
theorem JL {c:Expr} {a b:List Stmt} {tc:TT} (hc:PT X c tc) (ha:PSs X a t) (hb:PSs X b u):PS X (.If c a b pos) (Jwp tc t u):=by
 intro pins s σ H D I h;refine wpAny_If (J3 (hc pins s σ H _ I h) fun d s1 ⟨H1,I1,q1⟩=>?_);cases d with
 | true=>exact ha pins s1 σ H1 D I1 q1
 | false=>exact hb pins s1 σ H1 D I1 q1
def Juv:TS:=fun _ _ _=>False
theorem Jg0:PS X st Juv:=fun _ _ _ _ _ _ h=>h.elim
end
abbrev TG:=V→St→Hp→(St→Hp→Prop)→Prop
abbrev TGs:=List V→St→Hp→(St→Hp→Prop)→Prop
def PG (X:Cx) (target:Expr) (t:TG):Prop :=
 ∀ (pins:List (Addr×Obj)) (s:Shared) (σ:St) (H:Hp) (v:V) (u:Value) (Q:St→Hp→Prop),Jn X pins σ H s→JU v u→t v σ H Q →
  wpAny (model X.prog X.w) X.A (assign target X.env u) (fun _ s'=>∃ σ' H',Jn X pins σ' H' s'∧Q σ' H') X.xe s
def PGs (X:Cx) (ts:List Expr) (t:TGs):Prop :=
 ∀ (pins:List (Addr×Obj)) (s:Shared) (σ:St) (H:Hp) (vs:List V) (us:List Value) (Q:St→Hp→Prop),Jn X pins σ H s→JK vs us→t vs σ H Q →
  wpAny (model X.prog X.w) X.A (assignInOrder ((assignEach ts X.env).map (·.2)) us) (fun _ s'=>∃ σ' H',Jn X pins σ' H' s'∧Q σ' H') X.xe s
abbrev Jta:=V→V→V→Hp→(Hp→Prop)→Prop
def Jvw (X:Cx) (t:Jta):Prop :=
 ∀ (pins:List (Addr×Obj)) (s:Shared) (σ:St) (H:Hp) (o i v:V) (ov iv u:Value) (Q:Hp→Prop),Jn X pins σ H s→JU o ov→JU i iv→JU v u→t o i v H Q →
  wpAny (model X.prog X.w) X.A (setItem ov iv u) (fun _ s'=>∃ H',Jn X pins σ H' s'∧Q H') X.xe s
section
variable {X:Cx} {pos:Pos}
def Ja4 (i:Nat):TG:=fun v σ H Q=>Q (σ.set i (some v)) H
theorem YA {i:Nat} {x:Str} (hN:X.N.Nodup) (hi:X.N[i]?=some x) (hx:Loc X.env.scope x) (hf:X.fn x=true∨X.env.scope.names.lookup x=some .local:=by first | exact .inl rfl | exact .inr rfl | assumption):PG X (.Name x pos) (Ja4 i):=by
 intro pins s σ H v u Q I r h;exact wpAny_assign_Name (Ji9 I hN hi hx r (fun s' I'=>⟨_,H,I',h⟩) hf)
def Jvo:TGs:=fun vs σ H Q=>vs=[]∧Q σ H
def JpG (t:TG) (u:TGs):TGs:=fun vs σ H Q=>∃ v r,vs=v :: r∧t v σ H fun σ' H'=>u r σ' H' Q
theorem Jk3:PGs X [] Jvo:=by
 intro pins s σ H vs us Q I r h;obtain ⟨e,h⟩:=h;subst e;cases r;exact assignInOrder_nil ⟨σ,H,I,h⟩
theorem ZM {e:Expr} {es:List Expr} {t:TG} {u:TGs} (h1:PG X e t) (h2:PGs X es u)
  (hs:(assignEach (e :: es) X.env).map (·.2)=assign e X.env :: (assignEach es X.env).map (·.2):=by rfl):PGs X (e :: es) (JpG t u):=by
 intro pins s σ H vs us Q I r h;obtain ⟨v,vr,e1,h⟩:=h;subst e1;cases r with
 | cons r rr =>
  rw [hs];refine assignInOrder_cons (J3 (h1 pins s σ H _ _ _ I r h) fun _ s1 ⟨σ1,H1,I1,q1⟩=>?_);exact h2 pins s1 σ1 H1 _ _ Q I1 rr q1
def JpF (K:PySem.W.Frag) (n:Nat) (t:TGs):TG:=fun v σ H Q=>∃ a xs,v=.ref a∧J1 K H a xs∧xs.length=n∧t xs σ H Q
theorem Jnq {es:List Expr} {k:Nat} {t:TGs} {n:Nat} (hc:X.calm=true) (h:PGs X es t)
  (hn:(assignEach es X.env).length=n:=by rfl) (hst:(assignEach es X.env).findIdx? (·.1)=none:=by rfl):PG X (.Tuple es k pos) (JpF X.K n t):=by
 intro pins s σ H v u Q I r hw;obtain ⟨a,xs,e1,hq,hl,hw⟩:=hw;subst e1;cases r;obtain ⟨its,rv,ht,hz⟩:=I.tuple hq;refine assign_Tuple_tuple (I.ok.hd hc) ht (by simp [hn,← hl,rv.length]) hst fun h' hx=>?_
 have I1:Jn X pins σ H { s with heap:=h' }:=I.kept (t':=s.toks) fun b o e=>hx b o (Nat.ne_of_lt (Heap.lt_size e)) e
 exact h pins _ σ H xs _ Q I1 (by simpa using rv) hw
def JwF (to ti:TE) (t:Jta):TG:=fun v σ H Q=>to σ H fun o H1=>ti σ H1 fun i H2=>t o i v H2 fun H3=>Q σ H3
theorem Ju3 {o i:Expr} {to ti:TE} {t:Jta} (ho:PE X o to) (hi:PE X i ti) (hs:Jvw X t)
  (ha:∀ v,assign (.Subscript o i pos) X.env v=(do
   let ov ← holding [v] (eval o X.env);let iv ← holding [v,ov] (eval i X.env)
   standAt pos
   holding [v,ov,iv] (setItem ov iv v)
   release [v,ov,iv] []):=by intro _; rfl):PG X (.Subscript o i pos) (JwF to ti t):=by
 intro pins s σ H v u Q I r h;rw [ha];refine wpAny_bind (wpAny_holding (J3 (ho pins s σ H _ I h) fun ov s1 ⟨x,H1,I1,r1,q1⟩=>?_));refine wpAny_bind (wpAny_holding (J3 (hi pins s1 σ H1 _ I1 q1) fun iv s2 ⟨y,H2,I2,r2,q2⟩=>?_));refine wpAny_bind (wpAny_standAt (wpAny_bind (wpAny_holding (J3 (hs pins s2 σ H2 x y v ov iv u _ I2 r1 r2 r q2) fun _ s3 ⟨H3,I3,q3⟩=>?_))));exact wpAny_release ⟨σ,H3,I3,q3⟩
def JrN (te:TE) (g:TG):TS:=fun D σ H=>te σ H fun x H1=>g x σ H1 D.nx
theorem Jqy {tg e:Expr} {te:TE} {g:TG} (he:PE X e te) (hg:PG X tg g) (hs:swapsWithSole [tg] e pos.line X.env=pure false:=by rfl) (hw:swappedStores [tg] e X.env=pure none:=by rfl)
  (h1:(assignEach [tg] X.env).map (·.2)=[assign tg X.env]:=by rfl):PS X (.Assign [tg] e pos) (JrN te g):=by
 intro pins s σ H D I h;refine wpAny_Assign_stores (J3 (he pins s σ H _ I h) fun v s1 ⟨x,H1,I1,r1,q1⟩=>?_) hs hw;rw [h1];exact J3 (hg pins s1 σ H1 x v _ I1 r1 q1) fun _ s2 q=>q
theorem Jz {i:Nat} {x:Str} {e:Expr} {te:TE} {pos':Pos} (hN:X.N.Nodup) (hi:X.N[i]?=some x) (hx:Loc X.env.scope x) (he:PE X e te) (hs:swapsWith e (some (.Name x pos')) pos.line X.env=pure false:=by rfl) (hf:X.fn x=true∨X.env.scope.names.lookup x=some .local:=by first | exact .inl rfl | exact .inr rfl | assumption) :
  PS X (.Assign [.Name x pos'] e pos) (JrN te (Ja4 i)):=by
 intro pins s σ H D I h;refine wpAny_Assign_Name (J3 (he pins s σ H _ I h) fun v s1 ⟨y,H1,I1,r1,q1⟩=>?_) hs;exact Ji9 I1 hN hi hx r1 (fun s2 I2=>⟨_,H1,I2,q1⟩) hf
end
structure It where
 go:Nat→Hp→Prop
 yld:Nat→Hp→V→Hp→Prop
 stop:Nat→Hp→Prop
def JfE (X:Cx) (pins:List (Addr×Obj)) (H:Hp) (b:Addr):Prop :=
 H b=none∧b≠X.env.locals∧b∉X.fs∧(b∈X.ex∨X.s₀.heap.objs.size≤b)∧(∀ x c,X.env.cells.lookup x=some c→c≠b)∧∀ p∈X.pn ++ pins,p.1≠b
theorem Jn.fpOk {X:Cx} {pins:List (Addr×Obj)} {σ:St} {H H':Hp} {s:Shared} {b:Addr} (I:Jn X pins σ H s) (hb:s.heap.objs.size≤b) (hn:H' b=none):JfE X pins H' b:=by
 refine ⟨hn,Nat.ne_of_gt (Nat.lt_of_lt_of_le I.lt hb),I.nofs hb,.inr (Nat.le_trans I.sz hb),fun x c e z=>?_,fun p hp z=>?_⟩
 ·obtain ⟨v,q⟩:=I.cell x c e;exact absurd (Nat.lt_of_lt_of_le q.lt (by rw [z]; exact hb)) (Nat.lt_irrefl _)
 ·exact absurd (Nat.lt_of_lt_of_le (Heap.lt_size (I.pin p hp).1) (by rw [z]; exact hb)) (Nat.lt_irrefl _)
structure JlB (P:Program) (w:World) (K:PySem.W.Frag) (tg:Expr) (J:It) (fp:List Addr) (it:Addr) (tn:Nat→Heap→Prop):Prop where
 mem:it∈fp
 obj:∀ i h,tn i h→∀ b∈fp,∃ o,h.get? b=some o∧∀ v,o.data≠.cell v
 keep:∀ i h h',tn i h→(∀ b∈fp,∀ o,h.get? b=some o→h'.get? b=some o)→tn i h'
 item:∀ (X:Cx),X.prog=P→X.w=w→X.K=K→X.calm=true→∀ (i:Nat) (pins:List (Addr×Obj)) (s:Shared) (σ:St) (H:Hp) (E:Value→Shared→Prop),Jn X pins σ H s→(∀ b∈fp,JfE X pins H b)→tn i s.heap→J.go i H →
  wpAny (model P w) X.A (pyNext (.ref it)) (fun r s1=>∃ u,r=some u ∧
   wpAny (model P w) X.A (letOwnedTupleGo tg (.ref it) u) (fun _ s2=>∃ x H',Jn X pins σ H' s2∧JU x u∧J.yld i H x H'∧tn (i + 1) s2.heap∧∀ b∈fp,H' b=none) E s1) E s
 done:∀ (X:Cx),X.prog=P→X.w=w→X.K=K→X.calm=true→∀ (i:Nat) (pins:List (Addr×Obj)) (s:Shared) (σ:St) (H:Hp) (E:Value→Shared→Prop),Jn X pins σ H s→(∀ b∈fp,JfE X pins H b)→tn i s.heap→J.stop i H →
  wpAny (model P w) X.A (pyNext (.ref it)) (fun r s1=>r=none∧Jn X pins σ H s1) E s
 self:∀ (A:Around) (i:Nat) (s:Shared) (Q:Value→Shared→Prop) (E:Value→Shared→Prop),tn i s.heap→Q (.ref it) s→wpAny (model P w) A (pyIter (.ref it)) Q E s
abbrev TI:=St→Hp→(It→Hp→Prop)→Prop
def PIE (X:Cx) (pins:List (Addr×Obj)) (σ:St) (tg:Expr) (R:It→Hp→Prop) (itv:Value) (s2:Shared):Prop :=
 ∃ (it:Addr) (fp:List Addr) (tn:Nat→Heap→Prop) (J:It) (H':Hp),itv=.ref it∧Jn X pins σ H' s2∧JlB X.prog X.w X.K tg J fp it tn∧tn 0 s2.heap∧(∀ b∈fp,JfE X pins H' b)∧R J H'
def PI (X:Cx) (tg iter:Expr) (wi:TI):Prop :=
 ∀ (pins:List (Addr×Obj)) (s:Shared) (σ:St) (H:Hp) (R:It→Hp→Prop),Jn X pins σ H s→wi σ H R →
  wpAny (model X.prog X.w) X.A (eval iter X.env) (fun v s1=>wpAny (model X.prog X.w) X.A (pyIter v) (PIE X pins σ tg R) X.xe s1) X.xe s
theorem JmJ {M:Model} {A:Around} {E:Value→Shared→Prop} {s:Shared} {tg:Expr} {it:Addr} {u:Value} {o:Obj} {n:String} {vs:Array Value} {Q:Unit→Shared→Prop} (ho:s.heap.get? it=some o) (hc:o.cls=.type n) (hd:o.data=.fields vs)
    (hn:["enumerate", "zip", "dict_itemiterator", "dict_reverseitemiterator", "odict_iterator", "itertools.zip_longest", "itertools.pairwise"].contains n=false) (hQ:Q () s):wpAny M A (letOwnedTupleGo tg (.ref it) u) Q E s:=by
  unfold letOwnedTupleGo;cases tg <;> first
    | exact wpAny_pure hQ
    | (cases u <;> first
        | exact wpAny_pure hQ
        | (refine wpAny_bind (wpAny_load ho ?_)
           rw [hc,hd];show wpAny M A (if (["enumerate", "zip", "dict_itemiterator", "dict_reverseitemiterator", "odict_iterator", "itertools.zip_longest", "itertools.pairwise"].contains n && vs[0]? == some (rawInt _))=true then _ else _) Q E s;rw [if_neg (by intro h; rw [hn,Bool.false_and] at h; cases h)];exact wpAny_pure hQ))
def Itl (K:PySem.W.Frag) (a:Addr):It :=
 ⟨fun i H=>∃ xs x,JA K H a xs∧xs[i]?=some x,fun i H x H'=>H'=H∧∀ xs,JA K H a xs→xs[i]?=some x,fun i H=>∃ xs,JA K H a xs∧xs.length≤i⟩
def Itt (K:PySem.W.Frag) (a:Addr):It :=
 ⟨fun i H=>∃ xs x,J1 K H a xs∧xs[i]?=some x,fun i H x H'=>H'=H∧∀ xs,J1 K H a xs→xs[i]?=some x,fun i H=>∃ xs,J1 K H a xs∧xs.length≤i⟩
def Itr (lo:Int) (n:Nat):It:=⟨fun i _=>i < n,fun i H x H'=>H'=H∧x=.int (lo + i),fun i _=>n≤i⟩
theorem Jp9 {P:Program} {w:World} {K:PySem.W.Frag} {tg:Expr} (a it:Addr):JlB P w K tg (Itl K a) [it] it (fun i h=>h.IsListIter it a i) where
 mem:=by simp
 obj:=fun i h st b hb=>by
  have e:b=it:=by simpa using hb
  subst e;obtain ⟨o,e,c,d⟩:=st;exact ⟨o,e,fun v z=>by rw [d] at z; cases z⟩
 keep:=fun i h h' st k=>st.at fun o e=>k it (by simp) o e
 item:=by
  intro X hP hw hK hc i pins s σ H E I hf st hg;subst hP hw hK;obtain ⟨xs,x,hq,hx⟩:=hg;obtain ⟨its,rv,p,hz⟩:=I.list hq;obtain ⟨u,hu,ru⟩:=rv.get hx;obtain ⟨f0,f1,f2,f3,f4,f5⟩:=hf it (by simp);refine wpAny_pyNext_list_item st p.isList (x:=u) (by simpa using hu) fun h' st' sb=>?_
  have I1:Jn X pins σ H { s with heap:=h' }:=I.turned (t':=s.toks) (fun b o hb e=>(sb.2 b hb).trans e) f0 f1 f3 f4 f5;obtain ⟨o,e,c,d⟩:=id st';exact ⟨u,rfl,JmJ (s:={ s with heap:=h' }) e c d (by decide) ⟨x,H,I1,ru,⟨rfl,fun ys hy=>by rw [I.list_inj hy hq]; exact hx⟩,st',fun b hb=>(hf b hb).1⟩⟩
 done:=by
  intro X hP hw hK hc i pins s σ H E I hf st hg;subst hP hw hK;obtain ⟨xs,hq,hx⟩:=hg;obtain ⟨its,rv,p,hz⟩:=I.list hq;obtain ⟨f0,f1,f2,f3,f4,f5⟩:=hf it (by simp);have hl:=rv.length;exact wpAny_pyNext_list_end (I.ok.hd hc) st p.isList (by simp; omega) fun h' eb=>⟨rfl,I.turned (t':=s.toks) (fun b o hb e=>eb b o hb e) f0 f1 f3 f4 f5⟩
 self:=fun _ _ _ _ _ st h=>wpAny_pyIter_listiter st h
theorem Jo3 {P:Program} {w:World} {K:PySem.W.Frag} {tg:Expr} (a it:Addr):JlB P w K tg (Itt K a) [it] it (fun i h=>h.IsTupleIter it a i) where
 mem:=by simp
 obj:=fun i h st b hb=>by
  have e:b=it:=by simpa using hb
  subst e;obtain ⟨o,e,c,d⟩:=st;exact ⟨o,e,fun v z=>by rw [d] at z; cases z⟩
 keep:=fun i h h' st k=>st.at fun o e=>k it (by simp) o e
 item:=by
  intro X hP hw hK hc i pins s σ H E I hf st hg;subst hP hw hK;obtain ⟨xs,x,hq,hx⟩:=hg;obtain ⟨its,rv,p,hz⟩:=I.tuple hq;obtain ⟨u,hu,ru⟩:=rv.get hx;obtain ⟨f0,f1,f2,f3,f4,f5⟩:=hf it (by simp);refine wpAny_pyNext_tuple_item st (show s.heap.IsTuple a its.toArray from p) (x:=u) (by simpa using hu) fun h' st' sb=>?_
  have I1:Jn X pins σ H { s with heap:=h' }:=I.turned (t':=s.toks) (fun b o hb e=>(sb.2 b hb).trans e) f0 f1 f3 f4 f5;obtain ⟨o,e,c,d⟩:=id st';exact ⟨u,rfl,JmJ (s:={ s with heap:=h' }) e c d (by decide) ⟨x,H,I1,ru,⟨rfl,fun ys hy=>by rw [I.tuple_inj hy hq]; exact hx⟩,st',fun b hb=>(hf b hb).1⟩⟩
 done:=by
  intro X hP hw hK hc i pins s σ H E I hf st hg;subst hP hw hK;obtain ⟨xs,hq,hx⟩:=hg;obtain ⟨its,rv,p,hz⟩:=I.tuple hq;obtain ⟨f0,f1,f2,f3,f4,f5⟩:=hf it (by simp);have hl:=rv.length;exact wpAny_pyNext_tuple_end (I.ok.hd hc) st (show s.heap.IsTuple a its.toArray from p) (by simp; omega) fun h' eb=>⟨rfl,I.turned (t':=s.toks) (fun b o hb e=>eb b o hb e) f0 f1 f3 f4 f5⟩
 self:=fun _ _ _ _ _ st h=>wpAny_pyIter_tupleiter st h
theorem Jo4 {P:Program} {w:World} {K:PySem.W.Frag} {tg:Expr} (it:Addr) (lo:Int) (n:Nat):JlB P w K tg (Itr lo n) [it] it (fun i h=>IsRangeIter h it (lo + (i:Nat) * 1) ((n:Int) - (i:Nat)) 1) where
 mem:=by simp
 obj:=fun i h st b hb=>by
  have e:b=it:=by simpa using hb
  subst e;exact ⟨_,st,fun v z=>by
   have z':Data.fields _=Data.cell v:=z;cases z'⟩
 keep:=fun i h h' st k=>k it (by simp) _ st
 item:=by
  intro X hP hw hK hc i pins s σ H E I hf st hg;subst hP hw hK;obtain ⟨f0,f1,f2,f3,f4,f5⟩:=hf it (by simp);have W:=Walks.range (prog:=X.prog) (w:=X.w) (I.ok.hd hc) it lo 1 n;refine W.item i s _ _ hg st fun v h' tk hv st' kk=>?_
  obtain ⟨t,rfl⟩:=hv;have I1:Jn X pins σ H { s with heap:=h',toks:=tk }:=I.turned (fun b o hb e=>kk b o (by simpa using hb) e) f0 f1 f3 f4 f5;refine ⟨_,rfl,JmJ (s:={ s with heap:=h',toks:=tk }) (n := "range_iterator") st' rfl rfl (by decide) ⟨.int (lo + i),H,I1,⟨t,?_⟩,⟨rfl,rfl⟩,st',fun b hb=>(hf b hb).1⟩⟩;rw [Int.mul_one]
 done:=by
  intro X hP hw hK hc i pins s σ H E I hf st hg;subst hP hw hK;obtain ⟨f0,f1,f2,f3,f4,f5⟩:=hf it (by simp);exact wpAny_pyNext_range_end (I.ok.hd hc) st (by have:n≤i:=hg; omega) fun h' eb=>⟨rfl,I.turned (t':=s.toks) (fun b o hb e=>eb b o hb e) f0 f1 f3 f4 f5⟩
 self:=fun _ _ _ _ _ st h=>wpAny_pyIter_rangeiter st h
end L2
namespace L2
open PySem PySem.Spec PyProof.Rows
section
variable {X:Cx} {tg:Expr}
def JvX (K:PySem.W.Frag) (tl:TE):TI:=fun σ H R=>tl σ H fun x H1=>∃ a,x=.ref a∧(∃ xs,JA K H1 a xs)∧R (Itl K a) H1
def JwD (K:PySem.W.Frag) (tl:TE):TI:=fun σ H R=>tl σ H fun x H1=>∃ a,x=.ref a∧(∃ xs,J1 K H1 a xs)∧R (Itt K a) H1
theorem Jcy {l:Expr} {tl:TE} (hl:PE X l tl):PI X tg l (JvX X.K tl):=by
 intro pins s σ H R I h;refine J3 (hl pins s σ H _ I h) fun v s1 ⟨x,H1,I1,r1,q1⟩=>?_
 obtain ⟨a,e,⟨xs,hq⟩,q⟩:=q1;subst e;cases r1;obtain ⟨its,rv,p,hz⟩:=I1.list hq;refine wpAny_pyIter_list p.isList ?_;refine ⟨s1.heap.objs.size,[s1.heap.objs.size],_,_,H1,rfl,I1.kept (t':=s1.toks) fun b o e=>Heap.get?_push_of_some _ e,Jp9 a _,⟨_,Heap.get?_push_size _ rfl,rfl,rfl⟩,fun b hb=>?_,q⟩;have e:b=s1.heap.objs.size:=by simpa using hb
 subst e;exact I1.fpOk (Nat.le_refl _) (I1.hok.fresh (Nat.le_refl _))
theorem JhI {l:Expr} {tl:TE} (hl:PE X l tl):PI X tg l (JwD X.K tl):=by
 intro pins s σ H R I h;refine J3 (hl pins s σ H _ I h) fun v s1 ⟨x,H1,I1,r1,q1⟩=>?_
 obtain ⟨a,e,⟨xs,hq⟩,q⟩:=q1;subst e;cases r1;obtain ⟨its,rv,p,hz⟩:=I1.tuple hq;refine wpAny_pyIter_tuple (show s1.heap.IsTuple a its.toArray from p) ?_;refine ⟨s1.heap.objs.size,[s1.heap.objs.size],_,_,H1,rfl,I1.kept (t':=s1.toks) fun b o e=>Heap.get?_push_of_some _ e,Jo3 a _,⟨_,Heap.get?_push_size _ rfl,rfl,rfl⟩,fun b hb=>?_,q⟩;have e:b=s1.heap.objs.size:=by simpa using hb
 subst e;exact I1.fpOk (Nat.le_refl _) (I1.hok.fresh (Nat.le_refl _))
theorem Jnm {pins:List (Addr×Obj)} {σ:St} {H:Hp} {s:Shared} {R:It→Hp→Prop} {E:Value→Shared→Prop} {lo hi:Int} {t u v:Tok} {tk:Nat} (I:Jn X pins σ H s) (h1:-(2 ^ 62)≤lo) (h2:lo < 2 ^ 62) (h3:-(2 ^ 62)≤hi) (h4:hi < 2 ^ 62)
  (q:R (Itr lo (hi - lo).toNat) H):wpAny (model X.prog X.w) X.A (pyIter (.ref s.heap.objs.size)) (PIE X pins σ tg R) E { s with heap:=s.heap.push { cls:=.type "range",data:=.fields #[.int lo t,.int hi u,.int 1 v] },toks:=tk }:=by
 refine wpAny_pyIter_range (IsRange.new ..) (small_one h1 h2 h3 h4) ?_;have I1:Jn X pins σ H { s with heap:=s.heap.push { cls:=.type "range",data:=.fields #[.int lo t,.int hi u,.int 1 v] },toks:=tk }:=I.kept fun b o e=>Heap.get?_push_of_some _ e
 refine ⟨(s.heap.push { cls:=.type "range",data:=.fields #[.int lo t,.int hi u,.int 1 v] }).objs.size,[(s.heap.push { cls:=.type "range",data:=.fields #[.int lo t,.int hi u,.int 1 v] }).objs.size],_,_,H,rfl,
  I1.kept (t':=tk) fun b o e=>Heap.get?_push_of_some _ e,Jo4 _ lo (hi - lo).toNat,?_,fun b hb=>?_,q⟩
 ·have e1:lo + ((0:Nat):Int) * 1=lo:=by simp
  have e2:(((hi - lo).toNat:Nat):Int) - ((0:Nat):Int)=Builtin.Range.rangeSize lo hi 1:=by rw [rangeSize_one]; split <;> omega
  show IsRangeIter _ _ (lo + ((0:Nat):Int) * 1) ((((hi - lo).toNat:Nat):Int) - ((0:Nat):Int)) 1;rw [e1,e2];exact Heap.get?_push_size _ rfl
 ·have e:b=(s.heap.push { cls:=.type "range",data:=.fields #[.int lo t,.int hi u,.int 1 v] }).objs.size:=by simpa using hb
  subst e;exact I1.fpOk (Nat.le_refl _) (I1.hok.fresh (Nat.le_refl _))
def JvW (ta:TA):TI:=fun σ H R=>ta σ H fun vs H1=>∃ j:Int,vs=[.int j]∧-(2 ^ 62)≤j∧j < 2 ^ 62∧R (Itr 0 j.toNat) H1
def JvV (ta:TA):TI:=fun σ H R=>ta σ H fun vs H1=>∃ i j:Int,vs=[.int i,.int j]∧(-(2 ^ 62)≤i∧i < 2 ^ 62∧-(2 ^ 62)≤j∧j < 2 ^ 62)∧R (Itr i (j - i).toNat) H1
theorem Zf {a:Expr} {ta:TA} {p pos:Pos} (hg:Gl X "range") (hm:X.mg "range" = none) (ha:PA X [a] ta) (hs:starEach [a] X.env=[(false,eval a X.env)]:=by rfl):PI X tg (.Call (.Name "range" p) [a] [] pos) (JvW ta):=by
 intro pins s σ H R I h;refine Call_ (Jh2 I hg hm boot_range (PyProof.Rows.callWith_type1 (J3 (ha pos pins s σ H _ I h) fun us s1 ⟨vs,H1,I1,r1,q1⟩=>?_) hs rfl));obtain ⟨j,e,q1,q2,q⟩:=q1;subst e;cases r1 with
 | cons r rr =>
  cases rr;obtain ⟨t,rfl⟩:=r;exact call_range_1 (Jnm I1 (by omega) (by omega) q1 q2 (by simpa using q))
theorem JqB {a b:Expr} {ta:TA} {p pos:Pos} (hg:Gl X "range") (hm:X.mg "range" = none) (ha:PA X [a,b] ta) (hs:starEach [a,b] X.env=[(false,eval a X.env),(false,eval b X.env)]:=by rfl) (hs2:starEach [b] X.env=[(false,eval b X.env)]:=by rfl) :
  PI X tg (.Call (.Name "range" p) [a,b] [] pos) (JvV ta):=by
 intro pins s σ H R I h;refine Call_ (Jh2 I hg hm boot_range (PyProof.Rows.callWith_type1 (J3 (ha pos pins s σ H _ I h) fun us s1 ⟨vs,H1,I1,r1,q1⟩=>?_) (by rw [hs,hs2]) (by rw [hs2]; rfl)));obtain ⟨i,j,e,⟨q1,q2,q3,q4⟩,q⟩:=q1;subst e;cases r1 with
 | cons r rr =>
  cases rr with
  | cons r' rr =>
   cases rr;obtain ⟨t,rfl⟩:=r;obtain ⟨t',rfl⟩:=r';exact call_range_2 (Jnm I1 q1 q2 q3 q4 q)
def Jwq (wi:TI) (g:TG) (tb:TS):TS:=fun D σ H=>@Jir.rec (fun _=>Prop) (fun dn dr _ _=>wi σ H fun J H1=>∃ W:Nat→Nat→St→Hp→Prop,(∃ m,W 0 m σ H1)∧∀ i m σ H,W i m σ H →
 (J.stop i H∧dn σ H)∨(J.go i H∧∃ N:St→Hp→Prop,(∀ σ' H',N σ' H'→∃ m',m' < m∧W (i + 1) m' σ' H')∧∀ x H',J.yld i H x H'→g x σ H' fun σ2 H2=>tb ⟨N,dr,dn,N⟩ σ2 H2)) D
def JhH (fp:List Addr) (h:Heap):List (Addr×Obj):=fp.filterMap fun b=>(h.get? b).map fun o=>(b,o)
theorem Jeg {fp:List Addr} {h:Heap} {b:Addr} {o:Obj} (hb:b∈fp) (e:h.get? b=some o):(b,o)∈JhH fp h:=List.mem_filterMap.mpr ⟨b,hb,by rw [e]; rfl⟩
theorem JqI {fp:List Addr} {h:Heap} {p:Addr×Obj} (hp:p∈JhH fp h):p.1∈fp∧h.get? p.1=some p.2:=by
 obtain ⟨b,hb,e⟩:=List.mem_filterMap.mp hp;cases q:h.get? b with
 | none=>rw [q] at e; cases e
 | some o =>
  rw [q] at e;have e':(b,o)=p:=Option.some.inj e;subst e';exact ⟨hb,q⟩
theorem Jn.pinned {pins:List (Addr×Obj)} {σ:St} {H:Hp} {s:Shared} {fp:List Addr} (I:Jn X pins σ H s) (hf:∀ b∈fp,JfE X pins H b) (ho:∀ b∈fp,∃ o,s.heap.get? b=some o∧∀ v,o.data≠.cell v):Jn X (pins ++ JhH fp s.heap) σ H s :=
 I.pins_of fun p hp=>(List.mem_append.mp hp).elim (fun z=>I.pin p (List.mem_append_right _ z)) fun z=>by
  obtain ⟨hb,e⟩:=JqI z;obtain ⟨f0,f1,f2,_⟩:=hf p.1 hb;obtain ⟨o,e',d⟩:=ho p.1 hb;rw [e] at e'; cases e';exact ⟨e,f0,f1,f2,d⟩
theorem Jn.unpinned {pins pl:List (Addr×Obj)} {σ:St} {H:Hp} {s:Shared} (I:Jn X (pins ++ pl) σ H s):Jn X pins σ H s:=I.pins_of fun p hp=>I.pin p (List.mem_append_right _ (List.mem_append_left _ hp))
theorem ZC {iter:Expr} {body:List Stmt} {wi:TI} {g:TG} {tb:TS} {pos:Pos} (hp:PassesOwn (model X.prog X.w) X.A X.env X.xe) (hc:X.calm=true) (hi:PI X tg iter wi) (hg:PG X tg g) (hb:PSs X body tb)
  (hs:∀ x,foldedSetIterable iter X.env x=pure x:=by intro _; rfl):PS X (.For tg iter body [] pos) (Jwq wi g tb):=by
 intro pins s σ H D I h;refine wpAny_For (J3 (hi pins s σ H _ I h) fun v s1 h1=>J3 h1 fun itv s2 h2=>?_) hs;obtain ⟨it,fp,tn,J,H2,e,I2,T,st2,f2,W,⟨m0,w0⟩,turn⟩:=h2;subst e;have stat:∀ {H':Hp},(∀ b∈fp,H' b=none)→∀ b∈fp,JfE X pins H' b:=fun hn b hb=>⟨hn b hb,(f2 b hb).2⟩
 refine codeAny_forLoop_any (fun n s'=>∃ i σ' H',Jn X pins σ' H' s'∧tn i s'.heap∧(∀ b∈fp,H' b=none)∧W i n σ' H') ?_ m0 ⟨0,σ,H2,I2,st2,fun b hb=>(f2 b hb).1,w0⟩;rintro n s3 ⟨i,σ3,H3,I3,st3,fr3,w3⟩;rcases turn i n σ3 H3 w3 with ⟨stop,qn⟩ | ⟨go,N,hN,step⟩
 ·refine wpAny_passesOwn hp (J3 (T.done X rfl rfl rfl hc i pins s3 σ3 H3 X.xe I3 (stat fr3) st3 stop) fun r s4 ⟨hr,I4⟩=>?_);subst hr;exact wpAny_execs_nil ⟨σ3,H3,I4,qn⟩
 ·refine wpAny_passesOwn hp (J3 (T.item X rfl rfl rfl hc i pins s3 σ3 H3 X.xe I3 (stat fr3) st3 go) fun r s4 ⟨u,hr,h4⟩=>?_);subst hr;refine wpAny_passesOwn hp (J3 h4 fun _ s5 ⟨x,H5,I5,r5,y5,st5,fr5⟩=>?_);have I5':=I5.pinned (stat fr5) (T.obj _ _ st5);refine wpAny_passesOwn hp (J3 (hg _ s5 σ3 H5 x u _ I5' r5 (step x H5 y5)) fun _ s6 ⟨σ6,H6,I6,q6⟩=>?_);refine wpAny_passesOwn hp (J3 (hb _ s6 σ6 H6 _ I6 q6) fun f s7 q7=>?_);have again:∀ {σ7:St} {H7:Hp},Jn X (pins ++ JhH fp s5.heap) σ7 H7 s7→N σ7 H7→∃ m,m < n∧∃ i σ' H',Jn X pins σ' H' s7∧tn i s7.heap∧(∀ b∈fp,H' b=none)∧W i m σ' H':=fun {σ7 H7} I7 n7=>by
   obtain ⟨m',hm,w7⟩:=hN σ7 H7 n7;refine ⟨m',hm,i + 1,σ7,H7,I7.unpinned,T.keep _ _ _ st5 fun b hb o e=>(I7.pin (b,o) (List.mem_append_right _ (List.mem_append_right _ (Jeg hb e)))).1,fun b hb=>?_,w7⟩;obtain ⟨o,e,d⟩:=T.obj _ _ st5 b hb;exact (I7.pin (b,o) (List.mem_append_right _ (List.mem_append_right _ (Jeg hb e)))).2.1
  cases f with
  | next=>obtain ⟨σ7,H7,I7,n7⟩:=q7; exact again I7 n7
  | cont=>obtain ⟨σ7,H7,I7,n7⟩:=q7; exact again I7 n7
  | brk=>obtain ⟨σ7,H7,I7,q7⟩:=q7; exact ⟨σ7,H7,I7.unpinned,q7⟩
  | ret v=>obtain ⟨x7,σ7,H7,I7,r7,q7⟩:=q7; exact ⟨x7,σ7,H7,I7.unpinned,r7,q7⟩
end
theorem Jjn {K:PySem.W.Frag} {a:Addr} {xs:List V} {g:TG} {tb:TS} {dn:St→Hp→Prop} {dr:VK} {σ:St} {H:Hp} (Pv:Nat→St→Hp→Prop) (h0:Pv 0 σ H) (hl:∀ i σ H,i≤xs.length→Pv i σ H→JA K H a xs)
  (hs:∀ i x σ H,xs[i]?=some x→Pv i σ H→g x σ H fun σ2 H2=>tb ⟨Pv (i + 1),dr,dn,Pv (i + 1)⟩ σ2 H2) (hd:∀ σ H,Pv xs.length σ H→dn σ H) :
  ∃ W:Nat→Nat→St→Hp→Prop,(∃ m,W 0 m σ H)∧∀ i m σ H,W i m σ H →
   ((Itl K a).stop i H∧dn σ H)∨((Itl K a).go i H∧∃ N:St→Hp→Prop,(∀ σ' H',N σ' H'→∃ m',m' < m∧W (i + 1) m' σ' H')∧∀ x H',(Itl K a).yld i H x H'→g x σ H' fun σ2 H2=>tb ⟨N,dr,dn,N⟩ σ2 H2):=by
 refine ⟨fun i m σ H=>m=xs.length - i∧i≤xs.length∧Pv i σ H,⟨xs.length,by simp,Nat.zero_le _,h0⟩,?_⟩;rintro i m σ H ⟨rfl,hi,p⟩;have q:=hl i σ H hi p;by_cases hlt:i < xs.length
 ·refine .inr ⟨⟨xs,xs[i],q,by simp [hlt]⟩,Pv (i + 1),fun σ' H' p'=>⟨xs.length - (i + 1),by omega,rfl,hlt,p'⟩,fun x H' y=>?_⟩;obtain ⟨e,y⟩:=y;subst e;exact hs i x σ _ (y xs q) p
 ·have e:i=xs.length:=by omega
  subst e;exact .inl ⟨⟨xs,q,Nat.le_refl _⟩,hd σ H p⟩
theorem JoP {K:PySem.W.Frag} {a:Addr} {xs:List V} {g:TG} {tb:TS} {dn:St→Hp→Prop} {dr:VK} {σ:St} {H:Hp} (Pv:Nat→St→Hp→Prop) (h0:Pv 0 σ H) (hl:∀ i σ H,i≤xs.length→Pv i σ H→J1 K H a xs)
  (hs:∀ i x σ H,xs[i]?=some x→Pv i σ H→g x σ H fun σ2 H2=>tb ⟨Pv (i + 1),dr,dn,Pv (i + 1)⟩ σ2 H2) (hd:∀ σ H,Pv xs.length σ H→dn σ H) :
  ∃ W:Nat→Nat→St→Hp→Prop,(∃ m,W 0 m σ H)∧∀ i m σ H,W i m σ H →
   ((Itt K a).stop i H∧dn σ H)∨((Itt K a).go i H∧∃ N:St→Hp→Prop,(∀ σ' H',N σ' H'→∃ m',m' < m∧W (i + 1) m' σ' H')∧∀ x H',(Itt K a).yld i H x H'→g x σ H' fun σ2 H2=>tb ⟨N,dr,dn,N⟩ σ2 H2):=by
 refine ⟨fun i m σ H=>m=xs.length - i∧i≤xs.length∧Pv i σ H,⟨xs.length,by simp,Nat.zero_le _,h0⟩,?_⟩;rintro i m σ H ⟨rfl,hi,p⟩;have q:=hl i σ H hi p;by_cases hlt:i < xs.length
 ·refine .inr ⟨⟨xs,xs[i],q,by simp [hlt]⟩,Pv (i + 1),fun σ' H' p'=>⟨xs.length - (i + 1),by omega,rfl,hlt,p'⟩,fun x H' y=>?_⟩;obtain ⟨e,y⟩:=y;subst e;exact hs i x σ _ (y xs q) p
 ·have e:i=xs.length:=by omega
  subst e;exact .inl ⟨⟨xs,q,Nat.le_refl _⟩,hd σ H p⟩
theorem Zt {lo:Int} {n:Nat} {g:TG} {tb:TS} {dn:St→Hp→Prop} {dr:VK} {σ:St} {H:Hp} (Pv:Nat→St→Hp→Prop) (h0:Pv 0 σ H)
  (hs:∀ i σ H,i < n→Pv i σ H→g (.int (lo + i)) σ H fun σ2 H2=>tb ⟨Pv (i + 1),dr,dn,Pv (i + 1)⟩ σ2 H2) (hd:∀ σ H,Pv n σ H→dn σ H) :
  ∃ W:Nat→Nat→St→Hp→Prop,(∃ m,W 0 m σ H)∧∀ i m σ H,W i m σ H →
   ((Itr lo n).stop i H∧dn σ H)∨((Itr lo n).go i H∧∃ N:St→Hp→Prop,(∀ σ' H',N σ' H'→∃ m',m' < m∧W (i + 1) m' σ' H')∧∀ x H',(Itr lo n).yld i H x H'→g x σ H' fun σ2 H2=>tb ⟨N,dr,dn,N⟩ σ2 H2):=by
 refine ⟨fun i m σ H=>m=n - i∧i≤n∧Pv i σ H,⟨n,by simp,Nat.zero_le _,h0⟩,?_⟩;rintro i m σ H ⟨rfl,hi,p⟩;by_cases hlt:i < n
 ·refine .inr ⟨hlt,Pv (i + 1),fun σ' H' p'=>⟨n - (i + 1),by omega,rfl,hlt,p'⟩,fun x H' y=>?_⟩;obtain ⟨e,y⟩:=y;subst e y;exact hs i σ _ hlt p
 ·have e:i=n:=by omega
  subst e;exact .inl ⟨Nat.le_refl _,hd σ H p⟩
end L2
namespace L2
open PySem PySem.Spec PyProof.Rows
abbrev R2:=V→V→Hp→VK→Prop
def ZS (X:Cx) (f:Value→Value→Sem Value) (r:R2):Prop :=
 ∀ (pins:List (Addr×Obj)) (s:Shared) (σ:St) (H:Hp) (x y:V) (v u:Value) (Q:VK),Jn X pins σ H s→JU x v→JU y u→r x y H Q →
  wpAny (model X.prog X.w) X.A (f v u) (EP X pins σ Q) X.xe s
def UnR (X:Cx) (f:Value→Sem Value) (r:V→Hp→VK→Prop):Prop :=
 ∀ (pins:List (Addr×Obj)) (s:Shared) (σ:St) (H:Hp) (x:V) (v:Value) (Q:VK),Jn X pins σ H s→JU x v→r x H Q →
  wpAny (model X.prog X.w) X.A (f v) (EP X pins σ Q) X.xe s
def Yl (X:Cx) (f:Value) (r:List V→Hp→VK→Prop):Prop :=
 ∀ (pins:List (Addr×Obj)) (s:Shared) (σ:St) (H:Hp) (xs:List V) (us:List Value) (Q:VK),Jn X pins σ H s→JK xs us→r xs H Q →
  wpAny (model X.prog X.w) X.A (call f us) (EP X pins σ Q) X.xe s
def tOp (r:R2) (ta tb:TE):TE:=fun σ H Q=>ta σ H fun x H1=>tb σ H1 fun y H2=>r x y H2 Q
def tUn (r:V→Hp→VK→Prop) (ta:TE):TE:=fun σ H Q=>ta σ H fun x H1=>r x H1 Q
def rI (C:Int→Int→Prop) (g:Int→Int→V):R2:=fun x y H Q=>∃ i j,x=.int i∧y=.int j∧C i j∧Q (g i j) H
def rI0 (g:Int→Int→V):R2:=fun x y H Q=>∃ i j,x=.int i∧y=.int j∧Q (g i j) H
def rU (g:Int→V):V→Hp→VK→Prop:=fun x H Q=>∃ i,x=.int i∧Q (g i) H
section
variable {X:Cx} {a b c:Expr} {ta tb tc:TE} {pos:Pos}
theorem Js6 (ha:PE X a ta) (hb:PE X b tb) {pins:List (Addr×Obj)} {s:Shared} {σ:St} {H:Hp} {R:V→V→Hp→Prop} (I:Jn X pins σ H s)
  (h:ta σ H fun x H1=>tb σ H1 fun y H2=>R x y H2) {Q:Value→Shared→Prop} {f:Value→Value→Sem Value}
  (hf:∀ v u s2 x y H2,Jn X pins σ H2 s2→JU x v→JU y u→R x y H2→wpAny (model X.prog X.w) X.A (f v u) Q X.xe s2) :
  wpAny (model X.prog X.w) X.A (eval a X.env) (fun v s₁=>wpAny (model X.prog X.w) X.A (eval b X.env) (fun u s₂=>wpAny (model X.prog X.w) X.A (f v u) Q X.xe s₂) X.xe s₁) X.xe s:=by
 refine J3 (ha pins s σ H _ I h) fun v s1 ⟨x,H1,I1,r1,q1⟩=>?_
 refine J3 (hb pins s1 σ H1 _ I1 q1) fun u s2 ⟨y,H2,I2,r2,q2⟩=>?_
 exact hf v u s2 x y H2 I2 r1 r2 q2
theorem Jo {op:Operator} {r:R2} (ho:ZS X (binaryOp op) r) (ha:PE X a ta) (hb:PE X b tb):PE X (.BinOp a op b pos) (tOp r ta tb):=by
 intro pins s σ H Q I h;exact wpAny_BinOp (Js6 ha hb I h fun v u s2 x y H2 I2 rx ry q=>ho pins s2 σ H2 x y v u Q I2 rx ry q)
theorem JiC {op:UnaryOp} {r:V→Hp→VK→Prop} (ho:UnR X (unaryOp op) r) (ha:PE X a ta):PE X (.UnaryOp op a pos) (tUn r ta):=by
 intro pins s σ H Q I h;exact UnaryOp_ (J3 (ha pins s σ H _ I h) fun v s1 ⟨x,H1,I1,r1,q1⟩=>ho pins s1 σ H1 x v Q I1 r1 q1)
theorem opI {f:Value→Value→Sem Value} {C:Int→Int→Prop} {g:Int→Int→Int}
  (rule:∀ (i j:Int) (t u:Tok) (s:Shared) (Q:Value→Shared→Prop) (E:Value→Shared→Prop),C i j→Q (.int (g i j) s.toks) { s with toks:=s.toks + 1 }→wpAny (model X.prog X.w) X.A (f (.int i t) (.int j u)) Q E s) :
  ZS X f (rI C fun i j=>.int (g i j)):=by
 intro pins s σ H x y v u Q I rx ry h;obtain ⟨i,j,rfl,rfl,hc,q⟩:=h;obtain ⟨t,rfl⟩:=rx;obtain ⟨t',rfl⟩:=ry;exact rule i j t t' s _ _ hc ⟨.int (g i j),H,I.tok _,⟨_,rfl⟩,q⟩
theorem Ju9 {f:Value→Value→Sem Value} {g:Int→Int→Int}
  (rule:∀ (i j:Int) (t u:Tok) (s:Shared) (Q:Value→Shared→Prop) (E:Value→Shared→Prop),Q (.int (g i j) s.toks) { s with toks:=s.toks + 1 }→wpAny (model X.prog X.w) X.A (f (.int i t) (.int j u)) Q E s) :
  ZS X f (rI0 fun i j=>.int (g i j)):=by
 intro pins s σ H x y v u Q I rx ry h;obtain ⟨i,j,rfl,rfl,q⟩:=h;obtain ⟨t,rfl⟩:=rx;obtain ⟨t',rfl⟩:=ry;exact rule i j t t' s _ _ ⟨.int (g i j),H,I.tok _,⟨_,rfl⟩,q⟩
theorem Jsu {f:Value→Value→Sem Value} {g:Int→Int→Bool}
  (rule:∀ (i j:Int) (t u:Tok) (s:Shared) (Q:Value→Shared→Prop) (E:Value→Shared→Prop),Q (.bool (g i j)) s→wpAny (model X.prog X.w) X.A (f (.int i t) (.int j u)) Q E s) :
  ZS X f (rI0 fun i j=>.bl (g i j)):=by
 intro pins s σ H x y v u Q I rx ry h;obtain ⟨i,j,rfl,rfl,q⟩:=h;obtain ⟨t,rfl⟩:=rx;obtain ⟨t',rfl⟩:=ry;exact rule i j t t' s _ _ ⟨.bl (g i j),H,I,rfl,q⟩
def JwJ (i j:Int):Prop:=0 < j∧j < 1073741824
def Jtd (i j:Int):Prop:=(-(2 ^ 64) < i∧i < 2 ^ 64)∨(-(2 ^ 64) < j∧j < 2 ^ 64)
theorem Jtd.ok {i j:Int} (h:Jtd i j):IntMulOk i j:=by
 rcases h with ⟨h1,h2⟩ | ⟨h1,h2⟩
 ·exact .of_left (intBits_le_64 h1 h2)
 ·exact .of_right (intBits_le_64 h1 h2)
theorem Ye:ZS X (binaryOp .Add) (rI0 fun i j=>.int (i + j)):=Ju9 fun _ _ _ _ _ _ _ q=>add_int q
theorem JaS:ZS X (binaryOp .Sub) (rI0 fun i j=>.int (i - j)):=Ju9 fun _ _ _ _ _ _ _ q=>sub_int q
theorem Jas:ZS X (binaryOp .Mult) (rI Jtd fun i j=>.int (i * j)):=opI fun _ _ _ _ _ _ _ hc q=>mul_int q hc.ok
theorem YK:ZS X (binaryOp .FloorDiv) (rI JwJ fun i j=>.int (i / j)):=opI fun i j _ _ _ _ _ hc q=>by
 have h1:(0:Int) < j:=hc.1;have h2:j < 1073741824:=hc.2;exact floordiv_int (by omega) (by rw [Int.fdiv_eq_ediv_of_nonneg i (by omega)]; exact q) (.inl (PyProof.noPylong_small (by omega)))
theorem J6:ZS X (binaryOp .Mod) (rI (fun _ j=>0 < j) fun i j=>.int (i % j)):=opI fun i j _ _ _ _ _ hc q=>by
 have h1:(0:Int) < j:=hc;exact mod_int' (by omega) (by rw [Int.fmod_eq_emod_of_nonneg i (by omega)]; exact q)
theorem unI {f:Value→Sem Value} {g:Int→Int}
  (rule:∀ (i:Int) (t:Tok) (s:Shared) (Q:Value→Shared→Prop) (E:Value→Shared→Prop),Q (.int (g i) s.toks) { s with toks:=s.toks + 1 }→wpAny (model X.prog X.w) X.A (f (.int i t)) Q E s) :
  UnR X f (rU fun i=>.int (g i)):=by
 intro pins s σ H x v Q I rx h;obtain ⟨i,rfl,q⟩:=h;obtain ⟨t,rfl⟩:=rx;exact rule i t s _ _ ⟨.int (g i),H,I.tok _,⟨_,rfl⟩,q⟩
theorem Jgv:UnR X (unaryOp .USub) (rU fun i=>.int (-i)):=unI fun _ _ _ _ _ q=>neg_int q
end
def JuJ:V→V→Bool
 | .non,.non=>true | .non,.int _=>true | .int _,.non=>true | .non,.bl _=>true | .bl _,.non=>true | .non,.str _=>true | .str _,.non=>true
 | .int _,.int _=>true | .bl _,.bl _=>true | .str _,.str _=>true | .byt _,.byt _=>true
 | .int _,.str _=>true | .str _,.int _=>true | .bl _,.str _=>true | .str _,.bl _=>true
 | _,_=>false
def rEq:R2:=fun x y H Q=>JuJ x y=true∧Q (.bl (decide (x=y))) H
def rNe:R2:=fun x y H Q=>JuJ x y=true∧Q (.bl (!decide (x=y))) H
theorem JiL {i j:Int}:decide (V.int i=V.int j)=(i == j):=by
 rw [Bool.eq_iff_iff];simp
theorem Jrj {i j:Bool}:decide (V.bl i=V.bl j)=(i == j):=by
 rw [Bool.eq_iff_iff];simp
theorem Jlv {i j:Str}:decide (V.str i=V.str j)=(i == j):=by
 rw [Bool.eq_iff_iff];simp
theorem JoS {i j:Array UInt8}:decide (V.byt i=V.byt j)=(i.toList == j.toList):=by
 rw [Bool.eq_iff_iff];cases i;cases j;simp
section
variable {X:Cx} {a b c:Expr} {ta tb tc:TE} {pos:Pos}
theorem Yu {pins:List (Addr×Obj)} {σ:St} {H:Hp} {s:Shared} {Q:VK} {k k':Bool} (I:Jn X pins σ H s) (q:Q (.bl k) H) (e:k=k'):EP X pins σ Q (.bool k') s:=by
 subst e;exact ⟨.bl k,H,I,rfl,q⟩
theorem Yi:ZS X (compareOp .Eq) rEq:=by
 intro pins s σ H x y v u Q I rx ry h;obtain ⟨hs,q⟩:=h;cases x with
 | non =>
  cases rx;cases y with
  | non=>cases ry; exact PySem.EqNone.eq_none_none (Yu I q (by simp))
  | bl j=>cases ry; exact PySem.EqNone.eq_none_bool (Yu I q (by simp))
  | int j=>obtain ⟨t',rfl⟩:=ry; exact PySem.EqNone.eq_none_int (Yu I q (by simp))
  | str j=>obtain ⟨t',rfl⟩:=ry; exact PySem.EqNone.eq_none_str (Yu I q (by simp))
  | _=>exact absurd (show false=true from hs) Bool.false_ne_true
 | bl i =>
  cases rx;cases y with
  | non=>cases ry; exact PySem.EqNone.eq_bool_none (Yu I q (by simp))
  | bl j=>cases ry; exact eq_bool (Yu I q Jrj)
  | str j=>obtain ⟨t',rfl⟩:=ry; exact PySem.EqMixed.eq_bool_str (Yu I q (by simp))
  | _=>exact absurd (show false=true from hs) Bool.false_ne_true
 | int i =>
  obtain ⟨t,rfl⟩:=rx;cases y with
  | non=>cases ry; exact PySem.EqNone.eq_int_none (Yu I q (by simp))
  | int j=>obtain ⟨t',rfl⟩:=ry; exact eq_int (Yu I q JiL)
  | str j=>obtain ⟨t',rfl⟩:=ry; exact PySem.EqMixed.eq_int_str (Yu I q (by simp))
  | _=>exact absurd (show false=true from hs) Bool.false_ne_true
 | str i =>
  obtain ⟨t,rfl⟩:=rx;cases y with
  | non=>cases ry; exact PySem.EqNone.eq_str_none (Yu I q (by simp))
  | bl j=>cases ry; exact PySem.EqMixed.eq_str_bool (Yu I q (by simp))
  | int j=>obtain ⟨t',rfl⟩:=ry; exact PySem.EqMixed.eq_str_int (Yu I q (by simp))
  | str j=>obtain ⟨t',rfl⟩:=ry; exact eq_str (Yu I q Jlv)
  | _=>exact absurd (show false=true from hs) Bool.false_ne_true
 | byt i =>
  obtain ⟨t,rfl⟩:=rx;cases y with
  | byt j=>obtain ⟨t',rfl⟩:=ry; exact PySem.W.eq_bytes (Yu I q JoS)
  | _=>exact absurd (show false=true from hs) Bool.false_ne_true
 | _=>cases y <;> exact absurd (show false=true from hs) Bool.false_ne_true
theorem JjX:ZS X (compareOp .NotEq) rNe:=by
 intro pins s σ H x y v u Q I rx ry h;obtain ⟨hs,q⟩:=h;cases x with
 | non =>
  cases rx;cases y with
  | non=>cases ry; exact PySem.EqNone.ne_none_none (Yu I q (by simp))
  | bl j=>cases ry; exact PySem.EqNone.ne_none_bool (Yu I q (by simp))
  | int j=>obtain ⟨t',rfl⟩:=ry; exact PySem.EqNone.ne_none_int (Yu I q (by simp))
  | str j=>obtain ⟨t',rfl⟩:=ry; exact PySem.EqNone.ne_none_str (Yu I q (by simp))
  | _=>exact absurd (show false=true from hs) Bool.false_ne_true
 | bl i =>
  cases rx;cases y with
  | non=>cases ry; exact PySem.EqNone.ne_bool_none (Yu I q (by simp))
  | bl j=>cases ry; exact ne_bool (Yu I q (congrArg not Jrj))
  | str j=>obtain ⟨t',rfl⟩:=ry; exact PySem.EqMixed.ne_bool_str (Yu I q (by simp))
  | _=>exact absurd (show false=true from hs) Bool.false_ne_true
 | int i =>
  obtain ⟨t,rfl⟩:=rx;cases y with
  | non=>cases ry; exact PySem.EqNone.ne_int_none (Yu I q (by simp))
  | int j=>obtain ⟨t',rfl⟩:=ry; exact ne_int (Yu I q (congrArg not JiL))
  | str j=>obtain ⟨t',rfl⟩:=ry; exact PySem.EqMixed.ne_int_str (Yu I q (by simp))
  | _=>exact absurd (show false=true from hs) Bool.false_ne_true
 | str i =>
  obtain ⟨t,rfl⟩:=rx;cases y with
  | non=>cases ry; exact PySem.EqNone.ne_str_none (Yu I q (by simp))
  | bl j=>cases ry; exact PySem.EqMixed.ne_str_bool (Yu I q (by simp))
  | int j=>obtain ⟨t',rfl⟩:=ry; exact PySem.EqMixed.ne_str_int (Yu I q (by simp))
  | str j=>obtain ⟨t',rfl⟩:=ry; exact ne_str (Yu I q (congrArg not Jlv))
  | _=>exact absurd (show false=true from hs) Bool.false_ne_true
 | byt i =>
  obtain ⟨t,rfl⟩:=rx;cases y with
  | byt j=>obtain ⟨t',rfl⟩:=ry; exact PySem.W.ne_bytes (Yu I q (congrArg not JoS))
  | _=>exact absurd (show false=true from hs) Bool.false_ne_true
 | _=>cases y <;> exact absurd (show false=true from hs) Bool.false_ne_true
theorem Jee:ZS X (compareOp .Lt) (rI0 fun i j=>.bl (decide (i < j))):=Jsu fun _ _ _ _ _ _ _ q=>lt_int q
theorem JiE:ZS X (compareOp .Gt) (rI0 fun i j=>.bl (decide (j < i))):=Jsu fun _ _ _ _ _ _ _ q=>gt_int q
theorem JmF:ZS X (compareOp .GtE) (rI0 fun i j=>.bl (decide (j≤i))):=Jsu fun _ _ _ _ _ _ _ q=>ge_int q
theorem ZS.or {f:Value→Value→Sem Value} {r r':R2} (h:ZS X f r) (h':ZS X f r'):ZS X f (fun x y H Q=>r x y H Q∨r' x y H Q):=by
 intro pins s σ H x y v u Q I rx ry q;rcases q with q | q
 ·exact h pins s σ H x y v u Q I rx ry q
 ·exact h' pins s σ H x y v u Q I rx ry q
theorem JE (b:Expr) {op:CmpOp} (h:op≠.In:=by decide) (h2:op≠.NotIn:=by decide):behindInMarks op b=false:=by
 have e1:(op == CmpOp.In)=false:=by cases op <;> first | rfl | exact absurd rfl h
 have e2:(op == CmpOp.NotIn)=false:=by cases op <;> first | rfl | exact absurd rfl h2
 cases b <;> simp [behindInMarks,e1,e2]
theorem JgC {op:CmpOp} {r:R2} (ho:ZS X (compareOp op) r) (ha:PE X a ta) (hb:PE X b tb) (hm:behindInMarks op b=false):PE X (.Compare a [op] [b] pos) (tOp r ta tb):=by
 intro pins s σ H Q I h;exact wpAny_Compare1 (Js6 ha hb I h fun v u s2 x y H2 I2 rx ry q=>ho pins s2 σ H2 x y v u Q I2 rx ry q) hm
def JvC (t:TE):TT:=fun σ H Q=>t σ H fun x H'=>∃ k,x=.bl k∧Q k H'
theorem Jx {op:CmpOp} {r:R2} (ho:ZS X (compareOp op) r) (ha:PE X a ta) (hb:PE X b tb) (hm:behindInMarks op b=false):PT X (.Compare a [op] [b] pos) (JvC (tOp r ta tb)):=by
 intro pins s σ H Q I h;refine wpAny_isTrue_Compare1 (J3 (ha pins s σ H _ I h) fun v s1 ⟨x,H1,I1,r1,q1⟩=>J3 (hb pins s1 σ H1 _ I1 q1) fun u s2 ⟨y,H2,I2,r2,q2⟩ =>
  J3 (ho pins s2 σ H2 x y v u _ I2 r1 r2 q2) fun c s3 ⟨z,H3,I3,r3,k,e,q3⟩=>?_) hm
 subst e;cases r3;exact wpAny_truthy_bool ⟨H3,I3,q3⟩
def Juz (r r':R2) (ta tb tc:TE):TE:=fun σ H Q=>ta σ H fun x H1=>tb σ H1 fun y H2=>r x y H2 fun z H3=>∃ k,z=.bl k ∧
 (if k=true then tc σ H3 fun w' H4=>r' y w' H4 Q else Q (.bl false) H3)
theorem Jst {op op':CmpOp} {r r':R2} (ho:ZS X (compareOp op) r) (ho':ZS X (compareOp op') r') (ha:PE X a ta) (hb:PE X b tb) (hc:PE X c tc)
  (hm:lastMarks [op,op'] [b,c]=false:=by with_unfolding_all rfl):PE X (.Compare a [op,op'] [b,c] pos) (Juz r r' ta tb tc):=by
 intro pins s σ H Q I h;refine Compare_chain (J3 (ha pins s σ H _ I h) fun v s1 ⟨x,H1,I1,r1,q1⟩=>chain_link (J3 (hb pins s1 σ H1 _ I1 q1) fun u s2 ⟨y,H2,I2,r2,q2⟩ =>
  J3 (ho pins s2 σ H2 x y v u _ I2 r1 r2 q2) fun d s3 ⟨z,H3,I3,r3,k,e,q3⟩=>?_)) hm
 subst e;cases r3;refine wpAny_truthy_bool ?_;cases k with
 | false=>exact ite_ff ⟨.bl false,H3,I3,rfl,q3⟩
 | true=>exact ite_tt (chain_last (J3 (hc pins s3 σ H3 _ I3 q3) fun w' s4 ⟨z',H4,I4,r4,q4⟩=>ho' pins s4 σ H4 y z' u w' Q I4 r2 r4 q4))
theorem JgG:(sizeLine:Nat) < 2 ^ 63:=by rw [sizeLine_eq]; decide
theorem Jg2:ZS X (binaryOp .Add) (fun x y H Q=>∃ i j,x=.str i∧y=.str j∧i.length + j.length≤sizeLine∧Q (.str (i ++ j)) H):=by
 intro pins s σ H x y v u Q I rx ry h;obtain ⟨i,j,rfl,rfl,hz,q⟩:=h;obtain ⟨t,rfl⟩:=rx;obtain ⟨t',rfl⟩:=ry;exact add_str (fun t' tk=>⟨.str (i ++ j),H,I.tok _,⟨_,rfl⟩,q⟩) hz
theorem JgS {x:V} {us:List Value} (r:JK [x] us):∃ u,us=[u]∧JU x u:=by
 cases r with
 | cons r1 r2=>cases r2; exact ⟨_,rfl,r1⟩
theorem Jte {x y:V} {us:List Value} (r:JK [x,y] us):∃ u w',us=[u,w']∧JU x u∧JU y w':=by
 cases r with
 | cons r1 r2 =>
  cases r2 with
  | cons r3 r4=>cases r4; exact ⟨_,_,rfl,r1,r3⟩
theorem Jik (hc:X.calm=true):Yl X (.builtin "max") (fun xs H Q=>∃ i j,xs=[.int i,.int j]∧Q (.int (if j > i then j else i)) H):=by
 intro pins s σ H xs us Q I r h;obtain ⟨i,j,rfl,q⟩:=h;obtain ⟨u,w',rfl,⟨t,rfl⟩,⟨t',rfl⟩⟩:=Jte r;refine max_two_ints (I.ok.hd hc) fun h' tk k=>⟨_,H,I.kept k,?_,q⟩
 by_cases hj:j > i
 ·rw [if_pos hj,if_pos hj]; exact ⟨_,rfl⟩
 ·rw [if_neg hj,if_neg hj]; exact ⟨_,rfl⟩
theorem Jrr (hc:X.calm=true):Yl X (.builtin "min") (fun xs H Q=>∃ i j,xs=[.int i,.int j]∧Q (.int (if j < i then j else i)) H):=by
 intro pins s σ H xs us Q I r h;obtain ⟨i,j,rfl,q⟩:=h;obtain ⟨u,w',rfl,⟨t,rfl⟩,⟨t',rfl⟩⟩:=Jte r;refine min_two_ints (I.ok.hd hc) fun h' tk k=>⟨_,H,I.kept k,?_,q⟩
 by_cases hj:j < i
 ·rw [if_pos hj,if_pos hj]; exact ⟨_,rfl⟩
 ·rw [if_neg hj,if_neg hj]; exact ⟨_,rfl⟩
theorem Jl8:Yl X (.type "int") (fun xs H Q=>(∃ i,xs=[.int i]∧Q (.int i) H)∨∃ k,xs=[.bl k]∧Q (.int (if k then 1 else 0)) H):=by
 intro pins s σ H xs us Q I r h;rcases h with ⟨i,rfl,q⟩ | ⟨k,rfl,q⟩
 ·obtain ⟨u,rfl,t,rfl⟩:=JgS r;exact call_int_int ⟨.int i,H,I,⟨_,rfl⟩,q⟩
 ·obtain ⟨u,rfl,r1⟩:=JgS r;cases r1;exact call_int_bool ⟨.int (if k then 1 else 0),H,I.tok _,⟨_,rfl⟩,q⟩
end
end L2
namespace L2
open PySem PySem.Spec PyProof.Rows
structure JjD (h:Heap) (x dx C:Addr) (mA:Str→Option Value):Prop where
 obj:h.get? x=some (PySem.W.instObj C dx)
 ns:h.Ns1 dx mA
 ne:dx≠x
theorem JqU {h:Heap} {dx:Addr} {mA:Str→Option Value} (n:h.Ns1 dx mA):∃ od,h.get? dx=some od∧∀ name,PySem.W.lookIn name od=some (mA name):=by
 obtain ⟨o,es,ep,ho,hd,hk,_,hm⟩:=n;refine ⟨o,ho,fun name=>?_⟩;have e:=hm name;unfold nsFind findBy at e;rw [← Array.find?_toList] at e;unfold PySem.W.lookIn;rw [hd];dsimp only;split
 ·rename_i y q;rw [q] at e;exact congrArg some e
 ·rename_i q;rw [q] at e;have a:es.toList.any (·.refKey)=false:=by
   rw [List.any_eq_false];intro y hy;obtain ⟨z,t,hkey⟩:=hk y (Array.mem_toList_iff.mp hy);simp [DictEntry.refKey,hkey]
  have a':¬ es.toList.any (·.refKey)=true:=by rw [a]; exact Bool.false_ne_true
  rw [if_neg a'];exact congrArg some e
theorem JjD.look {h:Heap} {x dx C:Addr} {mA:Str→Option Value} (I:JjD h x dx C mA):∃ od,PySem.W.InstAt h x (PySem.W.instObj C dx) C (some od)∧∀ name,PySem.W.lookIn name od=some (mA name) :=
 let ⟨od,ho,hl⟩:=JqU I.ns
 ⟨od,⟨I.obj,rfl,rfl,ho⟩,hl⟩
section
variable {prog:Program} {w:World} {A:Around} {E:Value→Shared→Prop} {s:Shared} {K:PySem.W.Frag} {x dx C f:Addr} {mA:Str→Option Value} {name:Str} {v:Value}
theorem Juk {expr:Bool} {Q:Value→Shared→Prop} (X:K.In s.heap) (I:JjD s.heap x dx C mA) (hg:PySem.W.plainGet K C name=true) (hh:PySem.W.hasDictIn K C=true)
  (ha:PySem.W.findIn K (.ref C) name=some none) (hv:mA name=some v) (hv':PySem.W.handedIn v=true) (h:Q v { s with toks:=s.toks + 1 }) :
  wpAny (model prog w) A (getAttr (.ref x) name expr) Q E s:=by
 obtain ⟨od,J,hl⟩:=I.look;exact PySem.W.get_value X J (PySem.W.plainGet_of hg).1 (PySem.W.findObj_own hh ha rfl (by rw [hl,hv])) hv' h
theorem JsS {pl:Sem Bool} {Q:Value×List Value→Shared→Prop} (X:K.In s.heap) (I:JjD s.heap x dx C mA) (hg:PySem.W.plainGet K C name=true)
  (hf:PySem.W.findIn K (.ref C) name=some (some (.ref f))) (ht:PySem.W.isFn K (.ref f)=true) (hv:mA name=none) (h:Q (.ref f,[.ref x]) s) :
  wpAny (model prog w) A (getMethod (.ref x) name pl) Q E s:=by
 obtain ⟨od,J,hl⟩:=I.look;exact PySem.W.method_fn X J (PySem.W.plainGet_of hg).1 (PySem.W.plainGet_of hg).2 hf (beq_iff_eq.mp ht) (by show (PySem.W.lookIn name od).map (·.isSome)=some false; rw [hl,hv]; rfl) h
theorem JtW {ns:List Str} {Q:Unit→Shared→Prop} (X:K.In s.heap) (I:JjD s.heap x dx C mA)
  (hs:PySem.W.findIn K (.ref C) "__setattr__" = some (some (.builtin "object.__setattr__"))) (hp:PySem.W.plainOver K C=true) (ht:PySem.W.takerIn K C name=some none) (hh:PySem.W.hasDictIn K C=true)
  (hw:PySem.Within mA ns) (hsz:ns.length≤sizeLine)
  (h:∀ h',JjD h' x dx C (fun y=>if y=name then some v else mA y)→Heap.SameBut dx s.heap h'→Q () { s with heap:=h',toks:=s.toks + 2 }) :
  wpAny (model prog w) A (setAttr (.ref x) name v) Q E s:=by
 obtain ⟨od,J,hl⟩:=I.look;refine PySem.W.set_plain X J hs (PySem.W.osa_open (s:={ s with toks:=s.toks + 1 }) (r:=none) X J hp ht fun b=>?_);obtain ⟨cd,hc,hd'⟩:=PySem.W.any_some hh;have hx:s.heap.get? x=some ⟨.ref C,some dx,.plain,#[]⟩:=I.obj;refine wpAny_bind (wpAny_pure (wpAny_bind (wpAny_bind (wpAny_loadPart hx (wpAny_bind (PySem.W.Looks.here (s:={ s with toks:=s.toks + 1 }) (PySem.W.looks_clsIn X hc) ?_))))));rw [hd'];refine wpAny_pure (a:=some dx) (wpAny_bind (wpAny_pure (wpAny_bind ?_)));refine wpAny_nsSet1 (s:={ s with toks:=s.toks + 1 }) I.ns fun h' hn2 hs2=>?_
 obtain ⟨oD,esD,epD,hoD,hdD,hcD⟩:=hn2.count (PySem.Within.cons name v hw);refine wpAny_bind (wpAny_lookBehind hoD (by rw [hdD]; exact pastItsLine_dict (Nat.le_trans hcD (by rw [List.length_cons]; omega))) ?_);exact wpAny_pure (h _ ⟨(hs2.2 _ (Ne.symm I.ne)).trans I.obj,hn2,I.ne⟩ hs2)
theorem JsJ {R:Result→Shared→Prop} {vs:List Value} {kw:List (Str×Value)} (X:K.In s.heap) (hm:PySem.W.makesIn K C=true)
  (hi:PySem.W.findIn K (.ref C) "__init__" = some (some (.ref f))) (hf:PySem.W.typeIn K (.ref f)=some (.type "function"))
  (h:codeAny (model prog w) (A.under (.builtin "type.__call__" ⟨.ref C :: vs,kw⟩)) (.call (.ref f) ⟨.ref (s.heap.objs.size + 1) :: vs,kw⟩) (PySem.W.InitBack (s.heap.objs.size + 1) R)
   { s with heap:=(s.heap.push PySem.W.emptyDict).push (PySem.W.instObj C s.heap.objs.size) }) :
  codeAny (model prog w) A (.call (.ref C) ⟨vs,kw⟩) R s:=by
 obtain ⟨hh,g,d,t,os⟩:=s;exact PySem.W.make_core (PySem.W.makes_of X hm) (PySem.W.looks_findIn X hi) (fun self=>PySem.W.bind_fn X self hf) (.inl rfl) h
end
def Yh (f:Str) (v:V):List (Str×V)→List (Str×V)
 | []=>[(f,v)]
 | (g,x) :: r=>if g=f then (g,v) :: r else (g,x) :: Yh f v r
theorem JiZ (f g:Str) (v:V):∀ fs:List (Str×V),(Yh f v fs).lookup g=if g=f then some v else fs.lookup g
 | []=>by
  show List.lookup g [(f,v)]=_;by_cases h:g=f
  ·have hb:(g == f)=true:=beq_iff_eq.mpr h;simp only [List.lookup,hb,if_pos h]
  ·have hb:(g == f)=false:=beq_eq_false_iff_ne.mpr h;simp only [List.lookup,hb,if_neg h]
 | (k,x) :: r=>by
  have ih:=JiZ f g v r;rw [show Yh f v ((k,x) :: r)=(if k=f then (k,v) :: r else (k,x) :: Yh f v r) from rfl];by_cases hk:k=f
  ·rw [if_pos hk];by_cases h:g=k
   ·have hb:(g == k)=true:=beq_iff_eq.mpr h;simp only [List.lookup,hb,if_pos (h.trans hk)]
   ·have hb:(g == k)=false:=beq_eq_false_iff_ne.mpr h;simp only [List.lookup,hb,if_neg (fun e:g=f=>h (e.trans hk.symm))]
  ·rw [if_neg hk];by_cases h:g=k
   ·have hb:(g == k)=true:=beq_iff_eq.mpr h;simp only [List.lookup,hb,if_neg (fun e:g=f=>hk (h.symm.trans e))]
   ·have hb:(g == k)=false:=beq_eq_false_iff_ne.mpr h;simp only [List.lookup,hb];exact ih
theorem Jh4 (f:Str) (v:V):∀ fs:List (Str×V),f∈(Yh f v fs).map (·.1)∧∀ g,g∈fs.map (·.1)→g∈(Yh f v fs).map (·.1)
 | []=>⟨by simp [Yh],fun g h=>by simp at h⟩
 | (k,x) :: r=>by
  obtain ⟨i1,i2⟩:=Jh4 f v r;rw [show Yh f v ((k,x) :: r)=(if k=f then (k,v) :: r else (k,x) :: Yh f v r) from rfl];by_cases hk:k=f
  ·rw [if_pos hk];subst hk;exact ⟨by simp,fun g h=>by simpa using h⟩
  ·rw [if_neg hk];refine ⟨?_,fun g h=>?_⟩
   ·rw [List.map_cons];exact List.mem_cons_of_mem _ i1
   ·rw [List.map_cons] at h ⊢;rcases List.mem_cons.mp h with e | e
    ·exact List.mem_cons.mpr (.inl e)
    ·exact List.mem_cons_of_mem _ (i2 g e)
theorem Ji1 (f:Str) (v:V):∀ fs:List (Str×V),(Yh f v fs).length≤fs.length + 1
 | []=>by simp [Yh]
 | (k,x) :: r=>by
  have ih:=Ji1 f v r;rw [show Yh f v ((k,x) :: r)=(if k=f then (k,v) :: r else (k,x) :: Yh f v r) from rfl];by_cases hk:k=f
  ·rw [if_pos hk,List.length_cons,List.length_cons]; omega
  ·rw [if_neg hk,List.length_cons,List.length_cons]; omega
theorem Jal.some_of {v:V} {o:Option Value} (r:Jal (some v) o):∃ u,o=some u∧JU v u:=by
 cases o with
 | none=>exact (show False from r).elim
 | some u=>exact ⟨u,rfl,r⟩
theorem Jal.none_of {o:Option Value} (r:Jal none o):o=none:=by
 cases o with
 | none=>rfl
 | some u=>exact (show False from r).elim
theorem Jq9 {v:V} {u:Value} (r:JU v u):PySem.W.handedIn u=true:=by
 cases v with
 | non=>cases (show u=Value.none from r); rfl
 | bl b=>cases (show u=Value.bool b from r); rfl
 | int i=>obtain ⟨t,e⟩:=(show ∃ t,u=Value.int i t from r); cases e; rfl
 | str x=>obtain ⟨t,e⟩:=(show ∃ t,u=Value.str x t from r); cases e; rfl
 | byt b=>obtain ⟨t,e⟩:=(show ∃ t,u=Value.bytes b t from r); cases e; rfl
 | flt b=>obtain ⟨t,e⟩:=(show ∃ t,u=Value.float b t from r); cases e; rfl
 | ref a=>cases (show u=Value.ref a from r); rfl
 | ty n=>cases (show u=Value.type n from r); rfl
section
variable {P:Program} {w:World} {H H':Hp} {h h':Heap} {a C dx:Addr} {fs fs':List (Str×V)}
theorem JiH (hok:ZG P w H h) (e:H a=some (.ins C dx fs)):∃ mA,JjD h a dx C mA∧(∀ f,Jal (fs.lookup f) (mA f))∧PySem.Within mA (fs.map (·.1))∧fs.length≤1000∧H dx=some (.own a):=by
 obtain ⟨d,z,ne,ob,mA,n,r,q⟩:=(show YD P w H h a (.ins C dx fs) from hok a _ e)
 exact ⟨mA,⟨ob,n,ne⟩,r,q,z,d⟩
end
structure Cls (K:PySem.W.Frag) (C:Addr):Prop where
 pg:PySem.W.plainGet K C Str.empty=true
 hd:PySem.W.hasDictIn K C=true
 po:PySem.W.plainOver K C=true
 sa:PySem.W.findIn K (.ref C) "__setattr__" = some (some (.builtin "object.__setattr__"))
theorem Cls.get {K:PySem.W.Frag} {C:Addr} (c:Cls K C) (f:Str):PySem.W.plainGet K C f=true:=c.pg
def YC (K:PySem.W.Frag) (C:Addr) (f:Str):Prop:=PySem.W.findIn K (.ref C) f=some none
theorem YC.taker {K:PySem.W.Frag} {C:Addr} {f:Str} (n:YC K C f):PySem.W.takerIn K C f=some none:=by
 unfold PySem.W.takerIn;rw [show PySem.W.findIn K (.ref C) f=some none from n];rfl
structure JpZ (K:PySem.W.Frag) (C:Addr) (m:Str) (f:Addr):Prop where
 at_:PySem.W.findIn K (.ref C) m=some (some (.ref f))
 fn:PySem.W.isFn K (.ref f)=true
 kp:PySem.W.keepIn K (.ref f)=true
section
variable {X:Cx} {pins:List (Addr×Obj)} {σ:St} {H:Hp} {s:Shared} {a C dx:Addr} {fs:List (Str×V)} {f:Str} {v:V} {A:Around} {E:Value→Shared→Prop}
theorem JpE {b:Bool} {Q:Value→Shared→Prop} (I:Jn X pins σ H s) (e:H a=some (.ins C dx fs)) (c:Cls X.K C) (n:YC X.K C f) (l:fs.lookup f=some v)
  (h:∀ u s',Jn X pins σ H s'→JU v u→Q u s'):wpAny (model X.prog X.w) A (getAttr (.ref a) f b) Q E s:=by
 obtain ⟨mA,O,r,_,_,_⟩:=JiH I.hok e;obtain ⟨u,hu,ru⟩:=Jal.some_of (v:=v) (o:=mA f) (by rw [← l]; exact r f);exact Juk I.kIn O (c.get f) c.hd n hu (Jq9 ru) (h u _ (I.tok _) ru)
theorem Jkb {m:Str} {g:Addr} {pl:Sem Bool} {Q:Value×List Value→Shared→Prop} (I:Jn X pins σ H s) (e:H a=some (.ins C dx fs)) (c:Cls X.K C) (k:JpZ X.K C m g) (l:fs.lookup m=none)
  (h:Q (.ref g,[.ref a]) s):wpAny (model X.prog X.w) A (getMethod (.ref a) m pl) Q E s:=by
 obtain ⟨mA,O,r,_,_,_⟩:=JiH I.hok e;have hn:mA m=none:=Jal.none_of (by rw [← l]; exact r m);exact JsS I.kIn O (c.get m) k.at_ k.fn hn h
theorem Jpf {y:V} {u:Value} {Q:Unit→Shared→Prop} (I:Jn X pins σ H s) (e:H a=some (.ins C dx fs)) (c:Cls X.K C) (n:YC X.K C f) (hl:fs.length < 1000) (ry:JU y u)
  (h:∀ s',Jn X pins σ (upd H a (.ins C dx (Yh f y fs))) s'→Q () s'):wpAny (model X.prog X.w) A (setAttr (.ref a) f u) Q E s:=by
 obtain ⟨mA,O,r,wi,_,ho⟩:=JiH I.hok e;have hz:(fs.map (·.1)).length≤sizeLine:=by rw [List.length_map,sizeLine_eq]; omega
 refine JtW I.kIn O c.sa c.po n.taker c.hd wi hz fun h' O' sb=>h _ ?_
 have hd:∃ o,h'.get? dx=some o:=let ⟨o,_,_,e',_⟩:=O'.ns; ⟨o,e'⟩;refine I.write (x:=a) (e:=dx) (by rw [e]; exact True.intro) (.inr ho) (fun b q hb z=>(sb.2 b hb).trans z) hd ?_;refine ⟨by rw [Js O.ne]; exact ho,?_,O.ne,O'.obj,_,O'.ns,fun g=>?_,fun g hg=>?_⟩
 ·have:=Ji1 f y fs; omega
 ·show Jal ((Yh f y fs).lookup g) (if g=f then some u else mA g);rw [JiZ];by_cases q:g=f
  ·rw [if_pos q,if_pos q]; exact ry
  ·rw [if_neg q,if_neg q]; exact r g
 ·by_cases q:g=f
  ·rw [q]; exact (Jh4 f y fs).1
  ·refine (Jh4 f y fs).2 g (wi g fun z=>hg ?_);show (if g=f then some u else mA g)=none;rw [if_neg q]; exact z
theorem Jn.made (I:Jn X pins σ H s):Jn X pins σ (upd (upd H s.heap.objs.size (.own (s.heap.objs.size + 1))) (s.heap.objs.size + 1) (.ins C s.heap.objs.size []))
  { s with heap:=(s.heap.push PySem.W.emptyDict).push (PySem.W.instObj C s.heap.objs.size) }:=by
 have e1:(s.heap.push PySem.W.emptyDict).get? s.heap.objs.size=some PySem.W.emptyDict:=Heap.get?_push_size s.heap rfl;have e2:((s.heap.push PySem.W.emptyDict).push (PySem.W.instObj C s.heap.objs.size)).get? (s.heap.objs.size + 1)=some (PySem.W.instObj C s.heap.objs.size):=by
  have:=Heap.get?_push_size (s.heap.push PySem.W.emptyDict) (o:=PySem.W.instObj C s.heap.objs.size) rfl;rwa [Heap.size_push] at this
 have e3:(s.heap.push PySem.W.emptyDict).Ns s.heap.objs.size (fun _=>none):=⟨PySem.W.emptyDict,#[],_,e1,rfl,(fun e he=>absurd he (by simp)),fun _=>rfl⟩
 have I1:=I.laid (a:=s.heap.objs.size) (o:=.own (s.heap.objs.size + 1)) (h':=s.heap.push PySem.W.emptyDict) (t':=s.toks) (fun b u q=>Heap.get?_push_of_some _ q) (Nat.le_refl _) ⟨_,e1⟩;refine I1.laid (a:=s.heap.objs.size + 1) (o:=.ins C s.heap.objs.size []) (t':=s.toks) (fun b u q=>Heap.get?_push_of_some _ q) (Nat.le_of_eq (Heap.size_push _ _)) ?_;have ne:s.heap.objs.size≠s.heap.objs.size + 1:=Nat.ne_of_lt (Nat.lt_succ_self _);refine ⟨by rw [Js ne,Jj],Nat.zero_le _,ne,e2,fun _=>none,(Heap.Ns1.of_empty e3).at fun o q=>Heap.get?_push_of_some _ q,fun _=>True.intro,fun y hy=>absurd rfl hy⟩
theorem Jup {prog:Program} {w:World} {env:Env} {e:Expr} {f:Str} {pos:Pos} {s:Shared} {Q:Value→Shared→Prop} (hb:attributeBase e f env (eval e env)=eval e env)
  (h:wpAny (model prog w) A (eval e env) (fun o s₁=>wpAny (model prog w) A (getAttr o f true) Q E s₁) E s):wpAny (model prog w) A (eval (.Attribute e f pos) env) Q E s :=
 Attribute_any_ h (by rw [arm_eval_Attribute,hb])
end
def Jwr (K:PySem.W.Frag) (ta:TE) (f:Str):TE:=fun σ H Q=>ta σ H fun x H1=>∃ a C dx fs v,x=.ref a∧H1 a=some (.ins C dx fs)∧Cls K C∧YC K C f∧fs.lookup f=some v∧Q v H1
def Jwv (K:PySem.W.Frag) (ta tv:TE) (f:Str):TS:=fun D σ H=>tv σ H fun y H1=>ta σ H1 fun x H2=>∃ a C dx fs,x=.ref a∧H2 a=some (.ins C dx fs)∧Cls K C∧YC K C f∧fs.length < 1000 ∧
 D.nx σ (upd H2 a (.ins C dx (Yh f y fs)))
section
variable {X:Cx} {o e value:Expr} {f:Str} {pos pos' tpos:Pos} {ta tv:TE}
theorem J5 (he:PE X e ta) (hb:attributeBase e f X.env (eval e X.env)=eval e X.env):PE X (.Attribute e f pos) (Jwr X.K ta f):=by
 intro pins s σ H Q I h;refine Jup hb (J3 (he pins s σ H _ I h) fun u s1 ⟨x,H1,I1,rx,a,C,dx,fs,v,ex,ea,c,n,l,q⟩=>?_);subst ex;obtain rfl:u=Value.ref a:=rx;exact JpE I1 ea c n l fun u' s2 I2 ru=>⟨v,H1,I2,ru,q⟩
theorem Y3 (ha:PE X o ta) (hv:PE X value tv) (hs:swapsWith value (some (.Attribute o f pos')) pos.line X.env=pure false):PS X (.Assign [.Attribute o f pos'] value pos) (Jwv X.K ta tv f):=by
 intro pins s σ H D I h;refine plainObj_wpAny_Assign_Attribute (J3 (hv pins s σ H _ I h) fun u s1 ⟨y,H1,I1,ry,q⟩=>J3 (ha pins s1 σ H1 _ I1 q) fun ov s2 ⟨x,H2,I2,rx,a,C,dx,fs,ex,ea,c,n,l,q2⟩=>?_) hs;subst ex;obtain rfl:ov=Value.ref a:=rx;exact Jpf I2 ea c n l ry fun s3 I3=>⟨σ,_,I3,q2⟩
end
section
variable {X:Cx} {pins:List (Addr×Obj)} {σ:St} {H:Hp} {s:Shared} {A:Around} {E:Value→Shared→Prop} {Q:Value→Shared→Prop} {c:Value} {b:Bool}
inductive JcT (K:PySem.W.Frag) (H:Hp):V→Value→Prop where
 | non:JcT K H .non (.type "NoneType")
 | bl (x:Bool):JcT K H (.bl x) (.type "bool")
 | int (i:Int):JcT K H (.int i) (.type "int")
 | str (x:Str):JcT K H (.str x) (.type "str")
 | flt (x:UInt64):JcT K H (.flt x) (.type "float")
 | lst {a:Addr} {xs:List V} (e:H a=some (.lst xs)):JcT K H (.ref a) (.type "list")
 | frz {a:Addr} {o:Obj} {xs:List V} (e:H a=some (.frz o (.lst xs))):JcT K H (.ref a) (.type "list")
 | tup {a:Addr} {xs:List V} (e:H a=some (.tup xs)):JcT K H (.ref a) (.type "tuple")
 | dK {a:Addr} {kvs:List (JI×V)} (e:H a=some (.dK kvs)):JcT K H (.ref a) (.type "dict")
 | dT {a:Addr} {kvs:List (List JI×V)} (e:H a=some (.dT kvs)):JcT K H (.ref a) (.type "dict")
 | ins {a C dx:Addr} {fs:List (Str×V)} (e:H a=some (.ins C dx fs)) (cl:Cls K C) (ha:PySem.W.findIn K (.ref C) "__class__" = some (some (.builtin "object.__class__")))
   (hn:PySem.W.specialIn K (.builtin "object.__class__") "__get__" = some (some (.builtin "getset_descriptor.__get__"))) (htk:PySem.W.takesIn K (.builtin "object.__class__")=some true)
   (hm:PySem.W.mroIn K C (.type "object")=some true):JcT K H (.ref a) (.ref C)
theorem Jq4 {x:V} {u t:Value} (I:Jn X pins σ H s) (rx:JU x u) (ty:JcT X.K H x t) (e:PySem.W.kitOne X.K t c=some b) (h:∀ tk,Q (.bool b) { s with toks:=tk }) :
  wpAny (model X.prog X.w) A (call (.builtin "isinstance") [u,c]) Q E s:=by
 cases ty with
 | non=>cases (show u=Value.none from rx); exact PySem.W.kia_one PySem.W.kitx_none I.kIn True.intro e (fun z=>nomatch z) h
 | bl y=>cases (show u=Value.bool y from rx); exact PySem.W.kia_one PySem.W.kitx_bool I.kIn True.intro e (fun z=>nomatch z) h
 | int i=>obtain ⟨t,q⟩:=(show ∃ t,u=Value.int i t from rx); cases q; exact PySem.W.kia_one PySem.W.kitx_int I.kIn True.intro e (fun z=>nomatch z) h
 | str y=>obtain ⟨t,q⟩:=(show ∃ t,u=Value.str y t from rx); cases q; exact PySem.W.kia_one PySem.W.kitx_str I.kIn True.intro e (fun z=>nomatch z) h
 | flt y=>obtain ⟨t,q⟩:=(show ∃ t,u=Value.float y t from rx); cases q; exact PySem.W.kia_one PySem.W.kitx_float I.kIn True.intro e (fun z=>nomatch z) h
 | @lst a xs ea =>
  cases (show u=Value.ref a from rx);obtain ⟨_,_,n,_,h1⟩:=(show YD X.prog X.w H s.heap a (.lst xs) from I.hok a _ ea)
  exact PySem.W.kia_one PySem.W.kitx_list I.kIn ⟨_,h1,rfl⟩ e (fun z=>nomatch z) h
 | @frz a ob xs ea =>
  cases (show u=Value.ref a from rx);obtain ⟨_,_,_,n,_,h1⟩:=(show YD X.prog X.w H s.heap a (.frz ob (.lst xs)) from I.hok a _ ea)
  exact PySem.W.kia_one PySem.W.kitx_list I.kIn ⟨_,h1,rfl⟩ e (fun z=>nomatch z) h
 | @tup a xs ea =>
  cases (show u=Value.ref a from rx);obtain ⟨_,_,_,p⟩:=(show YD X.prog X.w H s.heap a (.tup xs) from I.hok a _ ea)
  obtain ⟨o,h1,h2,_⟩:=p;exact PySem.W.kia_one PySem.W.kitx_tuple I.kIn ⟨o,h1,h2⟩ e (fun z=>nomatch z) h
 | @dK a kvs ea =>
  cases (show u=Value.ref a from rx);obtain ⟨_,_,vs,_,p⟩:=(show YD X.prog X.w H s.heap a (.dK kvs) from I.hok a _ ea)
  obtain ⟨o,es,ep,h1,h2,_⟩:=p;exact PySem.W.kia_one PySem.W.kitx_dict I.kIn ⟨o,h1,h2.1⟩ e (fun z=>nomatch z) h
 | @dT a kvs ea =>
  cases (show u=Value.ref a from rx);obtain ⟨_,_,xs,_,o,es,ep,h1,h2,_⟩:=(show YD X.prog X.w H s.heap a (.dT kvs) from I.hok a _ ea)
  exact PySem.W.kia_one PySem.W.kitx_dict I.kIn ⟨o,h1,h2.1⟩ e (fun z=>nomatch z) h
 | @ins a C dx fs ea cl ha hn htk hm =>
  cases (show u=Value.ref a from rx);obtain ⟨mA,O,_⟩:=JiH I.hok ea;obtain ⟨od,J,_⟩:=O.look;exact PySem.W.kia_one (PySem.W.kitx_own (cl.get _) cl.hd ha hn htk hm) I.kIn J e (fun z=>nomatch z) h
end
end L2
namespace L2
open PySem PySem.Spec PyProof.Rows
structure YZ (k:Nat) (A:Around):Prop where
 hd:A.handled=none
 dp:A.depth + 3 * k + 5 < recursionLimit
 un:A.units + 16 * k + 200 < cLine
theorem YZ.mono {j k:Nat} {A:Around} (r:YZ k A) (h:j≤k):YZ j A:=⟨r.hd,by have:=r.dp; omega,by have:=r.un; omega⟩
theorem YZ.deeper {k:Nat} {A:Around} (r:YZ (k + 1) A) (env:Env):YZ k (A.deeper env) :=
 ⟨r.hd,by have:=r.dp; show A.depth + 1 + 3 * k + 5 < _; omega,by have:=r.un; show A.units + 3 + 16 * k + 200 < _; omega⟩
theorem YZ.in1 {k:Nat} {A:Around} (r:YZ (k + 1) A):YZ k A.in1 :=
 ⟨r.hd,by have:=r.dp; show A.depth + 3 * k + 5 < _; omega,by have:=r.un; show A.units + 1 + 16 * k + 200 < _; omega⟩
theorem JpB {A:Around} {C:Addr} {us:List Value} {kw:List (Str×Value)}:(A.under (.builtin "type.__call__" ⟨.ref C :: us,kw⟩)).depth=A.depth + 1:=by
 first | rfl | simp [Around.under,Code.weight,Code.isCreation,Code.isGuard,Code.isCaller,Code.frames,Code.isFrame,guardIds]
theorem JpA {A:Around} {C:Addr} {us:List Value} {kw:List (Str×Value)}:(A.under (.builtin "type.__call__" ⟨.ref C :: us,kw⟩)).units=A.units + 1:=by
 first | rfl | simp [Around.under,Code.cUnits,Code.frames,Code.isFrame]
theorem YZ.make {k:Nat} {A:Around} (r:YZ (k + 1) A) (C:Addr) (us:List Value) (kw:List (Str×Value)):YZ k (A.under (.builtin "type.__call__" ⟨.ref C :: us,kw⟩)) :=
 ⟨r.hd,by have:=r.dp; rw [JpB]; omega,by have:=r.un; rw [JpA]; omega⟩
theorem YZ.depth {k:Nat} {A:Around} (r:YZ k A):A.depth < recursionLimit:=by have:=r.dp; omega
theorem YZ.units {k:Nat} {A:Around} (r:YZ k A):A.units + 64 < cLine:=by have:=r.un; omega
theorem YZ.units0 {k:Nat} {A:Around} (r:YZ k A):A.units < cLine:=by have:=r.un; omega
def JrM:TA:=fun _ H Q=>Q [] H
def JvJ (ta:TE) (tr:TA):TA:=fun σ H Q=>ta σ H fun x H1=>tr σ H1 fun xs H2=>Q (x :: xs) H2
section
variable {X:Cx} {e:Expr} {es:List Expr} {te:TE} {t:TA} {pos:Pos}
theorem Jc:PA X [] JrM:=fun _ _ _ _ H Q I h=>Calls.spliced_nil ⟨[],H,I,.nil,h⟩
theorem Ja (ha:PE X e te) (hr:PA X es t) (hs:starEach (e :: es) X.env=(false,eval e X.env) :: starEach es X.env:=by rfl):PA X (e :: es) (JvJ te t):=by
 intro pos pins s σ H Q I h;rw [hs];show wpAny _ _ (spliced ((false,eval e X.env) :: backTo pos (starEach es X.env))) _ _ s;refine Calls.spliced_cons (J3 (ha pins s σ H _ I h) fun u s1 ⟨x,H1,I1,r1,q1⟩=>?_);exact J3 (hr pos pins s1 σ H1 _ I1 q1) fun us s2 ⟨xs,H2,I2,r2,q2⟩=>⟨x :: xs,H2,I2,.cons r1 r2,q2⟩
def Jwh (t:TA):TE:=fun σ H Q=>t σ H fun xs H1=>xs.length≤sizeLine∧∀ p,H1 p=none→Q (.ref p) (upd H1 p (.tup xs))
def Jwn (t:TA):TE:=fun σ H Q=>t σ H fun xs H1=>xs.length≤sizeLine∧∀ p,H1 p=none→Q (.ref p) (upd H1 p (.lst xs))
theorem YR {x1} (h:PA X es t):PE X (.Tuple es x1 pos) (Jwh t):=by
 intro pins s σ H Q I hq;refine wpAny_Tuple_spliced (J3 (h pos pins s σ H _ I hq) fun us s1 ⟨xs,H1,I1,r,z,q⟩=>⟨by rw [← r.length]; exact z,?_⟩);have hf:H1 s1.heap.objs.size=none:=I1.hok.fresh (Nat.le_refl _);refine ⟨.ref s1.heap.objs.size,upd H1 s1.heap.objs.size (.tup xs),I1.laid (t':=s1.toks) (fun b u e=>Heap.get?_push_of_some _ e) (Nat.le_refl _) ?_,rfl,q _ hf⟩;exact ⟨z,us,r,⟨_,Heap.get?_push_size _ rfl,rfl,_,rfl⟩⟩
theorem Yx (h:PA X es t):PE X (.List es pos) (Jwn t):=by
 intro pins s σ H Q I hq;refine wpAny_List_spliced (J3 (h pos pins s σ H _ I hq) fun us s1 ⟨xs,H1,I1,r,z,q⟩=>⟨by rw [← r.length]; exact z,?_⟩);have hf:H1 s1.heap.objs.size=none:=I1.hok.fresh (Nat.le_refl _);refine ⟨.ref s1.heap.objs.size,upd H1 s1.heap.objs.size (.lst xs),I1.laid (t':=s1.toks) (fun b u e=>Heap.get?_push_of_some _ e) (Nat.le_refl _) ?_,rfl,q _ hf⟩;exact ⟨z,us,0,r,Heap.get?_push_size _ rfl⟩
end
abbrev Sp:=List V→Hp→VK→XK→Prop
abbrev CXT:=List Env→Hp→Shared→XK→Value→Shared→Prop
structure Jgs (P:Program) (w:World) (K:PySem.W.Frag) (mg:Str→Option Value) (base:Heap) (A:Around) (outer:List Env) (s:Shared) (H:Hp):Prop where
 frames:A.frames=some outer
 mod:Mod K mg base
 bs:∀ b o,base.get? b=some o→s.heap.get? b=some o∧H b=none
 bsz:base.objs.size≤s.heap.objs.size
 funs:s.heap.FunFrames base outer
 frf:∀ b∈ZQ outer,H b=none
 hok:ZG P w H s.heap
 bare:AllBare s.gens
def CE (outer:List Env) (P:Program) (w:World) (H:Hp) (s:Shared) (Q:VK) (u:Value) (s':Shared):Prop :=
 ∃ v H',s'.os=s.os∧AllBare s'.gens∧Un (ZQ outer) [] H H' s.heap s'.heap∧ZG P w H' s'.heap∧JU v u∧Q v H'
def CR (CX:CXT) (outer:List Env) (P:Program) (w:World) (H:Hp) (s:Shared) (Q:VK) (E:XK) (r:Result) (s':Shared):Prop :=
 match r with
 | .ok (.ret u)=>CE outer P w H s Q u s'
 | .ok _=>False
 | .error e=>CX outer H s E e s'
structure JC (P:Program) (w:World) (K:PySem.W.Frag) (mg:Str→Option Value) (base:Heap) (CX:CXT) (k:Nat) (f:Addr) (fd:FuncData) (ps:List Str) (sp:Sp):Prop where
 len:∀ vs H Q E,sp vs H Q E→vs.length=ps.length
 run:∀ (A:Around) (outer:List Env) (s:Shared) (H:Hp) (args:Args) (us:List Value) (vs:List V) (Q:VK) (E:XK),YZ k A→Jgs P w K mg base A outer s H→BindsTo s fd args (ps.zip us)→JK vs us→sp vs H Q E →
  codeAny (model P w) A (.call (.ref f) args) (CR CX outer P w H s Q E) s
theorem JC.mono {P:Program} {w:World} {K:PySem.W.Frag} {mg:Str→Option Value} {base:Heap} {CX:CXT} {j k:Nat} {f:Addr} {fd:FuncData} {ps:List Str} {sp:Sp} (F:JC P w K mg base CX j f fd ps sp) (h:j≤k) :
  JC P w K mg base CX k f fd ps sp:=⟨F.len,fun A outer s H args us vs Q E hr=>F.run A outer s H args us vs Q E (hr.mono h)⟩
theorem JC.imp {P:Program} {w:World} {K:PySem.W.Frag} {mg:Str→Option Value} {base:Heap} {CX:CXT} {k:Nat} {f:Addr} {fd:FuncData} {ps:List Str} {sp sp':Sp} (F:JC P w K mg base CX k f fd ps sp)
  (h:∀ vs H Q E,sp' vs H Q E→sp vs H Q E):JC P w K mg base CX k f fd ps sp' :=
 ⟨fun vs H Q E q=>F.len vs H Q E (h _ _ _ _ q),fun A outer s H args us vs Q E hr he hb hv hs=>F.run A outer s H args us vs Q E hr he hb hv (h _ _ _ _ hs)⟩
theorem Jgs.make {P:Program} {w:World} {K:PySem.W.Frag} {mg:Str→Option Value} {base:Heap} {A:Around} {outer:List Env} {s:Shared} {H:Hp} (e:Jgs P w K mg base A outer s H) (C:Addr) (us:List Value) (kw:List (Str×Value)) :
  Jgs P w K mg base (A.under (.builtin "type.__call__" ⟨.ref C :: us,kw⟩)) outer s H:=⟨by first | exact e.frames | (simpa [Around.under,Code.envs,Code.isFrame,pushEnvs] using e.frames),e.mod,e.bs,e.bsz,e.funs,e.frf,e.hok,e.bare⟩
theorem Jgs.in1 {P:Program} {w:World} {K:PySem.W.Frag} {mg:Str→Option Value} {base:Heap} {A:Around} {outer:List Env} {s:Shared} {H:Hp} (e:Jgs P w K mg base A outer s H) :
  Jgs P w K mg base A.in1 outer s H:=⟨e.frames,e.mod,e.bs,e.bsz,e.funs,e.frf,e.hok,e.bare⟩
section
variable {X:Cx} {pins:List (Addr×Obj)} {σ:St} {H:Hp} {s s':Shared}
theorem Jn.env0 (I:Jn X pins σ H s):Jgs X.prog X.w X.K X.mg X.base X.A X.stack s H :=
 ⟨I.ok.frames,I.ok.mod,I.bs,Nat.le_trans I.ok.bsz I.sz,I.stack,I.stkFree,I.hok,I.bare⟩
theorem Jn.after {Q:VK} {u:Value} (I:Jn X pins σ H s) (h:CE X.stack X.prog X.w H s Q u s'):EP X pins σ Q u s':=by
 obtain ⟨v,H',os,bare,un,hok,r,q⟩:=h;obtain ⟨hh,g,d,t,os'⟩:=s';obtain rfl:os'=s.os:=os;exact ⟨v,H',I.call (h':=hh) (g':=g) (d':=d) (t':=t) (ch:=[]) un hok bare (fun b z=>absurd z (by simp)),r,q⟩
end
def Jtj (sp:Sp) (dvs:List V) (E:XK) (t:TA):TE:=fun σ H Q=>t σ H fun vs H1=>sp (vs ++ dvs) H1 Q E
def Jth (C:Addr) (m:Str) (sp:Sp) (dvs:List V) (E:XK) (ta:TE) (t:TA):TE:=fun σ H Q=>ta σ H fun x H1=>∃ a dx fs,x=.ref a∧H1 a=some (.ins C dx fs)∧fs.lookup m=none ∧
 t σ H1 fun vs H2=>sp (x :: (vs ++ dvs)) H2 Q E
def Jti (C:Addr) (sp:Sp) (dvs:List V) (E:XK) (t:TA):TE:=fun σ H Q=>t σ H fun vs H1=>∀ x dx,H1 x=none→H1 dx=none→dx≠x →
 sp (.ref x :: (vs ++ dvs)) (upd (upd H1 dx (.own x)) x (.ins C dx [])) (fun v H2=>v=.non∧Q (.ref x) H2) E
def Jbz (K:PySem.W.Frag) (fd:FuncData) (ps:List Str) (ds:List Value):Prop :=
 ∀ (s:Shared) (us:List Value),K.In s.heap→(us ++ ds).length=ps.length→BindsTo s fd ⟨us,[]⟩ (ps.zip (us ++ ds))
theorem Jbz.all {K:PySem.W.Frag} {fd:FuncData} {ps:List Str} (h:∀ us:List Value,us.length=ps.length→bindArgs fd ⟨us,[]⟩=pure (ps.zip us)):Jbz K fd ps []:=fun s us _ hl=>by
 rw [List.append_nil] at hl ⊢;exact .of_eq (h us hl)
def Jac (CX:CXT) (X:Cx) (E:XK):Prop:=∀ (pins:List (Addr×Obj)) (σ:St) (H:Hp) (s:Shared) (e:Value) (s':Shared),Jn X pins σ H s→CX X.stack H s E e s'→X.xe e s'
section
variable {X:Cx} {CX:CXT} {k:Nat} {f C:Addr} {fd:FuncData} {ps:List Str} {sp:Sp} {dvs:List V} {ds:List Value} {E:XK} {x m:Str} {p pos apos:Pos} {e o:Expr} {es:List Expr} {ta:TE} {t:TA}
theorem Jnk {pins:List (Addr×Obj)} {σ:St} {H:Hp} {s:Shared} {Q:VK} {us:List Value} {vs:List V} (F:JC X.prog X.w X.K X.mg X.base CX k f fd ps sp) (hr:YZ k X.A) (hb:Jbz X.K fd ps ds) (hd:JK dvs ds) (hx:Jac CX X E)
  (I:Jn X pins σ H s) (r:JK vs us) (h:sp (vs ++ dvs) H Q E):wpAny (model X.prog X.w) X.A (call (.ref f) us) (EP X pins σ Q) X.xe s:=by
 have r2:JK (vs ++ dvs) (us ++ ds):=r.append hd;have hl:(us ++ ds).length=ps.length:=by rw [← r2.length]; exact F.len _ _ _ _ h
 refine wpAny_call (codeAny_mono (F.run X.A X.stack s H ⟨us,[]⟩ (us ++ ds) (vs ++ dvs) Q E hr I.env0 (hb s us I.kIn hl) r2 h) fun r s' hq=>?_);cases r with
 | error e=>exact hx pins σ H s e s' I hq
 | ok fl =>
  cases fl with
  | ret u=>exact I.after hq
  | next=>exact False.elim hq
  | brk=>exact False.elim hq
  | cont=>exact False.elim hq
theorem Jt2 (F:JC X.prog X.w X.K X.mg X.base CX k f fd ps sp) (hr:YZ k X.A) (hg:Gl X x) (hm:X.mg x=some (.ref f)) (hk:PySem.W.keepIn X.K (.ref f)=true) (hb:Jbz X.K fd ps ds) (hd:JK dvs ds) (hx:Jac CX X E)
  (ha:PA X (e :: es) t) (hdb:(x == ("__debug__" : Str))=false:=by decide) (he:starEach (e :: es) X.env=(false,eval e X.env) :: starEach es X.env:=by rfl) (hpl:(backTo pos (starEach es X.env)).any (·.1)=false:=by rfl) :
  PE X (.Call (.Name x p) (e :: es) [] pos) (Jtj sp dvs E t):=by
 intro pins s σ H Q I h;refine wpAny_Call_Name_kw (Jes I hg hm ?_ hdb);refine PySem.W.callWith_K (h₀:=X.base) I.ok.mod.kin hk (J3 (ha pos pins s σ H _ I h) fun us s1 ⟨vs,H1,I1,r,q⟩=>⟨I1.kIn,?_⟩) he hpl;exact Jnk F hr hb hd hx I1 r q
theorem JD {pl:Sem Bool} (he:PE X o ta) (c:Cls X.K C) (hm:JpZ X.K C m f) (F:JC X.prog X.w X.K X.mg X.base CX k f fd ps sp) (hr:YZ k X.A) (hb:Jbz X.K fd ps ds) (hd:JK dvs ds) (hx:Jac CX X E) (ha:PA X (e :: es) t)
  (hst:starEach (e :: es) X.env=(false,eval e X.env) :: starEach es X.env:=by rfl) (hpl:(backTo pos (starEach es X.env)).any (·.1)=false:=by rfl)
  (ht:eval (.Call (.Attribute o m apos) (e :: es) [] pos) X.env=(do
   let ov ← eval o X.env
   standAt apos.atName
   let (f,first) ← holding [ov] (getMethod ov m pl)
   callWith pos f first (backTo pos (starEach (e :: es) X.env)) (backToKw pos (keywordEach [] X.env))):=by rfl) :
  PE X (.Call (.Attribute o m apos) (e :: es) [] pos) (Jth C m sp dvs E ta t):=by
 intro pins s σ H Q I h;refine PySem.W.methodCall_KW (pl:=pl) (J3 (he pins s σ H _ I h) fun u s1 ⟨x,H1,I1,rx,a,dx,fs,ex,ea,l,q⟩=>?_) ht;subst ex;obtain rfl:u=Value.ref a:=rx;refine Jkb I1 ea c hm l ?_;refine PySem.W.callWith_K (first:=[.ref a]) (h₀:=X.base) I.ok.mod.kin hm.kp (J3 (ha pos pins s1 σ H1 _ I1 q) fun us s2 ⟨vs,H2,I2,r,q2⟩=>⟨I2.kIn,?_⟩) hst hpl;exact Jnk (us:=.ref a :: us) (vs:=.ref a :: vs) F hr hb hd hx I2 (.cons rfl r) q2
theorem Z4 {pl:Sem Bool} (he:PE X o ta) (c:Cls X.K C) (hm:JpZ X.K C m f) (F:JC X.prog X.w X.K X.mg X.base CX k f fd ps sp) (hr:YZ k X.A) (hb:Jbz X.K fd ps ds) (hd:JK dvs ds) (hx:Jac CX X E)
  (ht:eval (.Call (.Attribute o m apos) [] [] pos) X.env=(do
   let ov ← eval o X.env
   standAt apos.atName
   let (f,first) ← holding [ov] (getMethod ov m pl)
   callWith pos f first (backTo pos (starEach [] X.env)) (backToKw pos (keywordEach [] X.env))):=by rfl) :
  PE X (.Call (.Attribute o m apos) [] [] pos) (Jth C m sp dvs E ta JrM):=by
 intro pins s σ H Q I h;refine PySem.W.methodCall_KW (pl:=pl) (J3 (he pins s σ H _ I h) fun u s1 ⟨x,H1,I1,rx,a,dx,fs,ex,ea,l,q⟩=>?_) ht;subst ex;obtain rfl:u=Value.ref a:=rx;refine Jkb I1 ea c hm l ?_;exact PySem.W.callWith_K0 (first:=[.ref a]) I1.kIn hm.kp (Jnk (us:=[.ref a]) (vs:=[.ref a]) F hr hb hd hx I1 (.cons rfl .nil) q)
structure Mk (K:PySem.W.Frag) (C f:Addr):Prop where
 makes:PySem.W.makesIn K C=true
 init:PySem.W.findIn K (.ref C) "__init__" = some (some (.ref f))
 fn:PySem.W.isFn K (.ref f)=true
 kp:PySem.W.keepIn K (.ref C)=true
theorem Jnj {pins:List (Addr×Obj)} {σ:St} {H:Hp} {s:Shared} {Q:VK} {us:List Value} {vs:List V} (M:Mk X.K C f) (F:JC X.prog X.w X.K X.mg X.base CX k f fd ps sp) (hr:YZ (k + 1) X.A) (hb:Jbz X.K fd ps ds) (hd:JK dvs ds)
  (hx:Jac CX X E) (I:Jn X pins σ H s) (r:JK vs us)
  (h:∀ x dx,H x=none→H dx=none→dx≠x→sp (.ref x :: (vs ++ dvs)) (upd (upd H dx (.own x)) x (.ins C dx [])) (fun v H2=>v=.non∧Q (.ref x) H2) E) :
  wpAny (model X.prog X.w) X.A (call (.ref C) us) (EP X pins σ Q) X.xe s:=by
 have hq:=h (s.heap.objs.size + 1) s.heap.objs.size (I.hok.fresh (Nat.le_succ _)) (I.hok.fresh (Nat.le_refl _)) (Nat.ne_of_lt (Nat.lt_succ_self _));have I2:=Jn.made (C:=C) I;have r2:JK (V.ref (s.heap.objs.size + 1) :: (vs ++ dvs)) (Value.ref (s.heap.objs.size + 1) :: (us ++ ds)):=.cons rfl (r.append hd);have hl:(Value.ref (s.heap.objs.size + 1) :: us ++ ds).length=ps.length:=by
  have e:=r2.length;rw [F.len _ _ _ _ hq] at e;exact e.symm
 refine wpAny_call (JsJ (f:=f) I.kIn M.makes M.init (beq_iff_eq.mp M.fn) (codeAny_mono (F.run _ X.stack _ _ ⟨Value.ref (s.heap.objs.size + 1) :: us,[]⟩ (Value.ref (s.heap.objs.size + 1) :: (us ++ ds)) _ _ E (hr.make C us [])
  (I2.env0.make C us []) (hb _ (Value.ref (s.heap.objs.size + 1) :: us) I2.kIn hl) r2 hq) fun r s' hq'=>?_))
 cases r with
 | error e=>exact hx pins σ _ _ e s' I2 hq'
 | ok fl =>
  cases fl with
  | ret u =>
   obtain ⟨v,H',I3,rv,ev,q3⟩:=I2.after hq';subst ev;exact ⟨rv,⟨V.ref (s.heap.objs.size + 1),H',I3,rfl,q3⟩⟩
  | next=>exact False.elim hq'
  | brk=>exact False.elim hq'
  | cont=>exact False.elim hq'
theorem Jcz (M:Mk X.K C f) (F:JC X.prog X.w X.K X.mg X.base CX k f fd ps sp) (hr:YZ (k + 1) X.A) (hg:Gl X x) (hm:X.mg x=some (.ref C)) (hb:Jbz X.K fd ps ds) (hd:JK dvs ds) (hx:Jac CX X E)
  (ha:PA X (e :: es) t) (hdb:(x == ("__debug__" : Str))=false:=by decide) (he:starEach (e :: es) X.env=(false,eval e X.env) :: starEach es X.env:=by rfl) (hpl:(backTo pos (starEach es X.env)).any (·.1)=false:=by rfl) :
  PE X (.Call (.Name x p) (e :: es) [] pos) (Jti C sp dvs E t):=by
 intro pins s σ H Q I h;refine wpAny_Call_Name_kw (Jes I hg hm ?_ hdb);refine PySem.W.callWith_K (h₀:=X.base) I.ok.mod.kin M.kp (J3 (ha pos pins s σ H _ I h) fun us s1 ⟨vs,H1,I1,r,q⟩=>⟨I1.kIn,?_⟩) he hpl;exact Jnj M F hr hb hd hx I1 r q
theorem Jsq (M:Mk X.K C f) (F:JC X.prog X.w X.K X.mg X.base CX k f fd ps sp) (hr:YZ (k + 1) X.A) (hg:Gl X x) (hm:X.mg x=some (.ref C)) (hb:Jbz X.K fd ps ds) (hd:JK dvs ds) (hx:Jac CX X E)
  (hdb:(x == ("__debug__" : Str))=false:=by decide):PE X (.Call (.Name x p) [] [] pos) (Jti C sp dvs E JrM):=by
 intro pins s σ H Q I h;refine wpAny_Call_Name_kw (Jes I hg hm ?_ hdb);exact PySem.W.callWith_K0 I.kIn M.kp (Jnj (us:=[]) M F hr hb hd hx I .nil h)
end
structure Jp (N P:List Str) (sc:Scope):Prop where
 kind:sc.kind=.function
 co:sc.isCoroutine=false
 gen:sc.isGenerator=false
 nd:N.Nodup
 pre:N.take P.length=P
 par:∀ x∈P,sc.names.lookup x=some .local∨sc.names.lookup x=some .cell
 nofree:∀ y∈sc.names,y.2≠.free
theorem Jl9 {kindOf:Str→Option NameKind} {x:Str}:∀ {binds:List (Str×Value)} {m:Str→Option Value},(∀ v,(x,v)∉binds)→bindL kindOf binds m x=m x
 | [],_,_=>rfl
 | (n,v) :: r,m,h=>by
  unfold bindL;rw [Jl9 fun w hw=>h w (List.mem_cons_of_mem _ hw)];split
  ·have:x≠n:=by rintro rfl; exact h v List.mem_cons_self
   simp [this]
  ·rfl
theorem Jmb {kindOf:Str→Option NameKind} {x:Str}:∀ {binds:List (Str×Value)} {m:Str→Option Value},(∀ v,(x,v)∉binds)→bindC kindOf binds m x=m x
 | [],_,_=>rfl
 | (n,v) :: r,m,h=>by
  unfold bindC;rw [Jmb fun w hw=>h w (List.mem_cons_of_mem _ hw)];split
  ·rfl
  ·have:x≠n:=by rintro rfl; exact h v List.mem_cons_self
   simp [this]
theorem Jma {kindOf:Str→Option NameKind} {x:Str} {v:Value}:∀ {P:List Str} {vs:List Value} {i:Nat} {m:Str→Option Value},P.Nodup→P[i]?=some x→vs[i]?=some v→kindOf x=some .local →
  bindL kindOf (P.zip vs) m x=some v
 | [],_,_,_,_,h,_,_=>by simp at h
 | _ :: _,[],_,_,_,_,h,_=>by simp at h
 | p :: P,w :: vs,0,m,nd,h1,h2,hk=>by
  simp at h1 h2; subst h1; subst h2;show bindL kindOf ((p,w) :: P.zip vs) m p=_;unfold bindL;rw [Jl9 fun v hv=>(List.nodup_cons.mp nd).1 (List.of_mem_zip hv).1,if_pos hk];simp
 | p :: P,w :: vs,i + 1,m,nd,h1,h2,hk=>by
  show bindL kindOf ((p,w) :: P.zip vs) m x=_;unfold bindL;exact Jma (i:=i) (List.nodup_cons.mp nd).2 (by simpa using h1) (by simpa using h2) hk
theorem Jmc {kindOf:Str→Option NameKind} {x:Str} {v:Value}:∀ {P:List Str} {vs:List Value} {i:Nat} {m:Str→Option Value},P.Nodup→P[i]?=some x→vs[i]?=some v→kindOf x≠some .local →
  bindC kindOf (P.zip vs) m x=some v
 | [],_,_,_,_,h,_,_=>by simp at h
 | _ :: _,[],_,_,_,_,h,_=>by simp at h
 | p :: P,w :: vs,0,m,nd,h1,h2,hk=>by
  simp at h1 h2; subst h1; subst h2;show bindC kindOf ((p,w) :: P.zip vs) m p=_;unfold bindC;rw [Jmb fun v hv=>(List.nodup_cons.mp nd).1 (List.of_mem_zip hv).1,if_neg hk];simp
 | p :: P,w :: vs,i + 1,m,nd,h1,h2,hk=>by
  show bindC kindOf ((p,w) :: P.zip vs) m x=_;unfold bindC;exact Jmc (i:=i) (List.nodup_cons.mp nd).2 (by simpa using h1) (by simpa using h2) hk
def YI (N:List Str) (vs:List V):St:=vs.map some ++ List.replicate (N.length - vs.length) none
def ZU (CX:CXT) (P:Program) (w:World) (K:PySem.W.Frag) (mg:Str→Option Value) (base:Heap) (N:List Str) (qual:Str) (scope:Scope) (f:Addr) (cd:Value) (A:Around) (outer:List Env) (s:Shared) (H:Hp) (E:XK):Cx where
 prog:=P
 w:=w
 K:=K
 mg:=mg
 base:=base
 A:=A.deeper (envOfC qual scope s.heap.objs.size f cd)
 N:=N
 s₀:=s
 H₀:=H
 env:=envOfC qual scope s.heap.objs.size f cd
 outer:=outer
 stack:=envOfC qual scope s.heap.objs.size f cd :: outer
 ex:=[]
 calm:=true
 fn:=fun _=>true
 pn:=[]
 xe:=fun e s'=>wpAny (model P w) (A.deeper (envOfC qual scope s.heap.objs.size f cd)) (leaving (envOfC qual scope s.heap.objs.size f cd) e) (fun _ s''=>CX outer H s E e s'') (fun e' s''=>CX outer H s E e' s'') s'
theorem Jn7 {sc:Scope} {n:Nat} {x:Str} (h:sc.names.lookup x=some .cell):∃ c,(cellsFrom n sc.names []).lookup x=some c:=by
 have q:=PySem.W.cellsFrom_some sc.names n [] (.inl h);exact Option.isSome_iff_exists.mp q
theorem Jq5 {CX:CXT} {P:Program} {w:World} {K:PySem.W.Frag} {mg:Str→Option Value} {base:Heap} {N ps:List Str} {qual:Str} {scope:Scope} {f:Addr} {cd:Value} {A:Around} {outer:List Env} {s s1:Shared} {H:Hp} {E:XK} {us:List Value} {vs:List V}
  (S:Jp N ps scope) (hd:A.handled=none) (e0:Jgs P w K mg base A outer s H) (hl:vs.length=ps.length) (r:JK vs us)
  (x:InCallC s s.heap.objs.size (bindL (envOfC qual scope s.heap.objs.size f cd).kindOf (ps.zip us) fun _=>none) (cellsFrom (s.heap.objs.size + 1) scope.names []) (bindC (envOfC qual scope s.heap.objs.size f cd).kindOf (ps.zip us) fun _=>none) s1) :
  Jn (ZU CX P w K mg base N qual scope f cd A outer s H E) [] (YI N vs) H s1:=by
 have hpl:ps.length≤N.length:=by have:=congrArg List.length S.pre; rw [List.length_take] at this; omega
 obtain ⟨h1,tk,rfl,hk⟩:=x.done;have noA:∀ b:Addr,b∉(ZU CX P w K mg base N qual scope f cd A outer s H E).ex:=fun b z=>absurd (show b∈([]:List Addr) from z) (by simp)
 refine ⟨⟨e0.mod,S.kind,rfl,rfl,Nat.le_refl _,fun y z c h1 h2=>?_,fun y hy=>?_,fun y c _ h=>?_,fun _=>hd,Around.frames_deeper e0.frames,.inr ⟨rfl,rfl⟩,fun b z=>absurd z (noA b),e0.bs,e0.bsz,fun b _ _=>noA b,fun b z=>absurd z (noA b),e0.funs,e0.frf⟩,
  rfl,e0.bare,Un.kept hk,⟨_,x.toInCall.ns,fun i y v h1 h2 h3=>?_⟩,fun y c h=>⟨_,x.cell y c h⟩,e0.hok.fresh (Nat.le_refl _),fun y c h=>?_,fun p hp=>absurd (show p∈([]:List (Addr×Obj)) from hp) (by simp),e0.hok.kept hk,?_⟩
 ·exact name_of_addr x.apart (PySem.mem_of_lookup h1) (PySem.mem_of_lookup h2)
 ·have hy:scope.names.lookup y=some .cell∨scope.names.lookup y=some .free:=hy;rcases hy with hy | hy
  ·exact Jn7 hy
  ·exact absurd rfl (S.nofree _ (PySem.mem_of_lookup hy))
 ·exact Nat.le_of_lt (x.above y c (PySem.mem_of_lookup h))
 ·have hi:i < vs.length:=by
   unfold YI at h2;by_cases hi:i < vs.length
   ·exact hi
   ·rw [List.getElem?_append_right (by simpa using hi)] at h2;rw [List.getElem?_replicate] at h2;split at h2 <;> cases h2
  have ha:vs[i]?=some v:=by
   unfold YI at h2;rw [List.getElem?_append_left (by simpa using hi),List.getElem?_map] at h2;cases e:vs[i]? with
   | none=>rw [e] at h2; cases h2
   | some a=>rw [e] at h2; cases h2; rfl
  obtain ⟨u,hu,rv⟩:=r.get ha;have hp:ps[i]?=some y:=by
   rw [← S.pre,List.getElem?_take_of_lt (by omega)]; exact h1
  have ndP:ps.Nodup:=by rw [← S.pre]; exact S.nd.sublist (List.take_sublist _ _)
  refine ⟨u,rv,?_⟩;rcases S.par y (List.mem_of_getElem? hp) with k | k
  ·exact .inl ⟨k,Jma ndP hp hu k⟩
  ·obtain ⟨c,e⟩:=Jn7 (n:=s.heap.objs.size + 1) k;refine .inr ⟨.inl k,c,e,?_⟩;have q:=x.cell y c e;rw [Jmc ndP hp hu (by show scope.names.lookup y≠_; rw [k]; decide)] at q;exact q
 ·exact e0.hok.fresh (Nat.le_of_lt (x.above y c (PySem.mem_of_lookup h)))
 ·unfold YI;show _=N.length;rw [List.length_append,List.length_map,List.length_replicate];omega
theorem Jtt {CX:CXT} {P:Program} {w:World} {K:PySem.W.Frag} {mg:Str→Option Value} {base:Heap} {k:Nat} {f:Addr} {name qual:Str} {params:Arguments} {body:List Stmt} {scope:Scope} {dV kV doc pm cdv ct oc:Value} {an od:Option Addr}
  {osl:Array (Option Value)} {N ps:List Str} {sp:Sp} (lk:K.lookup f=some ⟨oc,od,.func (PySem.W.fnOf name qual params body scope dV kV doc pm an cdv ct),osl⟩) (hcd:PySem.W.codeIn K cdv qual=true) (S:Jp N ps scope)
  (len:∀ vs H Q E,sp vs H Q E→vs.length=ps.length)
  (hbody:∀ (A:Around) (outer:List Env) (s:Shared) (H:Hp) (vs:List V) (Q:VK) (E:XK),YZ k (A.deeper (envOfC qual scope s.heap.objs.size f cdv))→sp vs H Q E →
   ∃ t,PSs (ZU CX P w K mg base N qual scope f cdv A outer s H E) body t∧t { nx:=fun _ H'=>Q .non H',rt:=Q } (YI N vs) H) :
  JC P w K mg base CX (k + 1) f (PySem.W.fnOf name qual params body scope dV kV doc pm an cdv ct) ps sp:=by
 refine ⟨len,fun A outer s H args us vs Q E hr e0 hb r hsp=>?_⟩;have hl:=len _ _ _ _ hsp;have KX:K.In s.heap:=e0.mod.kin.keeps fun b o e=>(e0.bs b o e).1
 have lim:s.heap.NoLimit:=e0.mod.nolimit.keeps fun b o e=>(e0.bs b o e).1
 have hkind:∀ y∈ps.zip us,scope.names.lookup y.1=some .local∨(scope.names.lookup y.1=some .cell∧((cellsFrom (s.heap.objs.size + 1) scope.names []).lookup y.1).isSome=true):=fun ⟨n,v⟩ hy=>by
  rcases S.par n (List.of_mem_zip hy).1 with q | q
  ·exact .inl q
  ·exact .inr ⟨q,PySem.W.cellsFrom_some _ _ _ (.inl q)⟩
 refine codeAny_call_function hr.depth (KX _ _ lk) rfl S.co S.gen rfl (PySem.W.codeRec_of KX hcd) (hb _ _ _ _ ?_);refine wpAny_newFunctionEnv_cells S.kind hkind fun env he s1 x=>?_
 subst he;refine ⟨lim.keeps x.toInCall.keep,codeAny_func ?_⟩;obtain ⟨t,ht,hq⟩:=hbody A outer s H vs Q E (hr.deeper _) hsp;have I:Jn (ZU CX P w K mg base N qual scope f cdv A outer s H E) [] (YI N vs) H s1:=Jq5 S hr.hd e0 hl r x;refine wpAny_mono (ht [] s1 (YI N vs) H _ I hq) (fun fl s' hs=>?_) fun e s' hs=>hs
 have fin:∀ {σ':St} {H':Hp} {v:V} {u:Value},Jn (ZU CX P w K mg base N qual scope f cdv A outer s H E) [] σ' H' s'→JU v u→Q v H'→CE outer P w H s Q u s' :=
  fun {σ' H' v u} J rv q=>⟨v,H',J.os,J.bare,J.base,J.hok,rv,q⟩
 cases fl with
 | ret u =>
  obtain ⟨v,σ',H',J,rv,q⟩:=hs;exact fin J rv q
 | next =>
  obtain ⟨σ',H',J,q⟩:=hs;exact fin (v:=V.non) (u:=Value.none) J rfl q
 | brk =>
  obtain ⟨_,_,_,q⟩:=hs;exact False.elim q
 | cont =>
  obtain ⟨_,_,_,q⟩:=hs;exact False.elim q
end L2
namespace L2
open PySem PySem.Spec PyProof.Rows
section
variable {X:Cx} {x:Str} {p pos:Pos} {e:Expr} {es:List Expr} {t:TA} {id T:String} {r:List V→Hp→VK→Prop}
def tCB (r:List V→Hp→VK→Prop) (t:TA):TE:=fun σ H Q=>t σ H fun vs H1=>r vs H1 Q
theorem JB (hc:Yl X (.builtin id) r) (hg:Gl X x) (hm:X.mg x=none) (hv:bootBuiltins x=some (.builtin id)) (ha:PA X (e :: es) t) (hn:x ≠ "__name__":=by decide) (hdb:(x == ("__debug__" : Str))=false:=by decide)
  (he:starEach (e :: es) X.env=(false,eval e X.env) :: starEach es X.env:=by rfl) (hpl:(backTo pos (starEach es X.env)).any (·.1)=false:=by rfl):PE X (.Call (.Name x p) (e :: es) [] pos) (tCB r t):=by
 intro pins s σ H Q I h;refine wpAny_Call_Name_kw (Jh2 I hg hm hv ?_ hn hdb);exact PyProof.Rows.callWith_builtin1 (J3 (ha pos pins s σ H _ I h) fun us s1 ⟨vs,H1,I1,r1,q1⟩=>hc pins s1 σ H1 vs us Q I1 r1 q1) he hpl
theorem Y5 (hc:Yl X (.type T) r) (hg:Gl X x) (hm:X.mg x=none) (hv:bootBuiltins x=some (.type T)) (ha:PA X (e :: es) t) (hn:x ≠ "__name__":=by decide) (hdb:(x == ("__debug__" : Str))=false:=by decide)
  (he:starEach (e :: es) X.env=(false,eval e X.env) :: starEach es X.env:=by rfl) (hpl:(backTo pos (starEach es X.env)).any (·.1)=false:=by rfl):PE X (.Call (.Name x p) (e :: es) [] pos) (tCB r t):=by
 intro pins s σ H Q I h;refine wpAny_Call_Name_kw (Jh2 I hg hm hv ?_ hn hdb);exact PyProof.Rows.callWith_type1 (J3 (ha pos pins s σ H _ I h) fun us s1 ⟨vs,H1,I1,r1,q1⟩=>hc pins s1 σ H1 vs us Q I1 r1 q1) he hpl
end
end L2
namespace HT
open PySem PyProof.Rows
section
variable {prog:Program} {w:World} {A:Around} {E:Value→Shared→Prop} {s:Shared}
def Yw (n d:Nat):Option Int→Nat
 | none=>d
 | some v=>if v < 0 then (v + (n:Int)).toNat else min v.toNat n
theorem Jsm (n d:Nat):Yw n d none=d:=rfl
theorem JoH (n d k:Nat):Yw n d (some (k:Int))=min k n:=by
 show (if (k:Int) < 0 then ((k:Int) + (n:Int)).toNat else min (k:Int).toNat n)=min k n;rw [if_neg (by omega),Int.toNat_natCast]
theorem JuN (n d:Nat) (hd:d≤n) (o:Option Int):Yw n d o≤n:=by
 cases o with
 | none=>exact hd
 | some v =>
  show (if v < 0 then (v + (n:Int)).toNat else min v.toNat n)≤n;by_cases hv:v < 0
  ·rw [if_pos hv]; omega
  ·rw [if_neg hv]; exact Nat.min_le_right _ _
theorem JoV (v:Int) (n d:Nat):(if v < 0 then max (v + (n:Int)) 0 else min v (n:Int))=((Yw n d (some v):Nat):Int):=by
 show (if v < 0 then max (v + (n:Int)) 0 else min v (n:Int))=(((if v < 0 then (v + (n:Int)).toNat else min v.toNat n):Nat):Int)
 by_cases hv:v < 0
 ·simp only [if_pos hv]; omega
 ·simp only [if_neg hv]; omega
theorem JpX (lo hi:Option Int) (n:Nat):Builtin.Slice.sliceAdjust lo hi 1 (n:Int)=(((Yw n 0 lo:Nat):Int),((Yw n n hi:Nat):Int)):=by
 have h1:¬ ((1:Int) < 0):=by omega
 unfold Builtin.Slice.sliceAdjust;simp only [h1,if_false];refine Prod.ext ?_ ?_
 ·cases lo with
  | none=>rfl
  | some v=>exact JoV v n 0
 ·cases hi with
  | none=>rfl
  | some v=>exact JoV v n n
theorem Jpq (i j:Nat):Builtin.Slice.slicePlaces (i:Int) (j:Int) 1=j - i:=by
 unfold Builtin.Slice.slicePlaces;have h1:(1:Int) > 0:=by omega
 simp only [h1,if_true,Int.ediv_one];split <;> omega
theorem JjP {v:Value} {o:Option Int} {Q:Option Int→Shared→Prop} (p:IsPart v o) (h:Q o s):wpAny (model prog w) A (Builtin.Slice.slicePartIndex v) Q E s:=by
 cases p with
 | none=>exact slicePart_none h
 | int i t=>exact slicePart_int h
theorem Jjd {sl:Addr} {vl vu:Value} {lo hi:Option Int} {n:Nat} {Q:Int×Int×Nat→Shared→Prop} (hs:s.heap.IsSliceOf sl vl vu .none) (pl:IsPart vl lo) (pu:IsPart vu hi)
  (h:Q (((Yw n 0 lo:Nat):Int),1,Yw n n hi - Yw n 0 lo) s):wpAny (model prog w) A (Builtin.Slice.sliceApplied (.ref sl) (pure (n:Int))) Q E s:=by
 obtain ⟨os,hos,hcs,hds⟩:=id hs;unfold Builtin.Slice.sliceApplied Builtin.Slice.sliceFields;refine wpAny_bind (wpAny_bind (wpAny_field hos hds (x:=vl) rfl (wpAny_bind (wpAny_field hos hds (x:=vu) rfl (wpAny_bind (wpAny_field hos hds (x:=.none) rfl (wpAny_pure ?_)))))));refine wpAny_bind (slicePart_none ?_);show wpAny _ _ (if ((1:Int) == 0)=true then _ else _) _ _ s;rw [if_neg (by decide)];refine wpAny_bind (JjP pl (wpAny_bind (JjP pu (wpAny_bind (wpAny_pure ?_)))));show wpAny _ _ (match Builtin.Slice.sliceAdjust lo hi 1 (n:Int) with | (lo,hi)=>pure (lo,(1:Int),Builtin.Slice.slicePlaces lo hi 1)) _ _ s;rw [JpX lo hi n];show wpAny _ _ (pure (((Yw n 0 lo:Nat):Int),(1:Int),Builtin.Slice.slicePlaces ((Yw n 0 lo:Nat):Int) ((Yw n n hi:Nat):Int) 1)) _ _ s;rw [Jpq];exact wpAny_pure h
theorem Jsp (xs:Array Value) (i k:Nat):((List.range k).filterMap fun (m:Nat)=>xs[((i:Int) + (m:Int) * 1).toNat]?).toArray=((xs.toList.drop i).take k).toArray:=by
 have e:(fun (m:Nat)=>xs[((i:Int) + (m:Int) * 1).toNat]?)=fun m=>xs[i + m]?:=by
  funext m;have:((i:Int) + (m:Int) * 1).toNat=i + m:=by omega
  rw [this]
 rw [e];have:=pick_run xs i k;rw [List.filterMap_map] at this;have e2:((fun x=>xs[x]?) ∘ fun x=>i + x)=fun m=>xs[i + m]?:=rfl
 rw [e2] at this;rw [this]
theorem JiR {t sl:Addr} {items:Array Value} {vl vu:Value} {lo hi:Option Int} {Q:Value→Shared→Prop} (ht:IsTup s.heap t items) (hs:s.heap.IsSliceOf sl vl vu .none) (pl:IsPart vl lo) (pu:IsPart vu hi)
  (hw:¬ (Yw items.size 0 lo=0∧Yw items.size items.size hi=items.size))
  (h:Q (.ref s.heap.objs.size) { s with heap:=s.heap.push { cls:=.type "tuple",data:=.seq ((items.toList.drop (Yw items.size 0 lo)).take (Yw items.size items.size hi - Yw items.size 0 lo)).toArray } })
  (hsz:items.size≤sizeLine):wpAny (model prog w) A (getItem (.ref t) (.ref sl)) Q E s:=by
 have htake:sizeOk (.seq ((items.toList.drop (Yw items.size 0 lo)).take (Yw items.size items.size hi - Yw items.size 0 lo)).toArray):=by
  show ((items.toList.drop (Yw items.size 0 lo)).take (Yw items.size items.size hi - Yw items.size 0 lo)).toArray.size≤sizeLine;rw [List.size_toArray,List.length_take,List.length_drop,Array.length_toList];omega
 have hj:Yw items.size items.size hi≤items.size:=JuN _ _ (Nat.le_refl _) hi;obtain ⟨os,hos,hcs,hds⟩:=id hs;have hTs:s.TypeIs (.ref sl) "slice":=⟨os,hos,hcs⟩
 unfold getItem
 try with_reducible refine wpAny_holding ?_
 first | refine wpAny_bind (wpAny_pure ?_) | skip
 refine wpAny_bind (wpAny_sequenceKey ht.typeIs (by decide) ?_);refine wpAny_bind (wpAny_callSpecial?_slot (name:=Str.ofString "__getitem__") ht.typeIs PyProof.Rows.slot_tuple_getitem
  (wpAny_call_entry PyProof.Rows.slot_tuple_getitem ht.typeIs entry_tuple_getitem ?_ (args_tuple_getitem _ _)))
 show wpAny _ _ (Builtin.Tuple.tupleItemsOf (.ref t) >>= _) _ _ s;refine wpAny_bind (tupleItemsOf_ ht ?_);refine wpAny_bind (wpAny_typeOf hTs ?_);rw [if_pos (by decide)];refine wpAny_bind (Jjd hs pl pu ?_);have hno:¬ ((((Yw items.size 0 lo:Nat):Int) == 0 && (1:Int) == 1 && (Yw items.size items.size hi - Yw items.size 0 lo) == items.size)=true):=by
  intro q;rw [Bool.and_eq_true,Bool.and_eq_true] at q;have q1:((Yw items.size 0 lo:Nat):Int)=0:=eq_of_beq q.1.1;have q2:Yw items.size items.size hi - Yw items.size 0 lo=items.size:=eq_of_beq q.2;exact hw ⟨by omega,by omega⟩
 show wpAny _ _ (if (((Yw items.size 0 lo:Nat):Int) == 0 && (1:Int) == 1 && (Yw items.size items.size hi - Yw items.size 0 lo) == items.size)=true then _ else _) _ _ s;rw [if_neg hno,Jsp]
 first
  | exact wpAny_bind (m:=Builtin.Tuple.tupleExact _) (wpAny_newObj_type (wpAny_pure ⟨_,rfl,wpAny_pure h⟩) htake)
  | exact wpAny_bind (m:=Builtin.Tuple.tupleExact _) (wpAny_newObj_type (wpAny_bind (wpAny_pure (wpAny_pure ⟨_,rfl,wpAny_pure h⟩))) htake)
  | exact wpAny_bind (wpAny_bind (m:=Builtin.Tuple.tupleExact _) (wpAny_newObj_type (wpAny_pure (wpAny_pure ⟨_,rfl,wpAny_pure h⟩)) htake))
  | exact wpAny_bind (wpAny_bind (m:=Builtin.Tuple.tupleExact _) (wpAny_newObj_type (wpAny_pure ⟨_,rfl,wpAny_pure h⟩) htake))
end
end HT
namespace L2
open PySem PySem.Spec PyProof.Rows
abbrev TO:=St→Hp→(Option Int→Hp→Prop)→Prop
def PO (X:Cx) (e:Option Expr) (t:TO):Prop :=
 ∀ (pins:List (Addr×Obj)) (s:Shared) (σ:St) (H:Hp) (Q:Option Int→Hp→Prop),Jn X pins σ H s→t σ H Q →
  wpAny (model X.prog X.w) X.A (evalPart e X.env) (fun u s'=>∃ o H',Jn X pins σ H' s'∧IsPart u o∧Q o H') X.xe s
def JtC:TO:=fun _ H Q=>Q none H
def JvD (t:TE):TO:=fun σ H Q=>t σ H fun x H1=>∃ i,x=.int i∧Q (some i) H1
section
variable {X:Cx} {e:Expr} {te:TE} {lo hi:Option Expr} {tl th:TO} {pos p2:Pos}
theorem JiA:PO X none JtC:=by
 intro pins s σ H Q I h;rw [evalPart_none];exact wpAny_pure ⟨none,H,I,.none,h⟩
theorem Jep (h:PE X e te):PO X (some e) (JvD te):=by
 intro pins s σ H Q I hw;rw [evalPart_some];refine J3 (h pins s σ H _ I hw) fun u s1 ⟨x,H1,I1,r1,q1⟩=>?_
 obtain ⟨i,rfl,q⟩:=q1;obtain ⟨t,rfl⟩:=r1;exact ⟨some i,H1,I1,.int i t,q⟩
def SlR (X:Cx) (r:V→Option Int→Option Int→Hp→VK→Prop):Prop :=
 ∀ (pins:List (Addr×Obj)) (s:Shared) (σ:St) (H:Hp) (x:V) (v vl vu:Value) (lo hi:Option Int) (sl:Addr) (Q:VK),Jn X pins σ H s→JU x v→s.heap.IsSliceOf sl vl vu .none→IsPart vl lo→IsPart vu hi→r x lo hi H Q →
  ∃ T id,typeLookup (.type T) "__getitem__" = pure (some (.builtin id))∧s.TypeIs v T∧wpAny (model X.prog X.w) X.A (getItem v (.ref sl)) (EP X pins σ Q) X.xe s
theorem SlR.or {r r':V→Option Int→Option Int→Hp→VK→Prop} (h:SlR X r) (h':SlR X r'):SlR X (fun x lo hi H Q=>r x lo hi H Q∨r' x lo hi H Q):=by
 intro pins s σ H x v vl vu lo hi sl Q I rx hs pl pu q;rcases q with q | q
 ·exact h pins s σ H x v vl vu lo hi sl Q I rx hs pl pu q
 ·exact h' pins s σ H x v vl vu lo hi sl Q I rx hs pl pu q
def tSl (r:V→Option Int→Option Int→Hp→VK→Prop) (te:TE) (tl th:TO):TE:=fun σ H Q=>te σ H fun x H1=>tl σ H1 fun l H2=>th σ H2 fun u H3=>r x l u H3 Q
theorem JeU {r:V→Option Int→Option Int→Hp→VK→Prop} (hr:SlR X r) (he:PE X e te) (hl:PO X lo tl) (hu:PO X hi th):PE X (.Subscript e (.Slice lo hi none p2) pos) (tSl r te tl th):=by
 intro pins s σ H Q I h;refine Subscript_ (J3 (he pins s σ H _ I h) fun v s1 ⟨x,H1,I1,r1,q1⟩=>?_);refine wpAny_Slice (J3 (hl pins s1 σ H1 _ I1 q1) fun vl s2 ⟨l,H2,I2,pl,q2⟩=>J3 (hu pins s2 σ H2 _ I2 q2) fun vu s3 ⟨u,H3,I3,pu,q3⟩=>?_);rw [evalPart_none];refine wpAny_pure ?_;have I4:Jn X pins σ H3 { s3 with heap:=s3.heap.push { cls:=.type "slice",data:=.fields #[vl,vu,.none] } }:=I3.kept (t':=s3.toks) fun b ob q=>Heap.get?_push_of_some _ q
 obtain ⟨T,id,hT,ht,hg⟩:=hr pins { s3 with heap:=s3.heap.push { cls:=.type "slice",data:=.fields #[vl,vu,.none] } } σ H3 x v vl vu l u s3.heap.objs.size Q I4 r1 (Heap.IsSliceOf.new ..) pl pu q3;show wpAny (model X.prog X.w) X.A (subscriptTail e (.Slice lo hi none p2) v (.ref s3.heap.objs.size)) (EP X pins σ Q) X.xe { s3 with heap:=s3.heap.push { cls:=.type "slice",data:=.fields #[vl,vu,.none] } };exact tail_any (ops:=[.ref s3.heap.objs.size,v]) ht hT hg (by with_unfolding_all rfl)
def Jaa (xs:List V) (lo hi:Option Int):List V:=(xs.drop (HT.Yw xs.length 0 lo)).take (HT.Yw xs.length xs.length hi - HT.Yw xs.length 0 lo)
theorem Ji5 (xs:List V) (lo hi:Option Int):(Jaa xs lo hi).length≤xs.length:=by
 unfold Jaa;rw [List.length_take,List.length_drop];omega
def Jww (K:PySem.W.Frag):V→Option Int→Option Int→Hp→VK→Prop:=fun x lo hi H Q=>∃ a xs,x=.ref a∧J1 K H a xs ∧
 ¬ (HT.Yw xs.length 0 lo=0∧HT.Yw xs.length xs.length hi=xs.length)∧∀ p,H p=none→Q (.ref p) (upd H p (.tup (Jaa xs lo hi)))
theorem JuG:SlR X (Jww X.K):=by
 intro pins s σ H x v vl vu lo hi sl Q I rx hs pl pu h;obtain ⟨a,xs,rfl,hx,hw,q⟩:=h;cases rx;obtain ⟨its,r,ht,hz⟩:=I.tuple hx;have hlen:its.toArray.size=xs.length:=by rw [List.size_toArray]; exact r.length.symm
 refine ⟨"tuple",_,PyProof.Rows.slot_tuple_getitem.lookup,ht.typeIs,?_⟩;refine HT.JiR ht hs pl pu (by rw [hlen]; exact hw) ?_ (by rw [hlen]; exact hz);rw [hlen];refine ⟨.ref s.heap.objs.size,_,I.laid (t':=s.toks) (o:=.tup (Jaa xs lo hi)) (fun b ob q=>Heap.get?_push_of_some _ q) (Nat.le_refl _) ?_,rfl,q _ (I.hok.fresh (Nat.le_refl _))⟩;exact ⟨Nat.le_trans (Ji5 xs lo hi) hz,_,(r.drop (HT.Yw xs.length 0 lo)).take (HT.Yw xs.length xs.length hi - HT.Yw xs.length 0 lo),IsTup.new _ _⟩
end
end L2
namespace L2
open PySem PySem.Spec PyProof.Rows
def ixN (n:Nat) (i:Int):Option Nat:=if 0≤i then (if i < n then some i.toNat else none) else if -(n:Int)≤i then some (i + n).toNat else none
def Z3 {α:Type} (xs:List α) (i:Int):Option α:=(ixN xs.length i).bind fun j=>xs[j]?
theorem JoM {n:Nat} {i:Int} {j:Nat} (h:ixN n i=some j):seqIndex? i n=some j∧j < n∧-(n:Int)≤i∧i < n:=by
 unfold ixN at h;by_cases h0:0≤i
 ·rw [if_pos h0] at h;by_cases h1:i < n
  ·rw [if_pos h1] at h;have e:i.toNat=j:=Option.some.inj h;exact ⟨by rw [seqIndex_of h0 h1,e],by omega,by omega,h1⟩
  ·rw [if_neg h1] at h; cases h
 ·rw [if_neg h0] at h;by_cases h1:-(n:Int)≤i
  ·rw [if_pos h1] at h;have e:(i + n).toNat=j:=Option.some.inj h;exact ⟨by rw [seqIndex_neg (by omega) h1,e],by omega,h1,by omega⟩
  ·rw [if_neg h1] at h; cases h
theorem Jlz {α:Type} {xs:List α} {i:Int} {v:α} (h:Z3 xs i=some v):∃ j,seqIndex? i xs.length=some j∧xs[j]?=some v∧j < xs.length∧-(xs.length:Int)≤i∧i < xs.length:=by
 unfold Z3 at h;cases e:ixN xs.length i with
 | none=>rw [e] at h; cases h
 | some j =>
  rw [e] at h;obtain ⟨h1,h2,h3,h4⟩:=JoM e;exact ⟨j,h1,h,h2,h3,h4⟩
theorem YX {α:Type} {xs:List α} {j:Nat} {v:α} (h:xs[j]?=some v):Z3 xs (j:Int)=some v:=by
 have hj:j < xs.length:=(List.getElem?_eq_some_iff.mp h).1;have e:ixN xs.length (j:Int)=some j:=by
  unfold ixN;rw [if_pos (by omega),if_pos (by omega)]; simp
 unfold Z3; rw [e]; exact h
theorem JfB {α:Type} (xs:List α) (v:α):Z3 (xs ++ [v]) (-1)=some v:=by
 have hl:(xs ++ [v]).length=xs.length + 1:=by simp
 have e:ixN (xs ++ [v]).length (-1)=some xs.length:=by
  unfold ixN;rw [hl,if_neg (by decide),if_pos (by omega)];congr 1;omega
 unfold Z3;rw [e];show (xs ++ [v])[xs.length]?=some v;simp
def Jus (b:Expr):Prop:=∀ o i,subscripted b false o i=operate [o,i] (getItem o i)
def IxR (X:Cx) (r:R2):Prop :=
 ∀ (value slice:Expr) (pins:List (Addr×Obj)) (s:Shared) (σ:St) (H:Hp) (x y:V) (v u:Value) (Q:VK),Jn X pins σ H s→JU x v→JU y u→r x y H Q →
  subscripted slice false v u=operate [v,u] (getItem v u)→wpAny (model X.prog X.w) X.A (subscriptTail value slice v u) (EP X pins σ Q) X.xe s
def MtR (X:Cx) (id:String) (r:V→List V→Hp→VK→Prop):Prop :=
 ∀ (pins:List (Addr×Obj)) (s:Shared) (σ:St) (H:Hp) (x:V) (xs:List V) (v:Value) (us:List Value) (Q:VK),Jn X pins σ H s→JU x v→JK xs us→r x xs H Q →
  wpAny (model X.prog X.w) X.A (call (.builtin id) (v :: us)) (EP X pins σ Q) X.xe s
section
variable {X:Cx} {a b:Expr} {ta tb:TE} {pos:Pos}
theorem IxR.or {r r':R2} (h:IxR X r) (h':IxR X r'):IxR X (fun x y H Q=>r x y H Q∨r' x y H Q):=by
 intro value slice pins s σ H x y v u Q I rx ry q hs;rcases q with q | q
 ·exact h value slice pins s σ H x y v u Q I rx ry q hs
 ·exact h' value slice pins s σ H x y v u Q I rx ry q hs
theorem MtR.or {id:String} {r r':V→List V→Hp→VK→Prop} (h:MtR X id r) (h':MtR X id r'):MtR X id (fun x xs H Q=>r x xs H Q∨r' x xs H Q):=by
 intro pins s σ H x xs v us Q I rx rs q;rcases q with q | q
 ·exact h pins s σ H x xs v us Q I rx rs q
 ·exact h' pins s σ H x xs v us Q I rx rs q
theorem JM {r:R2} (hr:IxR X r) (ha:PE X a ta) (hb:PE X b tb) (hs:Jus b):PE X (.Subscript a b pos) (tOp r ta tb):=by
 intro pins s σ H Q I h;exact Subscript_ (Js6 ha hb I h fun v u s2 x y H2 I2 rx ry q=>hr a b pins s2 σ H2 x y v u Q I2 rx ry q (hs _ _))
def JhG (K:PySem.W.Frag):R2:=fun x y H Q=>∃ p xs i v,x=.ref p∧y=.int i∧JA K H p xs∧Z3 xs i=some v∧Q v H
def Jpo (K:PySem.W.Frag):R2:=fun x y H Q=>∃ p xs i v,x=.ref p∧y=.int i∧J1 K H p xs∧Z3 xs i=some v∧Q v H
def JuW:R2:=fun x y H Q=>∃ z i c,x=.str z∧y=.int i∧z.length≤sizeLine∧Z3 z.cps.toList i=some c∧Q (.str ⟨#[c]⟩) H
theorem JV:IxR X (JhG X.K):=by
 intro value slice pins s σ H x y v u Q I rx ry h hs;obtain ⟨p,xs,i,z,rfl,rfl,hq,he,q⟩:=h;cases rx;obtain ⟨t,rfl⟩:=ry;obtain ⟨its,r,pl,hz⟩:=I.list hq;obtain ⟨j,h1,h2,h3,h4,h5⟩:=Jlz he;obtain ⟨w,ew,rw'⟩:=r.get h2;have hl:=r.length;have hn:=JgG;have fin:EP X pins σ Q w s:=⟨z,H,I,rw',q⟩
 by_cases h0:0≤i
 ·have hj:i.toNat=j:=by
   rw [seqIndex_of h0 h5] at h1;exact Option.some.inj h1
  exact item_listR pl.isList h0 (by omega) (by rw [hj]; simpa using ew) fin hs
 ·have hj:(i + (its.toArray.size:Int)).toNat=j:=by
   rw [seqIndex_neg (by omega) h4] at h1;rw [List.size_toArray,← hl];exact Option.some.inj h1
  exact subscriptTail_builtinR (x:=w) pl.isList.typeIs slot_list_getitem.lookup
   (wpAny_getItem_list_neg (Q:=fun r s'=>r=w∧EP X pins σ Q r s') pl.isList (by omega) (by rw [List.size_toArray] <;> omega) (by omega) (by rw [hj]; simpa using ew) ⟨rfl,fin⟩) hs
theorem Yy:IxR X (Jpo X.K):=by
 intro value slice pins s σ H x y v u Q I rx ry h hs;obtain ⟨p,xs,i,z,rfl,rfl,hq,he,q⟩:=h;cases rx;obtain ⟨t,rfl⟩:=ry;obtain ⟨its,r,pl,hz⟩:=I.tuple hq;obtain ⟨j,h1,h2,h3,h4,h5⟩:=Jlz he;obtain ⟨w,ew,rw'⟩:=r.get h2;have hl:=r.length;have hn:=JgG;have fin:EP X pins σ Q w s:=⟨z,H,I,rw',q⟩
 exact subscriptTail_builtinR (x:=w) pl.typeIs slot_tuple_getitem.lookup
  (getItem_tuple (j:=j) (Q:=fun r s'=>r=w∧EP X pins σ Q r s') pl (by omega) (by omega) (by rw [List.size_toArray,← hl]; exact h1) (by simpa using ew) ⟨rfl,fin⟩) hs
theorem JnO:IxR X JuW:=by
 intro value slice pins s σ H x y v u Q I rx ry h hs;obtain ⟨z,i,c,rfl,rfl,hz,he,q⟩:=h;obtain ⟨t,rfl⟩:=rx;obtain ⟨t',rfl⟩:=ry;obtain ⟨j,h1,h2,h3,h4,h5⟩:=Jlz he;have hl:z.cps.toList.length=z.length:=by simp [Str.length]
 rw [hl] at h1 h4 h5;have hn:=JgG;exact tail_any (typeIs_str s z t) slot_str_getitem.lookup (getItem_str (c:=c) (by
  have e1:decide (i < -(2 ^ 63:Int))=false:=decide_eq_false (by omega);have e2:decide (i≥2 ^ 63)=false:=decide_eq_false (by omega);rw [e1,e2,Bool.or_false]) (by rw [h1]; simpa using h2) ⟨.str ⟨#[c]⟩,H,I.tok _,⟨_,rfl⟩,q⟩) hs
def rIx (K:PySem.W.Frag):R2:=fun x y H Q=>JhG K x y H Q∨Jpo K x y H Q∨JuW x y H Q
theorem Jq3:IxR X (rIx X.K):=JV.or (Yy.or JnO)
theorem Jpz (its:List Value) (n j:Nat) (u:Value):Obj.mapSeq (·.setIfInBounds j u) { cls:=.type "list",data:=.seq its.toArray n }={ cls:=.type "list",data:=.seq (its.set j u).toArray n }:=by
 simp [Obj.mapSeq]
theorem Jn.lst {pins:List (Addr×Obj)} {σ:St} {H:Hp} {s:Shared} {p:Addr} {xs:List V} (I:Jn X pins σ H s) (h:H p=some (.lst xs)) :
  ∃ (its:List Value) (n:Nat),JK xs its∧s.heap.get? p=some { cls:=.type "list",data:=.seq its.toArray n }∧xs.length≤sizeLine:=by
 obtain ⟨z,its,n,r,e⟩:=I.hok p _ h;exact ⟨its,n,r,e,z⟩
theorem Jn.lstUpd {pins:List (Addr×Obj)} {σ:St} {H:Hp} {s:Shared} {p:Addr} {xs ys:List V} {its its':List Value} {n n':Nat} {f:Obj→Obj} (I:Jn X pins σ H s) (h:H p=some (.lst xs))
  (ho:s.heap.get? p=some { cls:=.type "list",data:=.seq its.toArray n }) (hf:f { cls:=.type "list",data:=.seq its.toArray n }={ cls:=.type "list",data:=.seq its'.toArray n' }) (r:JK ys its') (hz:ys.length≤sizeLine) (t:Nat) :
  Jn X pins σ (upd H p (.lst ys)) { s with heap:=s.heap.update p f,toks:=t }:=by
 have e:(s.heap.update p f).get? p=some { cls:=.type "list",data:=.seq its'.toArray n' }:=by
  rw [Heap.get?_update_self f ho (by rw [hf] <;> rfl),hf]
 refine I.write (x:=p) (e:=p) (by rw [h]; trivial) (.inl rfl) (fun b u hb q=>(Heap.get?_update_other _ _ (Ne.symm hb)).trans q) ⟨_,e⟩ ?_;exact ⟨hz,its',n',r,e⟩
def JvP:V→V→V→Hp→(Hp→Prop)→Prop:=fun o i v H Q=>∃ p xs k j,o=.ref p∧i=.int k∧H p=some (.lst xs)∧ixN xs.length k=some j∧Q (upd H p (.lst (xs.set j v)))
theorem Jr8:Jvw X JvP:=by
 intro pins s σ H o i v ov iv u Q I ro ri rv h;obtain ⟨p,xs,k,j,rfl,rfl,hp,hj,q⟩:=h;cases ro;obtain ⟨t,rfl⟩:=ri;obtain ⟨its,n,r,ho,hz⟩:=I.lst hp;obtain ⟨h1,h2,h3,h4⟩:=JoM hj;have hl:=r.length;have hn:=JgG;have I':Jn X pins σ (upd H p (.lst (xs.set j v))) { s with heap:=s.heap.update p (Obj.mapSeq (·.setIfInBounds j u)) } :=
  I.lstUpd hp ho (Jpz its n j u) (r.set rv j) (by rw [List.length_set]; exact hz) s.toks
 by_cases h0:0≤k
 ·have hk:k.toNat=j:=by
   rw [seqIndex_of h0 h4] at h1;exact Option.some.inj h1
  exact PySem.W.ki_setAt ho h0 (by omega) (by rw [List.size_toArray,← hl]; exact h4) (by rw [hk]; exact ⟨_,I',q⟩)
 ·have hk:(k + (its.toArray.size:Int)).toNat=j:=by
   rw [seqIndex_neg (by omega) h3] at h1;rw [List.size_toArray,← hl];exact Option.some.inj h1
  exact PySem.W.ki_setBack ho (by omega) (by rw [List.size_toArray,← hl]; exact h3) (by omega) (by rw [hk]; exact ⟨_,I',q⟩)
theorem JmY (lo hi:Option Int) (n:Nat):(sliceBounds lo hi none n).1=((HT.Yw n 0 lo:Nat):Int)∧(sliceBounds lo hi none n).2.1=((HT.Yw n n hi:Nat):Int)∧(sliceBounds lo hi none n).2.2=1:=by
 refine ⟨?_,?_,rfl⟩
 ·cases lo with
  | none=>simp [sliceBounds,HT.Yw]
  | some i =>
   simp only [sliceBounds,HT.Yw,Option.getD_none,show (1:Int) > 0 by decide,if_true];by_cases h:i < 0
   ·simp only [h,if_true] <;> omega
   ·simp only [h,if_false] <;> omega
 ·cases hi with
  | none=>simp [sliceBounds,HT.Yw]
  | some i =>
   simp only [sliceBounds,HT.Yw,Option.getD_none,show (1:Int) > 0 by decide,if_true];by_cases h:i < 0
   ·simp only [h,if_true] <;> omega
   ·simp only [h,if_false] <;> omega
theorem Jmi (its:List Value) (lo hi:Option Int):slicePick its.toArray lo hi none=((its.drop (HT.Yw its.length 0 lo)).take (HT.Yw its.length its.length hi - HT.Yw its.length 0 lo)).toArray:=by
 obtain ⟨h1,h2,h3⟩:=JmY lo hi its.toArray.size;unfold slicePick;rw [h1,h2,h3];simp only [sliceRange_one,pick_run,List.size_toArray] <;> rfl
def Jwx (K:PySem.W.Frag):V→Option Int→Option Int→Hp→VK→Prop:=fun x lo hi H Q=>∃ a xs,x=.ref a∧JA K H a xs∧∀ p,H p=none→Q (.ref p) (upd H p (.lst (Jaa xs lo hi)))
theorem JkH:SlR X (Jwx X.K):=by
 intro pins s σ H x v vl vu lo hi sl Q I rx hs pl pu h;obtain ⟨a,xs,rfl,hx,q⟩:=h;cases rx;obtain ⟨its,r,ht,hz⟩:=I.list hx;have hlen:=r.length;refine ⟨"list",_,slot_list_getitem.lookup,ht.isList.typeIs,?_⟩;refine wpAny_getItem_list_slice ht.isList hs pl pu .none (by simp) ?_ (by rw [List.size_toArray] <;> omega);rw [Jmi,← hlen];refine ⟨.ref s.heap.objs.size,_,I.laid (t':=s.toks) (o:=.lst (Jaa xs lo hi)) (fun b ob q=>Heap.get?_push_of_some _ q) (Nat.le_refl _) ?_,rfl,q _ (I.hok.fresh (Nat.le_refl _))⟩;exact ⟨Nat.le_trans (Ji5 xs lo hi) hz,_,0,(r.drop (HT.Yw xs.length 0 lo)).take (HT.Yw xs.length xs.length hi - HT.Yw xs.length 0 lo),Heap.get?_push_size _ rfl⟩
def Jeh:V→Bool
 | .non=>true
 | .bl _=>true
 | .int _=>true
 | .str _=>true
 | _=>false
def eqV:V→V→Bool
 | .non,.non=>true
 | .bl a,.bl b=>a == b
 | .bl a,.int b=>(if a then 1 else 0) == b
 | .int a,.bl b=>a == (if b then 1 else 0)
 | .int a,.int b=>a == b
 | .str a,.str b=>a == b
 | _,_=>false
theorem Jvp {A:Around} {s:Shared} {y x:V} {u v:Value} (ry:JU y u) (rx:JU x v) (fy:Jeh y=true) (fx:Jeh x=true):SeqAt.EqAt A s u v (eqV y x):=by
 cases y with
 | non =>
  cases ry;cases x with
  | non=>cases rx; exact SeqAt.EqAt.same _
  | bl b=>cases rx; exact SeqAt.EqAt.none_bool b
  | int b=>obtain ⟨t,rfl⟩:=rx; exact SeqAt.EqAt.none_int b t
  | str b=>obtain ⟨t,rfl⟩:=rx; exact SeqAt.EqAt.none_str b t
  | _=>exact absurd (show false=true from fx) Bool.false_ne_true
 | bl a =>
  cases ry;cases x with
  | non=>cases rx; exact SeqAt.EqAt.bool_none a
  | bl b=>cases rx; exact SeqAt.EqAt.bool_bool a b
  | int b=>obtain ⟨t,rfl⟩:=rx; exact SeqAt.EqAt.bool_int a b t
  | str b=>obtain ⟨t,rfl⟩:=rx; exact SeqAt.EqAt.bool_str a b t
  | _=>exact absurd (show false=true from fx) Bool.false_ne_true
 | int a =>
  obtain ⟨t',rfl⟩:=ry;cases x with
  | non=>cases rx; exact SeqAt.EqAt.int_none a t'
  | bl b=>cases rx; exact SeqAt.EqAt.int_bool a t' b
  | int b=>obtain ⟨t,rfl⟩:=rx; exact SeqAt.EqAt.int_int a t' b t
  | str b=>obtain ⟨t,rfl⟩:=rx; exact SeqAt.EqAt.int_str a t' b t
  | _=>exact absurd (show false=true from fx) Bool.false_ne_true
 | str a =>
  obtain ⟨t',rfl⟩:=ry;cases x with
  | non=>cases rx; exact SeqAt.EqAt.str_none a t'
  | bl b=>cases rx; exact SeqAt.EqAt.str_bool a t' b
  | int b=>obtain ⟨t,rfl⟩:=rx; exact SeqAt.EqAt.str_int a t' b t
  | str b=>obtain ⟨t,rfl⟩:=rx; exact SeqAt.EqAt.str_str a t' b t
  | _=>exact absurd (show false=true from fx) Bool.false_ne_true
 | _=>exact absurd (show false=true from fy) Bool.false_ne_true
def eqU (x:V) (u:Value):Bool:=match u with
 | .none=>eqV .non x
 | .bool b=>eqV (.bl b) x
 | .int i _=>eqV (.int i) x
 | .str z _=>eqV (.str z) x
 | _=>false
theorem Jrf {x y:V} {u:Value} (r:JU y u) (f:Jeh y=true):eqU x u=eqV y x:=by
 cases y with
 | non=>cases r; rfl
 | bl b=>cases r; rfl
 | int i=>obtain ⟨t,rfl⟩:=r; rfl
 | str z=>obtain ⟨t,rfl⟩:=r; rfl
 | _=>exact absurd (show false=true from f) Bool.false_ne_true
theorem JgN {x:V}:∀ {xs:List V} {us:List Value},JK xs us→xs.all Jeh=true→us.any (eqU x)=xs.any fun y=>eqV y x
 | _,_,.nil,_=>rfl
 | y :: xs,u :: us,.cons r t,f=>by
  rw [List.all_cons,Bool.and_eq_true] at f;rw [List.any_cons,List.any_cons,Jrf r f.1,JgN t f.2]
theorem Je2 {A:Around} {s:Shared} {x:V} {v:Value} (rx:JU x v) (fx:Jeh x=true):∀ {xs:List V} {us:List Value},JK xs us→xs.all Jeh=true→∀ u∈us,SeqAt.EqAt A s u v (eqU x u)
 | _,_,.nil,_=>fun u hu=>by cases hu
 | y :: xs,u :: us,.cons r t,f=>fun u' hu=>by
  rw [List.all_cons,Bool.and_eq_true] at f;rcases List.mem_cons.mp hu with rfl | hu
  ·rw [Jrf r f.1]; exact Jvp r rx f.1 fx
  ·exact Je2 rx fx t f.2 u' hu
def inV (x:V) (xs:List V):Bool:=xs.any fun y=>eqV y x
def rIn (K:PySem.W.Frag) (neg:Bool):R2:=fun x y H Q=>∃ p xs,y=.ref p∧(JA K H p xs∨J1 K H p xs)∧Jeh x=true∧xs.all Jeh=true∧Q (.bl (if neg then !inV x xs else inV x xs)) H
theorem JlT:ZS X (compareOp .In) (rIn X.K false):=by
 intro pins s σ H x y v u Q I rx ry h;obtain ⟨p,xs,rfl,hq,fx,fs,q⟩:=h;cases ry;rcases hq with hq | hq
 ·obtain ⟨its,r,pl,hz⟩:=I.list hq;refine SeqAt.in_listAt (eqU x) pl.isList (fun w hw=>Je2 rx fx r fs w (by simpa using hw)) ⟨.bl _,H,I,rfl,?_⟩;rw [show its.toArray.any (eqU x)=its.any (eqU x) by simp,JgN r fs];exact q
 ·obtain ⟨its,r,pl,hz⟩:=I.tuple hq;refine SeqAt.in_tupleAt (eqU x) pl (fun w hw=>Je2 rx fx r fs w (by simpa using hw)) ⟨.bl _,H,I,rfl,?_⟩;rw [show its.toArray.any (eqU x)=its.any (eqU x) by simp,JgN r fs];exact q
theorem JbZ:ZS X (compareOp .NotIn) (rIn X.K true):=by
 intro pins s σ H x y v u Q I rx ry h;obtain ⟨p,xs,rfl,hq,fx,fs,q⟩:=h;cases ry;rcases hq with hq | hq
 ·obtain ⟨its,r,pl,hz⟩:=I.list hq;refine SeqAt.notIn_listAt (eqU x) pl.isList (fun w hw=>Je2 rx fx r fs w (by simpa using hw)) ⟨.bl _,H,I,rfl,?_⟩;rw [show its.toArray.any (eqU x)=its.any (eqU x) by simp,JgN r fs];exact q
 ·obtain ⟨its,r,pl,hz⟩:=I.tuple hq;refine SeqAt.notIn_tupleAt (eqU x) pl (fun w hw=>Je2 rx fx r fs w (by simpa using hw)) ⟨.bl _,H,I,rfl,?_⟩;rw [show its.toArray.any (eqU x)=its.any (eqU x) by simp,JgN r fs];exact q
theorem Yk:Yl X (.builtin "len") (fun xs H Q=>∃ p ys,xs=[.ref p]∧(JA X.K H p ys∨J1 X.K H p ys)∧Q (.int ys.length) H):=by
 intro pins s σ H xs us Q I r h;obtain ⟨p,ys,rfl,hq,q⟩:=h;obtain ⟨u,rfl,rx⟩:=JgS r;cases rx;have hn:=JgG;rcases hq with hq | hq
 ·obtain ⟨its,r',pl,hz⟩:=I.list hq;have hlen:=r'.length;exact Calls.call_len_list pl.isList (by simp only [List.size_toArray] <;> omega) ⟨.int ys.length,H,I.tok _,⟨s.toks + 1,by rw [List.size_toArray,hlen]⟩,q⟩
 ·obtain ⟨its,r',pl,hz⟩:=I.tuple hq;have hlen:=r'.length;exact len_tuple pl (by simp only [List.size_toArray] <;> omega) ⟨.int ys.length,H,I.tok _,⟨s.toks + 1,by rw [List.size_toArray,hlen]⟩,q⟩
theorem Jil:Yl X (.builtin "len") (fun xs H Q=>∃ z,xs=[.str z]∧z.length≤sizeLine∧Q (.int z.length) H):=by
 intro pins s σ H xs us Q I r h;obtain ⟨z,rfl,hz,q⟩:=h;obtain ⟨u,rfl,t,rfl⟩:=JgS r;have hn:=JgG;exact len_str (by omega) ⟨.int z.length,H,I.tok _,⟨_,rfl⟩,q⟩
theorem Yl.or {f:Value} {r r':List V→Hp→VK→Prop} (h:Yl X f r) (h':Yl X f r'):Yl X f (fun xs H Q=>r xs H Q∨r' xs H Q):=by
 intro pins s σ H xs us Q I rs q;rcases q with q | q
 ·exact h pins s σ H xs us Q I rs q
 ·exact h' pins s σ H xs us Q I rs q
theorem JfA:Yl X (.type "list") (fun xs H Q=>∃ p ys,xs=[.ref p]∧(JA X.K H p ys∨J1 X.K H p ys)∧∀ l,H l=none→Q (.ref l) (upd H l (.lst ys))):=by
 intro pins s σ H xs us Q I r h;obtain ⟨p,ys,rfl,hq,q⟩:=h;obtain ⟨u,rfl,rx⟩:=JgS r;cases rx;have fin:∀ (its:List Value),JK ys its→ys.length≤sizeLine→∀ (h':Heap) (c':Nat),(∀ b o',s.heap.get? b=some o'→h'.get? b=some o') →
   h'.get? s.heap.objs.size=some { cls:=.type "list",dict:=none,data:=.seq its.toArray c',slots:=#[] }→EP X pins σ Q (.ref s.heap.objs.size) { s with heap:=h' }:=fun its r' hz h' c' kp e =>
  ⟨.ref s.heap.objs.size,_,I.laid (t':=s.toks) kp (Nat.le_refl _) (show YD X.prog X.w _ h' _ (.lst ys) from ⟨hz,its,c',r',e⟩),rfl,q _ (I.hok.fresh (Nat.le_refl _))⟩
 rcases hq with hq | hq
 ·obtain ⟨its,r',pl,hz⟩:=I.list hq;have hlen:=r'.length;obtain ⟨o,ho,hc,n,hd⟩:=pl.isList;exact call_list_seq p (.inl rfl) ho hc hd (fun h' c' kp e=>fin its r' hz h' c' kp e) (by simp only [List.size_toArray] <;> omega)
 ·obtain ⟨its,r',pl,hz⟩:=I.tuple hq;have hlen:=r'.length;obtain ⟨o,ho,hc,n,hd⟩:=pl;exact call_list_seq p (.inr rfl) ho hc hd (fun h' c' kp e=>fin its r' hz h' c' kp e) (by simp only [List.size_toArray] <;> omega)
theorem ZB:Yl X (.type "tuple") (fun xs H Q=>∃ p ys,xs=[.ref p]∧((JA X.K H p ys∧∀ l,H l=none→Q (.ref l) (upd H l (.tup ys)))∨(J1 X.K H p ys∧Q (.ref p) H))):=by
 intro pins s σ H xs us Q I r h;obtain ⟨p,ys,rfl,h⟩:=h;obtain ⟨u,rfl,rx⟩:=JgS r;cases rx;rcases h with ⟨hq,q⟩ | ⟨hq,q⟩
 ·obtain ⟨its,r',pl,hz⟩:=I.list hq;have hlen:=r'.length;refine call_tuple_list pl.isList (fun h' kp=>?_) (by simp only [List.size_toArray] <;> omega);have I1:Jn X pins σ H { s with heap:=h' }:=I.kept (t':=s.toks) kp;have I2:Jn X pins σ (upd H h'.objs.size (.tup ys)) { s with heap:=h'.push { cls:=.type "tuple",data:=.seq its.toArray } } :=
   I1.laid (t':=s.toks) (fun b o e=>Heap.get?_push_of_some _ e) (Nat.le_refl _) (show YD X.prog X.w _ _ _ (.tup ys) from ⟨hz,its,r',IsTup.new _ _⟩)
  exact ⟨.ref h'.objs.size,_,I2,rfl,q _ (I1.hok.fresh (Nat.le_refl _))⟩
 ·obtain ⟨its,r',pl,hz⟩:=I.tuple hq;exact call_tuple_same pl ⟨.ref p,H,I,rfl,q⟩
def tyV (K:PySem.W.Frag) (T:String) (x:V) (H:Hp):Prop:=match x with
 | .str _=>T = "str"
 | .int _=>T = "int"
 | .ref p=>(T = "list"∧∃ xs,JA K H p xs)∨(T = "tuple"∧∃ o,K.lookup p=some o∧o.cls=.type "tuple"∧o.dict=none) ∨
   (T = "dict"∧((∃ kvs,H p=some (.dK kvs))∨∃ kvs,H p=some (.dT kvs)))∨(T = "set"∧∃ S n,H p=some (.set S n))
 | _=>False
theorem Jp8 {pins:List (Addr×Obj)} {σ:St} {H:Hp} {s:Shared} {T:String} {x:V} {v:Value} (I:Jn X pins σ H s) (r:JU x v) (ty:tyV X.K T x H) :
  s.TypeIs v T∧∀ a,v=.ref a→∃ ob,s.heap.get? a=some ob∧ob.dict=none:=by
 cases x with
 | str z =>
  obtain ⟨t,rfl⟩:=r;cases (show T = "str" from ty);exact ⟨typeIs_str s z t,fun _ e=>nomatch e⟩
 | int i =>
  obtain ⟨t,rfl⟩:=r;cases (show T = "int" from ty);exact ⟨typeIs_int s i t,fun _ e=>nomatch e⟩
 | ref p =>
  cases r;rcases ty with ⟨rfl,xs,hq⟩ | ⟨rfl,o,hk,hc,hd⟩ | ⟨rfl,hk⟩ | ⟨rfl,S,n,hk⟩
  ·obtain ⟨its,_,pl,_⟩:=I.list hq;refine ⟨pl.isList.typeIs,fun a e=>?_⟩;cases e;obtain ⟨o,n,e,c,hd,_⟩:=pl;exact ⟨o,e,hd⟩
  ·refine ⟨⟨o,I.kIn p o hk,hc⟩,fun a e=>?_⟩;cases e;exact ⟨o,I.kIn _ o hk,hd⟩
  ·have z:∃ o,s.heap.get? p=some o∧o.ExactDict:=by
    rcases hk with ⟨kvs,hk⟩ | ⟨kvs,hk⟩
    ·obtain ⟨_,_,_,_,o,_,_,e,ex,_⟩:=I.hok p _ hk;exact ⟨o,e,ex⟩
    ·obtain ⟨_,_,_,_,o,_,_,e,ex,_⟩:=I.hok p _ hk;exact ⟨o,e,ex⟩
   obtain ⟨o,e,ex⟩:=z;refine ⟨⟨o,e,ex.1⟩,fun a e2=>?_⟩;cases e2;exact ⟨o,e,ex.2.1⟩
  ·obtain ⟨o,_,_,_,e,ex,_⟩:=I.hok p _ hk;refine ⟨⟨o,e,ex.1⟩,fun a e2=>?_⟩;cases e2;exact ⟨o,e,ex.2.1⟩
 | _=>exact False.elim ty
def Jwt (K:PySem.W.Frag) (T:String) (r:V→List V→Hp→VK→Prop) (to:TE):TE:=fun σ H Q=>to σ H fun x H1=>tyV K T x H1∧r x [] H1 Q
def tBM (K:PySem.W.Frag) (T:String) (r:V→List V→Hp→VK→Prop) (to:TE) (t:TA):TE:=fun σ H Q=>to σ H fun x H1=>tyV K T x H1∧t σ H1 fun xs H2=>r x xs H2 Q
variable {o e:Expr} {es:List Expr} {to:TE} {t:TA} {name:Str} {apos cpos:Pos} {T id:String} {r:V→List V→Hp→VK→Prop}
theorem Ju5 (pa:PlainAttrs T) (slot:Slot T name id) (hty:typeOf (.builtin id)=pure (.type "method_descriptor")) (hm:MtR X id r) (ho:PE X o to)
  (hbase:attributeBase o name X.env (eval o X.env)=eval o X.env:=by rfl) (hline:(apos.endLine == cpos.line)=true:=by rfl):PE X (.Call (.Attribute o name apos) [] [] cpos) (Jwt X.K T r to):=by
 intro pins s σ H Q I h;refine wpAny_Call_method0_late hbase hline (J3 (ho pins s σ H _ I h) fun v s1 ⟨x,H1,I1,r1,ty,q1⟩=>?_);obtain ⟨h1,h2⟩:=Jp8 I1 r1 ty;exact ⟨T,id,pa,slot,hty,h1,h2,Calls.callWith_builtin rfl (PySem.evalArgs_none (hm pins s1 σ H1 x [] v [] Q I1 r1 .nil q1))⟩
theorem JcW (pa:PlainAttrs T) (slot:Slot T name id) (hty:typeOf (.builtin id)=pure (.type "method_descriptor")) (hm:MtR X id r) (ho:PE X o to) (ha:PA X (e :: es) t)
  (hbase:attributeBase o name X.env (eval o X.env)=eval o X.env:=by rfl)
  (hfew:((backTo cpos (starEach (e :: es) X.env)).all (fun x=>!x.1) && (backToKw cpos (keywordEach [] X.env)).all (fun x=>x.1.isSome)
   && decide ((e :: es).length + ([]:List Keyword).length + (if ([]:List Keyword).isEmpty then 0 else 1) < 30))=true:=by rfl)
  (hline:(apos.endLine == cpos.line)=true:=by rfl) (hs:starEach (e :: es) X.env=(false,eval e X.env) :: starEach es X.env:=by rfl) (hplain:(backTo cpos (starEach es X.env)).any (·.1)=false:=by rfl) :
  PE X (.Call (.Attribute o name apos) (e :: es) [] cpos) (tBM X.K T r to t):=by
 intro pins s σ H Q I h;refine wpAny_Call_method_late hbase hfew hline rfl (J3 (ho pins s σ H _ I h) fun v s1 ⟨x,H1,I1,r1,ty,q1⟩=>?_);obtain ⟨h1,h2⟩:=Jp8 I1 r1 ty;refine ⟨T,id,pa,slot,hty,h1,h2,?_⟩;have hA:=ha cpos pins s1 σ H1 _ I1 q1;rw [hs] at hA ⊢;refine Calls.callWith_builtin (by show (false || (backTo cpos (starEach es X.env)).any (·.1))=false; rw [hplain] <;> rfl) (Calls.evalArgs_plain ?_);exact J3 hA fun us s2 ⟨vs,H2,I2,r2,q2⟩=>hm pins s2 σ H2 x vs v us Q I2 r1 r2 q2
end
end L2
namespace L2
open PySem PySem.Spec PyProof.Rows
def MtM (X:Cx) (id:String) (r:V→List V→Hp→VK→Prop):Prop :=
 ∀ (pins:List (Addr×Obj)) (s:Shared) (σ:St) (H:Hp) (x:V) (xs:List V) (v:Value) (us:List Value) (Q:VK),Jn X pins σ H s→JU x v→JK xs us→r x xs H Q →
  wpAny (model X.prog X.w) X.A (call (.builtin id) (v :: us)) (EP X pins σ Q) X.xe s
theorem JK.one:∀ {x:V} {us:List Value},JK [x] us→∃ u,us=[u]∧JU x u
 | _,_,.cons r .nil=>⟨_,rfl,r⟩
theorem JK.zero:∀ {us:List Value},JK [] us→us=[]
 | _,.nil=>rfl
theorem JK.rep {xs:List V} {us:List Value} (h:JK xs us):∀ k:Nat,JK (List.replicate k xs).flatten (List.replicate k us).flatten
 | 0=>.nil
 | k + 1=>by
  rw [List.replicate_succ,List.replicate_succ,List.flatten_cons,List.flatten_cons];exact JK.append h (JK.rep h k)
theorem Jl2 (its:List Value):∀ (k:Nat) (acc:List Value),
  List.foldl (fun x1 x2=>x1 ++ x2) acc.toArray (List.replicate k its.toArray)=(acc ++ (List.replicate k its).flatten).toArray
 | 0,acc=>by simp
 | k + 1,acc=>by
  have e:acc.toArray ++ its.toArray=(acc ++ its).toArray:=by simp
  have e2:(acc ++ its) ++ (List.replicate k its).flatten=acc ++ (List.replicate (k + 1) its).flatten:=by
   rw [List.replicate_succ,List.flatten_cons,List.append_assoc]
  rw [← e2,← Jl2 its k (acc ++ its),← e,List.replicate_succ,List.foldl_cons]
section
variable {X:Cx} {pins:List (Addr×Obj)} {σ:St} {H:Hp} {s:Shared} {l b:Addr} {xs ys zs:List V}
theorem Jn.lset {its its':List Value} {n:Nat} {f:Array Value→Array Value} {t':Nat} (I:Jn X pins σ H s) (hH:H l=some (.lst xs))
  (e:s.heap.get? l=some { cls:=.type "list",data:=.seq its.toArray n }) (hf:f its.toArray=its'.toArray) (hv:JK ys its') (hz:ys.length≤sizeLine) :
  Jn X pins σ (upd H l (.lst ys)) { s with heap:=s.heap.update l (Obj.mapSeq f),toks:=t' }:=by
 have q:=PySem.IsL.update e f;rw [hf] at q;refine I.write (x:=l) (e:=l) (by rw [hH]; exact trivial) (.inl rfl) (fun b' u hb hu=>(Heap.get?_update_other s.heap (Obj.mapSeq f) (Ne.symm hb)).trans hu) ⟨_,q⟩ ?_;exact ⟨hz,its',_,hv,q⟩
theorem Jn.lnew {its:List Value} {t':Nat} (I:Jn X pins σ H s) (hv:JK ys its) (hz:ys.length≤sizeLine) :
  Jn X pins σ (upd H s.heap.objs.size (.lst ys)) { s with heap:=s.heap.push { cls:=.type "list",data:=.seq its.toArray },toks:=t' } :=
 I.laid (fun _ _ q=>Heap.get?_push_of_some _ q) (Nat.le_refl _) ⟨hz,its,0,hv,Heap.get?_push_size _ rfl⟩
theorem Jn.fresh (I:Jn X pins σ H s):H s.heap.objs.size=none:=I.hok.fresh (Nat.le_refl _)
theorem Jn.lstM (I:Jn X pins σ H s) (hH:H l=some (.lst xs)):xs.length≤sizeLine∧∃ (its:List Value) (n:Nat),JK xs its∧xs.length=its.length∧s.heap.get? l=some { cls:=.type "list",data:=.seq its.toArray n }:=by
 obtain ⟨z,its,n,r,e⟩:=I.hok l _ hH;exact ⟨z,its,n,r,r.length,e⟩
theorem JsD {n:Nat} (h:n≤sizeLine):Builtin.List.listTooLong n=false:=by
 unfold Builtin.List.listTooLong;exact decide_eq_false (by omega)
end
section
variable {X:Cx}
def Jt1:V→List V→Hp→VK→Prop:=fun x vs H Q=>∃ l xs y,x=.ref l∧vs=[y]∧H l=some (.lst xs)∧xs.length < sizeLine∧Q .non (upd H l (.lst (xs ++ [y])))
theorem ZF:MtM X "list.append" Jt1:=by
 intro pins s σ H x vs v us Q I rx rv h;obtain ⟨l,xs,y,rfl,rfl,hH,hz,q⟩:=h;cases rx;obtain ⟨u,rfl,ru⟩:=rv.one;obtain ⟨z,its,n,r,hl,e⟩:=I.lstM hH;refine call_meets F.slot_list_append ⟨_,e,rfl⟩ F.entry_list_append (F.args_list_append_2 _ _) (PySem.list_append l its.toArray n u (by rw [List.size_toArray]; omega)) ⟨e,?_⟩;refine ⟨.non,_,I.lset (its':=its ++ [u]) hH e (by simp) (r.append (.cons ru .nil)) ?_,rfl,q⟩;rw [List.length_append,List.length_singleton];omega
def JwB:R2:=fun x y H Q=>∃ l b xs zs,x=.ref l∧y=.ref b∧H l=some (.lst xs)∧H b=some (.lst zs)∧xs.length + zs.length≤sizeLine∧∀ p,H p=none→Q (.ref p) (upd H p (.lst (xs ++ zs)))
theorem Ju8:ZS X (binaryOp .Add) JwB:=by
 intro pins s σ H x y v u Q I rx ry h;obtain ⟨l,b,xs,zs,rfl,rfl,hH,hB,hz,q⟩:=h;cases rx;cases ry;obtain ⟨z,its,n,r,hl,e⟩:=I.lstM hH;obtain ⟨z2,its2,n2,r2,hl2,e2⟩:=I.lstM hB;refine PySem.P.add_list e e2 ?_ (by rw [List.size_toArray,List.size_toArray]; omega);have ea:its.toArray ++ its2.toArray=(its ++ its2).toArray:=by simp
 rw [ea];exact ⟨.ref _,_,I.lnew (t':=s.toks) (r.append r2) (by rw [List.length_append]; omega),rfl,q _ I.fresh⟩
def Jwy:R2:=fun x y H Q=>∃ l k xs,x=.ref l∧y=.int k∧H l=some (.lst xs)∧-(2 ^ 63)≤k∧k < 2 ^ 63∧xs.length * k.toNat≤sizeLine ∧
 ∀ p,H p=none→Q (.ref p) (upd H p (.lst (List.replicate k.toNat xs).flatten))
theorem Juh {α:Type} (xs:List α) (k:Nat):(List.replicate k xs).flatten.length=k * xs.length:=by
 induction k with
 | zero=>simp
 | succ k ih=>rw [List.replicate_succ,List.flatten_cons,List.length_append,ih,Nat.succ_mul,Nat.add_comm]
theorem Ju7:ZS X (binaryOp .Mult) Jwy:=by
 intro pins s σ H x y v u Q I rx ry h;obtain ⟨l,k,xs,rfl,rfl,hH,h1,h2,hz,q⟩:=h;cases rx;obtain ⟨t,rfl⟩:=ry;obtain ⟨z,its,n,r,hl,e⟩:=I.lstM hH;have hlen:its.toArray.size * k.toNat≤sizeLine:=by rw [List.size_toArray,← hl]; exact hz
 have hcap:¬ its.toArray.size * k.toNat > (2 ^ 63 - 1) / 8:=by
  have:(sizeLine:Nat)≤(2 ^ 63 - 1) / 8:=by decide
  omega
 have hfit:¬ (!Builtin.List.listFitsIndex k)=true:=by
  rw [fitsIndex_both h1 h2];exact Bool.false_ne_true
 have hlong:¬ Builtin.List.listTooLong (its.toArray.size * k.toNat)=true:=by
  rw [JsD hlen];exact Bool.false_ne_true
 have hnew:List.foldl (fun x1 x2=>x1 ++ x2) #[] (List.replicate (if its.toArray.isEmpty=true then 0 else k.toNat) its.toArray)=(List.replicate k.toNat its).flatten.toArray:=by
  have f0:∀ m:Nat,List.foldl (fun x1 x2=>x1 ++ x2) #[] (List.replicate m its.toArray)=(List.replicate m its).flatten.toArray:=fun m=>by
   have:=Jl2 its m [];rw [List.nil_append] at this;exact this
  rw [f0];cases its with
  | nil=>simp
  | cons a r'=>rw [if_neg (by simp)]
 refine wpAny_binaryOp_repeat_ref (T := "list") (U := "int") (by decide) ⟨_,e,rfl⟩ (fun s'=>typeIs_int s' k t) noFill_list_mul F.fills_int_mul F.slot_int_rmul repeat_list F.slot_int_index.lookup
  (call_meets F.slot_int_rmul (typeIs_int s k t) F.entry_int_rmul (F.args_int_rmul_2 _ _) (int___rmul___int_list k t l its.toArray n)
   ⟨e,rfl,⟨_,e,rfl⟩,call_meets F.slot_list_mul ⟨_,e,rfl⟩ F.entry_list_mul (F.args_list_mul_2 _ _) (AutoListH.list___mul___list_int_3 l its.toArray n k t hfit hcap hlong) ⟨e,?_⟩⟩)
 rw [hnew];exact ⟨.ref _,_,I.lnew (t':=s.toks) (r.rep k.toNat) (by rw [Juh,Nat.mul_comm]; exact hz),rfl,q _ I.fresh⟩
end
end L2
namespace L2
open PySem PySem.Spec PyProof.Rows
section
variable {κ:Type} [DecidableEq κ]
def J2 (kvs:List (κ×V)) (k:κ):Option V:=(kvs.find? fun kv=>decide (kv.1=k)).map (·.2)
def JaP (kvs:List (κ×V)) (k:κ) (v:V):List (κ×V) :=
 if (kvs.any fun kv=>decide (kv.1=k))=true then kvs.map (fun kv=>if kv.1=k then (kv.1,v) else kv) else kvs ++ [(k,v)]
def JfP (kvs:List (κ×V)) (k:κ):List (κ×V):=kvs.filter fun kv=>decide (kv.1≠k)
theorem YY {p:κ×V} {r:List (κ×V)} {k:κ} (e:p.1=k):J2 (p :: r) k=some p.2:=by simp [J2,List.find?_cons,e]
theorem Y9 {p:κ×V} {r:List (κ×V)} {k:κ} (e:¬ p.1=k):J2 (p :: r) k=J2 r k:=by simp [J2,List.find?_cons,e]
theorem Jcs (k:κ):∀ kvs:List (κ×V),(kvs.any fun kv=>decide (kv.1=k))=(J2 kvs k).isSome
 | []=>rfl
 | p :: r=>by
  rw [List.any_cons];by_cases e:p.1=k
  ·simp only [YY e,decide_eq_true e,Bool.true_or,Option.isSome_some]
  ·rw [Y9 e,decide_eq_false e,Bool.false_or]; exact Jcs k r
theorem JmN (k j:κ) (y:V):∀ kvs:List (κ×V),J2 (kvs.map fun kv=>if kv.1=k then (kv.1,y) else kv) j=(J2 kvs j).map fun x=>if j=k then y else x
 | []=>rfl
 | p :: r=>by
  have ih:=JmN k j y r;rw [List.map_cons];by_cases h:p.1=k
  ·rw [if_pos h];by_cases e:p.1=j
   ·rw [YY (p:=(p.1,y)) e,YY e,Option.map_some,if_pos (e.symm.trans h)]
   ·rw [Y9 (p:=(p.1,y)) e,Y9 e,ih]
  ·rw [if_neg h];by_cases e:p.1=j
   ·rw [YY (p:=p) e,YY e,Option.map_some,if_neg (fun z=>h (e.trans z))]
   ·rw [Y9 (p:=p) e,Y9 e,ih]
theorem JlM (k j:κ) (y:V):∀ kvs:List (κ×V),J2 kvs k=none→J2 (kvs ++ [(k,y)]) j=if j=k then some y else J2 kvs j
 | [],_=>by
  by_cases e:k=j
  ·rw [if_pos e.symm]; exact YY (p:=(k,y)) e
  ·rw [if_neg (fun z=>e z.symm)]; exact Y9 (p:=(k,y)) e
 | p :: r,hn=>by
  rw [List.cons_append];have hk:¬ p.1=k:=fun z=>by rw [YY z] at hn; cases hn
  rw [Y9 hk] at hn;have ih:=JlM k j y r hn;by_cases e:p.1=j
  ·rw [YY e,YY e,if_neg (fun z=>hk (e.trans z))]
  ·rw [Y9 e,Y9 e,ih]
theorem Ji8 (kvs:List (κ×V)) (k j:κ) (y:V):J2 (JaP kvs k y) j=if j=k then some y else J2 kvs j:=by
 unfold JaP;by_cases a:(kvs.any fun kv=>decide (kv.1=k))=true
 ·rw [if_pos a,JmN];rw [Jcs] at a;by_cases e:j=k
  ·obtain ⟨x,hx⟩:=Option.isSome_iff_exists.mp a;rw [if_pos e,e,hx,Option.map_some,if_pos rfl]
  ·rw [if_neg e];cases J2 kvs j with
   | none=>rfl
   | some x=>rw [Option.map_some,if_neg e]
 ·rw [if_neg a];refine JlM k j y kvs ?_;rw [Jcs] at a;cases q:J2 kvs k with
  | none=>rfl
  | some x=>rw [q] at a; exact (a rfl).elim
theorem Ji0 (kvs:List (κ×V)) (k:κ) (v:V):(JaP kvs k v).length≤kvs.length + 1:=by
 unfold JaP;split
 ·rw [List.length_map]; omega
 ·rw [List.length_append,List.length_cons,List.length_nil]; omega
theorem Jnp {kvs:List (κ×V)} {k:κ} (v:V) (h:J2 kvs k=none):JaP kvs k v=kvs ++ [(k,v)]:=by
 unfold JaP;rw [Jcs,h];exact if_neg (by decide)
theorem Jal.isSome_eq {o:Option V} {u:Option Value} (r:Jal o u):o.isSome=u.isSome:=by
 cases o with
 | none=>cases u with
  | none=>rfl
  | some _=>exact (show False from r).elim
 | some _=>cases u with
  | none=>exact (show False from r).elim
  | some _=>rfl
theorem Jal.getD {o:Option V} {u:Option Value} {d:V} {d':Value} (r:Jal o u) (rd:JU d d'):JU (o.getD d) (u.getD d'):=by
 cases o with
 | none=>cases u with
  | none=>exact rd
  | some _=>exact (show False from r).elim
 | some _=>cases u with
  | none=>exact (show False from r).elim
  | some _=>exact r
theorem KV.val {kvs:List (κ×V)} {vs:List (κ×Value)} (r:KV kvs vs) (k:κ):Jal (J2 kvs k) (valueAt vs k):=by
 unfold KV at r
 induction r with
 | nil=>exact True.intro
 | @cons p q ps qs h t ih =>
  obtain ⟨h1,h2⟩:=h;by_cases e:p.1=k
  ·have e':q.1=k:=h1.symm.trans e;have b:valueAt (q :: qs) k=some q.2:=by simp [valueAt,List.find?_cons,e']
   rw [YY e,b]; exact h2
  ·have e':¬ q.1=k:=fun z=>e (h1.trans z)
   have b:valueAt (q :: qs) k=valueAt qs k:=by simp [valueAt,List.find?_cons,e']
   rw [Y9 e,b]; exact ih
theorem KV.any {kvs:List (κ×V)} {vs:List (κ×Value)} (r:KV kvs vs) (k:κ):(kvs.any fun kv=>decide (kv.1=k))=vs.any fun kv=>decide (kv.1=k):=by
 unfold KV at r
 induction r with
 | nil=>rfl
 | cons h t ih=>rw [List.any_cons,List.any_cons,ih,h.1]
theorem KV.repl {kvs:List (κ×V)} {vs:List (κ×Value)} (r:KV kvs vs) (k:κ) {y:V} {u:Value} (ry:JU y u) :
  KV (kvs.map fun kv=>if kv.1=k then (kv.1,y) else kv) (vs.map fun kv=>if kv.1=k then (kv.1,u) else kv):=by
 unfold KV at r ⊢
 induction r with
 | nil=>exact .nil
 | @cons p q ps qs h t ih =>
  rw [List.map_cons,List.map_cons];refine .cons ?_ ih;obtain ⟨h1,h2⟩:=h;by_cases e:p.1=k
  ·rw [if_pos e,if_pos (h1.symm.trans e)]; exact ⟨h1,ry⟩
  ·rw [if_neg e,if_neg (fun z=>e (h1.trans z))]; exact ⟨h1,h2⟩
theorem KV.put {kvs:List (κ×V)} {vs:List (κ×Value)} (r:KV kvs vs) (k:κ) {y:V} {u:Value} (ry:JU y u):KV (JaP kvs k y) (stored vs k u):=by
 unfold JaP stored;rw [r.any k];by_cases e:(vs.any fun kv=>decide (kv.1=k))=true
 ·rw [if_pos e,if_pos e]; exact r.repl k ry
 ·rw [if_neg e,if_neg e]; exact Paired.snoc r ⟨rfl,ry⟩
theorem KV.drop {kvs:List (κ×V)} {vs:List (κ×Value)} (r:KV kvs vs) (k:κ):KV (JfP kvs k) (without vs k):=by
 unfold KV at r ⊢;unfold JfP without
 induction r with
 | nil=>exact .nil
 | @cons p q ps qs h t ih =>
  obtain ⟨h1,h2⟩:=h;rw [List.filter_cons,List.filter_cons];by_cases e:p.1=k
  ·have a:¬ decide (p.1≠k)=true:=by simp [e]
   have b:¬ decide (q.1≠k)=true:=by simp [h1.symm.trans e]
   rw [if_neg a,if_neg b]; exact ih
  ·have e':¬ q.1=k:=fun z=>e (h1.trans z)
   have a:decide (p.1≠k)=true:=by simp [e]
   have b:decide (q.1≠k)=true:=by simp [e']
   rw [if_pos a,if_pos b]; exact .cons ⟨h1,h2⟩ ih
theorem KV.keys {kvs:List (κ×V)} {vs:List (κ×Value)} (r:KV kvs vs):kvs.map (·.1)=vs.map (·.1):=by
 unfold KV at r
 induction r with
 | nil=>rfl
 | cons h t ih=>rw [List.map_cons,List.map_cons,ih,h.1]
theorem KV.length {kvs:List (κ×V)} {vs:List (κ×Value)} (r:KV kvs vs):kvs.length=vs.length:=Paired.length r
theorem Js1 (kvs:List (κ×V)) (k:κ):(JfP kvs k).length≤kvs.length:=List.length_filter_le _ _
end
theorem Jg7 {P:Program} {w:World} {k:JI} {u:Value} (r:JU (kV k) u):(Yq P w).is k u=true:=by
 cases k with
 | inl i=>obtain ⟨t,e⟩:=(show ∃ t,u=Value.int i t from r); subst e; exact Jow P w i t
 | inr x=>obtain ⟨t,e⟩:=(show ∃ t,u=Value.str x t from r); subst e; exact Jbh P w x t
theorem JlY {P:Program} {w:World}:∀ {ks:List JI} {us:List Value},JK (ks.map kV) us→ItemsAre (Yq P w) ks us
 | [],_,r=>by rw [List.map_nil] at r; cases r; exact .nil
 | k :: ks,_,r=>by
  rw [List.map_cons] at r;cases r with
  | cons h t=>exact .cons (Jg7 h) (JlY t)
abbrev KT (H:Hp):List (List JI×V)→List (List JI×Addr×Value)→Prop:=Paired fun p q=>p.1=q.1∧H q.2.1=some (.tup (p.1.map kV))∧JU p.2 q.2.2
theorem KT.val {H:Hp} {kvs:List (List JI×V)} {xs:List (List JI×Addr×Value)} (r:KT H kvs xs) (k:List JI):Jal (J2 kvs k) ((atKey xs k).map (·.2)):=by
 induction r with
 | nil=>exact True.intro
 | @cons p q ps qs h t ih =>
  obtain ⟨h1,_,h2⟩:=h;by_cases e:p.1=k
  ·have e':q.1=k:=h1.symm.trans e;have b:atKey (q :: qs) k=some q.2:=by simp [atKey,List.find?_cons,e']
   rw [YY e,b]; exact h2
  ·have e':¬ q.1=k:=fun z=>e (h1.trans z)
   have b:atKey (q :: qs) k=atKey qs k:=by simp [atKey,List.find?_cons,e']
   rw [Y9 e,b]; exact ih
theorem KT.repl {H:Hp} {kvs:List (List JI×V)} {xs:List (List JI×Addr×Value)} (r:KT H kvs xs) (k:List JI) {y:V} {u:Value} (ry:JU y u) :
  KT H (kvs.map fun kv=>if kv.1=k then (kv.1,y) else kv) (xs.map (putAt k u)):=by
 induction r with
 | nil=>exact .nil
 | @cons p q ps qs h t ih =>
  rw [List.map_cons,List.map_cons];refine .cons ?_ ih;obtain ⟨h1,h2,h3⟩:=h;unfold putAt;by_cases e:p.1=k
  ·rw [if_pos e,if_pos (h1.symm.trans e)]; exact ⟨h1,h2,ry⟩
  ·rw [if_neg e,if_neg (fun z=>e (h1.trans z))]; exact ⟨h1,h2,h3⟩
theorem KT.put {H:Hp} {kvs:List (List JI×V)} {xs:List (List JI×Addr×Value)} (r:KT H kvs xs) (k:List JI) {b:Addr} {y:V} {u:Value} (hb:H b=some (.tup (k.map kV))) (ry:JU y u) :
  KT H (JaP kvs k y) (storedH xs k b u):=by
 have e:(kvs.any fun kv=>decide (kv.1=k))=(atKey xs k).isSome:=by
  rw [Jcs,(r.val k).isSome_eq,Option.isSome_map]
 unfold JaP storedH;rw [e];by_cases q:(atKey xs k).isSome=true
 ·rw [if_pos q,if_pos q]; exact r.repl k ry
 ·rw [if_neg q,if_neg q]; exact Paired.snoc r ⟨rfl,hb,ry⟩
theorem KT.keeps {H H':Hp} {kvs:List (List JI×V)} {xs:List (List JI×Addr×Value)} (r:KT H kvs xs) (ht:∀ b ys,H b=some (.tup ys)→H' b=some (.tup ys)):KT H' kvs xs :=
 Paired.mapP r fun _ _ z=>⟨z.1,ht _ _ z.2.1,z.2.2⟩
section
variable {P:Program} {w:World} {H:Hp} {h:Heap} {a:Addr}
theorem Jtl {u:HO} (ok:ZG P w H h) (e:Rd H a u):YD P w H h a u:=e.ok ok
theorem Jhh {kvs:List (JI×V)} (ok:ZG P w H h) (e:Rd H a (.dK kvs)):kvs.length≤sizeLine∧(a == sysModules)=false∧∃ vs,KV kvs vs∧h.DictOf (Yq P w) a vs :=
 show YD P w H h a (.dK kvs) from Jtl ok e
theorem JpQ {kvs:List (JI×V)} (ok:ZG P w H h) (e:H a=some (.dK kvs)):kvs.length≤sizeLine∧(a == sysModules)=false∧∃ vs,KV kvs vs∧h.DictOf (Yq P w) a vs:=Jhh ok (.inl e)
theorem Jh5 {ks:List JI} (ok:ZG P w H h) (e:H a=some (.tup (ks.map kV))):(tupleKind (Yq P w)).is h ks a:=by
 obtain ⟨_,its,r,o,h1,h2,n,h3⟩:=(show YD P w H h a (.tup (ks.map kV)) from ok a _ e)
 exact ⟨o,its.toArray,n,h1,h2,h3,by simpa using JlY r⟩
theorem JiJ {kvs:List (List JI×V)} (ok:ZG P w H h) (e:Rd H a (.dT kvs)):kvs.length≤sizeLine∧(a == sysModules)=false ∧
  ∃ xs,KT H kvs xs∧h.DictOfH (tupleKind (Yq P w)) a xs:=by
 obtain ⟨z,y,xs,r,o,es,ep,h1,h2,h3,h4,h5⟩:=(show YD P w H h a (.dT kvs) from Jtl ok e)
 refine ⟨z,y,xs,r,o,es,ep,h1,h2,h3,h4,fun x hx=>?_,h5⟩;have all:∀ {l:List (List JI×V)} {m:List (List JI×Addr×Value)},KT H l m→∀ x∈m,(tupleKind (Yq P w)).is h x.1 x.2.1:=by
  intro l m q
  induction q with
  | nil=>intro x hx; exact nomatch hx
  | @cons p q ps qs hq t ih =>
   intro x hx;rcases List.mem_cons.mp hx with e | hx
   ·subst e;exact Jh5 ok (by rw [← hq.1]; exact hq.2.1)
   ·exact ih x hx
 exact all r x hx
theorem JvZ {kvs:List (List JI×V)} (ok:ZG P w H h) (e:H a=some (.dT kvs)):kvs.length≤sizeLine∧(a == sysModules)=false ∧
  ∃ xs,KT H kvs xs∧h.DictOfH (tupleKind (Yq P w)) a xs:=JiJ ok (.inl e)
end
def JaA (H:Hp) (a:Addr) (y:V) (r:Option V):Prop :=
 (∃ kvs k,Rd H a (.dK kvs)∧y=kV k∧r=J2 kvs k)∨∃ kvs k b,Rd H a (.dT kvs)∧y=.ref b∧H b=some (.tup (k.map kV))∧r=J2 kvs k
def Jhj (H:Hp) (a:Addr) (y v:V) (H':Hp):Prop :=
 (∃ kvs k,H a=some (.dK kvs)∧y=kV k∧kvs.length < sizeLine∧H'=upd H a (.dK (JaP kvs k v))) ∨
 ∃ kvs k b,H a=some (.dT kvs)∧y=.ref b∧H b=some (.tup (k.map kV))∧kvs.length < sizeLine∧H'=upd H a (.dT (JaP kvs k v))
theorem JaA.k {H:Hp} {a:Addr} {kvs:List (JI×V)} {k:JI} (e:H a=some (.dK kvs)):JaA H a (kV k) (J2 kvs k):=.inl ⟨kvs,k,.inl e,rfl,rfl⟩
theorem JaA.t {H:Hp} {a b:Addr} {kvs:List (List JI×V)} {k:List JI} (e:H a=some (.dT kvs)) (eb:H b=some (.tup (k.map kV))):JaA H a (.ref b) (J2 kvs k):=.inr ⟨kvs,k,b,.inl e,rfl,eb,rfl⟩
theorem Jhj.k {H:Hp} {a:Addr} {kvs:List (JI×V)} {k:JI} {v:V} (e:H a=some (.dK kvs)) (hl:kvs.length < sizeLine):Jhj H a (kV k) v (upd H a (.dK (JaP kvs k v))):=.inl ⟨kvs,k,e,rfl,hl,rfl⟩
theorem Jhj.t {H:Hp} {a b:Addr} {kvs:List (List JI×V)} {k:List JI} {v:V} (e:H a=some (.dT kvs)) (eb:H b=some (.tup (k.map kV))) (hl:kvs.length < sizeLine) :
  Jhj H a (.ref b) v (upd H a (.dT (JaP kvs k v))):=.inr ⟨kvs,k,b,e,rfl,eb,hl,rfl⟩
section
variable {X:Cx} {pins:List (Addr×Obj)} {σ:St} {H:Hp} {s:Shared} {a:Addr} {y v:V} {u r:Value} {o:Option V} {A:Around} {E:Value→Shared→Prop}
theorem Jn.big (I:Jn X pins σ H s):sysModules < s.heap.objs.size:=by
 have h:mainGlobals < s.heap.objs.size:=(I.mod.glob.keeps I.bk).lt;exact Nat.lt_trans (by decide) h
theorem Jrl {Q:Value→Shared→Prop} (hu:A.units + 1 < cLine) (I:Jn X pins σ H s) (g:JaA H a y (some v)) (ry:JU y u) (h:∀ w' s',Jn X pins σ H s'→JU v w'→Q w' s') :
  wpAny (model X.prog X.w) A (getItem (.ref a) u) Q E s:=by
 rcases g with ⟨kvs,k,e,ey,l⟩ | ⟨kvs,k,b,e,ey,eb,l⟩
 ·subst ey;obtain ⟨z,hd,vs,rel,dd⟩:=Jhh I.hok e;obtain ⟨w',hw,rw'⟩:=Jal.some_of (v:=v) (o:=valueAt vs k) (by rw [l]; exact rel.val k);exact wpAny_getItem_of (Jg7 ry) dd.mapOf hw (h w' _ (I.tok _) rw')
 ·subst ey;cases (show u=Value.ref b from ry);obtain ⟨z,hd,xs,rel,dd⟩:=JiJ I.hok e;obtain ⟨w',hw,rw'⟩:=Jal.some_of (v:=v) (o:=(atKey xs k).map (·.2)) (by rw [l]; exact rel.val k);obtain ⟨p,hp,hp2⟩:=Option.map_eq_some_iff.mp hw;refine wpAny_getItem_heap (tupleKind_room_in1 hu) (Jh5 I.hok eb) dd hp ?_;rw [hp2];exact h w' _ (I.tok _) rw'
theorem JwG {Q:Value→Shared→Prop} (hu:A.units + 1 < cLine) (I:Jn X pins σ H s) (g:JaA H a y o) (ry:JU y u) (h:∀ s',Jn X pins σ H s'→Q (.bool o.isSome) s') :
  wpAny (model X.prog X.w) A (compareOp .In u (.ref a)) Q E s:=by
 rcases g with ⟨kvs,k,e,ey,l⟩ | ⟨kvs,k,b,e,ey,eb,l⟩
 ·subst ey;obtain ⟨z,hd,vs,rel,dd⟩:=Jhh I.hok e;refine wpAny_in_of (Jg7 ry) hd dd.mapOf ?_;rw [← (rel.val k).isSome_eq,← l];exact h _ (I.tok _)
 ·subst ey;cases (show u=Value.ref b from ry);obtain ⟨z,hd,xs,rel,dd⟩:=JiJ I.hok e;refine wpAny_in_heap (tupleKind_room_in1 hu) (Jh5 I.hok eb) hd dd ?_;have q:=(rel.val k).isSome_eq;rw [Option.isSome_map] at q;rw [← q,← l];exact h _ (I.tok _)
theorem Jun {Q:Value→Shared→Prop} (hu:A.units + 1 < cLine) (I:Jn X pins σ H s) (g:JaA H a y o) (ry:JU y u) (h:∀ s',Jn X pins σ H s'→Q (.bool (!o.isSome)) s') :
  wpAny (model X.prog X.w) A (compareOp .NotIn u (.ref a)) Q E s:=by
 rcases g with ⟨kvs,k,e,ey,l⟩ | ⟨kvs,k,b,e,ey,eb,l⟩
 ·subst ey;obtain ⟨z,hd,vs,rel,dd⟩:=Jhh I.hok e;refine wpAny_notIn_of (Jg7 ry) hd dd.mapOf ?_;rw [← (rel.val k).isSome_eq,← l];exact h _ (I.tok _)
 ·subst ey;cases (show u=Value.ref b from ry);obtain ⟨z,hd,xs,rel,dd⟩:=JiJ I.hok e;refine wpAny_notIn_heap (tupleKind_room_in1 hu) (Jh5 I.hok eb) hd dd ?_;have q:=(rel.val k).isSome_eq;rw [Option.isSome_map] at q;rw [← q,← l];exact h _ (I.tok _)
theorem Jlw {h':Heap} {t':Nat} {ob:HO} (I:Jn X pins σ H s) (mu:Mut (H a)) (hs:Heap.SameBut a s.heap h') (he:∃ q,h'.get? a=some q) (new:YD X.prog X.w (upd H a ob) h' a ob) :
  Jn X pins σ (upd H a ob) { s with heap:=h',toks:=t' } :=
 I.write (x:=a) (e:=a) mu (.inl rfl) (fun b q hb z=>(hs.2 b hb).trans z) he new
theorem Jrh {P:Program} {w:World} {H':Hp} {h':Heap} {kvs:List (JI×V)} {vs:List (JI×Value)} (z:kvs.length≤sizeLine) (hd:(a == sysModules)=false) (rel:KV kvs vs) (dd:h'.DictOf (Yq P w) a vs) :
  YD P w H' h' a (.dK kvs):=⟨z,hd,vs,rel,dd⟩
theorem Jrk {H':Hp} {Q:Unit→Shared→Prop} (hu:A.units + 1 < cLine) (I:Jn X pins σ H s) (g:Jhj H a y v H') (ry:JU y u) (rv:JU v r) (h:∀ s',Jn X pins σ H' s'→Q () s') :
  wpAny (model X.prog X.w) A (setItem (.ref a) u r) Q E s:=by
 rcases g with ⟨kvs,k,e,ey,l,eH⟩ | ⟨kvs,k,b,e,ey,eb,l,eH⟩
 ·subst ey eH;obtain ⟨z,hd,vs,rel,dd⟩:=JpQ I.hok e;have hz:vs.length≤sizeLine:=by rw [← rel.length]; exact z
  have hl:(JaP kvs k v).length≤sizeLine:=by have:=Ji0 kvs k v; omega
  refine wpAny_setItem_pairs (hsz:=hz) (Jg7 ry) dd fun h' dd' hs=>h _ ?_
  have he:∃ q,h'.get? a=some q:=let ⟨q,_,_,hq,_⟩:=dd'; ⟨q,hq⟩;exact Jlw I (by rw [e]; exact True.intro) hs he (Jrh hl hd (rel.put k rv) dd')
 ·subst ey eH;cases (show u=Value.ref b from ry);obtain ⟨z,hd,xs,rel,dd⟩:=JvZ I.hok e;have hz:xs.length≤sizeLine:=by rw [← Paired.length rel]; exact z
  have hl:(JaP kvs k v).length≤sizeLine:=by have:=Ji0 kvs k v; omega
  refine wpAny_setItem_heap (hsz:=hz) (tupleKind_room_in1 hu) (Jh5 I.hok eb) dd fun h' dd' hs=>h _ ?_
  obtain ⟨q,es,ep,hq,h2,h3,h4,_,h5⟩:=dd';refine Jlw I (by rw [e]; exact True.intro) hs ⟨q,hq⟩ ⟨hl,hd,_,(rel.put k eb rv).keeps fun c ys ec=>?_,q,es,ep,hq,h2,h3,h4,h5⟩;rw [Js (Jaj ec e (fun z=>nomatch z))];exact ec
end
section
variable {X:Cx} {pins:List (Addr×Obj)} {σ:St} {H:Hp} {s:Shared} {a:Addr} {kvs:List (JI×V)} {k:JI} {u:Value} {A:Around} {E:Value→Shared→Prop}
theorem Jv0 {v:V} {more:List Value} {Q:Value→Shared→Prop} (I:Jn X pins σ H s) (e:H a=some (.dK kvs)) (ry:JU (kV k) u) (l:J2 kvs k=some v) (hm:more=[]∨∃ x,more=[x])
  (h:∀ w' s',Jn X pins σ (upd H a (.dK (JfP kvs k))) s'→JU v w'→Q w' s'):wpAny (model X.prog X.w) A (call (.builtin "dict.pop") (.ref a :: u :: more)) Q E s:=by
 obtain ⟨z,hd,vs,rel,dd⟩:=JpQ I.hok e;obtain ⟨w',hw,rw'⟩:=Jal.some_of (v:=v) (o:=valueAt vs k) (by rw [← l]; exact rel.val k);have hp:(keyPart u).isSome=true:=by
  cases k with
  | inl i=>obtain ⟨t,q⟩:=(show ∃ t,u=Value.int i t from ry); subst q; rfl
  | inr x=>obtain ⟨t,q⟩:=(show ∃ t,u=Value.str x t from ry); subst q; rfl
 have ha:argsOk "dict.pop" ⟨.ref a :: u :: more,[]⟩:=by
  rcases hm with q | ⟨x,q⟩
  ·subst q; exact PySem.F.args_dict_pop_2 _ _
  ·subst q; exact PySem.F.args_dict_pop_3 _ _ _
 refine call_meetsIn PySem.F.slot_dict_pop dd.typeIs PySem.F.entry_dict_pop ha (meets_dict_pop_there (Yq X.prog X.w) a (Jg7 ry) more hm hp)
  ⟨vs,w',dd,by rw [← rel.length]; exact z,hw,fun h' dd' hs=>h w' _ ?_ rw'⟩
 have he:∃ q,h'.get? a=some q:=let ⟨q,_,_,hq,_⟩:=dd'; ⟨q,hq⟩;exact Jlw I (by rw [e]; exact True.intro) hs he (Jrh (Nat.le_trans (Js1 kvs k) z) hd (rel.drop k) dd')
theorem Jv1 {Q:Value→Shared→Prop} (I:Jn X pins σ H s) (e:Rd H a (.dK kvs)) (h:∀ t s',Jn X pins σ H s'→Q (.int kvs.length t) s'):wpAny (model X.prog X.w) A (call (.builtin "len") [.ref a]) Q E s:=by
 obtain ⟨z,hd,vs,rel,dd⟩:=Jhh I.hok e;refine call_len_dict hd dd (by rw [← rel.length]; rw [sizeLine_eq] at z; omega) ?_;rw [← rel.length];exact h _ _ (I.tok _)
end
def Jvx (i:Expr):Prop:=∀ ov iv,subscripted i false ov iv=operate [ov,iv] (getItem ov iv)
theorem JtE {prog:Program} {w:World} {A:Around} {E:Value→Shared→Prop} {s:Shared} {env:Env} {value slice:Expr} {pos:Pos} {T id:String} {Q:Value→Shared→Prop}
  (hl:typeLookup (.type T) "__getitem__" = pure (some (.builtin id))) (hs:Jvx slice)
  (h:wpAny (model prog w) A (eval value env) (fun o s₁=>wpAny (model prog w) A (eval slice env) (fun i s₂=>s₂.TypeIs o T∧wpAny (model prog w) A (getItem o i) Q E s₂) E s₁) E s) :
  wpAny (model prog w) A (eval (.Subscript value slice pos) env) Q E s:=by
 refine Subscript_ (wpAny_mono h (fun o s₁ h₁=>wpAny_mono h₁ (fun i s₂ h₂=>?_) fun _ _ x=>x) fun _ _ x=>x);obtain ⟨hT,h₂⟩:=h₂;unfold subscriptTail;refine wpAny_bind ?_;rw [getitemInPython_of_ne hT.not_modules];refine wpAny_bind (wpAny_specialOf hT hl ?_);have fin:wpAny (model prog w) A (subscripted slice false o i) (fun r s₃=>wpAny (model prog w) A (letTemporaryGo value o r >>= fun _=>pure r) Q E s₃) E s₂:=by
  rw [hs o i];exact wpAny_operating (wpAny_mono h₂ (fun r s₃ h₃=>wpAny_bind (wpAny_letTemporaryGo (wpAny_pure h₃))) fun _ _ x=>x)
 first
  | exact wpAny_pure (wpAny_bind fin)
  | exact wpAny_bind (wpAny_pure (wpAny_bind fin))
  | exact wpAny_bind fin
theorem Joz {X:Cx} {pins:List (Addr×Obj)} {σ:St} {H:Hp} {s:Shared} {a:Addr} {y:V} {o:Option V} (I:Jn X pins σ H s) (g:JaA H a y o):s.TypeIs (.ref a) "dict":=by
 rcases g with ⟨kvs,k,e,_,_⟩ | ⟨kvs,k,b,e,_,_,_⟩
 ·obtain ⟨_,_,vs,_,dd⟩:=Jhh I.hok e;exact dd.typeIs
 ·obtain ⟨_,_,xs,_,dd⟩:=JiJ I.hok e;exact dd.typeIs
def JvI (td ty:TE):TE:=fun σ H Q=>td σ H fun x H1=>ty σ H1 fun y H2=>∃ a v,x=.ref a∧JaA H2 a y (some v)∧Q v H2
def Jws (ty td:TE):TE:=fun σ H Q=>ty σ H fun y H1=>td σ H1 fun x H2=>∃ a o,x=.ref a∧JaA H2 a y o∧Q (.bl o.isSome) H2
def JtD (ty td:TE):TE:=fun σ H Q=>ty σ H fun y H1=>td σ H1 fun x H2=>∃ a o,x=.ref a∧JaA H2 a y o∧Q (.bl (!o.isSome)) H2
def JvN (td ty tv:TE):TS:=fun D σ H=>tv σ H fun v H1=>td σ H1 fun x H2=>ty σ H2 fun y H3=>∃ a H4,x=.ref a∧Jhj H3 a y v H4∧D.nx σ H4
section
variable {X:Cx} {o i e value:Expr} {pos pos' tpos:Pos} {td ty tv:TE}
theorem JgB (hu:X.A.units + 1 < cLine) (ho:PE X o td) (hi:PE X i ty) (hs:Jvx i):PE X (.Subscript o i pos) (JvI td ty):=by
 intro pins s σ H Q I h;refine JtE PySem.F.slot_dict_getitem.lookup hs (J3 (ho pins s σ H _ I h) fun u s1 ⟨x,H1,I1,rx,q1⟩=>J3 (hi pins s1 σ H1 _ I1 q1) fun iv s2 ⟨y,H2,I2,ry,a,v,ex,g,q2⟩=>?_);subst ex;obtain rfl:u=Value.ref a:=rx;exact ⟨Joz I2 g,Jrl hu I2 g ry fun w' s3 I3 rw'=>⟨v,H2,I3,rw',q2⟩⟩
theorem Ju6 (hu:X.A.units + 1 < cLine) (hi:PE X i ty) (ho:PE X o td):PC X .In i o (Jws ty td):=by
 intro pins s σ H Q I h;refine J3 (hi pins s σ H _ I h) fun iv s1 ⟨y,H1,I1,ry,q1⟩=>J3 (ho pins s1 σ H1 _ I1 q1) fun u s2 ⟨x,H2,I2,rx,a,ov,ex,g,q2⟩=>?_
 subst ex;obtain rfl:u=Value.ref a:=rx;exact JwG hu I2 g ry fun s3 I3=>⟨.bl ov.isSome,H2,I3,rfl,q2⟩
theorem JqD (hu:X.A.units + 1 < cLine) (hi:PE X i ty) (ho:PE X o td):PC X .NotIn i o (JtD ty td):=by
 intro pins s σ H Q I h;refine J3 (hi pins s σ H _ I h) fun iv s1 ⟨y,H1,I1,ry,q1⟩=>J3 (ho pins s1 σ H1 _ I1 q1) fun u s2 ⟨x,H2,I2,rx,a,ov,ex,g,q2⟩=>?_
 subst ex;obtain rfl:u=Value.ref a:=rx;exact Jun hu I2 g ry fun s3 I3=>⟨.bl (!ov.isSome),H2,I3,rfl,q2⟩
theorem Jk1 (hu:X.A.units + 1 < cLine) (ho:PE X o td) (hi:PE X i ty) (hv:PE X value tv) (hs:swapsWith value (some (.Subscript o i pos')) pos.line X.env=pure false) :
  PS X (.Assign [.Subscript o i pos'] value pos) (JvN td ty tv):=by
 intro pins s σ H D I h;refine wpAny_Assign_Subscript (J3 (hv pins s σ H _ I h) fun r s1 ⟨v,H1,I1,rv,q1⟩=>J3 (ho pins s1 σ H1 _ I1 q1) fun u s2 ⟨x,H2,I2,rx,q2⟩=>J3 (hi pins s2 σ H2 _ I2 q2) fun iv s3 ⟨y,H3,I3,ry,a,H4,ex,g,q3⟩=>?_) hs;subst ex;obtain rfl:u=Value.ref a:=rx;exact Jrk hu I3 g ry rv fun s4 I4=>⟨σ,H4,I4,q3⟩
end
theorem Js2 {P:Program} {w:World} {H:Hp} (h:Heap) (hb:sysModules < h.objs.size):YD P w H (h.push { cls:=.type "dict",data:=.dict #[] }) h.objs.size (.dK []) :=
 ⟨Nat.zero_le _,beq_eq_false_iff_ne.mpr (Ne.symm (Nat.ne_of_lt hb)),[],.nil,Heap.DictOf.new h⟩
theorem Js0 {P:Program} {w:World} {H:Hp} (h:Heap) (hb:sysModules < h.objs.size):YD P w H (h.push { cls:=.type "dict",data:=.dict #[] }) h.objs.size (.dT []) :=
 ⟨Nat.zero_le _,beq_eq_false_iff_ne.mpr (Ne.symm (Nat.ne_of_lt hb)),[],.nil,_,#[],0,Heap.get?_push_size _ rfl,⟨rfl,rfl,rfl⟩,rfl,rfl,List.nodup_nil⟩
def Juy:TE:=fun _ H Q=>∀ p,H p=none→Q (.ref p) (upd H p (.dK []))
def Jux:TE:=fun _ H Q=>∀ p,H p=none→Q (.ref p) (upd H p (.dT []))
section
variable {X:Cx} {pos:Pos}
theorem Jnt:PE X (.Dict [] [] pos) Juy:=fun pins s σ H Q I h =>
 wpAny_Dict_empty ⟨.ref s.heap.objs.size,_,I.laid (a:=s.heap.objs.size) (o:=.dK []) (t':=s.toks) (fun _ _ q=>Heap.get?_push_of_some _ q) (Nat.le_refl _) (Js2 s.heap I.big),rfl,h _ (I.hok.fresh (Nat.le_refl _))⟩
theorem Jss:PE X (.Dict [] [] pos) Jux:=fun pins s σ H Q I h =>
 wpAny_Dict_empty ⟨.ref s.heap.objs.size,_,I.laid (a:=s.heap.objs.size) (o:=.dT []) (t':=s.toks) (fun _ _ q=>Heap.get?_push_of_some _ q) (Nat.le_refl _) (Js0 s.heap I.big),rfl,h _ (I.hok.fresh (Nat.le_refl _))⟩
end
structure M1 (X:Cx) (o:Expr) (m:Str) (apos:Pos) (e:Expr) (cpos:Pos):Prop where
 base:attributeBase o m X.env (eval o X.env)=eval o X.env
 few:((backTo cpos (starEach [e] X.env)).all (fun x=>!x.1) && (backToKw cpos (keywordEach [] X.env)).all (fun x=>x.1.isSome)
  && decide (([e]:List Expr).length + ([]:List Keyword).length + (if ([]:List Keyword).isEmpty then 0 else 1) < 30))=true
 line:(apos.endLine == cpos.line)=true
 trees:backTo cpos (starEach [e] X.env)=[(false,eval e X.env)]
def IsD (H:Hp) (a:Addr):Prop:=(∃ kvs,Rd H a (.dK kvs))∨∃ kvs,Rd H a (.dT kvs)
theorem Jvn {X:Cx} {pins:List (Addr×Obj)} {σ:St} {H:Hp} {s:Shared} {a:Addr} (I:Jn X pins σ H s) (d:IsD H a) :
  s.TypeIs (.ref a) "dict"∧(∀ b,Value.ref a=.ref b→∃ ob,s.heap.get? b=some ob∧ob.dict=none)∧(a == sysModules)=false:=by
 rcases d with ⟨kvs,e⟩ | ⟨kvs,e⟩
 ·obtain ⟨_,hd,vs,_,dd⟩:=Jhh I.hok e;refine ⟨dd.typeIs,fun b q=>?_,hd⟩;cases q;obtain ⟨ob,_,_,h1,h2,_⟩:=dd;exact ⟨ob,h1,h2.2.1⟩
 ·obtain ⟨_,hd,xs,_,dd⟩:=JiJ I.hok e;refine ⟨dd.typeIs,fun b q=>?_,hd⟩;cases q;obtain ⟨ob,_,_,h1,h2,_⟩:=dd;exact ⟨ob,h1,h2.2.1⟩
def Juw (td ty:TE):TE:=fun σ H Q=>td σ H fun x H1=>∃ a,x=.ref a∧IsD H1 a∧ty σ H1 fun y H2=>∃ kvs k v,H2 a=some (.dK kvs)∧y=kV k∧J2 kvs k=some v∧Q v (upd H2 a (.dK (JfP kvs k)))
section
variable {X:Cx} {o e f:Expr} {apos cpos:Pos} {td ty tx:TE}
theorem Jsr (ho:PE X o td) (he:PE X e ty) (m:M1 X o "pop" apos e cpos):PE X (.Call (.Attribute o "pop" apos) [e] [] cpos) (Juw td ty):=by
 intro pins s σ H Q I h;refine wpAny_Call_method m.base m.few m.line PySem.F.plainAttrs_dict PySem.F.slot_dict_pop PySem.F.type_dict_pop (J3 (ho pins s σ H _ I h) fun u s1 ⟨x,H1,I1,rx,a,ex,d,q1⟩=>?_);subst ex;obtain rfl:u=Value.ref a:=rx;obtain ⟨t1,t2,_⟩:=Jvn I1 d;refine ⟨t1,t2,?_⟩;rw [m.trees];refine Calls.callWith_builtin rfl (Calls.evalArgs_plain (Calls.spliced_cons (J3 (he pins s1 σ H1 _ I1 q1) fun iv s2 ⟨y,H2,I2,ry,kvs,k,v,ea,ey,l,q2⟩=>Calls.spliced_nil ?_)));subst ey;exact Jv0 I2 ea ry l (.inl rfl) fun w' s3 I3 rw'=>⟨v,_,I3,rw',q2⟩
end
end L2
namespace Att
open PySem PySem.W PySem.Calls PyProof.Rows
theorem Jka {P:Params} {h:Heap}:∀ (ns:List Int) (vs:List Value),WellAll P h vs (ns.map WData.int)→IntsAre vs ns:=by
 intro ns
 induction ns with
 | nil =>
  intro vs w;rw [List.map_nil] at w;cases w;exact .nil
 | cons n ns ih =>
  intro vs w;rw [List.map_cons] at w;cases w with
  | cons a b =>
   cases a;exact .cons _ _ (ih _ b)
theorem Jqw {l:OpenLaw} {n:Nat} (hn:l.most=some n) {P:Params} {h:Heap} {args:List WData} {vals:List Value}
  (hpre:l.row.toRowW.claim.pre args=true) (hwl:WellAll P h vals args) :
  ∃ a vs ns,vals=[Value.ref a]∧args=[WData.list (ns.map WData.int)]∧h.get? a=some { cls:=.type "list",data:=.seq vs.toArray }∧IntsAre vs ns∧ns.length≤n:=by
 have hsh:WShape.hasAll [] args [.list .int]=true:=(pre_splitW hpre).1;have hc:l.pre.holds [] { args:=args }=true:=(pre_splitW hpre).2;obtain ⟨d,r,rfl,h1,h2⟩:=hasAllW_cons hsh;obtain rfl:=hasAllW_nil h2;obtain ⟨xs,rfl,h3⟩:=hasW_list h1;obtain ⟨ns,rfl⟩:=items_int h3;have hlen:ns.length≤n:=by
  unfold OpenLaw.pre at hc;have h4:(WTm.not (.lt (.lit (.int (n:Int))) (.len (.arg 0)))).holds [] { args:=[.list (ns.map .int)] }=true:=by
   have h4:=(holds_andW hc).1;rw [hn] at h4;exact h4
  have h5:=condW_of h4 (w_not (w_lt w_lit (w_len_list (w_arg rfl))));rw [List.length_map] at h5;refine Nat.le_of_not_lt fun q=>?_
  have q':(n:Int) < ((ns.length:Nat):Int):=by omega
  first
   | (rw [decide_eq_true q'] at h5; exact absurd h5 (by decide))
   | (simp at h5; omega)
 cases hwl with
 | cons w1 w2 =>
  cases w2;cases w1 with
  | list ho hall=>exact ⟨_,_,ns,rfl,rfl,ho,Jka ns _ hall,hlen⟩
theorem Jqz (l:OpenLaw) (args:List WData):l.row.toRowW.claim.post args (.bool true) args=true :=
 postW_of (r:=l.row.toRowW) (X:=(true == true))
  (show WShape.has [] (.bool true) .bool=true by first | rfl | decide | simp [WShape.has,WShape.arms,WShape.armsAll])
  (show (WTm.eq .res (.lit (.bool true))).value [] { args:=args,res:=some (.bool true),after:=args }=some (.bool (true == true)) from w_eq_bool (w_res rfl) w_lit) rfl
theorem JoB {l:OpenLaw} {n:Nat} {q:Program} {loose:List Str} {XP:(Str→Option Value)→Heap→Prop} {YP:World→Heap→Prop} {d:DefRec}
  (hn:l.most=some n) (hdf:d.params.defaults=[])
  (call:∀ (w:World) (s₀ s₁:Shared) (mg mb:Str→Option Value) (fa:Addr) (o:Obj) (pm cd doc:Value) (a:Addr) (vs:List Value) (ns:List Int),
   Ground q loose [] XP w s₀ mg mb s₁.heap→YP w s₁.heap →
   s₁.heap.get? fa=some o→o.data=.func (docDef d.name d.params d.body d.scope pm cd doc)→s₁.heap.CodeRec cd d.name→mg d.name=some (.ref fa) →
   s₁.heap.get? a=some { cls:=.type "list",data:=.seq vs.toArray }→IntsAre vs ns→ns.length≤n→s₁.gens=#[] →
   codeAny (model l.prog w) callerA (.call (.ref fa) ⟨[.ref a],[]⟩) (fun r s'=>r=.ok (.ret (.bool true))∧OldK s₁.heap s'.heap∧s'.os=s₁.os∧AllBare s'.gens) s₁) :
  WalkO q loose XP YP l.row.toRowW d [] (fun f vs=>PySem.call f vs):=by
 intro w s₀ s₁ mg mb G Y fa o pm cd doc dV kV ho hd hcd hD hmg hg args vals as hpre hlay hrd hwl hlo;obtain rfl:dV=.none:=Dflts.none hD hdf;obtain rfl:kV=.none:=Dflts.noKw hD;obtain ⟨a,vs,ns,rfl,rfl,hobj,hints,hlen⟩:=Jqw hn hpre hwl;refine enter_call (codeAny_mono (call w s₀ s₁ mg mb fa o pm cd doc a vs ns G Y ho (fd_plain hd) hcd hmg hobj hints hlen hg) fun r s' hq=>?_);obtain ⟨rfl,h2,h3,h4⟩:=hq;exact ⟨.inl ⟨.bool true,.bool true,[],rfl,fun _=>rfl,.bool true,Jqz l _,fun _=>⟨List.Pairwise.nil,fun _ hm=>(nomatch hm)⟩⟩,h2,h3,h4⟩
end Att
namespace L2
open PySem PySem.Spec PyProof.Rows
theorem JlL:∀ {vs:List Value} {ns:List Int},IntsAre vs ns→JK (ns.map V.int) vs
 | _,_,.nil=>.nil
 | _,_,.cons n t h=>.cons ⟨t,rfl⟩ (JlL h)
def Jtb (H:Hp):Prop:=∀ b,H b=none∨∃ o xs,H b=some (.frz o (.lst xs))
theorem JsL {P:Program} {w:World} {K:PySem.W.Frag} {mg mb:Str→Option Value} {CX:CXT} {k:Nat} {fa a:Addr} {fd:FuncData} {x:Str} {sp:Sp} {s₁:Shared} {vs:List Value} {ns:List Int}
  (KX:K.In s₁.heap) (hns:s₁.heap.Ns mainGlobals mg) (hb:s₁.heap.Ns builtinsNs mb) (hbb:∀ x:Str,x ≠ "__name__"→mb x=bootBuiltins x) (hlim:s₁.heap.NoLimit) (hg:s₁.gens=#[])
  (ha:s₁.heap.get? a=some { cls:=.type "list",data:=.seq vs.toArray }) (hi:IntsAre vs ns) (hl:ns.length≤sizeLine) (hr:YZ k callerA)
  (F:∀ base:Heap,K.In base→base.Ns mainGlobals mg→JC P w K mg base CX k fa fd [x] sp) (hbind:∀ (s:Shared) (u:Value),BindsTo s fd ⟨[u],[]⟩ [(x,u)])
  (hsp:∀ H:Hp,Jtb H→JA K H a (ns.map V.int)→sp [.ref a] H (fun v _=>v=.bl true) fun _ _ _=>False)
  (hCX:∀ H e s',CX [] H s₁ (fun _ _ _=>False) e s'→False) :
  codeAny (model P w) callerA (.call (.ref fa) ⟨[.ref a],[]⟩) (fun r s'=>r=.ok (.ret (.bool true))∧OldK s₁.heap s'.heap∧s'.os=s₁.os∧AllBare s'.gens) s₁:=by
 have rv:=JlL hi;have lenV:=hi.length;have core:∀ H:Hp,Jtb H→JA K H a (ns.map V.int)→ZG P w H s₁.heap→(∀ b,H b≠none→b=a)→(H a≠none→K.lookup a=none) →
   codeAny (model P w) callerA (.call (.ref fa) ⟨[.ref a],[]⟩) (fun r s'=>r=.ok (.ret (.bool true))∧OldK s₁.heap s'.heap∧s'.os=s₁.os∧AllBare s'.gens) s₁:=by
  intro H hO hS hok hA hK;have base_of:∀ {b:Addr} {o:Obj},s₁.heap.get? b=some o→H b=none→(Jg8 s₁.heap H).get? b=some o:=fun e n=>JsQ e n
  have noA:∀ {b:Addr} {o:Obj} {es:Array DictEntry} {ep:Nat},s₁.heap.get? b=some o→o.data=.dict es ep→H b=none:=fun {b o es ep} e d=>by
   cases q:H b with
   | none=>rfl
   | some u =>
    have e':b=a:=hA b (by rw [q]; simp);subst e';rw [ha] at e; cases e;have d':Data.seq vs.toArray _=Data.dict es ep:=d;cases d'
  have nsK:∀ {b:Addr} {m:Str→Option Value},s₁.heap.Ns b m→(Jg8 s₁.heap H).Ns b m:=fun {b m} ⟨o,es,ep,e,d,r⟩=>⟨o,es,ep,base_of e (noA e d),d,r⟩
  have hKb:K.In (Jg8 s₁.heap H):=fun b o e=>base_of (KX b o e) (by
   cases q:H b with
   | none=>rfl
   | some u =>
    have e':b=a:=hA b (by rw [q]; simp);subst e';rw [hK (by rw [q]; simp)] at e; cases e)
  have hM:Mod K mg (Jg8 s₁.heap H):=⟨hKb,nsK hns,⟨mb,nsK hb,hbb⟩,let ⟨mc,h1,h2⟩:=hlim; ⟨mc,nsK h1,h2⟩⟩
  have e0:Jgs P w K mg (Jg8 s₁.heap H) callerA [] s₁ H:=⟨rfl,hM,fun b o e=>Jt9 e,Nat.le_of_eq (Jq8 _ _),trivial,fun b hb=>absurd (show b∈([]:List Addr) from hb) (by simp),hok,.of_eq hg⟩
  refine codeAny_mono ((F _ hKb (nsK hns)).run callerA [] s₁ H ⟨[.ref a],[]⟩ [.ref a] [.ref a] _ _ hr e0 (hbind s₁ (.ref a)) (.cons rfl .nil) (hsp H hO hS)) fun r s' h=>?_
  cases r with
  | error e=>exact (hCX H e s' h).elim
  | ok fl =>
   cases fl with
   | next=>exact False.elim h
   | brk=>exact False.elim h
   | cont=>exact False.elim h
   | ret u =>
    obtain ⟨v,H',os,bare,un,hok',r',q⟩:=h;have q':v=.bl true:=q;subst q';obtain rfl:u=Value.bool true:=r';refine ⟨rfl,OldK.of_keep fun b o e=>?_,os,bare⟩;cases q:H b with
    | none=>exact un.keep b o e q (by intro z; exact absurd (show b∈([]:List Addr) from z) (by simp)) (by simp)
    | some u =>
     rcases hO b with z | ⟨ob,xs,z⟩
     ·rw [q] at z; cases z
     ·have z2:=un.frzs b ob _ z;obtain ⟨e1,_⟩:=hok b _ z;obtain ⟨e2,_⟩:=hok' b _ z2;rw [e] at e1; cases e1;exact e2
 cases hk:K.lookup a with
 | some o =>
  have e:=KX a o hk;rw [ha] at e;cases e;refine core (fun _=>none) (fun _=>.inl rfl) (.inr ⟨_,vs.toArray,_,hk,rfl,rfl,rfl,by rw [List.size_toArray,lenV]; exact hl,by simpa using rv⟩) (fun b u z=>by have z':(none:Option HO)=some u:=z; cases z') (fun b z=>absurd rfl z) fun z=>absurd rfl z
 | none =>
  refine core (fun b=>if b=a then some (.frz { cls:=.type "list",data:=.seq vs.toArray } (.lst (ns.map V.int))) else none) (fun b=>?_) (.inl (.inr ⟨{ cls:=.type "list",data:=.seq vs.toArray },if_pos rfl⟩)) (fun b u z=>?_) (fun b z=>?_) fun _=>hk
  ·by_cases hb:b=a
   ·exact .inr ⟨_,_,if_pos hb⟩
   ·exact .inl (if_neg hb)
  ·by_cases hb:b=a
   ·have z':=(if_pos hb).symm.trans z;cases z';subst hb;exact ⟨ha,by rw [List.length_map]; exact hl,vs,_,rv,ha⟩
   ·have z':=(if_neg hb).symm.trans z;cases z'
  ·by_cases hb:b=a
   ·exact hb
   ·exact absurd (if_neg hb) z
end L2
namespace L2
open PySem PySem.Spec PyProof.Rows
abbrev YJ:CXT:=fun _ _ _ _ _ _=>False
abbrev E0:XK:=fun _ _ _=>False
theorem JG {X:Cx}:Jac YJ X E0:=fun _ _ _ _ _ _ _ h=>h.elim
structure Fun (K:PySem.W.Frag) (x qual:Str) (st:Stmt) (f:Addr) (fd:FuncData):Prop where
 ex:∃ (oc:Value) (od:Option Addr) (kV doc pm:Value) (an:Option Addr) (cdv ct:Value) (osl:Array (Option Value)),
  fd=PySem.W.fnOf x qual (Jew st) (JbO st) (Jk st) .none kV doc pm an cdv ct∧K.lookup f=some ⟨oc,od,.func fd,osl⟩∧PySem.W.codeIn K cdv qual=true
 kp:PySem.W.keepIn K (.ref f)=true
section
variable {P:Program} {w:World} {K:PySem.W.Frag} {mg:Str→Option Value} {base:Heap}
theorem Fun.ok {x qual:Str} {st:Stmt} {f:Addr} {fd:FuncData} {N ps:List Str} {k:Nat} {sp:Sp} (F:Fun K x qual st f fd) (S:Jp N ps (Jk st)) (len:∀ vs H Q E,sp vs H Q E→vs.length=ps.length)
  (hbody:∀ (cdv:Value) (A:Around) (outer:List Env) (s:Shared) (H:Hp) (vs:List V) (Q:VK) (E:XK),YZ k (A.deeper (envOfC qual (Jk st) s.heap.objs.size f cdv))→sp vs H Q E →
   ∃ t,PSs (ZU YJ P w K mg base N qual (Jk st) f cdv A outer s H E).nox (JbO st) t∧t { nx:=fun _ H'=>Q .non H',rt:=Q } (YI N vs) H):JC P w K mg base YJ (k + 1) f fd ps sp:=by
 obtain ⟨oc,od,kV,doc,pm,an,cdv,ct,osl,rfl,lk,hcd⟩:=F.ex;refine Jtt lk hcd S len fun A outer s H vs Q E hr hsp=>?_
 obtain ⟨t,h,q⟩:=hbody cdv A outer s H vs Q E hr hsp;exact ⟨t,h.nox,q⟩
theorem Fun.binds {x qual:Str} {st:Stmt} {f:Addr} {fd:FuncData} {ps:List Str} (F:Fun K x qual st f fd)
  (h:∀ (kV doc pm:Value) (an:Option Addr) (cdv ct:Value) (us:List Value),us.length=ps.length→bindArgs (PySem.W.fnOf x qual (Jew st) (JbO st) (Jk st) .none kV doc pm an cdv ct) ⟨us,[]⟩=pure (ps.zip us)):Jbz K fd ps []:=by
 obtain ⟨oc,od,kV,doc,pm,an,cdv,ct,osl,rfl,lk,hcd⟩:=F.ex;exact .all (h kV doc pm an cdv ct)
end
theorem JcX {A:Around} {k:Nat} (hr:YZ k A):A.units + 1 < cLine:=Nat.lt_of_le_of_lt (Nat.add_le_add_left (by decide:1≤64) _) hr.units
section
variable {X:Cx}
theorem pv (i:Nat) {x:Str} {pos:Pos} (hN:X.N[i]?=some x:=by rfl) (hv:Vis X.env.scope x:=by first | exact Or.inl rfl | exact Or.inr (Or.inl rfl) | exact Or.inr (Or.inr rfl)) (hd:(x == ("__debug__" : Str))=false:=by decide)
  (hcd:(x == ("__classdict__" : Str))=false:=by decide):PE X (.Name x pos) (Jo8 i):=Jnr hN hv hd hcd
end
theorem YT {A B:Prop} (h:B):if false=true then A else B:=by
 rw [if_neg Bool.false_ne_true];exact h
theorem Zh {A B:Prop} (h:A):if true=true then A else B:=by
 rw [if_pos rfl];exact h
theorem Yt {c A B:Prop} [Decidable c] (h1:c→A) (h2:¬ c→B):if c then A else B:=by
 by_cases h:c
 ·rw [if_pos h];exact h1 h
 ·rw [if_neg h];exact h2 h
def Ji (H H':Hp):Prop:=∀ b o,H b=some o→H' b=some o
theorem Ji.refl (H:Hp):Ji H H:=fun _ _ h=>h
theorem Ji.trans {H H1 H2:Hp} (a:Ji H H1) (b:Ji H1 H2):Ji H H2:=fun c o h=>b c o (a c o h)
theorem Ji.free {H H':Hp} (e:Ji H H') {l:Addr} (h:H' l=Option.none):H l=Option.none:=by
 cases q:H l with
 | none=>rfl
 | some o =>
  rw [e l o q] at h;cases h
theorem Ji.seq {K:PySem.W.Frag} {H H':Hp} {a:Addr} {xs:List V} (e:Ji H H') (h:JA K H a xs):JA K H' a xs:=by
 rcases h with (h | ⟨o,h⟩) | h
 ·exact .inl (.inl (e _ _ h))
 ·exact .inl (.inr ⟨o,e _ _ h⟩)
 ·exact .inr h
end L2
namespace L2
open PySem PySem.Spec PyProof.Rows
section
variable {X:Cx}
theorem Jrt:Yl X (.builtin "len") (fun xs H Q=>∃ a kvs,xs=[V.ref a]∧H a=some (.dK kvs)∧Q (.int kvs.length) H):=by
 intro pins s σ H xs us Q I r h;obtain ⟨a,kvs,rfl,ha,q⟩:=h;obtain ⟨u,rfl,ru⟩:=JgS r;cases ru;exact Jv1 I (.inl ha) fun t s' I'=>⟨.int kvs.length,H,I',⟨t,rfl⟩,q⟩
end
end L2
namespace L2
open PySem PySem.Spec PyProof.Rows
structure Df (K:PySem.W.Frag) (mg:Str→Option Value) (x:Str) (st:Stmt) (ps:List Str) (f:Addr) (fd:FuncData):Prop where
 F:Fun K x x st f fd
 b:Jbz K fd ps []
 m:mg x=some (.ref f)
section
variable {X:Cx} {CX:CXT} {k:Nat} {f C:Addr} {fd:FuncData} {ps:List Str} {sp:Sp} {E:XK} {x m:Str} {p pos apos:Pos} {st:Stmt} {e o:Expr} {es:List Expr} {te ta:TE} {t:TA}
theorem Jm (D:Df X.K X.mg x st ps f fd) (G:JC X.prog X.w X.K X.mg X.base CX k f fd ps sp) (hr:YZ k X.A) (hx:Jac CX X E) (ha:PA X (e :: es) t)
  (hg:Gl X x:=by rfl) (hdb:(x == ("__debug__" : Str))=false:=by decide) (he:starEach (e :: es) X.env=(false,eval e X.env) :: starEach es X.env:=by rfl) (hpl:(backTo pos (starEach es X.env)).any (·.1)=false:=by rfl) :
  PE X (.Call (.Name x p) (e :: es) [] pos) (Jtj sp [] E t):=Jt2 G hr hg D.m D.F.kp D.b .nil hx ha hdb he hpl
def JpT:V→Value
 | .ty n=>.type n
 | .ref a=>.ref a
 | _=>.none
theorem Jbj:Yl X (.builtin "isinstance") (fun xs H Q=>∃ x c t b,xs=[x,c]∧(∃ n,c=.ty n∨∃ a,c=.ref a)∧JcT X.K H x t∧PySem.W.kitOne X.K t (JpT c)=some b∧Q (.bl b) H):=by
 intro pins s σ H xs us Q I r h;obtain ⟨x,c,t,b,rfl,hc,ty,e,q⟩:=h;cases r with
 | cons r rr =>
  cases rr with
  | cons r' rr =>
   cases rr;rename_i u u';have e':u'=JpT c:=by
    obtain ⟨n,rfl | ⟨a,rfl⟩⟩:=hc
    ·exact r'
    ·exact r'
   subst e';exact Jq4 I r ty e fun tk=>⟨.bl b,H,I.tok _,rfl,q⟩
def JvU (S C:String):Option Bool:=if (Value.type S == Value.type C)=true then some true else if PySem.W.kitMeta C=true then (fastBuiltinMro S).map (·.contains (Value.type C)) else none
theorem Jh3 {K:PySem.W.Frag} {S C:String} {b:Bool} (h:JvU S C=some b):PySem.W.kitOne K (.type S) (.type C)=some b:=h
theorem Jvi {K:PySem.W.Frag}:PySem.W.kitOne K (.type "int") (.type "int")=some true:=Jh3 (by decide +kernel)
theorem Jvj {K:PySem.W.Frag}:PySem.W.kitOne K (.type "int") (.type "bool")=some false:=Jh3 (by decide +kernel)
theorem Jvh {K:PySem.W.Frag}:PySem.W.kitOne K (.type "int") (.type "str")=some false:=Jh3 (by decide +kernel)
theorem JqY {K:PySem.W.Frag}:PySem.W.kitOne K (.type "str") (.type "str")=some true:=Jh3 (by decide +kernel)
theorem JqX {K:PySem.W.Frag}:PySem.W.kitOne K (.type "tuple") (.type "tuple")=some true:=Jh3 (by decide +kernel)
end
def Jwm (t:TS):TS:=fun D σ H=>@Jir.rec (fun _=>Prop) (fun nx rt bk ct=>∃ R:St→Hp→Prop,t ⟨R,rt,bk,ct⟩ σ H∧∀ σ' H',R σ' H'→nx σ' H') D
theorem Yd {X:Cx} {st:Stmt} {t:TS} (h:PS X st t):PS X st (Jwm t):=by
 intro pins s σ H D I ⟨R,q,n⟩;refine J3 (h pins s σ H _ I q) fun f s1 z=>?_
 cases f with
 | next =>
  obtain ⟨σ',H',I',r⟩:=z;exact ⟨σ',H',I',n _ _ r⟩
 | brk=>exact z
 | cont=>exact z
 | ret u=>exact z
theorem Ji.upd {H:Hp} {p:Addr} {o:HO} (h:H p=none):Ji H (upd H p o):=fun b u e=>by
 rw [Js (Ju e h)];exact e
theorem Ji.tup {K:PySem.W.Frag} {H H':Hp} {a:Addr} {xs:List V} (e:Ji H H') (h:J1 K H a xs):J1 K H' a xs:=by
 rcases h with (h | ⟨o,h⟩) | h
 ·exact .inl (.inl (e _ _ h))
 ·exact .inl (.inr ⟨o,e _ _ h⟩)
 ·exact .inr h
theorem ZE {c:Bool} {A B:Prop} (hc:c=true) (h:A):if c=true then A else B:=by rw [if_pos hc]; exact h
theorem YN {c:Bool} {A B:Prop} (hc:c=false) (h:B):if c=true then A else B:=by rw [hc,if_neg Bool.false_ne_true]; exact h
section
variable {X:Cx} {x:Str} {pos:Pos}
theorem JeX {S:String} (hg:Gl X x) (hm:X.mg x=none) (hv:bootBuiltins x=some (.type S)) (hn:x ≠ "__name__":=by decide) (hd:(x == ("__debug__" : Str))=false:=by decide):PE X (.Name x pos) (tC (.ty S)):=Jt3 hg hm hv rfl hn hd
theorem Zv {a:Addr} (hg:Gl X x) (hm:X.mg x=some (.ref a)) (hd:(x == ("__debug__" : Str))=false:=by decide):PE X (.Name x pos) (tC (.ref a)):=ZH hg hm rfl hd
end
end L2
namespace L2
open PySem PySem.Spec PyProof.Rows
structure ExC (K:PySem.W.Frag) (C:Addr):Prop where
 ex:PySem.W.excIn K C [.type "ValueError",.type "Exception",.type "BaseException",.type "object"] "ValueError.__new__" = true
 ga:PySem.W.findIn K (.ref C) "__getattribute__" = some (some (.builtin "BaseException.__getattribute__"))
 gt:PySem.W.findIn K (.ref C) "__getattr__" = some none
 cl:PySem.W.findIn K (.ref C) "__class__" = some (some (.builtin "object.__class__"))
 sp:PySem.W.specialIn K (.builtin "object.__class__") "__get__" = some (some (.builtin "getset_descriptor.__get__"))
 tk:PySem.W.takesIn K (.builtin "object.__class__")=some true
 mo:PySem.W.mroIn K C (.type "object")=some true
 mb:PySem.W.mroIn K C (.type "BaseException")=some true
 ci:(PySem.W.clsIn K C).isSome=true
section
variable {prog:Program} {w:World} {A:Around} {E:Value→Shared→Prop} {s:Shared} {K:PySem.W.Frag} {e C:Addr} {oe:Obj}
def JjE (h:Heap) (e C:Addr):Prop:=∃ oe,h.get? e=some oe∧oe.cls=.ref C
theorem JjE.type {h:Heap} {M:Model} (I:JjE h e C):PySem.W.Looks M h (typeOf (.ref e)) (.ref C):=by
 obtain ⟨oe,h1,h2⟩:=I;exact h2 ▸ (PySem.W.Looks.ld h1).andThen .now
theorem JsY {M:Model} {h:Heap} (XC:ExC K C) (X:K.In h):PySem.W.Looks M h (Builtin.ObjectAttr.find (.ref e) (.ref C) "__class__") (.bind (.builtin "getset_descriptor.__get__") (.builtin "object.__class__")):=by
 have L1:=PySem.W.looks_findIn (M:=M) X XC.cl;have L2:=PySem.W.looks_specialIn (M:=M) X XC.sp;have L3:=PySem.W.looks_takesIn (M:=M) X XC.tk;unfold Builtin.ObjectAttr.find;refine L1.andThen (L2.andThen ?_);exact (show PySem.W.Looks M h (Builtin.ObjectAttr.dataDescriptor? (some (.builtin "object.__class__")) (some (.builtin "getset_descriptor.__get__"))) (some (.builtin "getset_descriptor.__get__",.builtin "object.__class__")) from L3.andThen .now).andThen (PySem.W.Looks.tag .now)
theorem JsZ {tp:Value} {R:Result→Shared→Prop} (XC:ExC K C) (X:K.In s.heap) (I:JjE s.heap e C)
  (h:R (.ok (.ret (.ref C))) s):codeAny (model prog w) A (.call (.builtin "getset_descriptor.__get__") ⟨[.builtin "object.__class__",.ref e,tp],[]⟩) R s:=by
 obtain ⟨hh,g,dr,t,os⟩:=s;have L0:=I.type (M:=model prog w);have L1:=PySem.W.looks_mroIn (M:=model prog w) X XC.mo;refine codeAny_call_builtin PySem.W.KF.slot_gs.plain PySem.W.KF.entry_gs (PySem.W.KF.slot_gs.check _ _ _ _ _ _ _ _ PySem.W.KF.type_class (PySem.W.KF.args_gs _ _ _) ?_);unfold Builtin.«getset_descriptor.__get__» Builtin.Getset_descriptor.descrGet;rw [PySem.W.dga_obj];refine wpAny_bind (wpAny_pure ?_);unfold Builtin.Getset_descriptor.descrGetter Builtin.Getset_descriptor.descrCheckInstance Builtin.Getset_descriptor.descrNameAndClass isInstance;simp only [PySem.W.KF.owner_class]
 repeat lk
 refine ⟨Code.quiet_builtin _ (by decide +kernel),codeAny_builtin PySem.W.KF.entry_class ?_⟩;unfold Builtin.«object.__class__» shownTypeOf
 repeat lk
 exact h
theorem Joy {tk:Tok} {R:Result→Shared→Prop} (XC:ExC K C) (X:K.In s.heap) (I:JjE s.heap e C) (h:R (.ok (.ret (.ref C))) s) :
  codeAny (model prog w) A (.call (.builtin "BaseException.__getattribute__") ⟨[.ref e,.str "__class__" tk],[]⟩) R s:=by
 obtain ⟨hh,g,d,t,os⟩:=s;have L0:=I.type (M:=model prog w);have LB:=PySem.W.looks_mroIn (M:=model prog w) X XC.mb;have L1:=JsY (M:=model prog w) (e:=e) XC X;have hk:builtinKind "BaseException.__getattribute__" = some .slot:=by decide +kernel
 have hsplit:splitId "BaseException.__getattribute__" = some ("BaseException", "__getattribute__"):=by decide +kernel
 have ha:=F.args_bexc_ga (.ref e) (.str "__class__" tk);refine codeAny_call_builtin F.attr_ValueError.ga.plain F.entry_bexc_ga ?_;simp only [checkBuiltinCall,hk,hsplit];refine wpAny_bind ?_;unfold isInstance;refine wpAny_bind (L0.at (LB.at ?_));simp only [Bool.not_true,Bool.false_eq_true,if_false];have hc:wpAny (model prog w) A.in1 (Builtin.«object.__getattribute__» ⟨[.ref e,.str "__class__" tk],[]⟩) (fun fin s'=>match fin with | .done f=>R (.ok f) s' | .again c'=>c'.quiet=true∧codeAny (model prog w) A c' R s') (fun e s'=>R (.error e) s') ⟨hh,g,d,t,os⟩:=by
  unfold Builtin.«object.__getattribute__»;refine wpAny_bind (m:=slotArgs _ _ _) (wpAny_pure ?_);refine wpAny_bind (m:=Builtin.ObjectAttr.attrName _) (wpAny_pure ?_);refine wpAny_bind (L0.at (wpAny_bind (L1.at ?_)));show wpAny _ _ (holding [.builtin "object.__class__"] (call (.builtin "getset_descriptor.__get__") [.builtin "object.__class__",.ref e,.ref C]) >>= ret) _ _ _;refine wpAny_bind (wpAny_holding (wpAny_call (JsZ (s:=⟨hh,g,d,t,os⟩) XC X I ?_)));exact wpAny_pure h
 repeat (any_goals (first | assumption | wp_step))
theorem Jre {Q:Option Value→Shared→Prop} (XC:ExC K C) (X:K.In s.heap) (I:JjE s.heap e C) (h:Q (some (.ref C)) { s with toks:=s.toks + 1 }):wpAny (model prog w) A (getAttr? (.ref e) "__class__") Q E s:=by
 obtain ⟨hh,g,d,t,os⟩:=s;have L0:=I.type (M:=model prog w);have L1:=PySem.W.looks_findIn (M:=model prog w) X XC.ga;have L2:=PySem.W.looks_findIn (M:=model prog w) X XC.gt;have f3:=F.attr_ValueError.ga.bind (.ref e);unfold getAttr? getAttrBy? getAttrBy;refine wpAny_bind (wpAny_mkText (wpAny_bind (wpAny_attempt (wpAny_holding (wpAny_bind (L0.at (wpAny_bind (L1.at ?_))))))));have hx2:(onTheHeap (Value.ref C) && Value.builtin "BaseException.__getattribute__" == Value.builtin "object.__getattribute__")=false:=by
  rw [show (Value.builtin "BaseException.__getattribute__" == Value.builtin "object.__getattribute__")=false by decide +kernel,Bool.and_false]
 dsimp only;rw [hx2,if_neg Bool.false_ne_true];unfold getAttrByItsOwn hookBefore;rw [if_pos (show onTheHeap (Value.ref C)=true from rfl)];refine wpAny_bind (L2.at ?_);refine wpAny_bind (wpAny_attempt (wpAny_holding ?_));unfold callGetattribute boundAndCalled;rw [Bool.false_and,if_neg Bool.false_ne_true];refine wpAny_bind (wpAny_of_eq f3 ?_);refine wpAny_call (Joy (s:=⟨hh,g,d,t + 1,os⟩) XC X I ?_);exact PySem.W.handed_on rfl (wpAny_pure h)
theorem JsM (XC:ExC K C):PySem.W.KitX K (.ref e) (.ref C) (fun h=>JjE h e C) where
 ty:=fun _ _ _ I=>I.type
 it:=fun _ _ X _=>by
  obtain ⟨cd,hc⟩:=Option.isSome_iff_exists.mp XC.ci;unfold PySem.W.clsIn at hc;split at hc
  ·rename_i c' d' cd' sl' ho;intro A' Q' E' s' k q;unfold isType loadHead;exact wpAny_bind (wpAny_loadPart (k _ _ (X _ _ ho)) (wpAny_pure q))
  ·cases hc
 ne:=fun h tp dd its n sl X htp=>by
  obtain ⟨cd,hc⟩:=Option.isSome_iff_exists.mp XC.ci;refine Bool.eq_false_iff.mpr fun q=>?_
  have e:C=tp:=Value.ref.inj (beq_iff_eq.mp q);subst e;unfold PySem.W.clsIn at hc;split at hc
  ·rename_i c' d' cd' sl' ho;have z:=(X _ _ ho).symm.trans htp;cases z
  ·cases hc
 ca:=fun X I k=>Jre XC X I k
end
structure Jp0 (P:Program) (w:World) (outer:List Env) (H:Hp) (h:Heap) (ea C:Addr) (B:Heap) (H':Hp) (h':Heap):Prop where
 fly:∃ a0,Heap.FlyingW B outer ea (.ref C) a0 h'
 hok:ZG P w H' B
 keep:∀ b o,h.get? b=some o→H b=none→b∉ZQ outer→B.get? b=some o
 there:∀ b o,h.get? b=some o→b∉ZQ outer→∃ o',B.get? b=some o'
 slot:∀ b o,h.get? b=some o→b∈ZQ outer→∃ sl,h'.get? b=some { o with slots:=sl }
 free:∀ b o,h.get? b=some o→H b=none→H' b=none
 tups:∀ b xs,H b=some (.tup xs)→H' b=some (.tup xs)
 frzs:∀ b o u,H b=some (.frz o u)→H' b=some (.frz o u)
 tbls:∀ b ps,H b=some (.tbl ps)→∃ more,H' b=some (.tbl (ps ++ more))
theorem Jp0.un {P:Program} {w:World} {outer:List Env} {H H':Hp} {h h' h'' B:Heap} {ea C:Addr} (F:Jp0 P w outer H h ea C B H' h') (st:B.StaysIn h'') (sl:∀ b o,h.get? b=some o→b∈ZQ outer→∃ sl,h''.get? b=some { o with slots:=sl }) :
  Un (ZQ outer) [] H H' h h'' where
 keep:=fun b o e n hb _=>st b o (F.keep b o e n hb)
 slot:=fun b o e n hb _=>sl b o e hb
 free:=fun b o e n _=>F.free b o e n
 there:=fun b o e _=>by
  by_cases hb:b∈ZQ outer
  ·obtain ⟨s,q⟩:=sl b o e hb;exact ⟨_,q⟩
  ·obtain ⟨o',q⟩:=F.there b o e hb;exact ⟨o',st b o' q⟩
 tups:=F.tups
 frzs:=F.frzs
 tbls:=F.tbls
theorem Jjc {h' h'' base:Heap} {l:List Env} (hl:h'.FunFrames base l) (k:h'.UpToSlots h'') {b:Addr} {o:Obj} {sl:Array (Option Value)} (e:h'.get? b=some { o with slots:=sl }) (hb:b∈ZQ l):∃ sl,h''.get? b=some { o with slots:=sl }:=by
 obtain ⟨_,o',ho',hd⟩:=hl.mem hb;rw [e] at ho';cases ho';obtain ⟨s,q⟩:=k b _ e hd;exact ⟨s,q⟩
abbrev Ys (P:Program) (w:World):CXT:=fun outer H s E e s'=>∃ (ea C:Addr) (B:Heap) (H':Hp),e=.ref ea∧s'.os=s.os∧AllBare s'.gens∧Jp0 P w outer H s.heap ea C B H' s'.heap∧E (.ref C) none H'
def JrD (X:Cx) (E:XK):Prop:=∀ (pins:List (Addr×Obj)) (σ:St) (H:Hp) (s:Shared) (ea C:Addr) (vs:List Value) (h':Heap),Jn X pins σ H s→Heap.MadeExcOf s.heap h' ea (.ref C) vs→E (.ref C) none H→X.xe (.ref ea) { s with heap:=h' }
section
variable {P:Program} {w:World} {K:PySem.W.Frag} {mg:Str→Option Value} {base:Heap} {N:List Str} {qual:Str} {sc:Scope} {f:Addr} {cd:Value} {A:Around} {outer:List Env} {s:Shared} {H:Hp} {E:XK}
theorem JbK:JrD (ZU (Ys P w) P w K mg base N qual sc f cd A outer s H E) E:=by
 intro pins σ H1 s1 ea C vs h' I hx q;have hstk:ZQ (ZU (Ys P w) P w K mg base N qual sc f cd A outer s H E).stack=s.heap.objs.size :: ZQ outer:=rfl;have hin:∀ env∈(ZU (Ys P w) P w K mg base N qual sc f cd A outer s H E).stack,∀ a,env.frame=some a→a∈ZQ (ZU (Ys P w) P w K mg base N qual sc f cd A outer s H E).stack:=fun env he a ha=>List.mem_filterMap.mpr ⟨env,he,ha⟩
 have notin:∀ {b:Addr} {o:Obj},s.heap.get? b=some o→b∉ZQ outer→b∉ZQ (ZU (Ys P w) P w K mg base N qual sc f cd A outer s H E).stack:=fun {b o} e hb hm=>by
  rw [hstk] at hm;rcases List.mem_cons.mp hm with z | z
  ·exact absurd (Heap.lt_size e) (by rw [z]; exact Nat.lt_irrefl _)
  ·exact hb z
 have noex:∀ b:Addr,b∉(ZU (Ys P w) P w K mg base N qual sc f cd A outer s H E).ex:=fun b z=>absurd (show b∈([]:List Addr) from z) (by simp)
 refine wpAny_leaves_madeW (base:=PySem.W.hideAll s1.heap (ZQ (ZU (Ys P w) P w K mg base N qual sc f cd A outer s H E).stack)) (h:=s1.heap) I.ok.frames rfl (fun b o e=>PySem.W.of_hideAll _ e) (PySem.W.funFrames_hide I.stack hin) hx fun h'' t x1 x2 x3 x4=>?_
 have hF0:s1.heap.FunFrames base outer:=I.funs;have hF1:h'.FunFrames base outer:=hF0.of_keeps fun b o e _=>⟨o,hx.keeps b o e,rfl⟩
 refine ⟨ea,C,_,H1,rfl,I.os,I.bare,⟨⟨_,x1⟩,fun a o e=>?_,fun b o e n hb=>?_,fun b o e hb=>?_,fun b o e hb=>?_,fun b o e n=>I.base.free b o e n (noex b),I.base.tups,I.base.frzs,I.base.tbls⟩,q⟩
 ·have tin:∀ b u,H1 b=some u→∀ o,s1.heap.get? b=some o→(PySem.W.hideAll s1.heap (ZQ (ZU (Ys P w) P w K mg base N qual sc f cd A outer s H E).stack)).get? b=some o:=fun b u hu o ho=>PySem.W.hideAll_get _ ho fun hm=>by
   rw [I.stkFree b hm] at hu; cases hu
  refine (I.hok a o e).stay (fun b u hb hq=>?_) (fun _ z=>z) fun _ _ z=>z
  rcases hb with rfl | hb
  ·exact tin _ _ e u hq
  ·exact tin _ _ hb u hq
 ·exact PySem.W.hideAll_get _ (I.base.keep b o e n hb (noex b)) (notin e hb)
 ·obtain ⟨o',e'⟩:=I.base.there b o e (noex b);exact ⟨o',PySem.W.hideAll_get _ e' (notin e hb)⟩
 ·obtain ⟨sl,e1⟩:=I.base.slot b o e (I.ok.frf b hb) hb (noex b);exact Jjc hF1 x4 (hx.keeps _ _ e1) hb
theorem JY:Jac (Ys P w) (ZU (Ys P w) P w K mg base N qual sc f cd A outer s H E) E:=by
 intro pins σ H1 s1 e s' I hq;obtain ⟨ea,C,B,H2,rfl,os,bare,fl,q⟩:=hq;have hstk:ZQ (ZU (Ys P w) P w K mg base N qual sc f cd A outer s H E).stack=s.heap.objs.size :: ZQ outer:=rfl;have sub:∀ {b:Addr},b∈ZQ outer→b∈ZQ (ZU (Ys P w) P w K mg base N qual sc f cd A outer s H E).stack:=fun hb=>by rw [hstk]; exact List.mem_cons_of_mem _ hb
 have notin:∀ {b:Addr} {o:Obj},s.heap.get? b=some o→b∉ZQ outer→b∉ZQ (ZU (Ys P w) P w K mg base N qual sc f cd A outer s H E).stack:=fun {b o} e hb hm=>by
  rw [hstk] at hm;rcases List.mem_cons.mp hm with z | z
  ·exact absurd (Heap.lt_size e) (by rw [z]; exact Nat.lt_irrefl _)
  ·exact hb z
 have noex:∀ b:Addr,b∉(ZU (Ys P w) P w K mg base N qual sc f cd A outer s H E).ex:=fun b z=>absurd (show b∈([]:List Addr) from z) (by simp)
 obtain ⟨a0,fly⟩:=fl.fly;refine wpAny_leaves_onW I.ok.frames rfl fly fun h'' x1 x2=>?_
 refine ⟨ea,C,B,H2,rfl,os.trans I.os,bare,⟨⟨_,x1⟩,fl.hok,fun b o e n hb=>?_,fun b o e hb=>?_,fun b o e hb=>?_,fun b o e n=>?_,fun b xs e=>fl.tups b xs (I.base.tups b xs e),fun b o u e=>fl.frzs b o u (I.base.frzs b o u e),fun b ps e=>?_⟩,q⟩
 ·exact fl.keep b o (I.base.keep b o e n hb (noex b)) (I.base.free b o e n (noex b)) (notin e hb)
 ·obtain ⟨o',e'⟩:=I.base.there b o e (noex b);exact fl.there b o' e' (notin e hb)
 ·obtain ⟨sl,e1⟩:=I.base.slot b o e (I.ok.frf b hb) hb (noex b);obtain ⟨sl',e2⟩:=fl.slot b _ e1 (sub hb);exact Jjc fly.2.2.1 x2 e2 (sub hb)
 ·obtain ⟨o',e'⟩:=I.base.there b o e (noex b);exact fl.free b o' e' (I.base.free b o e n (noex b))
 ·obtain ⟨m1,e1⟩:=I.base.tbls b ps e;obtain ⟨m2,e2⟩:=fl.tbls b _ e1;exact ⟨m1 ++ m2,by rw [e2,Array.append_assoc]⟩
theorem Fun.ok1 {x:Str} {st:Stmt} {fd:FuncData} {ps:List Str} {k:Nat} {sp:Sp} (F:Fun K x qual st f fd) (S:Jp N ps (Jk st)) (len:∀ vs H Q E,sp vs H Q E→vs.length=ps.length)
  (hbody:∀ (cdv:Value) (A:Around) (outer:List Env) (s:Shared) (H:Hp) (vs:List V) (Q:VK) (E:XK),YZ k (A.deeper (envOfC qual (Jk st) s.heap.objs.size f cdv))→sp vs H Q E →
   ∃ t,PSs (ZU (Ys P w) P w K mg base N qual (Jk st) f cdv A outer s H E) (JbO st) t∧t { nx:=fun _ H'=>Q .non H',rt:=Q } (YI N vs) H):JC P w K mg base (Ys P w) (k + 1) f fd ps sp:=by
 obtain ⟨oc,od,kV,doc,pm,an,cdv,ct,osl,rfl,lk,hcd⟩:=F.ex;exact Jtt lk hcd S len fun A outer s H vs Q E hr hsp=>hbody cdv A outer s H vs Q E hr hsp
end
section
variable {X:Cx} {x:Str} {C:Addr} {e:Expr} {te:TE} {np cpos pos:Pos} {E:XK}
def JmQ (C:Addr) (E:XK) (te:TE):TS:=fun D σ H=>te σ H fun v H'=>E (.ref C) none H'
theorem Jt4 {K:PySem.W.Frag} {h:Heap} {bmB:List Value} {newId:String} (X:K.In h) (q:PySem.W.excIn K C bmB newId=true):OwnCls x C bmB newId (fun _=>some (.ref C)) h:=by
 refine ⟨rfl,?_⟩;unfold PySem.W.excIn at q;split at q
 ·rename_i dd cd sl ho;split at q
  ·rename_i C' bm k0 k1 k2 k3 n k5 hm hs;simp only [Bool.and_eq_true,beq_iff_eq,Bool.not_eq_true'] at q;obtain ⟨⟨⟨⟨⟨rfl,rfl⟩,hdel⟩,ht⟩,hok⟩,hni⟩:=q;obtain ⟨nm,bs,mro,ns,qn,hd,sn,sub,ab,col,del⟩:=cd;dsimp only at hm hdel hok hni;subst hm hdel;have hsl:sl=#[k0,k1,k2,k3,some (.builtin n),k5]:=by
    obtain ⟨l⟩:=sl;simp only at hs;rw [hs]
   subst hsl;exact ⟨bm,ns,nm,qn,bs,hd,sn,sub,ab,col,dd,k0,k1,k2,k3,k5,_,X _ _ ho,.of_isNs (PySem.W.isNs_of_in X hok),PySem.W.nsMap_none_of_in X hok hni,PySem.W.tail_of_in X ht⟩
  ·cases q
 ·cases q
theorem JaQ (XC:ExC X.K C) (hm:X.mg x=some (.ref C)) (hr:JrD X E) (he:PE X e te) (hc:X.calm=true:=by rfl) (hg:Gl X x:=by rfl) (hd:(x == ("__debug__" : Str))=false:=by decide)
  (hs:starEach [e] X.env=[(false,eval e X.env)]:=by rfl):PS X (.Raise (some (.Call (.Name x np) [e] [] cpos)) none pos) (JmQ C E te):=by
 intro pins s σ H D I h;obtain ⟨tl,N,nm,q,bs,hdct,sn,sub,ab,col,dd,k0,k1,k2,k3,k5,mN,hC,hN,hni,T⟩:=(Jt4 (x:=x) I.mod.kin XC.ex).obj;refine wpAny_Raise_call_subU (C:=C) (nm:=nm) (q:=q) (N:=N) (bs:=bs) (bm:=tl) (hdct:=hdct) (sn:=sn) (sub:=sub) (ab:=ab) (col:=col) (dd:=dd) (k0:=k0) (k1:=k1) (k2:=k2) (k3:=k3) (k5:=k5) (mN:=mN)
  F.excBase_ValueError F.excBase_ValueError.hasB F.excBase_ValueError (T.hasType F.excBase_ValueError.hasBase) (I.ok.hd hc) (by rw [hs]; rfl) hni (Jes I hg hm ⟨rfl,?_⟩ hd)
 rw [hs];refine Calls.evalArgs_plain (Calls.spliced_cons (J3 (he pins s σ H _ I h) fun u s1 ⟨v,H1,I1,r1,q1⟩=>?_));exact Calls.spliced_nil ⟨rfl,by show 1≤sizeLine; decide,I1.bk _ _ hC,hN.keeps I1.bk,T.keeps I1.bk,fun h' ea hx=>hr pins σ H1 s1 ea C _ h' I1 hx q1⟩
end
theorem YD.at_ {P:Program} {w:World} {H:Hp} {h:Heap} {a:Addr} {o:HO} (x:YD P w H h a o):∃ ob,h.get? a=some ob:=by
 cases o with
 | lst xs=>obtain ⟨_,_,_,_,e⟩:=x; exact ⟨_,e⟩
 | tup xs=>obtain ⟨_,_,_,ob,e,_⟩:=x; exact ⟨_,e⟩
 | dK kvs=>obtain ⟨_,_,_,_,o,_,_,e,_⟩:=x; exact ⟨_,e⟩
 | dT kvs=>obtain ⟨_,_,_,_,o,_,_,e,_⟩:=x; exact ⟨_,e⟩
 | set S n=>obtain ⟨o,_,_,_,e,_⟩:=x; exact ⟨_,e⟩
 | ins C dx fs=>obtain ⟨_,_,_,e,_⟩:=x; exact ⟨_,e⟩
 | own y=>obtain ⟨_,e⟩:=x; exact ⟨_,e⟩
 | xd fs=>obtain ⟨_,⟨_,_,_,e,_⟩,_⟩:=x; exact ⟨_,e⟩
 | rng lo hi=>obtain ⟨_,_,_,e⟩:=x; exact ⟨_,e⟩
 | frz ob u=>obtain ⟨e,_⟩:=x; exact ⟨_,e⟩
 | tbl ps=>exact ⟨_,(show h.get? a=some _ from x)⟩
 | met f y=>exact ⟨_,(show h.get? a=some _ from x)⟩
 | ext φ=>obtain ⟨_,⟨_,e⟩,_⟩:=x; exact ⟨_,e⟩
section
variable {X:Cx} {pins:List (Addr×Obj)} {σ:St} {H:Hp} {s:Shared}
theorem JfN {M:Model} {A:Around} {E:Value→Shared→Prop} {i:Nat} {x:Str} {pos:Pos} {Q:Unit→Shared→Prop} (I:Jn X pins σ H s) (hN:X.N.Nodup) (hi:X.N[i]?=some x) (hk:X.env.scope.names.lookup x=some .local)
  (h:∀ s',Jn X pins (σ.set i none) H s'→Q () s'):wpAny M A (do bindName X.env x .none; unbindBehindTheSuite X.env x pos) Q E s:=by
 obtain ⟨m,hn,hl⟩:=id I.loc;have hcls:(X.env.scope.kind == .class || (X.env.scope.kind == .module && X.env.locals != X.env.globals))=false:=by rw [I.ok.kind]; rfl
 have hiσ:i < σ.length:=by rw [I.len]; exact (List.getElem?_eq_some_iff.mp hi).1
 have cne:=I.cne;have tracked:∀ {a:Addr} {h':Heap},(∃ o,s.heap.get? a=some o∧H a=none)→Heap.SameBut a s.heap h'→ZG X.prog X.w H h':=fun {a h'} ha hs b ob e=>by
  obtain ⟨_,_,hfree⟩:=ha;refine (I.hok b ob e).stay (fun c w' hc q=>(hs.2 c ?_).trans q) (fun _ q=>q) fun _ _ q=>q
  rintro rfl;rcases hc with rfl | hc
  ·rw [hfree] at e; cases e
  ·rw [hfree] at hc; cases hc
 refine wpAny_nameGoes_keeps hk hn hcls (fun h' v0 hn' hs=>?_);obtain ⟨oL,_,_,hoL,_⟩:=id hn;refine h _ ⟨I.ok,I.os,I.bare,⟨fun b o e n hb hx=>?_,fun b o e n hb hx=>?_,I.base.free,fun b o e hx=>?_,I.base.tups,I.base.frzs,I.base.tbls⟩,⟨_,hn',fun j y v' e1 e2 e3=>?_⟩,fun y c e=>?_,I.free,I.freeC,fun p hp=>?_,tracked ⟨oL,hoL,I.free⟩ hs,by simpa using I.len⟩
 ·exact (hs.2 b (Nat.ne_of_lt (Nat.lt_of_lt_of_le (Heap.lt_size e) I.ok.above))).trans (I.base.keep b o e n hb hx)
 ·obtain ⟨sl,e1⟩:=I.base.slot b o e n hb hx;exact ⟨sl,(hs.2 b (Nat.ne_of_lt (Nat.lt_of_lt_of_le (Heap.lt_size e) I.ok.above))).trans e1⟩
 ·obtain ⟨o',e1⟩:=I.base.there b o e hx;exact ⟨o',(hs.2 b (Nat.ne_of_lt (Nat.lt_of_lt_of_le (Heap.lt_size e) I.ok.above))).trans e1⟩
 ·by_cases hj:j=i
  ·subst hj;rw [List.getElem?_set_self hiσ] at e2;cases e2
  ·rw [List.getElem?_set_ne (Ne.symm hj)] at e2;obtain ⟨u',r',q⟩:=hl j y v' e1 e2 e3;refine ⟨u',r',?_⟩;rcases q with ⟨k,e⟩ | ⟨k,c,e,z⟩
   ·refine .inl ⟨k,?_⟩;have:y≠x:=fun e=>hj (Jjm hN e1 (e ▸ hi))
    simp [this,e]
   ·exact .inr ⟨k,c,e,z.sameBut hs (cne y c e)⟩
 ·obtain ⟨w',z⟩:=I.cell y c e;exact ⟨w',z.sameBut hs (cne y c e)⟩
 ·obtain ⟨e,n,ne,nf,d⟩:=I.pin p hp;exact ⟨(hs.2 p.1 ne).trans e,n,ne,nf,d⟩
theorem Jn.turn_to {A:Around} {calm:Bool} {pn pins':List (Addr×Obj)} {xe:Value→Shared→Prop} {σ':St} (I:Jn X pins σ H s) (hf:A.frames=X.A.frames) (hc:calm=true→A.handled=none) (hp:∀ p∈pn ++ pins',p∈X.pn ++ pins∨(s.heap.get? p.1=some p.2∧H p.1=none∧p.1≠X.env.locals∧p.1∉X.fs∧∀ v,p.2.data≠.cell v))
  (hl:σ'.length=σ.length) (wk:∀ (i:Nat) v,σ'[i]?=some (some v)→σ[i]?=some (some v)):Jn { X with A:=A,calm:=calm,pn:=pn,xe:=xe } pins' σ' H s :=
 ⟨⟨I.ok.mod,I.ok.kind,I.ok.glob,I.ok.blt,I.ok.above,I.ok.inj,I.ok.has,I.ok.cab,hc,hf.trans I.ok.frames,I.ok.stk,I.ok.exf,I.ok.bs,I.ok.bsz,I.ok.noex,I.ok.exfs,I.ok.funs,I.ok.frf⟩,I.os,I.bare,I.base,
  let ⟨m,hn,hl'⟩:=I.loc; ⟨m,hn,fun i x v e1 e2 e3=>hl' i x v e1 (wk i v e2) e3⟩,I.cell,I.free,I.freeC,fun p q=>(hp p q).elim (fun z=>I.pin p z) fun z=>z,I.hok,hl.trans I.len⟩
end
def Jwi (K:PySem.W.Frag) (Ch:Addr) (i n:Nat) (E:XK) (tb:TS) (th:Addr→Addr→TS):TS:=fun D σ H=>tb D σ H∧∀ ea C H',E (.ref C) none H'→PySem.W.exmOne K (.ref C) (.ref Ch)=some true ∧
 th ea C { nx:=fun σ' H''=>D.nx (σ'.set i none) H'',rt:=D.rt,bk:=fun σ' H''=>D.bk (σ'.set i none) H'',ct:=fun σ' H''=>D.ct (σ'.set i none) H'' } ((List.replicate n none).set i (some (.ref ea))) H'
theorem Ju0 {X:Cx} {body:List Stmt} {x nm:Str} {i:Nat} {Ch:Addr} {h0:Stmt} {hs:List Stmt} {tb:TS} {th:Addr→Addr→TS} {np hpos pos:Pos} (E:XK) (hN:X.N.Nodup) (hm:X.mg x=some (.ref Ch)) (hi:X.N[i]?=some nm)
  (hb:∀ (pn:List (Addr×Obj)) (xe:Value→Shared→Prop),Jac (Ys X.prog X.w) { X with A:=X.A,calm:=X.calm,pn:=pn,xe:=xe } E→PSs { X with A:=X.A,calm:=X.calm,pn:=pn,xe:=xe } body tb)
  (hh:∀ (ea C:Addr) (oe:Obj) (A:Around) (pn:List (Addr×Obj)),(ea,oe)∈pn→oe.cls=.ref C→PSs { X with A:=A,calm:=false,pn:=pn,xe:=fun _ _=>False } (h0 :: hs) (th ea C))
  (hl:X.env.scope.names.lookup nm=some .local:=by rfl) (hg:Gl X x:=by rfl) (hst:X.stack=X.env :: X.outer:=by rfl) (hfr:X.env.frame=some X.env.locals:=by rfl) (hd:(x == ("__debug__" : Str))=false:=by decide) :
  PS X (.Try body [.ExceptHandler (some (.Name x np)) (some nm) (h0 :: hs) hpos] [] [] pos) (Jwi X.K Ch i X.N.length E tb th):=by
 intro pins s σ H D I ⟨hbq,hhq⟩;let XE:Value→Shared→Prop:=fun e s'=>∃ pins' σ' H1 s1,Jn { X with A:=X.A,calm:=X.calm,pn:=X.pn ++ pins,xe:=fun _ _=>False } pins' σ' H1 s1∧Ys X.prog X.w X.stack H1 s1 E e s'
 have I1:Jn { X with A:=X.A,calm:=X.calm,pn:=X.pn ++ pins,xe:=XE } [] σ H s:=I.turn_to rfl I.ok.hd (fun p hp=>.inl (by simpa using hp)) rfl fun _ _ e=>e
 have hpass:Jac (Ys X.prog X.w) { X with A:=X.A,calm:=X.calm,pn:=X.pn ++ pins,xe:=XE } E:=fun pins' σ' H1 s1 e s' I' hq=>⟨pins',σ',H1,s1,I'.turn_to (X:={ X with A:=X.A,calm:=X.calm,pn:=X.pn ++ pins,xe:=XE }) rfl I'.ok.hd (fun p hp=>.inl hp) rfl fun _ _ e=>e,hq⟩
 have back:∀ {A:Around} {calm:Bool} {pn:List (Addr×Obj)} {xe:Value→Shared→Prop} {σ':St} {H':Hp} {s':Shared},(∀ p∈X.pn ++ pins,p∈pn ++ [])→Jn { X with A:=A,calm:=calm,pn:=pn,xe:=xe } [] σ' H' s'→Jn X pins σ' H' s':=fun hp I' =>
  ⟨I.ok,I'.os,I'.bare,I'.base,I'.loc,I'.cell,I'.free,I'.freeC,fun p q=>I'.pin p (hp p q),I'.hok,I'.len⟩
 refine wpAny_Try_except (wpAny_mono (hb _ _ hpass [] s σ H D I1 hbq) (fun f s1 z=>?_) fun e s1 z=>?_)
 ·have bk:=fun {σ' H' s'}=>back (A:=X.A) (calm:=X.calm) (pn:=X.pn ++ pins) (xe:=XE) (σ':=σ') (H':=H') (s':=s') (fun p hp=>by simpa using hp)
  cases f with
  | next=>obtain ⟨σ',H',I',q⟩:=z; exact wpAny_execs_nil ⟨σ',H',bk I',q⟩
  | brk=>obtain ⟨σ',H',I',q⟩:=z; exact ⟨σ',H',bk I',q⟩
  | cont=>obtain ⟨σ',H',I',q⟩:=z; exact ⟨σ',H',bk I',q⟩
  | ret u=>obtain ⟨v,σ',H',I',r,q⟩:=z; exact ⟨v,σ',H',bk I',r,q⟩
 ·obtain ⟨pins',σ',H1,s0,I',ea,C,B,H2,rfl,os,bare,fl,q⟩:=z;obtain ⟨hexm,hth⟩:=hhq ea C H2 q;obtain ⟨a0,fly⟩:=fl.fly;have fly':Heap.FlyingW B (X.env :: X.outer) ea (.ref C) a0 s1.heap:=by rw [← hst]; exact fly
  refine wpAny_looks_onW (env:=X.env) (outer:=X.outer) (by rw [← hst]; exact I.ok.frames) hfr fly' fun h4 held4 sm4=>?_
  refine wpAny_landsW held4 fun h5 fly5 sm5=>?_
  have mk:∀ {h6:Heap} {t:Nat},Heap.FlyingW B (X.env :: X.outer) ea (.ref C) a0 h6→s1.heap.UpToSlots h6→Jn { X with A:=X.A,calm:=X.calm,pn:=X.pn ++ pins,xe:=fun _ _=>False } pins' σ' H2 { s1 with heap:=h6,toks:=t }:=fun {h6 t} f6 u6=>by
   refine I'.call' (s':={ s1 with heap:=h6,toks:=t }) (ch:=[]) os (fl.un f6.1 fun b o e hb=>?_) (fl.hok.kept fun b u e=>f6.1 b u e) bare (fun b z=>nomatch z);obtain ⟨sl,e1⟩:=fl.slot b o e hb;exact Jjc fly.2.2.1 u6 e1 hb
  have I5:Jn { X with A:=X.A.mark (some (.ref ea)),calm:=false,pn:=X.pn ++ pins,xe:=fun _ _=>False } [] (List.replicate X.N.length none) H2 { s1 with heap:=h5 } :=
   (mk (t:=s1.toks) fly5 (sm4.trans sm5)).turn_to rfl (fun z=>by cases z) (fun p hp=>.inl (List.mem_append_left _ (by simpa using hp))) (by rw [List.length_replicate]; exact I'.len.symm) fun j v e=>by
    rw [List.getElem?_replicate] at e;split at e <;> cases e
  refine wpAny_handleBy_cons (codeAny_handlers_test (Jes I5 hg hm ?_ hd)) (by intro q; cases q);obtain ⟨ob,hob,hobc⟩:=fly5.there;refine PySem.W.exm_one (M:=model X.prog X.w) I5.kIn (JjE.type ⟨ob,hob,hobc⟩) hexm _ _ _ _ (fun _ _ e=>e) ?_;refine codeAny_handlers_suite_as (lands_againW fly5 fun h6 fly6 sm6=>?_);obtain ⟨oe,ws,hoe,hoec,hoed,hoe0⟩:=fly6.first;have u6:=(sm4.trans sm5).trans sm6;have n2:H2 ea=none:=by
   cases z:H2 ea with
   | none=>rfl
   | some u =>
    obtain ⟨ob,zz⟩:=(fl.hok ea u z).at_;rw [fly6.2.1] at zz; cases zz
  have nL:ea≠X.env.locals:=fun z=>by
   obtain ⟨_,⟨L,o,hf,_,ho,hdd⟩,_⟩:=fly6.2.2.1;rw [hfr] at hf; cases hf;rw [← z,hoe] at ho; cases ho;exact hdd _ hoed
  have nF:ea∉X.fs:=fun z=>by
   obtain ⟨_,o,ho,hdd⟩:=fly6.2.2.1.2.2.mem z;rw [hoe] at ho; cases ho;exact hdd _ hoed
  have I6:Jn { X with A:=X.A.mark (some (.ref ea)),calm:=false,pn:=X.pn ++ pins ++ [(ea,oe)],xe:=fun _ _=>False } [] (List.replicate X.N.length none) H2 { s1 with heap:=h6 } :=
   (mk (t:=s1.toks) fly6 u6).turn_to rfl (fun z=>by cases z) (fun p hp=>by
    rw [List.append_nil] at hp;rcases List.mem_append.mp hp with z | z
    ·exact .inl (List.mem_append_left _ z)
    ·have z':p=(ea,oe):=by simpa using z
     subst z';exact .inr ⟨hoe,n2,nL,nF,fun v z=>by rw [hoed] at z; cases z⟩) (by rw [List.length_replicate]; exact I'.len.symm) fun j v e=>by
    rw [List.getElem?_replicate] at e;split at e <;> cases e
  refine Ji9 (X:={ X with A:=X.A.mark (some (.ref ea)),calm:=false,pn:=X.pn ++ pins ++ [(ea,oe)],xe:=fun _ _=>False }) I6 hN hi (Or.inl hl) (v:=.ref ea) rfl (fun s7 I7=>?_) (Or.inr hl);have run:=hh ea C oe (X.A.mark (some (.ref ea))) (X.pn ++ pins ++ [(ea,oe)]) (by simp) hoec [] s7 _ H2 _ I7 hth;refine wpAny_mono run (fun f s8 z=>?_) fun _ _ z=>z.elim
  have bk:=fun {σ' H' s'}=>back (A:=X.A.mark (some (.ref ea))) (calm:=false) (pn:=X.pn ++ pins ++ [(ea,oe)]) (xe:=fun _ _=>False) (σ':=σ') (H':=H') (s':=s') (fun p hp=>by rw [List.append_nil]; exact List.mem_append_left _ hp)
  cases f with
  | next=>obtain ⟨σ8,H8,I8,q8⟩:=z; exact JfN (bk I8) hN hi hl fun s9 I9=>⟨_,H8,I9,q8⟩
  | brk=>obtain ⟨σ8,H8,I8,q8⟩:=z; exact JfN (bk I8) hN hi hl fun s9 I9=>⟨_,H8,I9,q8⟩
  | cont=>obtain ⟨σ8,H8,I8,q8⟩:=z; exact JfN (bk I8) hN hi hl fun s9 I9=>⟨_,H8,I9,q8⟩
  | ret u=>obtain ⟨v8,σ8,H8,I8,r8,q8⟩:=z; exact JfN (bk I8) hN hi hl fun s9 I9=>⟨v8,_,H8,I9,r8,q8⟩
def JbY (K:PySem.W.Frag) (ea C:Addr):List V→Hp→VK→Prop:=fun xs H Q=>∃ c b,xs=[.ref ea,c]∧(∃ n,c=.ty n∨∃ a,c=.ref a)∧ExC K C∧PySem.W.kitOne K (.ref C) (JpT c)=some b∧Q (.bl b) H
theorem YW {X:Cx} {ea C:Addr} {oe:Obj} (hp:(ea,oe)∈X.pn) (hc:oe.cls=.ref C):Yl X (.builtin "isinstance") (JbY X.K ea C):=by
 intro pins s σ H xs us Q I r h;obtain ⟨c,b,rfl,hcc,XC,e,q⟩:=h;cases r with
 | cons r rr =>
  cases rr with
  | cons r' rr =>
   cases rr;rename_i u u';have e':u'=JpT c:=by
    obtain ⟨n,rfl | ⟨a,rfl⟩⟩:=hcc
    ·exact r'
    ·exact r'
   subst e';cases (show u=Value.ref ea from r);obtain ⟨h1,_⟩:=I.pin (ea,oe) (List.mem_append_left _ hp);exact PySem.W.kia_one (JsM XC) I.kIn ⟨oe,h1,hc⟩ e (fun z=>nomatch z) fun tk=>⟨.bl b,H,I.tok _,rfl,q⟩
end L2
namespace L2
open PySem PySem.Spec PyProof.Rows
theorem PE.imp {X:Cx} {e:Expr} {t t':TE} (h:PE X e t) (i:∀ σ H Q,t' σ H Q→t σ H Q):PE X e t':=fun pins s σ H Q I q=>h pins s σ H Q I (i _ _ _ q)
theorem PS.imp {X:Cx} {e:Stmt} {t t':TS} (h:PS X e t) (i:∀ D σ H,t' D σ H→t D σ H):PS X e t':=fun pins s σ H D I q=>h pins s σ H D I (i _ _ _ q)
theorem Jkn {sc:Scope} {env:Env} (h:∀ y∈sc.names,y.2=.free→∃ c,env.cells.lookup y.1=some c) :
  ∃ cl,closureFor sc env=pure cl∧(∀ x c,cl.lookup x=some c→env.cells.lookup x=some c)∧∀ y∈sc.names,y.2=.free→∃ c,cl.lookup y.1=some c:=by
 have gen:∀ (names:List (Str×NameKind)) (acc:List (Str×Addr)),(∀ y∈names,y.2=.free→∃ c,env.cells.lookup y.1=some c)→(∀ x c,acc.lookup x=some c→env.cells.lookup x=some c) →
   ∃ cl,(forIn names acc fun x cs=>(do
    if x.2 == NameKind.free then
     let c ← cellOf env x.1
     pure (ForInStep.yield ((x.1,c) :: cs))
    else pure (ForInStep.yield cs)):Sem (List (Str×Addr)))=pure cl∧(∀ x c,cl.lookup x=some c→env.cells.lookup x=some c)∧(∀ x c,acc.lookup x=some c→∃ c,cl.lookup x=some c)∧∀ y∈names,y.2=.free→∃ c,cl.lookup y.1=some c:=by
  intro names
  induction names with
  | nil=>intro acc _ ha; exact ⟨acc,rfl,ha,fun x c e=>⟨c,e⟩,fun y hy=>nomatch hy⟩
  | cons n r ih =>
   intro acc hn ha;obtain ⟨x,k⟩:=n;by_cases hk:k=.free
   ·subst hk;obtain ⟨c,hc⟩:=hn (x,.free) List.mem_cons_self rfl;obtain ⟨cl,e1,e2,e3,e4⟩:=ih ((x,c) :: acc) (fun y hy=>hn y (List.mem_cons_of_mem _ hy)) (fun y d e=>by
     rw [List.lookup_cons] at e;split at e
     ·rename_i q;cases e;rw [beq_iff_eq.mp q];exact hc
     ·exact ha y d e)
    refine ⟨cl,?_,e2,fun y d e=>?_,fun y hy hf=>?_⟩
    ·rw [List.forIn_cons];have z:cellOf env x=pure c:=by unfold cellOf; rw [hc]
     simp only [beq_self_eq_true,if_true,z,pure_bind];exact e1
    ·refine e3 y (if y == x then c else d) ?_;rw [List.lookup_cons];split
     ·rename_i q; simp [q]
     ·rename_i q; simp [q,e]
    ·rcases List.mem_cons.mp hy with rfl | hy
     ·exact e3 x c (by rw [List.lookup_cons]; simp)
     ·exact e4 y hy hf
   ·obtain ⟨cl,e1,e2,e3,e4⟩:=ih acc (fun y hy=>hn y (List.mem_cons_of_mem _ hy)) ha;refine ⟨cl,?_,e2,e3,fun y hy hf=>?_⟩
    ·rw [List.forIn_cons];have z:(k == NameKind.free)=false:=by simpa using hk
     simp only [z,Bool.false_eq_true,if_false,pure_bind];exact e1
    ·rcases List.mem_cons.mp hy with rfl | hy
     ·exact absurd hf hk
     ·exact e4 y hy hf
 obtain ⟨cl,e1,e2,_,e4⟩:=gen sc.names [] h (fun x c e=>by simp at e);refine ⟨cl,?_,e2,e4⟩;unfold closureFor;rw [← bind_pure (pure cl:Sem (List (Str×Addr))),← e1]
def Y4 (X:Cx) (Nc:List Str) (sc:Scope) (cl:List (Str×Addr)) (fp:List Addr) (s:Shared) (H:Hp):Cx :=
 { X with N:=Nc,s₀:=s,H₀:=H,env:=compEnvC sc cl s.heap.objs.size X.env,outer:=X.stack,stack:=X.stack,ex:=fp,fn:=fun _=>false,pn:=[],xe:=fun _ _=>False }
def Jij (js:List Nat) (σ:St):St:=js.map fun j=>(σ[j]?).join
def JiM (N:List Str) (names:List (Str×NameKind)) (nt:Nat) (Nc:List Str) (sc:Scope) (js:List Nat):Bool :=
 decide Nc.Nodup && decide (Nc.length=nt + js.length) && ((Nc.drop nt).zip js).all (fun p=>N[p.2]? == some p.1 && sc.names.lookup p.1 == some NameKind.free && names.lookup p.1 == some NameKind.cell) &&
  sc.names.all (fun y=>(y.2 == NameKind.local && sc.names.lookup y.1 == some NameKind.local) || (y.2 == NameKind.free && names.lookup y.1 == some NameKind.cell) || (y.2 != NameKind.local && y.2 != NameKind.free && y.2 != NameKind.cell)) && sc.kind == .function
def JfX (σ σ':St):Prop:=σ'.length=σ.length∧∀ (i:Nat) v,σ[i]?=some (some v)→σ'[i]?=some (some v)
theorem JfX.refl (σ:St):JfX σ σ:=⟨rfl,fun _ _ e=>e⟩
theorem JfX.set {σ σ':St} {i:Nat} {x:Option V} (h:JfX σ σ') (e:σ[i]?=some none):JfX σ (σ'.set i x):=by
 refine ⟨by rw [List.length_set]; exact h.1,fun j v q=>?_⟩;by_cases hj:j=i
 ·subst hj; rw [e] at q; cases q
 ·rw [List.getElem?_set_ne (Ne.symm hj)]; exact h.2 j v q
def Jen (J:It) (g:TG) (tc:TT) (te:TE) (σc:St) (D:Addr) (H1:Hp) (Q:Hp→Prop):Prop :=
 ∃ W:Nat→Nat→List V→Hp→Prop,(∃ m,W 0 m [] (upd H1 D (.lst [])))∧∀ i m ys H,W i m ys H→H D=some (.lst ys) ∧
  ((J.stop i H∧Q H)∨(J.go i H∧∃ N:List V→Hp→Prop,(∀ zs H',N zs H'→∃ m',m' < m∧W (i + 1) m' zs H')∧∀ x H',J.yld i H x H'→g x σc H' fun σ2 H2=>JfX σc σ2 ∧
   tc σ2 H2 fun b H3=>if b=true then te σ2 H3 fun v H4=>H4 D=some (.lst ys)∧ys.length < sizeLine∧N (ys ++ [v]) (upd H4 D (.lst (ys ++ [v]))) else N ys H3))
def Jog (X:Cx) (ifs:List Expr) (tc:TT):Prop:=∀ (pins:List (Addr×Obj)) (s:Shared) (σ:St) (H:Hp) (Q:Bool→Hp→Prop),Jn X pins σ H s→tc σ H Q →
 wpAny (model X.prog X.w) X.A (forIn ifs true fun c r=>if r=true then do let ok ← isTrue c X.env (eval c X.env); pure (ForInStep.yield ok) else pure (ForInStep.yield r)) (TP X pins σ Q) X.xe s
def Jex:TT:=fun _ H Q=>Q true H
theorem Jeq {X:Cx}:Jog X [] Jex:=fun _ _ _ H _ I q=>wpAny_tests_nil ⟨H,I,q⟩
theorem JiB {X:Cx} {c:Expr} {tc:TT} (h:PT X c tc):Jog X [c] tc:=fun pins s σ H Q I q=>wpAny_tests_one (h pins s σ H Q I q)
theorem JpS {prog:Program} {w:World} {A:Around} {R:Result→Shared→Prop} {s:Shared} {elt target iter:Expr} {ifs:List Expr} {scope:Scope} {pos:Pos} {it acc:Value} {env:Env} (I:Nat→Shared→Prop)
  (turn:∀ n s,I n s→wpAny (model prog w) A (pyNext it) (fun r s₁=>match r with
   | none=>R (.ok .next) s₁
   | some v=>wpAny (model prog w) A (letOwnedTupleGo target it v) (fun _ s₁'=>wpAny (model prog w) A (assign target env v) (fun _ s₂ =>
     wpAny (model prog w) A (forIn ifs true fun c r=>if r=true then do let ok ← isTrue c env (eval c env); pure (ForInStep.yield ok) else pure (ForInStep.yield r)) (fun ok s₃ =>
      if ok=true then wpAny (model prog w) A (eval elt env) (fun x s₄ =>
       wpAny (model prog w) A (call (.builtin "list.append") [acc,x]) (fun _ s₅=>∃ m,m < n∧I m s₅) (fun _ _=>False) s₄) (fun _ _=>False) s₃
      else ∃ m,m < n∧I m s₃) (fun _ _=>False) s₂) (fun _ _=>False) s₁') (fun _ _=>False) s₁) (fun _ _=>False) s)
  (n:Nat) (h:I n s) :
  codeAny (model prog w) A (.compLoop (.ListComp elt [⟨target,iter,ifs,0⟩] scope pos) 0 it acc env) R s:=by
 refine codeAny_loop rfl I (fun n s hI=>?_) n h;show wpAny _ A ((compTurn (.ListComp elt [⟨target,iter,ifs,0⟩] scope pos) 0 it acc env).onRaise (fun x=>do noteFrame x env; theTreesLotGoes x)) _ _ s;refine wpAny_noted ?_;rw [compTurn_list];refine wpAny_bind (wpAny_standAt (wpAny_bind (wpAny_mono (turn n s hI) (fun r s₁ h₁=>?_) fun _ _ h'=>h'.elim)));cases r with
 | none=>exact wpAny_pure h₁
 | some v =>
  refine wpAny_bind (wpAny_mono h₁ (fun _ s₁' h₁'=>?_) fun _ _ h'=>h'.elim);refine wpAny_bind (wpAny_mono h₁' (fun _ s₂ h₂=>wpAny_bind (wpAny_mono h₂ (fun ok s₃ h₃=>?_) fun _ _ h'=>h'.elim)) fun _ _ h'=>h'.elim);cases ok with
  | false=>exact wpAny_pure ⟨rfl,h₃⟩
  | true =>
   exact wpAny_bind (wpAny_bind (wpAny_mono h₃ (fun x s₄ h₄=>wpAny_bind (wpAny_mono h₄ (fun _ s₅ h₅=>wpAny_pure (wpAny_pure ⟨rfl,h₅⟩)) fun _ _ h'=>h'.elim)) fun _ _ h'=>h'.elim))
theorem JeS {env:Env}:∀ {names:List (Str×NameKind)} {x:Str} {k':NameKind},
  (names.map fun (n,k)=>if (k == NameKind.free && env.scope.kind == .function && env.kindOf n == some .cell) then (n,NameKind.cell) else (n,k)).lookup x=some k'→∃ k,names.lookup x=some k∧(k'=k∨(k=.free∧k'=.cell))
 | [],x,k',h=>by simp at h
 | (n,k) :: r,x,k',h=>by
  rw [List.map_cons] at h;by_cases hx:x=n
  ·subst hx;by_cases hc:(k == NameKind.free && env.scope.kind == .function && env.kindOf x == some .cell)=true
   ·have h:List.lookup x ((if (k == NameKind.free && env.scope.kind == .function && env.kindOf x == some .cell)=true then (x,NameKind.cell) else (x,k)) :: _)=some k':=h;rw [if_pos hc] at h;simp only [Bool.and_eq_true,beq_iff_eq] at hc;exact ⟨k,by simp [List.lookup_cons],.inr ⟨hc.1.1,by simpa [List.lookup_cons] using h.symm⟩⟩
   ·have h:List.lookup x ((if (k == NameKind.free && env.scope.kind == .function && env.kindOf x == some .cell)=true then (x,NameKind.cell) else (x,k)) :: _)=some k':=h;rw [if_neg hc] at h;exact ⟨k,by simp [List.lookup_cons],.inl (by simpa [List.lookup_cons] using h.symm)⟩
  ·have hb:(x == n)=false:=beq_eq_false_iff_ne.mpr hx;have h:List.lookup x ((if (k == NameKind.free && env.scope.kind == .function && env.kindOf n == some .cell)=true then (n,NameKind.cell) else (n,k)) :: _)=some k':=h;have h2:(r.map fun (n,k)=>if (k == NameKind.free && env.scope.kind == .function && env.kindOf n == some .cell) then (n,NameKind.cell) else (n,k)).lookup x=some k':=by
    by_cases hc:(k == NameKind.free && env.scope.kind == .function && env.kindOf n == some .cell)=true
    ·rw [if_pos hc] at h; simpa [List.lookup_cons,hb] using h
    ·rw [if_neg hc] at h; simpa [List.lookup_cons,hb] using h
   obtain ⟨k0,e,z⟩:=JeS h2;exact ⟨k0,by simpa [List.lookup_cons,hb] using e,z⟩
theorem JeT {env:Env}:∀ {names:List (Str×NameKind)} {x:Str},names.lookup x=some .free →
  (names.map fun (n,k)=>if (k == NameKind.free && env.scope.kind == .function && env.kindOf n == some .cell) then (n,NameKind.cell) else (n,k)).lookup x=some .cell∨(names.map fun (n,k)=>if (k == NameKind.free && env.scope.kind == .function && env.kindOf n == some .cell) then (n,NameKind.cell) else (n,k)).lookup x=some .free
 | [],x,h=>by simp at h
 | (n,k) :: r,x,h=>by
  rw [List.map_cons];show List.lookup x ((if (k == NameKind.free && env.scope.kind == .function && env.kindOf n == some .cell)=true then (n,NameKind.cell) else (n,k)) :: _)=_∨List.lookup x ((if (k == NameKind.free && env.scope.kind == .function && env.kindOf n == some .cell)=true then (n,NameKind.cell) else (n,k)) :: _)=_;by_cases hx:x=n
  ·subst hx;have hk:k=.free:=by simpa [List.lookup_cons] using h
   subst hk;split
   ·exact .inl (by simp [List.lookup_cons])
   ·exact .inr (by simp [List.lookup_cons])
  ·have hb:(x == n)=false:=beq_eq_false_iff_ne.mpr hx;have ih:=JeT (env:=env) (names:=r) (x:=x) (by simpa [List.lookup_cons,hb] using h);split
   ·simpa [List.lookup_cons,hb] using ih
   ·simpa [List.lookup_cons,hb] using ih
section
variable {X:Cx} {pins:List (Addr×Obj)} {σ:St} {H2:Hp} {s2:Shared}
theorem Jkm {elt tg iter:Expr} {ifs:List Expr} {sc:Scope} {pos:Pos} {nt:Nat} {Nc:List Str} {js:List Nat} {J:It} {fp:List Addr} {it:Addr} {tn:Nat→Heap→Prop} {g:TG} {tc:TT} {te:TE} {Q:Addr→Hp→Prop} {E:Value→Shared→Prop}
  {N:List Str} {names:List (Str×NameKind)} (hcap:JiM N names nt Nc sc js=true) (hNX:X.N=N) (hsX:X.env.scope.names=names)
  (hg:∀ (cl:List (Str×Addr)) (fp:List Addr) (s:Shared) (H:Hp),PG (Y4 X Nc sc cl fp s H) tg g) (hc:∀ (cl:List (Str×Addr)) (fp:List Addr) (s:Shared) (H:Hp),Jog (Y4 X Nc sc cl fp s H) ifs tc)
  (he:∀ (cl:List (Str×Addr)) (fp:List Addr) (s:Shared) (H:Hp),PE (Y4 X Nc sc cl fp s H) elt te) (calm:X.calm=true)
  (I2:Jn X pins σ H2 s2) (T:JlB X.prog X.w X.K tg J fp it tn) (st2:tn 0 s2.heap) (f2:∀ b∈fp,JfE X pins H2 b)
  (hw:∀ D,H2 D=none→Jen J g tc te (List.replicate nt none ++ Jij js σ) D H2 (Q D)) {cl:List (Str×Addr)} (hcl:closureFor sc X.env=pure cl) (hcl1:∀ x c,cl.lookup x=some c→X.env.cells.lookup x=some c) (hcl2:∀ y∈sc.names,y.2=.free→∃ c,cl.lookup y.1=some c) :
  wpAny (model X.prog X.w) X.A (newList []) (fun acc s₃=>wpAny (model X.prog X.w) X.A (newFunctionEnv sc X.env.globals cl [] X.env.qual none .none (some X.env)) (fun cenv s₄ =>
   codeAny (model X.prog X.w) X.A (.compStart (.ListComp elt [⟨tg,iter,ifs,0⟩] sc pos) 0 (.ref it) acc { cenv with scope:=relabel sc X.env }) (fun r s'=>(∃ f,r=.ok f)∧∃ D H',acc=.ref D∧Jn X pins σ H' s'∧(∃ m,s'.heap.Ns cenv.locals m)∧JfE X pins H' cenv.locals∧Q D H') s₄) E s₃) E s2:=by
 simp only [JiM,Bool.and_eq_true,decide_eq_true_eq,List.all_eq_true,beq_iff_eq] at hcap;obtain ⟨⟨⟨⟨nd,hlen⟩,all1⟩,all2⟩,hkind⟩:=hcap;subst hNX hsX;have hcell:∀ y∈sc.names,y.2≠.cell:=fun y hy z=>by
  have q:=all2 y hy;rw [z] at q;simp at q
 refine wpAny_newObj_type (wpAny_newFunctionEnv hcell (by intro y hy; simp at hy) (fun h₁ hns₁ hsb₁=>?_) hkind);have n2:H2 s2.heap.objs.size=none:=I2.hok.fresh (Nat.le_refl _);have I3:Jn X pins σ (upd H2 s2.heap.objs.size (.lst [])) { s2 with heap:=s2.heap.push { cls:=.type "list",data:=.seq ([]:List Value).toArray },toks:=s2.toks } :=
  I2.laid (fun b u e=>Heap.get?_push_of_some _ e) (Nat.le_refl _) ⟨Nat.zero_le _,[],0,.nil,Heap.get?_push_size _ rfl⟩
 obtain ⟨W,⟨m0,w0⟩,step⟩:=hw s2.heap.objs.size n2;generalize eH3:upd H2 s2.heap.objs.size (.lst [])=H3 at I3 w0;generalize es3:({ s2 with heap:=s2.heap.push { cls:=.type "list",data:=.seq ([]:List Value).toArray },toks:=s2.toks }:Shared)=s3 at I3;have e3:s2.heap.push { cls:=.type "list",data:=.seq ([]:List Value).toArray }=s3.heap:=by rw [← es3]
 have old3:∀ b o,s2.heap.get? b=some o→s3.heap.get? b=some o:=fun b o e=>by rw [← e3]; exact Heap.get?_push_of_some _ e
 have old4:∀ b o,s3.heap.get? b=some o→h₁.get? b=some o:=fun b o e=>by
  refine hsb₁.extBut b o ?_ (Heap.get?_push_of_some _ (by rw [← e3] at e; exact e));have:=Heap.lt_size e;rw [← e3] at this;exact Nat.ne_of_lt this
 have eC:(s2.heap.push { cls:=.type "list",data:=.seq ([]:List Value).toArray }).objs.size=s3.heap.objs.size:=by rw [e3]
 have fpold:∀ b∈fp,b < s3.heap.objs.size:=fun b hb=>by
  obtain ⟨o,e,_⟩:=T.obj 0 _ st2 b hb;exact Heap.lt_size (old3 b o e)
 have ok:(Y4 X Nc sc cl fp s3 H3).Ok:=⟨I3.mod,hkind,I3.ok.glob,I3.ok.blt,Nat.le_refl _,fun x y c e1 e2=>I3.ok.inj x y c (hcl1 _ _ e1) (hcl1 _ _ e2),fun x hx=>?_,fun x c z=>(by cases z),fun _=>I3.ok.hd calm,I3.ok.frames,.inl rfl,
  fun b hb=>⟨Nat.ne_of_lt (fpold b hb),fun x c e=>(f2 b hb).2.2.2.2.1 x c (hcl1 _ _ e)⟩,I3.bs,Nat.le_trans I3.ok.bsz I3.sz,fun b o e hb=>?_,fun b hb hm=>?_,I3.stack,I3.stkFree⟩
 rotate_left
 ·have hx:(relabel sc X.env).names.lookup x=some .cell∨(relabel sc X.env).names.lookup x=some .free:=hx;have k:sc.names.lookup x=some .free:=by
   rcases hx with hx | hx
   ·obtain ⟨k,e,z⟩:=JeS hx;rcases z with z | z
    ·subst z; exact absurd rfl (hcell _ (PySem.mem_of_lookup e))
    ·rw [z.1] at e; exact e
   ·obtain ⟨k,e,z⟩:=JeS hx;rcases z with z | z
    ·subst z; exact e
    ·cases z.2
  exact hcl2 _ (PySem.mem_of_lookup k) rfl
 ·rcases (f2 b hb).2.2.2.1 with z | z
  ·exact I3.ok.noex b o e z
  ·exact absurd (Nat.lt_of_lt_of_le (Heap.lt_size (I3.ok.bs b o e).1) z) (Nat.lt_irrefl _)
 ·rcases List.mem_cons.mp (I3.stkSub b hm) with z | z
  ·exact (f2 b hb).2.1 z
  ·exact (f2 b hb).2.2.1 z
 have Ic:Jn (Y4 X Nc sc cl fp s3 H3) [] (List.replicate nt none ++ Jij js σ) H3 { s3 with heap:=h₁,toks:=s3.toks + ([]:List (Str×Value)).length }:=by
  refine ⟨ok,rfl,I3.bare,Un.kept old4,⟨_,(by have z:=hns₁; rw [eC] at z; exact z),fun i x v e1 e2 e3'=>?_⟩,fun x c e=>?_,I3.hok.fresh (Nat.le_refl _),fun x c e=>I3.freeC x c (hcl1 _ _ e),(fun p hp=>nomatch hp),I3.hok.kept old4,?_⟩
  ·have hi:nt≤i:=by
    refine Nat.le_of_not_lt fun z=>?_
    rw [List.getElem?_append_left (by simpa using z),List.getElem?_replicate] at e2;split at e2 <;> cases e2
   obtain ⟨k,rfl⟩:∃ k,i=nt + k:=⟨i - nt,by omega⟩
   rw [List.getElem?_append_right (by simp),List.length_replicate,Nat.add_sub_cancel_left] at e2;unfold Jij at e2;rw [List.getElem?_map] at e2;cases hj:js[k]? with
   | none=>rw [hj] at e2; cases e2
   | some j =>
    rw [hj] at e2;have e2':(σ[j]?).join=some v:=Option.some.inj e2;have e2'':σ[j]?=some (some v):=by
     cases q:σ[j]? with
     | none=>rw [q] at e2'; cases e2'
     | some o=>rw [q] at e2'; rw [show o=some v from e2']
    have hz:(x,j)∈(Nc.drop nt).zip js:=by
     refine List.mem_of_getElem? (i:=k) ?_;rw [List.getElem?_zip_eq_some];exact ⟨by rw [List.getElem?_drop]; exact e1,hj⟩
    obtain ⟨⟨q1,q2⟩,q3⟩:=all1 _ hz;obtain ⟨m,hn,hl⟩:=I3.loc;obtain ⟨u,r,look⟩:=hl j x v q1 e2'' (Or.inr (Or.inl q3));refine ⟨u,r,.inr ⟨JeT q2,?_⟩⟩;obtain ⟨c',hc'⟩:=hcl2 _ (PySem.mem_of_lookup q2) rfl;rcases look with ⟨z,_⟩ | ⟨_,c,z1,z2⟩
    ·have z:X.env.scope.names.lookup x=some .local:=z;rw [q3] at z; cases z
    ·have z3:=hcl1 _ _ hc';rw [z1] at z3;cases z3;obtain ⟨o,ho,hd⟩:=z2;exact ⟨_,hc',o,old4 _ _ ho,hd⟩
  ·obtain ⟨v,o,ho,hd⟩:=I3.cell x c (hcl1 _ _ e);exact ⟨v,o,old4 _ _ ho,hd⟩
  ·show (List.replicate nt none ++ Jij js σ).length=Nc.length;unfold Jij;rw [List.length_append,List.length_replicate,List.length_map,hlen]
 have fpok:∀ {H:Hp},(∀ b∈fp,H b=none)→∀ b∈fp,JfE (Y4 X Nc sc cl fp s3 H3) [] H b:=fun hn b hb =>
  ⟨hn b hb,Nat.ne_of_lt (fpold b hb),ok.exfs b hb,.inl hb,fun x c e=>(f2 b hb).2.2.2.2.1 x c (hcl1 _ _ e),(fun p hp=>nomatch hp)⟩
 have fr0:∀ b∈fp,H3 b=none:=fun b hb=>by
  rw [← eH3,Js (Nat.ne_of_lt (by obtain ⟨o,e,_⟩:=T.obj 0 _ st2 b hb; exact Heap.lt_size e))];exact (f2 b hb).1
 have st4:tn 0 h₁:=T.keep 0 _ _ st2 fun b hb o e=>old4 b o (old3 b o e)
 have back:∀ {σ':St} {H:Hp} {s':Shared} {pn:List (Addr×Obj)},Jn (Y4 X Nc sc cl fp s3 H3) pn σ' H s'→Jn X pins σ H s':=fun {σ' H s' pn} Jv =>
  I3.call' (ch:=fp) Jv.os Jv.base Jv.hok Jv.bare fun b hb=>⟨(f2 b hb).2.2.2.1,(f2 b hb).2.1,(f2 b hb).2.2.2.2.1,(f2 b hb).2.2.2.2.2⟩
 have loop:codeAny (model X.prog X.w) X.A (.compLoop (.ListComp elt [⟨tg,iter,ifs,0⟩] sc pos) 0 (.ref it) (.ref s2.heap.objs.size) (compEnvC sc cl s3.heap.objs.size X.env))
   (fun r s'=>(∃ f,r=.ok f)∧∃ D H',(Value.ref s2.heap.objs.size)=.ref D∧Jn X pins σ H' s'∧(∃ m,s'.heap.Ns s3.heap.objs.size m)∧JfE X pins H' s3.heap.objs.size∧Q D H') { s3 with heap:=h₁,toks:=s3.toks + ([]:List (Str×Value)).length }:=by
  refine JpS (fun n s'=>∃ i ys H,Jn (Y4 X Nc sc cl fp s3 H3) [] (List.replicate nt none ++ Jij js σ) H s'∧tn i s'.heap∧(∀ b∈fp,H b=none)∧W i n ys H) ?_ m0 ⟨0,[],H3,Ic,st4,fr0,w0⟩;rintro n s' ⟨i,ys,H,I,st,fr,w⟩;obtain ⟨hD,⟨stop,qn⟩ | ⟨go,Nx,hNx,stepx⟩⟩:=step i n ys H w
  ·refine J3 (T.done (Y4 X Nc sc cl fp s3 H3) rfl rfl rfl calm i [] s' _ H _ I (fpok fr) st stop) fun r s1 ⟨hr,I1⟩=>?_
   subst hr;obtain ⟨m,hn,_⟩:=I1.loc;exact ⟨⟨_,rfl⟩,_,H,rfl,back I1,⟨m,hn⟩,I3.fpOk (Nat.le_refl _) I1.free,qn⟩
  ·refine J3 (T.item (Y4 X Nc sc cl fp s3 H3) rfl rfl rfl calm i [] s' _ H _ I (fpok fr) st go) fun r s1 ⟨u,hr,h4⟩=>?_
   subst hr;refine J3 h4 fun _ s5 ⟨x,H5,I5,r5,y5,st5,fr5⟩=>?_
   have I5':=I5.pinned (fpok fr5) (T.obj _ _ st5);refine J3 (hg cl fp s3 H3 _ s5 _ H5 x u _ I5' r5 (stepx x H5 y5)) fun _ s6 ⟨σ6,H6,I6,ag,q6⟩=>?_
   have again:∀ {H7:Hp} {s7:Shared} {m':Nat} {zs:List V},Jn (Y4 X Nc sc cl fp s3 H3) ([] ++ JhH fp s5.heap) σ6 H7 s7→m' < n→W (i + 1) m' zs H7→∃ m,m < n∧∃ i ys H,Jn (Y4 X Nc sc cl fp s3 H3) [] (List.replicate nt none ++ Jij js σ) H s7∧tn i s7.heap∧(∀ b∈fp,H b=none)∧W i m ys H:=fun {H7 s7 m' zs} I7 hm w7=>by
    refine ⟨m',hm,i + 1,zs,H7,I7.unpinned.weak ag.1.symm ag.2,T.keep _ _ _ st5 fun b hb o e=>(I7.pin (b,o) (List.mem_append_right _ (List.mem_append_right _ (Jeg hb e)))).1,fun b hb=>?_,w7⟩;obtain ⟨o,e,d⟩:=T.obj _ _ st5 b hb;exact (I7.pin (b,o) (List.mem_append_right _ (List.mem_append_right _ (Jeg hb e)))).2.1
   refine J3 (hc cl fp s3 H3 _ s6 σ6 H6 _ I6 q6) fun bk s7 ⟨H7,I7,q7⟩=>?_
   cases bk with
   | false =>
    rw [if_neg Bool.false_ne_true] at q7 ⊢;obtain ⟨m',hm,w7⟩:=hNx _ _ q7;exact again I7 hm w7
   | true =>
    rw [if_pos rfl] at q7 ⊢;refine J3 (he cl fp s3 H3 _ s7 σ6 H7 _ I7 q7) fun xv s8 ⟨v,H8,I8,r8,hD8,hlen8,qN⟩=>?_
    obtain ⟨m',hm,w8⟩:=hNx _ _ qN;refine J3 (ZF _ s8 σ6 H8 (.ref s2.heap.objs.size) [v] (.ref s2.heap.objs.size) [xv] (fun _ H9=>H9=upd H8 s2.heap.objs.size (.lst (ys ++ [v]))) I8 rfl (.cons r8 .nil) ?_) fun _ s9 ⟨_,H9,I9,_,e9⟩=>?_
    ·exact ⟨_,_,_,rfl,rfl,hD8,hlen8,rfl⟩
    ·subst e9;exact again I9 hm w8
 rw [eC] at *;exact codeAny_compStart_list loop (T.self _ 0 _ _ _ st4 loop)
def tLC (wi:TI) (g:TG) (tc:TT) (te:TE) (nt:Nat) (js:List Nat):TE:=fun σ H Q=>wi σ H fun J H1=>∀ D,H1 D=none→Jen J g tc te (List.replicate nt none ++ Jij js σ) D H1 fun H'=>Q (.ref D) H'
theorem Jl7 {N:List Str} {names:List (Str×NameKind)} {nt:Nat} {Nc:List Str} {sc:Scope} {js:List Nat} (h:JiM N names nt Nc sc js=true):(∀ y∈sc.names,y.2=.local→sc.names.lookup y.1=some .local)∧(∀ y∈sc.names,y.2=.free→names.lookup y.1=some .cell)∧sc.kind=.function:=by
 simp only [JiM,Bool.and_eq_true,decide_eq_true_eq,List.all_eq_true,beq_iff_eq] at h;obtain ⟨⟨⟨⟨nd,hlen⟩,all1⟩,all2⟩,hkind⟩:=h;refine ⟨fun y hy hl=>?_,fun y hy hl=>?_,hkind⟩
 ·have q:=all2 y hy;rw [hl] at q;simpa using q
 ·have q:=all2 y hy;rw [hl] at q;simpa using q
theorem Jg1 {elt tg iter:Expr} {ifs:List Expr} {sc:Scope} {pos:Pos} {nt:Nat} {Nc:List Str} {js:List Nat} {wi:TI} {g:TG} {tc:TT} {te:TE} {N:List Str} {names:List (Str×NameKind)}
  (hcap:JiM N names nt Nc sc js=true) (hi:PI X tg iter wi)
  (hg:∀ (cl:List (Str×Addr)) (fp:List Addr) (s:Shared) (H:Hp),PG (Y4 X Nc sc cl fp s H) tg g) (hc:∀ (cl:List (Str×Addr)) (fp:List Addr) (s:Shared) (H:Hp),Jog (Y4 X Nc sc cl fp s H) ifs tc)
  (he:∀ (cl:List (Str×Addr)) (fp:List Addr) (s:Shared) (H:Hp),PE (Y4 X Nc sc cl fp s H) elt te) (hNX:X.N=N:=by rfl) (hsX:X.env.scope.names=names:=by rfl) (calm:X.calm=true:=by rfl)
  (hs:∀ x,foldedSetIterable iter X.env x=pure x:=by intro _; rfl):PE X (.ListComp elt [⟨tg,iter,ifs,0⟩] sc pos) (tLC wi g tc te nt js):=by
 intro pins s σ H Q I h;obtain ⟨hn1,hn2,hkind⟩:=Jl7 hcap;obtain ⟨cl,hcl,hcl1,hcl2⟩:=Jkn (sc:=sc) (env:=X.env) fun y hy hf=>I.ok.has y.1 (.inl (by show X.env.scope.names.lookup y.1=_; rw [hsX]; exact hn2 y hy hf))
 rw [eval_ListComp];refine wpAny_comprehension_free (use:=none) rfl hs hcl hkind hn1 (J3 (hi pins s σ H _ I h) fun v s1 h1=>J3 h1 fun itv s2 h2=>?_);obtain ⟨it,fp,tn,J,H2,e,I2,T,st2,f2,hw⟩:=h2;subst e;refine wpAny_mono (Jkm (E:=fun _ _=>False) (Q:=fun D H'=>Q (.ref D) H') hcap hNX hsX hg hc he calm I2 T st2 f2 hw hcl hcl1 hcl2) (fun acc s3 h3=>wpAny_mono h3 (fun cenv s4 h4=>codeAny_mono h4 fun r s' hr=>?_) fun _ _ z=>z.elim) fun _ _ z=>z.elim
 obtain ⟨⟨f,rfl⟩,D,H',rfl,Jv,⟨m,hn⟩,fC,q⟩:=hr;obtain ⟨f0,f1,f2',f3,f4,f5⟩:=fC;exact ⟨m,hn,fun h' hs'=>⟨.ref D,H',Jv.turned (t':=s'.toks) (fun b o hb e=>(hs'.2 b hb).trans e) f0 f1 f3 f4 f5,rfl,q⟩⟩
theorem Jpp {elt tg iter:Expr} {ifs:List Expr} {sc:Scope} {pos spos py:Pos} {y:Str} {i:Nat} {nt:Nat} {Nc:List Str} {js:List Nat} {wi:TI} {g:TG} {tc:TT} {te:TE} {N:List Str} {names:List (Str×NameKind)}
  (hcap:JiM N names nt Nc sc js=true) (hN:X.N.Nodup) (hiy:X.N[i]?=some y) (hi:PI X tg iter wi)
  (hg:∀ (cl:List (Str×Addr)) (fp:List Addr) (s:Shared) (H:Hp),PG (Y4 X Nc sc cl fp s H) tg g) (hc:∀ (cl:List (Str×Addr)) (fp:List Addr) (s:Shared) (H:Hp),Jog (Y4 X Nc sc cl fp s H) ifs tc)
  (he:∀ (cl:List (Str×Addr)) (fp:List Addr) (s:Shared) (H:Hp),PE (Y4 X Nc sc cl fp s H) elt te) (hNX:X.N=N:=by rfl) (hsX:X.env.scope.names=names:=by rfl) (calm:X.calm=true:=by rfl)
  (hsw:swapsWith (.ListComp elt [⟨tg,iter,ifs,0⟩] sc pos) (some (.Name y py)) spos.line X.env=pure true:=by rfl) (hy:X.env.scope.names.lookup y=some .local:=by rfl)
  (hs:∀ x,foldedSetIterable iter X.env x=pure x:=by intro _; rfl):PS X (.Assign [.Name y py] (.ListComp elt [⟨tg,iter,ifs,0⟩] sc pos) spos) (JrN (tLC wi g tc te nt js) (Ja4 i)):=by
 intro pins s σ H D0 I h;obtain ⟨hn1,hn2,hkind⟩:=Jl7 hcap;obtain ⟨cl,hcl,hcl1,hcl2⟩:=Jkn (sc:=sc) (env:=X.env) fun y hy hf=>I.ok.has y.1 (.inl (by show X.env.scope.names.lookup y.1=_; rw [hsX]; exact hn2 y hy hf))
 rw [exec_Assign_Name_used _ _ _ _ hsw];refine wpAny_bind (wpAny_standAt (wpAny_bind ?_));show wpAny _ X.A (do let _ ← comprehension (.ListComp elt [⟨tg,iter,ifs,0⟩] sc pos) sc X.env _ (newList []) false (eval iter X.env) (some (assign (.Name y py) X.env))) _ _ s;refine wpAny_bind (wpAny_mono (wpAny_comprehension_free (use:=some (assign (.Name y py) X.env)) (Q:=fun _ s'=>SP X pins D0 .next s') rfl hs hcl hkind hn1
  (J3 (hi pins s σ H _ I h) fun v s1 h1=>J3 h1 fun itv s2 h2=>?_)) (fun _ s' hq=>wpAny_pure (wpAny_pure hq)) fun _ _ e=>e)
 obtain ⟨it,fp,tn,J,H2,e,I2,T,st2,f2,hw⟩:=h2;subst e;refine wpAny_mono (Jkm (E:=fun _ _=>False) (Q:=fun D H'=>Ja4 i (.ref D) σ H' D0.nx) hcap hNX hsX hg hc he calm I2 T st2 f2 hw hcl hcl1 hcl2) (fun acc s3 h3=>wpAny_mono h3 (fun cenv s4 h4=>codeAny_mono h4 fun r s' hr=>?_) fun _ _ z=>z.elim) fun _ _ z=>z.elim
 obtain ⟨⟨f,rfl⟩,D,H',rfl,Jv,⟨m,hn⟩,fC,q⟩:=hr;obtain ⟨f0,f1,f2',f3,f4,f5⟩:=fC;show wpAny _ X.A (assign (.Name y py) X.env (.ref D)) _ _ _;refine wpAny_assign_Name (JlN Jv hN hiy (Or.inl hy) (v:=.ref D) rfl (fun s'' I'' ⟨a,hsame,ha⟩=>?_) (Or.inr hy));refine ⟨m,hn.sameBut hsame ?_,fun h' hs'=>⟨_,H',I''.turned (t':=s''.toks) (fun b o hb e=>(hs'.2 b hb).trans e) f0 f1 f3 f4 f5,q⟩⟩;rcases ha with rfl | ha
 ·exact f1
 ·exact (f4 y a ha).symm
end
section
variable {X:Cx} {Nc:List Str} {sc:Scope} {cl:List (Str×Addr)} {fp:List Addr} {s:Shared} {H:Hp} {x:Str} {pos:Pos}
theorem JaR (i:Nat) (hN:Nc[i]?=some x:=by rfl) (hf:sc.names.lookup x=some .free:=by rfl) (hd:(x == ("__debug__" : Str))=false:=by decide) (hcd:(x == ("__classdict__" : Str))=false:=by decide):PE (Y4 X Nc sc cl fp s H) (.Name x pos) (Jo8 i) :=
 Jnr hN (Or.inr (JeT hf)) hd hcd
theorem ZN (i:Nat) (hN:Nc[i]?=some x:=by rfl) (hl:sc.names.lookup x=some .local:=by rfl) (hd:(x == ("__debug__" : Str))=false:=by decide) (hcd:(x == ("__classdict__" : Str))=false:=by decide):PE (Y4 X Nc sc cl fp s H) (.Name x pos) (Jo8 i) :=
 Jnr hN (Or.inl (lookup_relabel_local hl)) hd hcd
theorem Jar (i:Nat) (nd:Nc.Nodup) (hN:Nc[i]?=some x:=by rfl) (hl:sc.names.lookup x=some .local:=by rfl):PG (Y4 X Nc sc cl fp s H) (.Name x pos) (Ja4 i) :=
 YA nd hN (Or.inl (lookup_relabel_local hl)) (Or.inr (lookup_relabel_local hl))
end
section
variable {tc:TT} {te:TE} {σc:St} {D:Addr} {H1:Hp} {Q:Hp→Prop}
theorem Jlx {J:It} {n:Nat} {X1:Nat→V→Prop} (Pv:Nat→List V→Hp→Prop) (h00:σc[0]?=some none) (hgo:∀ i H,i < n→(∃ ys,Pv i ys H)→J.go i H∧∀ x H',J.yld i H x H'→H'=H∧X1 i x) (hstop:∀ H,(∃ ys,Pv n ys H)→J.stop n H)
  (h0:Pv 0 [] (upd H1 D (.lst []))) (hl:∀ i ys H,Pv i ys H→H D=some (.lst ys))
  (hs:∀ i x ys H,i < n→X1 i x→Pv i ys H→tc (σc.set 0 (some x)) H fun b H3=>if b=true then te (σc.set 0 (some x)) H3 fun v H4=>H4 D=some (.lst ys)∧ys.length < sizeLine∧Pv (i + 1) (ys ++ [v]) (upd H4 D (.lst (ys ++ [v]))) else Pv (i + 1) ys H3)
  (hd:∀ ys H,Pv n ys H→Q H):Jen J (Ja4 0) tc te σc D H1 Q:=by
 refine ⟨fun i m ys H=>m=n - i∧i≤n∧Pv i ys H,⟨n,by simp,Nat.zero_le _,h0⟩,?_⟩;rintro i m ys H ⟨rfl,hi,p⟩;refine ⟨hl _ _ _ p,?_⟩;by_cases hlt:i < n
 ·obtain ⟨g1,g2⟩:=hgo i H hlt ⟨_,p⟩;refine .inr ⟨g1,Pv (i + 1),fun zs H' p'=>⟨n - (i + 1),by omega,rfl,hlt,p'⟩,fun x H' y=>?_⟩;obtain ⟨e,y1⟩:=g2 x H' y;subst e;exact ⟨(JfX.refl _).set h00,hs i x ys _ hlt y1 p⟩
 ·have e:i=n:=by omega
  subst e;exact .inl ⟨hstop H ⟨_,p⟩,hd _ _ p⟩
theorem Jkk {lo:Int} {n:Nat} (Pv:Nat→List V→Hp→Prop) (h00:σc[0]?=some none) (h0:Pv 0 [] (upd H1 D (.lst []))) (hl:∀ i ys H,Pv i ys H→H D=some (.lst ys))
  (hs:∀ i ys H,i < n→Pv i ys H→tc (σc.set 0 (some (.int (lo + i)))) H fun b H3=>if b=true then te (σc.set 0 (some (.int (lo + i)))) H3 fun v H4=>H4 D=some (.lst ys)∧ys.length < sizeLine∧Pv (i + 1) (ys ++ [v]) (upd H4 D (.lst (ys ++ [v]))) else Pv (i + 1) ys H3)
  (hd:∀ ys H,Pv n ys H→Q H):Jen (Itr lo n) (Ja4 0) tc te σc D H1 Q :=
 Jlx (n:=n) (X1:=fun i x=>x=.int (lo + i)) Pv h00 (fun i H hi _=>⟨hi,fun x H' y=>y⟩) (fun H _=>Nat.le_refl _) h0 hl (fun i x ys H hi hx p=>by subst hx; exact hs i ys H hi p) hd
end
end L2
namespace L2
open PySem PySem.Spec PyProof.Rows
section
variable {X:Cx} {e v1 v2:Expr} {es:List Expr} {te:TE} {pos:Pos}
def Juu (te:TE):TE:=fun σ H Q=>te σ H fun v H1=>∃ z,v=.str z∧(reprText z).length≤sizeLine∧Q (.str (reprText z)) H1
theorem JeV (he:PE X e te):PE X (.FormattedValue e 114 none pos) (Juu te):=by
 intro pins s σ H Q I h;refine wpAny_FormattedValue_repr (J3 (he pins s σ H _ I h) fun v s1 ⟨x,H1,I1,r1,z,ez,hz,q⟩=>?_);subst ez;obtain ⟨t,rfl⟩:=r1;refine pyReprObj_str (PyProof.Rows.formatField_str (fun t' tk=>?_) hz) hz;exact ⟨.str (reprText z),H1,(I1.tok _).tok _,⟨_,rfl⟩,q⟩
def Jo9 (te:TE):TE:=fun σ H Q=>te σ H fun v H1=>∃ i:Int,v=.int i∧i.natAbs.log2 < 1920∧Q (.str (toString i)) H1
theorem Jk4 (he:PE X e te):PE X (.FormattedValue e (-1) none pos) (Jo9 te):=by
 intro pins s σ H Q I h;refine PyProof.Rows.FormattedValue_plain (J3 (he pins s σ H _ I h) fun v s1 ⟨x,H1,I1,r1,i,ei,hi,q⟩=>?_);subst ei;obtain ⟨t,rfl⟩:=r1;exact PyProof.Rows.formatField_int_small hi ⟨.str (toString i),H1,I1.tok _,⟨_,rfl⟩,q⟩
def JjK:List TE→Str→TE
 | [],acc=>fun _ H Q=>acc.length≤sizeLine∧Q (.str acc) H
 | t :: r,acc=>fun σ H Q=>t σ H fun v H1=>∃ y,v=.str y∧(acc ++ y).length≤sizeLine∧JjK r (acc ++ y) σ H1 Q
inductive PJ (X:Cx):List Expr→List TE→Prop
 | nil:PJ X [] []
 | cons {e:Expr} {t:TE} {es:List Expr} {ts:List TE}:PE X e t→PJ X es ts→PJ X (e :: es) (t :: ts)
theorem JnN {pins:List (Addr×Obj)} {σ:St} {Q:VK}:∀ {es:List Expr} {ts:List TE} {acc:Str} {s:Shared} {H:Hp},PJ X es ts→Jn X pins σ H s→JjK ts acc σ H Q →
  Joins (model X.prog X.w) X.A X.xe (es.map fun e=>eval e X.env) acc (fun out s₁=>out.length≤sizeLine∧EP X pins σ Q (.str out s₁.toks) { s₁ with toks:=s₁.toks + 1 }) s
 | _,_,acc,s,H,.nil,I,h=>⟨h.1,.str acc,H,I.tok _,⟨_,rfl⟩,h.2⟩
 | _,_,acc,s,H,.cons p r,I,h=>by
  refine J3 (p pins s σ H _ I h) fun v s1 ⟨x,H1,I1,r1,y,ey,hy,q⟩=>?_
  subst ey;obtain ⟨t,rfl⟩:=r1;exact ⟨y,t,rfl,hy,JnN r I1 q⟩
theorem JbL {ts:List TE} (h:PJ X (v1 :: v2 :: es) ts) (he:evalEach (v1 :: v2 :: es) X.env=(v1 :: v2 :: es).map fun e=>eval e X.env:=by rfl):PE X (.JoinedStr (v1 :: v2 :: es) pos) (JjK ts Str.empty):=by
 intro pins s σ H Q I hq;refine wpAny_JoinedStr ?_;rw [he];exact JnN h I hq
end
theorem Jkq:bootBuiltins "ValueError" = some (.type "ValueError"):=by decide +kernel
section
variable {X:Cx}
theorem JuH:SlR X (fun x lo hi H Q=>∃ z,x=.str z∧z.length≤sizeLine∧Q (.str (Txt.slice z lo hi)) H):=by
 intro pins s σ H x v vl vu lo hi sl Q I rx hs pl pu h;obtain ⟨z,rfl,hz,q⟩:=h;obtain ⟨t,rfl⟩:=rx;obtain ⟨o,ho,hc,hd⟩:=hs;have fin:∀ t' k,EP X pins σ Q (.str (Txt.slice z lo hi) t') { s with toks:=k }:=fun t' k=>⟨.str (Txt.slice z lo hi),H,I.tok _,⟨_,rfl⟩,q⟩
 refine ⟨"str",_,F.slot_str_getitem.lookup,typeIs_str _ _ _,?_⟩;cases pl with
 | none =>
  cases pu with
  | none=>exact wpAny_getItem_str_slice (l:=none) (u:=none) (st:=none) ⟨o,ho,hc,hd⟩ rfl (post_val_or_str ⟨Nat.le_trans (Txt.slice_le z _ _) hz,fun t' k=>fin t' k⟩)
  | int j uj=>exact wpAny_getItem_str_slice (l:=none) (u:=some (j,uj)) (st:=none) ⟨o,ho,hc,hd⟩ rfl (post_val_or_str ⟨Nat.le_trans (Txt.slice_le z _ _) hz,fun t' k=>fin t' k⟩)
 | int i ui =>
  cases pu with
  | none=>exact wpAny_getItem_str_slice (l:=some (i,ui)) (u:=none) (st:=none) ⟨o,ho,hc,hd⟩ rfl (post_val_or_str ⟨Nat.le_trans (Txt.slice_le z _ _) hz,fun t' k=>fin t' k⟩)
  | int j uj=>exact wpAny_getItem_str_slice (l:=some (i,ui)) (u:=some (j,uj)) (st:=none) ⟨o,ho,hc,hd⟩ rfl (post_val_or_str ⟨Nat.le_trans (Txt.slice_le z _ _) hz,fun t' k=>fin t' k⟩)
theorem JlS:ZS X (compareOp .LtE) (fun x y H Q=>∃ i j,x=.str i∧y=.str j∧Q (.bl (!decide (j.cps.toList < i.cps.toList))) H):=by
 intro pins s σ H x y v u Q I rx ry h;obtain ⟨i,j,rfl,rfl,q⟩:=h;obtain ⟨t,rfl⟩:=rx;obtain ⟨t',rfl⟩:=ry;exact PySem.P.le_str ⟨.bl _,H,I,rfl,q⟩
theorem JkD:∀ {ys:List Str} {us:List Value},JK (ys.map V.str) us→StrsAre us ys
 | [],_,r=>by cases r; exact .nil
 | y :: ys,_,r=>by
  cases r with
  | cons r rr =>
   obtain ⟨t,rfl⟩:=r;exact .cons y t (JkD rr)
theorem Juc:MtR X "str.join" (fun x xs H Q=>∃ z l ys,x=.str z∧xs=[.ref l]∧JA X.K H l (ys.map V.str)∧(ys.map (·.length)).sum + ys.length * z.length≤16777216∧Q (.str (Txt.join z ys)) H):=by
 intro pins s σ H x xs v us Q I rx rs h;obtain ⟨z,l,ys,rfl,rfl,hl,hz,q⟩:=h;obtain ⟨t,rfl⟩:=rx;obtain ⟨u,rfl,ru⟩:=JK.one rs;cases ru;obtain ⟨its,r,pl,_⟩:=I.list hl;exact PyProof.Rows.join_list pl.isList (by simpa using JkD r) hz fun t' k=>⟨.str (Txt.join z ys),H,I.tok _,⟨_,rfl⟩,q⟩
theorem JsH:MtR X "str.upper" (fun x xs H Q=>∃ z,x=.str z∧xs=[]∧z.length≤5592405∧Q (.str (Txt.upper z)) H):=by
 intro pins s σ H x xs v us Q I rx rs h;obtain ⟨z,rfl,rfl,hz,q⟩:=h;obtain ⟨t,rfl⟩:=rx;cases rs;exact PyProof.Rows.SCL.upper hz fun _=>⟨.str (Txt.upper z),H,I.tok _,⟨_,rfl⟩,q⟩
end
def Its (z:Str):It:=⟨fun i _=>i < z.length,fun i H x H'=>H'=H∧∃ c,z.cps[i]?=some c∧x=.str ⟨#[c]⟩,fun i _=>z.length≤i⟩
theorem JmO {P:Program} {w:World} {K:PySem.W.Frag} {tg:Expr} (it:Addr) (z:Str) (t:Tok) (ty:String) (hty:ty = "str_ascii_iterator"∨ty = "str_iterator") (W:∀ A':Around,A'.handled=none→Walks P w A' it [it] [it] z.cps.size (SignAt z) (fun i h=>h.IsStrIter it ty z t i)) :
  JlB P w K tg (Its z) [it] it (fun i h=>i≤z.cps.size∧h.IsStrIter it ty z t i) where
 mem:=by simp
 obj:=fun i h st b hb=>by
  have e:b=it:=by simpa using hb
  subst e;obtain ⟨_,o,e,c,d⟩:=st;exact ⟨o,e,fun v z=>by rw [d] at z; cases z⟩
 keep:=fun i h h' st k=>let ⟨hi,o,e,r⟩:=st; ⟨hi,o,k it (by simp) o e,r⟩
 item:=by
  intro X hP hw hK hc i pins s σ H E I hf st hg;subst hP hw hK;obtain ⟨f0,f1,f2,f3,f4,f5⟩:=hf it (by simp);have hi:i < z.cps.size:=hg;refine (W X.A (I.ok.hd hc)).item i s _ _ hi st.2 fun v h' tk hv st' kk=>?_
  obtain ⟨c,u,hc',rfl⟩:=hv;have I1:Jn X pins σ H { s with heap:=h',toks:=tk }:=I.turned (fun b o hb e=>kk b o (by simpa using hb) e) f0 f1 f3 f4 f5;obtain ⟨o,e,hcl,d⟩:=id st';exact ⟨_,rfl,JmJ (s:={ s with heap:=h',toks:=tk }) (n:=ty) e hcl d (by rcases hty with rfl | rfl <;> decide) ⟨.str ⟨#[c]⟩,H,I1,⟨u,rfl⟩,⟨rfl,c,hc',rfl⟩,⟨hi,st'⟩,fun b hb=>(hf b hb).1⟩⟩
 done:=by
  intro X hP hw hK hc i pins s σ H E I hf st hg;subst hP hw hK;obtain ⟨f0,f1,f2,f3,f4,f5⟩:=hf it (by simp);have hi:z.cps.size≤i:=hg;obtain rfl:i=z.cps.size:=Nat.le_antisymm st.1 hi;exact (W X.A (I.ok.hd hc)).done s _ _ st.2 fun h' tk kk=>⟨rfl,I.turned (fun b o hb e=>kk b o (by simpa using hb) e) f0 f1 f3 f4 f5⟩
 self:=fun A i s Q E st h=>by
  rcases hty with rfl | rfl
  ·exact wpAny_pyIter_striter_ascii st.2 h
  ·exact wpAny_pyIter_striter_wide st.2 h
section
variable {X:Cx} {tg:Expr}
def JwE (tl:TE):TI:=fun σ H R=>tl σ H fun x H1=>∃ z,x=.str z∧R (Its z) H1
theorem Ju2 {l:Expr} {tl:TE} (hl:PE X l tl):PI X tg l (JwE tl):=by
 intro pins s σ H R I h;refine J3 (hl pins s σ H _ I h) fun v s1 ⟨x,H1,I1,r1,z,ez,q⟩=>?_
 subst ez;obtain ⟨t,rfl⟩:=r1;have fp:∀ b∈[s1.heap.objs.size],JfE X pins H1 b:=fun b hb=>by
  have e:b=s1.heap.objs.size:=by simpa using hb
  subst e;exact I1.fpOk (Nat.le_refl _) (I1.hok.fresh (Nat.le_refl _))
 cases ha:z.cps.all (· < 128)
 ·refine wpAny_pyIter_wide ha ?_;exact ⟨s1.heap.objs.size,[s1.heap.objs.size],_,_,H1,rfl,I1.kept (t':=s1.toks) fun b o e=>Heap.get?_push_of_some _ e,JmO _ z t "str_iterator" (.inr rfl) (fun A' hA=>Walks.strWide hA _ z t),⟨Nat.zero_le _,_,Heap.get?_push_size _ rfl,rfl,rfl⟩,fp,q⟩
 ·refine wpAny_pyIter_ascii ha ?_;exact ⟨s1.heap.objs.size,[s1.heap.objs.size],_,_,H1,rfl,I1.kept (t':=s1.toks) fun b o e=>Heap.get?_push_of_some _ e,JmO _ z t "str_ascii_iterator" (.inl rfl) (fun A' hA=>Walks.strAscii hA _ z t),⟨Nat.zero_le _,_,Heap.get?_push_size _ rfl,rfl,rfl⟩,fp,q⟩
end
section
variable {X:Cx}
theorem JtA {bs:List Bool}:∀ {us:List Value},JK (bs.map V.bl) us→us=bs.map Value.bool:=by
 induction bs with
 | nil=>intro us r; cases r; rfl
 | cons b bs ih =>
  intro us r;cases r with
  | cons r rr =>
   cases (show _=Value.bool b from r);rw [ih rr]; rfl
theorem Js5 (hc:X.calm=true):Yl X (.builtin "all") (fun xs H Q=>∃ (l:Addr) (bs:List Bool),xs=[.ref l]∧JA X.K H l (bs.map V.bl)∧Q (.bl (bs.all id)) H):=by
 intro pins s σ H xs us Q I r h;obtain ⟨l,bs,rfl,hl,q⟩:=h;obtain ⟨u,rfl,ru⟩:=JK.one r;cases ru;obtain ⟨its,rv,pl,hz⟩:=I.list hl;have e:=JtA rv;subst e;refine call_all_walk (wpAny_pyIter_list pl.isList ?_);have hlt:l < s.heap.objs.size:=by obtain ⟨o,n,e,_⟩:=pl; exact Heap.lt_size e
 refine ⟨_,_,_,_,_,_,fun i=>(bs[i]?).getD true,rfl,Walks.list (A:=X.A.in1) (I.ok.hd hc) s.heap.objs.size l (Nat.ne_of_lt hlt) (bs.map Value.bool).toArray,?_,?_,fun h' tk kk=>?_⟩
 ·exact ⟨⟨_,Heap.get?_push_size _ rfl,rfl,rfl⟩,(by obtain ⟨o,n,e,c,d1,d2⟩:=pl; exact ⟨o,Heap.get?_push_of_some _ e,c,n,d2⟩)⟩
 ·intro i v s' Q' E' hP hQ;have hP:(bs.map Value.bool).toArray[i]?=some v:=hP;rw [List.getElem?_toArray,List.getElem?_map] at hP;cases hb:bs[i]? with
  | none=>rw [hb] at hP; cases hP
  | some b =>
   rw [hb] at hP;cases hP;have hQ:Q' ((bs[i]?).getD true) s':=hQ;rw [hb] at hQ;exact wpAny_truthy_bool hQ
 ·have e:(List.range (bs.map Value.bool).toArray.size).all (fun i=>(bs[i]?).getD true)=bs.all id:=by
   rw [List.size_toArray,List.length_map,Bool.eq_iff_iff,List.all_eq_true,List.all_eq_true];constructor
   ·intro h b hb;obtain ⟨i,hi,rfl⟩:=List.mem_iff_getElem.mp hb;have z:=h i (List.mem_range.mpr hi);rw [List.getElem?_eq_getElem hi] at z;exact z
   ·intro h i hi;have hi':=List.mem_range.mp hi;rw [List.getElem?_eq_getElem hi'];exact h _ (List.getElem_mem hi')
  rw [e];exact ⟨.bl _,H,I.kept fun b o e=>kk b o (fun z=>absurd (Heap.lt_size e) (by rw [List.mem_singleton.mp z]; exact Nat.lt_irrefl _)) (Heap.get?_push_of_some _ e),rfl,q⟩
end
end L2
namespace L2
open PySem PySem.Spec PyProof.Rows
def tm (n:Nat) (z:Str):Prop:=z.length≤n∧∀ c∈z.cps.toList,c < 16 ^ 8
theorem tm.mono {n m:Nat} {z:Str} (h:tm n z) (l:n≤m):tm m z:=⟨Nat.le_trans h.1 l,h.2⟩
theorem JvB {n:Nat} {z:Str} (h:(decide (z.length≤n) && z.cps.toList.all fun c=>decide (c < 16 ^ 8))=true):tm n z:=by
 rw [Bool.and_eq_true] at h;exact ⟨of_decide_eq_true h.1,fun c hc=>of_decide_eq_true (List.all_eq_true.mp h.2 c hc)⟩
theorem Jqa {n m:Nat} {x y:Str} (h:tm n x) (h':tm m y):tm (n + m) (x ++ y):=by
 refine ⟨by rw [strLen_append]; exact Nat.add_le_add h.1 h'.1,fun c hc=>?_⟩;rcases mem_cps_append.mp hc with q | q
 ·exact h.2 c q
 ·exact h'.2 c q
theorem JqR {z:Str} {l u:Option Int} {c:Nat} (h:c∈(Txt.slice z l u).cps.toList):c∈z.cps.toList:=by
 unfold Txt.slice at h;split at h
 ·exact h
 ·obtain ⟨i,_,e⟩:=List.mem_filterMap.mp (List.mem_toArray.mp (Array.mem_toList_iff.mp h));have e':z.cps.toList[i]?=some c:=by simpa using e
  exact List.mem_of_getElem? e'
theorem JrK {n:Nat} {z:Str} (l u:Option Int) (h:tm n z):tm n (Txt.slice z l u):=⟨Nat.le_trans (Txt.slice_le z l u) h.1,fun c hc=>h.2 c (JqR hc)⟩
theorem Jue {xs:List V} {lo hi:Option Int} {x:V} (h:x∈Jaa xs lo hi):x∈xs:=List.mem_of_mem_drop (List.mem_of_mem_take h)
end L2
namespace L2
open PySem PySem.Spec PyProof.Rows
section
variable {te:TE} {σc:St} {D:Addr} {H1:Hp} {Q:Hp→Prop}
theorem Jii {J:It} {n:Nat} {X1:Nat→V→Prop} (F:Nat→V→Prop) (h00:σc[0]?=some none) (hgo:∀ i H,i < n→Ji H1 H→J.go i H∧∀ x H',J.yld i H x H'→H'=H∧X1 i x) (hstop:∀ H,Ji H1 H→J.stop n H)
  (hD:H1 D=none) (hlen:n≤sizeLine) (he:∀ i x H,i < n→X1 i x→Ji H1 H→∀ Q':VK,(∀ v,F i v→Q' v H)→te (σc.set 0 (some x)) H Q')
  (hd:∀ ys H,Ji H1 H→H D=some (.lst ys)→ys.length=n→(∀ i v,ys[i]?=some v→F i v)→Q H):Jen J (Ja4 0) Jex te σc D H1 Q:=by
 refine Jlx (n:=n) (X1:=X1) (fun i ys H=>Ji H1 H∧H D=some (.lst ys)∧ys.length=i∧∀ j v,ys[j]?=some v→F j v) h00 (fun i H hi ⟨ys,p⟩=>hgo i H hi p.1) (fun H ⟨ys,p⟩=>hstop H p.1)
  ⟨Ji.upd hD,Jj,rfl,fun j v e=>by simp at e⟩ (fun i ys H p=>p.2.1) (fun i x ys H hi hx p=>?_) (fun ys H p=>hd ys H p.1 p.2.1 p.2.2.1 p.2.2.2)
 obtain ⟨e,hy,hl,hf⟩:=p;simp only [Jex,if_true];refine he i x H hi hx e _ fun v hv=>⟨hy,by omega,fun b u q=>?_,Jj,by simp [hl],fun j u q=>?_⟩
 ·rw [Js (Ju q hD)];exact e b u q
 ·by_cases hj:j < ys.length
  ·rw [List.getElem?_append_left hj] at q;exact hf j u q
  ·rw [List.getElem?_append_right (by omega)] at q;have hj2:j - ys.length < 1:=(List.getElem?_eq_some_iff.mp q).1;have e1:j=i:=by omega
   have e2:j - ys.length=0:=by omega
   rw [e2] at q;cases q;rw [e1];exact hv
theorem Jl6 {K:PySem.W.Frag} {a:Addr} {xs:List V} (F:Nat→V→Prop) (h00:σc[0]?=some none) (hS:JA K H1 a xs) (hD:H1 D=none) (hlen:xs.length≤sizeLine)
  (he:∀ i x H,xs[i]?=some x→Ji H1 H→∀ Q':VK,(∀ v,F i v→Q' v H)→te (σc.set 0 (some x)) H Q')
  (hd:∀ ys H,Ji H1 H→H D=some (.lst ys)→ys.length=xs.length→(∀ i v,ys[i]?=some v→F i v)→Q H):Jen (Itl K a) (Ja4 0) Jex te σc D H1 Q :=
 Jii (n:=xs.length) (X1:=fun i x=>xs[i]?=some x) F h00 (fun i H hi e=>⟨⟨xs,xs[i],e.seq hS,by simp [hi]⟩,fun x H' y=>⟨y.1,y.2 xs (e.seq hS)⟩⟩) (fun H e=>⟨xs,e.seq hS,Nat.le_refl _⟩) hD hlen (fun i x H _ hx e=>he i x H hx e) hd
theorem JmD {z:Str} (F:Nat→V→Prop) (h00:σc[0]?=some none) (hD:H1 D=none) (hlen:z.length≤sizeLine)
  (he:∀ i c H,z.cps[i]?=some c→Ji H1 H→∀ Q':VK,(∀ v,F i v→Q' v H)→te (σc.set 0 (some (.str ⟨#[c]⟩))) H Q')
  (hd:∀ ys H,Ji H1 H→H D=some (.lst ys)→ys.length=z.length→(∀ i v,ys[i]?=some v→F i v)→Q H):Jen (Its z) (Ja4 0) Jex te σc D H1 Q :=
 Jii (n:=z.length) (X1:=fun i x=>∃ c,z.cps[i]?=some c∧x=.str ⟨#[c]⟩) F h00 (fun i H hi _=>⟨hi,fun x H' y=>y⟩) (fun H _=>Nat.le_refl _) hD hlen (fun i x H hi hx e=>by obtain ⟨c,hc,rfl⟩:=hx; exact he i c H hc e) hd
end
end L2
namespace HS
open PySem PySem.SetTable
def adv (m:Nat) (p:Probe):Probe :=
 if p.more > 0 then ⟨p.j + 1,p.more - 1,p.i,p.perturb,p.dummy⟩
 else ⟨(leap m p.i p.perturb).1,runEnd m (leap m p.i p.perturb).1 - (leap m p.i p.perturb).1,(leap m p.i p.perturb).1,(leap m p.i p.perturb).2,p.dummy⟩
theorem Jks (t:SetTable) (p:Probe):t.advance p=adv t.mask p:=by
 unfold SetTable.advance adv;split <;> rfl
def st (m i q:Nat):Probe:=⟨i,runEnd m i - i,i,q,none⟩
def YI (m:Nat) (h:Int):Probe:=st m (bits h % (m + 1)) (bits h)
def Yz (m:Nat):Nat→Probe→Probe
 | 0,p=>p
 | k + 1,p=>Yz m k (adv m p)
theorem Jev (m:Nat):∀ a b p,Yz m (a + b) p=Yz m b (Yz m a p)
 | 0,b,p=>by rw [Nat.zero_add]; rfl
 | a + 1,b,p=>by
  have e:a + 1 + b=(a + b) + 1:=by omega
  rw [e];exact Jev m a b (adv m p)
theorem Jh7 (m:Nat):∀ k p,(Yz m k p).dummy=p.dummy
 | 0,_=>rfl
 | k + 1,p=>by
  show (Yz m k (adv m p)).dummy=p.dummy;rw [Jh7 m k];unfold adv;split <;> rfl
theorem Jeu {m i q:Nat}:∀ {d:Nat},d≤runEnd m i - i→Yz m d (st m i q)=⟨i + d,runEnd m i - i - d,i,q,none⟩
 | 0,_=>rfl
 | d + 1,h=>by
  rw [Jev m d 1,Jeu (d:=d) (by omega)];show adv m _=_;unfold adv;rw [if_pos (by show runEnd m i - i - d > 0; omega)];show Probe.mk _ _ _ _ _=_;congr 1
theorem JnP {m i q:Nat}:Yz m (runEnd m i - i + 1) (st m i q)=st m (leap m i q).1 (leap m i q).2:=by
 rw [Jev m _ 1,Jeu (Nat.le_refl _)];show adv m _=_;unfold adv;rw [if_neg (by show ¬ runEnd m i - i - (runEnd m i - i) > 0; omega)];rfl
theorem JoJ (m i:Nat):runEnd m i - i≤9:=by unfold runEnd; split <;> omega
theorem Jqx {m i:Nat} (h:i≤m):runEnd m i≤m:=by unfold runEnd; split <;> omega
theorem Jle (m i q:Nat):(leap m i q).1≤m:=Nat.le_of_lt_succ (Nat.mod_lt _ (Nat.succ_pos _))
def ZT (m:Nat):Nat→Nat×Nat→Nat×Nat
 | 0,x=>x
 | L + 1,x=>ZT m L (leap m x.1 x.2)
theorem JeR (m:Nat):∀ a b x,ZT m (a + b) x=ZT m b (ZT m a x)
 | 0,b,x=>by rw [Nat.zero_add]; rfl
 | a + 1,b,x=>by
  have e:a + 1 + b=(a + b) + 1:=by omega
  rw [e];exact JeR m a b _
theorem Jrz (m:Nat):∀ L i q,∃ k,k≤10 * L∧Yz m k (st m i q)=st m (ZT m L (i,q)).1 (ZT m L (i,q)).2
 | 0,i,q=>⟨0,Nat.le_refl _,rfl⟩
 | L + 1,i,q=>by
  obtain ⟨k,hk,e⟩:=Jrz m L (leap m i q).1 (leap m i q).2;have r:=JoJ m i;refine ⟨runEnd m i - i + 1 + k,by omega,?_⟩;rw [Jev,JnP,e];rfl
theorem Jni (m:Nat):∀ L i q,(ZT m L (i,q)).2=q / 32 ^ L
 | 0,i,q=>by simp [ZT]
 | L + 1,i,q=>by
  show (ZT m L ((leap m i q).1,(leap m i q).2)).2=_;rw [Jni m L];show q / 32 / 32 ^ L=_;rw [Nat.div_div_eq_div_mul,Nat.pow_succ,Nat.mul_comm]
theorem JoI (m:Nat):∀ L i q,i≤m→(ZT m L (i,q)).1≤m
 | 0,i,q,h=>h
 | L + 1,i,q,h=>JoI m L _ _ (Jle m i q)
def Jps (m:Nat):Nat→Nat→List Nat
 | 0,i=>[i]
 | L + 1,i=>i :: Jps m L ((i * 5 + 1) % (m + 1))
theorem JhK (m:Nat):∀ n i j,j∈Jps m n i→∃ L,L≤n∧(ZT m L (i,0)).1=j
 | 0,i,j,h=>⟨0,Nat.le_refl _,(List.mem_singleton.mp h).symm⟩
 | n + 1,i,j,h=>by
  rcases List.mem_cons.mp h with rfl | h
  ·exact ⟨0,Nat.zero_le _,rfl⟩
  ·obtain ⟨L,hL,e⟩:=JhK m n _ j h;refine ⟨L + 1,by omega,?_⟩;show (ZT m L (leap m i 0)).1=j;have e2:leap m i 0=((i * 5 + 1) % (m + 1),0):=by unfold leap; simp
   rw [e2];exact e
def Msk (m:Nat):Prop:=m=7∨m=31∨m=127
def Jtw (m:Nat):Bool:=((List.range (m + 1)).all fun j=>(Jps m m 0).contains j) && decide (ZT m (m + 1) (0,0)=(0,0))
theorem Js8 {m:Nat} (h:Msk m):Jtw m=true:=by
 rcases h with rfl | rfl | rfl <;> decide +kernel
theorem JuO (m:Nat) (L i:Nat):ZT m L (i,0)=((ZT m L (i,0)).1,0):=Prod.ext rfl (by rw [Jni]; exact Nat.zero_div _)
theorem JqF {m i j:Nat} (h:Msk m) (hi:i≤m) (hj:j≤m):∃ L,L≤m∧(ZT m L (i,0)).1=j:=by
 have z:=Js8 h;unfold Jtw at z;rw [Bool.and_eq_true] at z;obtain ⟨z1,z2⟩:=z;have per:ZT m (m + 1) (0,0)=(0,0):=of_decide_eq_true z2;obtain ⟨a,ha,ea⟩:=JhK m m 0 i (List.contains_iff_mem.mp (List.all_eq_true.mp z1 i (List.mem_range.mpr (by omega))));obtain ⟨b,hb,eb⟩:=JhK m m 0 j (List.contains_iff_mem.mp (List.all_eq_true.mp z1 j (List.mem_range.mpr (by omega))));have ei:ZT m a (0,0)=(i,0):=by rw [JuO,ea]
 by_cases hab:a≤b
 ·refine ⟨b - a,by omega,?_⟩;rw [← ei,← JeR,show a + (b - a)=b by omega];exact eb
 ·refine ⟨m + 1 - a + b,by omega,?_⟩;rw [← ei,← JeR,show a + (m + 1 - a + b)=(m + 1) + b by omega,JeR,per];exact eb
theorem Jrm {m i q j:Nat} (h:Msk m) (hi:i≤m) (hq:q < 2 ^ 64) (hj:j≤m):∃ L,L≤13 + m∧(ZT m L (i,q)).1=j:=by
 have e:ZT m 13 (i,q)=((ZT m 13 (i,q)).1,0):=by
  refine Prod.ext rfl ?_;rw [Jni];exact Nat.div_eq_of_lt (Nat.lt_trans hq (by decide))
 obtain ⟨L,hL,e2⟩:=JqF h (JoI m 13 i q hi) hj;refine ⟨13 + L,by omega,?_⟩;rw [JeR,e];exact e2
theorem JoY (h:Int):bits h < 2 ^ 64:=by
 unfold bits;have h1:=Int.emod_lt_of_pos h (b:=(2 ^ 64:Int)) (by decide);have h0:=Int.emod_nonneg h (b:=(2 ^ 64:Int)) (by decide);omega
theorem Jiv (m:Nat) (h:Int):bits h % (m + 1)≤m:=Nat.le_of_lt_succ (Nat.mod_lt _ (Nat.succ_pos _))
theorem Jj9 {m:Nat}:∀ {k p},p.j + p.more≤m→(Yz m k p).j + (Yz m k p).more≤m
 | 0,p,h=>h
 | k + 1,p,h=>by
  refine Jj9 (k:=k) (p:=adv m p) ?_;unfold adv;split
  ·show p.j + 1 + (p.more - 1)≤m;omega
  ·show (leap m p.i p.perturb).1 + (runEnd m (leap m p.i p.perturb).1 - (leap m p.i p.perturb).1)≤m;have a:=Jle m p.i p.perturb;have b:=Jqx a;omega
theorem Jja (m:Nat) (h:Int):(YI m h).j + (YI m h).more≤m:=by
 have a:=Jiv m h;have b:=Jqx a;show bits h % (m + 1) + (runEnd m (bits h % (m + 1)) - bits h % (m + 1))≤m;omega
def Jci (m:Nat) (occ:Nat→Bool) (p:Probe) (k:Nat):Prop:=occ (Yz m k p).j=false∧∀ k',k' < k→occ (Yz m k' p).j=true
theorem JsV {m:Nat} {occ:Nat→Bool} {p:Probe}:∀ {k:Nat},occ (Yz m k p).j=false→∃ k',k'≤k∧Jci m occ p k':=by
 intro k
 induction k using Nat.strongRecOn with
 | _ k ih =>
  intro h;by_cases hx:∃ k',k' < k∧occ (Yz m k' p).j=false
  ·obtain ⟨k',h1,h2⟩:=hx;obtain ⟨k2,h3,h4⟩:=ih k' h1 h2;exact ⟨k2,by omega,h4⟩
  ·refine ⟨k,Nat.le_refl _,h,fun k' hk=>?_⟩;cases hb:occ (Yz m k' p).j with
   | true=>rfl
   | false=>exact absurd ⟨k',hk,hb⟩ hx
theorem JsW {m:Nat} {occ:Nat→Bool} {h:Int} {j:Nat} (hm:Msk m) (hj:j≤m) (ho:occ j=false):∃ k,k < 10 * (m + 15)∧Jci m occ (YI m h) k:=by
 obtain ⟨L,hL,e⟩:=Jrm hm (Jiv m h) (JoY h) hj;obtain ⟨k,hk,e2⟩:=Jrz m L (bits h % (m + 1)) (bits h);have e3:(Yz m k (YI m h)).j=j:=by
  show (Yz m k (st m _ _)).j=j;rw [e2];exact e
 obtain ⟨k',h1,h2⟩:=JsV (occ:=occ) (by rw [e3]; exact ho);exact ⟨k',by omega,h2⟩
theorem Jci.step {m:Nat} {occ:Nat→Bool} {p:Probe} {k:Nat} (h:Jci m occ p (k + 1)):occ p.j=true∧Jci m occ (adv m p) k:=⟨h.2 0 (Nat.succ_pos _),h.1,fun k' hk=>h.2 (k' + 1) (by omega)⟩
theorem JoO {t:SetTable} {hashAt:Nat→Int} {h:Int} {occ:Nat→Bool} (ho:∀ j,occ j=true→∃ i,t.slot j=.live i) (hf:∀ j,occ j=false→t.slot j=.empty):∀ (k fuel:Nat) (p:Probe),k < fuel→Jci t.mask occ p k→p.dummy=none →
  (∃ n i,n < k∧t.slot (Yz t.mask n p).j=.live i∧hashAt i=h∧(∀ n' i',n' < n→t.slot (Yz t.mask n' p).j=.live i'→hashAt i'≠h)∧probe.go t hashAt h fuel p=some (.candidate (Yz t.mask n p).j i (Yz t.mask (n + 1) p))) ∨
  ((∀ n i,n < k→t.slot (Yz t.mask n p).j=.live i→hashAt i≠h)∧probe.go t hashAt h fuel p=some (.empty (Yz t.mask k p).j none))
 | 0,fuel + 1,p,_,hF,hd=>by
  refine .inr ⟨fun n i hn=>absurd hn (Nat.not_lt_zero _),?_⟩;have hz:t.slot p.j=.empty:=hf _ hF.1;unfold probe.go;rw [hz,hd];rfl
 | k + 1,fuel + 1,p,hk,hF,hd=>by
  obtain ⟨h1,h2⟩:=hF.step;obtain ⟨i,hi⟩:=ho _ h1;by_cases hh:hashAt i=h
  ·refine .inl ⟨0,i,Nat.succ_pos _,hi,hh,fun n' i' hn=>absurd hn (Nat.not_lt_zero _),?_⟩;unfold probe.go;rw [hi];simp only [hh,beq_self_eq_true,if_true,Jks];rfl
  ·have e:probe.go t hashAt h (fuel + 1) p=probe.go t hashAt h fuel (adv t.mask p):=by
    rw [probe.go];rw [hi];have hb:(hashAt i == h)=false:=by simpa using hh
    simp only [hb,Bool.false_eq_true,if_false,Jks]
   have hd2:(adv t.mask p).dummy=none:=by
    have z:=Jh7 t.mask 1 p;exact z.trans hd
   rcases JoO ho hf k fuel (adv t.mask p) (by omega) h2 hd2 with ⟨n,i2,a1,a2,a3,a4,a5⟩ | ⟨a1,a2⟩
   ·refine .inl ⟨n + 1,i2,by omega,a2,a3,fun n' i' hn hs=>?_,by rw [e,a5]; rfl⟩;cases n' with
    | zero =>
     have z:t.slot p.j=.live i':=hs;rw [hi] at z;cases z;exact hh
    | succ n'=>exact a4 n' i' (by omega) hs
   ·refine .inr ⟨fun n i2 hn hs=>?_,by rw [e,a2]; rfl⟩;cases n with
    | zero =>
     have z:t.slot p.j=.live i2:=hs;rw [hi] at z;cases z;exact hh
    | succ n=>exact a1 n i2 (by omega) hs
def Ris (xs:Array Nat):Prop:=∀ a b,a < b→b < xs.size→xs.getD a 0 < xs.getD b 0
theorem JjC {xs:Array Nat} {j:Nat} (hr:Ris xs):∀ (fuel lo hi:Nat),hi - lo≤fuel→lo≤hi→hi≤xs.size→(∀ k,k < lo→xs.getD k 0 < j)→(∀ k,hi≤k→k < xs.size→j≤xs.getD k 0) →
  below.go xs j fuel lo hi≤xs.size∧(∀ k,k < below.go xs j fuel lo hi→xs.getD k 0 < j)∧(∀ k,below.go xs j fuel lo hi≤k→k < xs.size→j≤xs.getD k 0)
 | 0,lo,hi,hf,hl,hz,h1,h2=>by
  have e:lo=hi:=by omega
  subst e;unfold below.go;exact ⟨hz,h1,h2⟩
 | fuel + 1,lo,hi,hf,hl,hz,h1,h2=>by
  unfold below.go;by_cases hlt:lo < hi
  ·rw [if_pos hlt];have hm1:lo≤(lo + hi) / 2:=by omega
   have hm2:(lo + hi) / 2 < hi:=by omega
   have e:xs.getD ((lo + hi) / 2) j=xs.getD ((lo + hi) / 2) 0:=by
    have hlt2:(lo + hi) / 2 < xs.size:=by omega
    simp [Array.getD,hlt2]
   dsimp only;rw [e];by_cases hc:xs.getD ((lo + hi) / 2) 0 < j
   ·rw [if_pos hc];refine JjC hr fuel _ hi (by omega) (by omega) hz (fun k hk=>?_) h2;by_cases hk2:k=(lo + hi) / 2
    ·rw [hk2]; exact hc
    ·exact Nat.lt_trans (hr k _ (by omega) (by omega)) hc
   ·rw [if_neg hc];refine JjC hr fuel lo _ (by omega) hm1 (by omega) h1 (fun k hk hks=>?_);by_cases hk2:k=(lo + hi) / 2
    ·rw [hk2]; omega
    ·have:=hr _ k (show (lo + hi) / 2 < k by omega) hks;omega
  ·rw [if_neg hlt];have e:lo=hi:=by omega
   subst e;exact ⟨hz,h1,h2⟩
theorem Jkr {xs:Array Nat} (hr:Ris xs) (j:Nat):below xs j≤xs.size∧(∀ k,k < below xs j→xs.getD k 0 < j)∧(∀ k,below xs j≤k→k < xs.size→j≤xs.getD k 0) :=
 JjC hr xs.size 0 xs.size (by omega) (Nat.zero_le _) (Nat.le_refl _) (fun k hk=>absurd hk (Nat.not_lt_zero _)) fun k hk hks=>by omega
def Y0 (place:Array Nat) (j:Nat):Bool:=place.toList.contains j
theorem JgF {place:Array Nat} {j:Nat}:Y0 place j=true↔∃ a,a < place.size∧place.getD a 0=j:=by
 unfold Y0;rw [List.contains_iff_mem,List.mem_iff_getElem];constructor
 ·rintro ⟨a,ha,e⟩;have ha':a < place.size:=by simpa using ha
  exact ⟨a,ha',by simpa [Array.getD,ha'] using e⟩
 ·rintro ⟨a,ha,e⟩;exact ⟨a,by simpa using ha,by simpa [Array.getD,ha] using e⟩
theorem Jhx {t:SetTable} (hr:Ris t.place) {a:Nat} (ha:a < t.place.size):t.slot (t.place.getD a 0)=.live a:=by
 obtain ⟨b1,b2,b3⟩:=Jkr hr (t.place.getD a 0);have e:below t.place (t.place.getD a 0)=a:=by
  rcases Nat.lt_trichotomy (below t.place (t.place.getD a 0)) a with h | h | h
  ·have:=b3 _ (Nat.le_refl _) (by omega);have:=hr _ a h ha;omega
  ·exact h
  ·have:=b2 a h;omega
 unfold SetTable.slot;dsimp only;rw [e];have e2:t.place[a]?=some (t.place.getD a 0):=by simp [Array.getD,ha]
 rw [e2];simp
theorem JjO {t:SetTable} (hr:Ris t.place) (hd:t.dummies=#[]) {j:Nat} (h:Y0 t.place j=false):t.slot j=.empty:=by
 unfold SetTable.slot;dsimp only;have hn:(t.place[below t.place j]? == some j)=false:=by
  cases hb:(t.place[below t.place j]? == some j) with
  | false=>rfl
  | true =>
   have z:t.place[below t.place j]?=some j:=by simpa using hb
   obtain ⟨hlt,e⟩:=Array.getElem?_eq_some_iff.mp z;have:Y0 t.place j=true:=JgF.mpr ⟨_,hlt,by simp [Array.getD,hlt,e]⟩;rw [h] at this; cases this
 rw [hn,hd];have hh:has #[] j=false:=by unfold has; simp
 rw [hh];rfl
theorem JsC {t:SetTable} (hr:Ris t.place) {j:Nat} (h:Y0 t.place j=true):∃ i,t.slot j=.live i:=by
 obtain ⟨a,ha,rfl⟩:=JgF.mp h;exact ⟨a,Jhx hr ha⟩
theorem Jug {t:SetTable} (hr:Ris t.place) (hd:t.dummies=#[]) {j i:Nat} (h:t.slot j=.live i):i < t.place.size∧t.place.getD i 0=j:=by
 cases ho:Y0 t.place j with
 | false=>rw [JjO hr hd ho] at h; cases h
 | true =>
  obtain ⟨a,ha,rfl⟩:=JgF.mp ho;rw [Jhx hr ha] at h;cases h;exact ⟨ha,rfl⟩
theorem Je0:∀ {l r:List Nat},l.Nodup→(∀ x∈l,x∈r)→l.length≤r.length
 | [],_,_,_=>Nat.zero_le _
 | x :: l,r,hn,hs=>by
  have hx:=hs x (List.mem_cons_self ..);have h1:=List.nodup_cons.mp hn;have z:=Je0 (l:=l) (r:=r.erase x) h1.2 fun y hy=>(List.mem_erase_of_ne (by rintro rfl; exact h1.1 hy)).mpr (hs y (List.mem_cons_of_mem _ hy))
  rw [List.length_erase_of_mem hx] at z;have:0 < r.length:=List.length_pos_of_mem hx;simp only [List.length_cons];omega
theorem Jul {place:Array Nat} {m:Nat} (h:place.size≤m):∃ j,j≤m∧Y0 place j=false:=by
 by_cases hx:∃ j,j≤m∧Y0 place j=false
 ·exact hx
 ·exfalso;have z:=Je0 (l:=List.range (m + 1)) (r:=place.toList) List.nodup_range fun x hx2=>by
   cases ho:Y0 place x with
   | false=>exact absurd ⟨x,by have:=List.mem_range.mp hx2; omega,ho⟩ hx
   | true=>exact List.contains_iff_mem.mp ho
  rw [List.length_range,Array.length_toList] at z;omega
end HS
namespace HS
open PySem PySem.SetTable
def Jkw (m:Nat) (occ:Nat→Bool) (h:Int) (j:Nat):Prop:=∃ k,(Yz m k (YI m h)).j=j∧∀ k',k' < k→occ (Yz m k' (YI m h)).j=true
theorem Jkw.mono {m:Nat} {occ occ':Nat→Bool} {h:Int} {j:Nat} (r:Jkw m occ h j) (ho:∀ j,occ j=true→occ' j=true):Jkw m occ' h j:=let ⟨k,e,a⟩:=r; ⟨k,e,fun k' hk=>ho _ (a k' hk)⟩
structure Tab (t:SetTable) (es:Array (Int×Value)):Prop where
 msk:Msk t.mask
 dum:t.dummies=#[]
 siz:t.place.size=es.size
 ris:Ris t.place
 ub:∀ j∈t.place.toList,j≤t.mask
 cap:es.size≤t.mask
 rch:∀ z∈t.place.toList.zip es.toList,Jkw t.mask (Y0 t.place) z.2.1 z.1
theorem Tab.fits {t:SetTable} {es:Array (Int×Value)} (T:Tab t es):t.fits es.size=true:=by
 unfold SetTable.fits SetTable.fill;rw [T.dum,T.siz];have:=T.cap;simp;exact this
theorem Tab.first {t:SetTable} {es:Array (Int×Value)} (T:Tab t es) (h:Int):∃ k,k < 10 * turns t.mask∧Jci t.mask (Y0 t.place) (YI t.mask h) k:=by
 obtain ⟨j,hj,ho⟩:=Jul (place:=t.place) (m:=t.mask) (by rw [T.siz]; exact T.cap);exact JsW T.msk hj ho
theorem Tab.met {t:SetTable} {es:Array (Int×Value)} (T:Tab t es) {h:Int} {k a:Nat} {e:Int×Value} (hF:Jci t.mask (Y0 t.place) (YI t.mask h) k) (he:es.toList[a]?=some e) (hh:e.1=h) :
  ∃ n,n < k∧t.slot (Yz t.mask n (YI t.mask h)).j=.live a:=by
 have ha:a < es.size:=by
  have:=(List.getElem?_eq_some_iff.mp he).1;simpa using this
 have ha':a < t.place.size:=by rw [T.siz]; exact ha
 have hz:(t.place.getD a 0,e)∈t.place.toList.zip es.toList:=by
  refine List.mem_of_getElem? (i:=a) ?_;rw [List.getElem?_zip_eq_some];refine ⟨?_,he⟩;simp [Array.getD,ha']
 obtain ⟨n,e1,e2⟩:=T.rch _ hz;have hh':(YI t.mask e.1)=YI t.mask h:=by rw [hh]
 dsimp only at e1 e2;rw [hh'] at e1;rw [hh'] at e2;have hocc:Y0 t.place (t.place.getD a 0)=true:=JgF.mpr ⟨a,ha',rfl⟩;refine ⟨n,?_,by rw [e1]; exact Jhx T.ris ha'⟩;rcases Nat.lt_trichotomy n k with q | q | q
 ·exact q
 ·subst q;have:=hF.1;rw [e1,hocc] at this;cases this
 ·have:=e2 k q;rw [hF.1] at this;cases this
theorem JkZ {xs:Array Nat}:Ris xs↔xs.toList.Pairwise (· < ·):=by
 rw [List.pairwise_iff_getElem];constructor
 ·intro h i j hi hj hij;have hi':i < xs.size:=by simpa using hi
  have hj':j < xs.size:=by simpa using hj
  have:=h i j hij hj';simpa [Array.getD,hi',hj'] using this
 ·intro h a b hab hb;have ha:a < xs.size:=by omega
  have:=h a b (by simpa using ha) (by simpa using hb) hab;simpa [Array.getD,ha,hb] using this
theorem Jef {α β:Type} {P:List α} {E:List β} {z:α×β}:z∈P.zip E↔∃ i:Nat,P[i]?=some z.1∧E[i]?=some z.2:=by
 rw [List.mem_iff_getElem?];constructor
 ·rintro ⟨i,e⟩;exact ⟨i,List.getElem?_zip_eq_some.mp e⟩
 ·rintro ⟨i,e⟩;exact ⟨i,List.getElem?_zip_eq_some.mpr e⟩
theorem Jo1 {α β:Type} {P:List α} {E:List β} {p:Nat} {s:α} {e:β} (h:P.length=E.length) {z:α×β} (hz:z∈(P.take p ++ s :: P.drop p).zip (E.take p ++ e :: E.drop p)):z∈P.zip E∨z=(s,e):=by
 rw [List.zip_append (by rw [List.length_take,List.length_take,h]),List.zip_cons_cons] at hz;rcases List.mem_append.mp hz with q | q
 ·obtain ⟨i,e1,e2⟩:=Jef.mp q;rw [List.getElem?_take] at e1 e2;refine .inl (Jef.mpr ⟨i,?_,?_⟩)
  ·split at e1
   ·exact e1
   ·cases e1
  ·split at e2
   ·exact e2
   ·cases e2
 ·rcases List.mem_cons.mp q with q | q
  ·exact .inr q
  ·obtain ⟨i,e1,e2⟩:=Jef.mp q;rw [List.getElem?_drop] at e1 e2;exact .inl (Jef.mpr ⟨_,e1,e2⟩)
theorem JuZ {t:SetTable} {es:Array (Int×Value)} (T:Tab t es) (j:Nat):t.put j=({ t with place:=insertAt t.place (below t.place j) j,dummies:=#[] },below t.place j):=by
 unfold SetTable.put;have hh:has #[] j=false:=by unfold has; simp
 simp only [T.dum,hh,Bool.false_eq_true,if_false]
theorem Jj1 {place:Array Nat} {p j j':Nat}:Y0 (insertAt place p j) j'=true↔j'=j∨Y0 place j'=true:=by
 unfold Y0;rw [List.contains_iff_mem,List.contains_iff_mem,SetTable.toList_insertAt,List.mem_append,List.mem_cons];constructor
 ·rintro (h | h | h)
  ·exact .inr (List.mem_of_mem_take h)
  ·exact .inl h
  ·exact .inr (List.mem_of_mem_drop h)
 ·rintro (h | h)
  ·exact .inr (.inl h)
  ·rw [← List.take_append_drop p place.toList] at h;rcases List.mem_append.mp h with h | h
   ·exact .inl h
   ·exact .inr (.inr h)
theorem Tab.put {t:SetTable} {es:Array (Int×Value)} (T:Tab t es) {h:Int} {x:Value} {k:Nat} (b:Bool) (hF:Jci t.mask (Y0 t.place) (YI t.mask h) k) (hc:es.size + 1≤t.mask) :
  Tab { mask:=t.mask,place:=insertAt t.place (below t.place (Yz t.mask k (YI t.mask h)).j) (Yz t.mask k (YI t.mask h)).j,dummies:=#[],finger:=t.finger,led:=t.led,moves:=t.moves,plain:=b }
   (insertAt es (below t.place (Yz t.mask k (YI t.mask h)).j) (h,x)):=by
 generalize hj:(Yz t.mask k (YI t.mask h)).j=j;have ho:Y0 t.place j=false:=by rw [← hj]; exact hF.1
 have hle:j≤t.mask:=by
  have:=Jj9 (m:=t.mask) (k:=k) (Jja t.mask h);omega
 obtain ⟨b1,b2,b3⟩:=Jkr T.ris j;have mono:∀ j',Y0 t.place j'=true→Y0 (insertAt t.place (below t.place j) j) j'=true:=fun j' q=>Jj1.mpr (.inr q)
 refine ⟨T.msk,rfl,?_,?_,?_,?_,?_⟩
 ·have e1:(insertAt t.place (below t.place j) j).size=t.place.size + 1:=by
   rw [← Array.length_toList,(SetTable.insertAt_perm t.place _ j).length_eq,Array.length_toList,Array.size_push]
  have e2:(insertAt es (below t.place j) (h,x)).size=es.size + 1:=by
   rw [← Array.length_toList,(SetTable.insertAt_perm es _ (h,x)).length_eq,Array.length_toList,Array.size_push]
  show (insertAt t.place (below t.place j) j).size=_;rw [e1,e2,T.siz]
 ·rw [JkZ];show (insertAt t.place (below t.place j) j).toList.Pairwise _;rw [SetTable.toList_insertAt];have hp:=JkZ.mp T.ris;rw [List.pairwise_append,List.pairwise_cons];refine ⟨hp.sublist (List.take_sublist _ _),⟨fun a ha=>?_,hp.sublist (List.drop_sublist _ _)⟩,fun a ha c hc=>?_⟩
  ·obtain ⟨i,hi,e⟩:=List.mem_iff_getElem.mp ha;rw [List.getElem_drop] at e;have hi2:below t.place j + i < t.place.size:=by
    rw [List.length_drop,Array.length_toList] at hi;omega
   have e2:t.place.getD (below t.place j + i) 0=a:=by rw [← e]; simp [Array.getD,hi2]
   have h1:=b3 _ (Nat.le_add_right _ i) hi2;have h2:a≠j:=fun q=>by
    have:=JgF.mpr ⟨_,hi2,e2.trans q⟩;rw [ho] at this; cases this
   omega
  ·have hlt:∀ a∈t.place.toList.take (below t.place j),a < j:=fun a ha=>by
    obtain ⟨i,hi,e⟩:=List.mem_iff_getElem.mp ha;rw [List.getElem_take] at e;rw [List.length_take,Array.length_toList] at hi;have hi2:i < t.place.size:=by omega
    have e2:t.place.getD i 0=a:=by rw [← e]; simp [Array.getD,hi2]
    have:=b2 i (by omega);omega
   rcases List.mem_cons.mp hc with q | q
   ·rw [q]; exact hlt a ha
   ·have hp2:=hp;rw [← List.take_append_drop (below t.place j) t.place.toList,List.pairwise_append] at hp2;exact hp2.2.2 a ha c q
 ·intro a ha;have:Y0 (insertAt t.place (below t.place j) j) a=true:=List.contains_iff_mem.mpr ha;rcases Jj1.mp this with q | q
  ·rw [q]; exact hle
  ·exact T.ub a (List.contains_iff_mem.mp q)
 ·rw [← Array.length_toList,(SetTable.insertAt_perm es _ (h,x)).length_eq,Array.length_toList,Array.size_push];exact hc
 ·intro z hz;have hz':z∈(insertAt t.place (below t.place j) j).toList.zip (insertAt es (below t.place j) (h,x)).toList:=hz;rw [SetTable.toList_insertAt,SetTable.toList_insertAt] at hz';rcases Jo1 (by rw [Array.length_toList,Array.length_toList,T.siz]) hz' with q | q
  ·exact (T.rch z q).mono mono
  ·rw [q];exact ⟨k,hj,fun k' hk=>mono _ (hF.2 k' hk)⟩
def ZO (owner:Array (Option Nat)) (j:Nat):Bool:=(owner.getD j (some 0)).isSome
theorem Jl1 {m:Nat} {owner:Array (Option Nat)}:∀ (fuel i q:Nat),i≤m→(∃ L,L < fuel∧ZO owner (ZT m L (i,q)).1=false) →
  ∃ k,layClean.free m owner fuel i q=some (Yz m k (st m i q)).j∧Jci m (ZO owner) (st m i q) k
 | 0,i,q,hi,⟨L,hL,_⟩=>absurd hL (Nat.not_lt_zero _)
 | fuel + 1,i,q,hi,⟨L,hL,hf⟩=>by
  have hr:=JoJ m i;have hge:i≤runEnd m i:=by unfold runEnd; split <;> omega
  unfold layClean.free;cases hx:(List.range (runEnd m i + 1 - i)).find? fun k=>(owner.getD (i + k) (some 0)).isNone with
  | some k =>
   obtain ⟨h1,h2,h3⟩:=List.find?_range_eq_some.mp hx;have hk:k≤runEnd m i - i:=by have:=List.mem_range.mp h2; omega
   refine ⟨k,?_,?_,fun k' hk'=>?_⟩
   ·rw [Jeu hk]
   ·rw [Jeu hk];show (owner.getD (i + k) (some 0)).isSome=false;cases ho:owner.getD (i + k) (some 0) with
    | none=>rfl
    | some a=>rw [ho] at h1; cases h1
   ·rw [Jeu (by omega)];have z:=h3 k' hk';show (owner.getD (i + k') (some 0)).isSome=true;cases ho:owner.getD (i + k') (some 0) with
    | none=>rw [ho] at z; simp at z
    | some a=>rfl
  | none =>
   have hn:=List.find?_eq_none.mp hx;have occd:∀ d,d≤runEnd m i - i→ZO owner (i + d)=true:=fun d hd=>by
    have z:=hn d (List.mem_range.mpr (by omega));show (owner.getD (i + d) (some 0)).isSome=true;cases ho:owner.getD (i + d) (some 0) with
    | none=>rw [ho] at z; simp at z
    | some a=>rfl
   cases L with
   | zero =>
    have z:=occd 0 (Nat.zero_le _);rw [Nat.add_zero] at z;have hf':ZO owner i=false:=hf;rw [z] at hf'; cases hf'
   | succ L =>
    obtain ⟨k,e,hF⟩:=Jl1 fuel (leap m i q).1 (leap m i q).2 (Jle m i q) ⟨L,by omega,hf⟩;have eI:∀ n,Yz m (runEnd m i - i + 1 + n) (st m i q)=Yz m n (st m (leap m i q).1 (leap m i q).2):=fun n=>by rw [Jev,JnP]
    refine ⟨runEnd m i - i + 1 + k,?_,?_,fun k' hk'=>?_⟩
    ·rw [eI]; exact e
    ·rw [eI]; exact hF.1
    ·by_cases hs:k'≤runEnd m i - i
     ·rw [Jeu hs]; exact occd k' hs
     ·obtain ⟨n,rfl⟩:∃ n,k'=runEnd m i - i + 1 + n:=⟨k' - (runEnd m i - i + 1),by omega⟩
      rw [eI];exact hF.2 n (by omega)
structure Own (m:Nat) (owner:Array (Option Nat)) (done:List Int):Prop where
 siz:owner.size=m + 1
 all:∀ a,a < done.length→∃ j,j≤m∧owner.getD j none=some a
 has:∀ j a,owner.getD j none=some a→∃ h,done[a]?=some h∧Jkw m (ZO owner) h j
 inj:∀ j j' a,owner.getD j none=some a→owner.getD j' none=some a→j=j'
theorem Own.lt {m:Nat} {owner:Array (Option Nat)} {done:List Int} (O:Own m owner done) {j a:Nat} (h:owner.getD j none=some a):j≤m∧a < done.length:=by
 obtain ⟨hh,e,_⟩:=O.has j a h;refine ⟨?_,(List.getElem?_eq_some_iff.mp e).1⟩;by_cases hj:j < owner.size
 ·have:=O.siz; omega
 ·rw [show owner.getD j none=none by simp [Array.getD,hj]] at h; cases h
theorem JhJ {owner:Array (Option Nat)} {j:Nat} (hj:j < owner.size):owner.getD j (some 0)=owner.getD j none:=by simp [Array.getD,hj]
theorem Own.free {m:Nat} {owner:Array (Option Nat)} {done:List Int} (O:Own m owner done) (h:done.length≤m):∃ j,j≤m∧ZO owner j=false:=by
 by_cases hx:∃ j,j≤m∧ZO owner j=false
 ·exact hx
 ·exfalso;have hall:∀ j,j≤m→∃ a,owner.getD j none=some a:=fun j hj=>by
   cases ho:ZO owner j with
   | false=>exact absurd ⟨j,hj,ho⟩ hx
   | true =>
    unfold ZO at ho;rw [JhJ (by rw [O.siz]; omega)] at ho;exact Option.isSome_iff_exists.mp ho
  have hnd:((List.range (m + 1)).map fun j=>(owner.getD j none).getD 0).Nodup:=by
   rw [List.Nodup,List.pairwise_map];refine List.Pairwise.imp_of_mem ?_ (List.pairwise_lt_range (n:=m + 1));intro a b ha hb hlt e;obtain ⟨x,ex⟩:=hall a (by have:=List.mem_range.mp ha; omega);obtain ⟨y,ey⟩:=hall b (by have:=List.mem_range.mp hb; omega);rw [ex,ey] at e;have e':x=y:=e;subst e';have:=O.inj a b x ex ey;omega
  have z:=Je0 (r:=List.range done.length) hnd fun x hx2=>by
   obtain ⟨j,hj,e⟩:=List.mem_map.mp hx2;obtain ⟨y,ey⟩:=hall j (by have:=List.mem_range.mp hj; omega);rw [ey] at e;have e':y=x:=e;subst e';exact List.mem_range.mpr (O.lt ey).2
  rw [List.length_map,List.length_range,List.length_range] at z;omega
theorem Own.step {m:Nat} {owner:Array (Option Nat)} {done:List Int} (hm:Msk m) (O:Own m owner done) (h:done.length≤m) (x:Int) :
  ∃ j,layClean.free m owner (turns m) (bits x % (m + 1)) (bits x)=some j∧Own m (owner.setIfInBounds j (some done.length)) (done ++ [x]):=by
 obtain ⟨f,hf,ho⟩:=O.free h;obtain ⟨L,hL,eL⟩:=Jrm hm (Jiv m x) (JoY x) hf;obtain ⟨k,e,hF⟩:=Jl1 (owner:=owner) (turns m) (bits x % (m + 1)) (bits x) (Jiv m x) ⟨L,by unfold turns; omega,by rw [eL]; exact ho⟩;generalize hj:(Yz m k (st m (bits x % (m + 1)) (bits x))).j=j at e;have hjm:j≤m:=by
  have:=Jj9 (m:=m) (k:=k) (Jja m x);have e2:(Yz m k (YI m x)).j=j:=hj;omega
 have hjs:j < owner.size:=by rw [O.siz]; omega
 have hj0:owner.getD j none=none:=by
  have z:=hF.1;rw [hj] at z;unfold ZO at z;rw [JhJ hjs] at z;cases q:owner.getD j none with
  | none=>rfl
  | some a=>rw [q] at z; cases z
 have get:∀ i,(owner.setIfInBounds j (some done.length)).getD i none=if i=j then some done.length else owner.getD i none:=fun i=>by
  rw [Array.getD_eq_getD_getElem?,Array.getElem?_setIfInBounds];by_cases q:i=j
  ·subst q; simp [hjs]
  ·have q':¬ j=i:=fun w=>q w.symm
   rw [if_neg q',if_neg q,Array.getD_eq_getD_getElem?]
 have mono:∀ i,ZO owner i=true→ZO (owner.setIfInBounds j (some done.length)) i=true:=fun i q=>by
  unfold ZO at q ⊢;by_cases hi:i < owner.size
  ·rw [JhJ (by simpa using hi),get];rw [JhJ hi] at q;by_cases w:i=j
   ·rw [if_pos w]; rfl
   ·rw [if_neg w]; exact q
  ·simp [Array.getD,hi]
 refine ⟨j,e,by simpa using O.siz,fun a ha=>?_,fun i a hi=>?_,fun i i' a hi hi'=>?_⟩
 ·by_cases hlt:a < done.length
  ·obtain ⟨i,hi,ei⟩:=O.all a hlt;refine ⟨i,hi,?_⟩;rw [get,if_neg (fun q=>by rw [q,hj0] at ei; cases ei)];exact ei
  ·rw [List.length_append,List.length_singleton] at ha;have:a=done.length:=by omega
   subst this;exact ⟨j,hjm,by rw [get,if_pos rfl]⟩
 ·rw [get] at hi;split at hi
  ·rename_i q;cases hi;refine ⟨x,by simp,?_⟩;rw [q];exact ⟨k,hj,fun k' hk=>mono _ (hF.2 k' hk)⟩
  ·obtain ⟨hh,e1,r⟩:=O.has i a hi;exact ⟨hh,by rw [List.getElem?_append_left (List.getElem?_eq_some_iff.mp e1).1]; exact e1,r.mono mono⟩
 ·rw [get] at hi hi';split at hi <;> split at hi'
  ·rename_i q q'; rw [q,q']
  ·cases hi;have:=(O.lt hi').2;omega
  ·cases hi';have:=(O.lt hi).2;omega
  ·exact O.inj i i' a hi hi'
def JnM (m:Nat) (acc:Option (Array (Option Nat)×Nat)) (h:Int):Option (Array (Option Nat)×Nat):=do
 let (owner,k) ← acc;let j ← layClean.free m owner (turns m) (bits h % (m + 1)) (bits h)
 pure (owner.setIfInBounds j (some k),k + 1)
theorem JnL {m:Nat} (hm:Msk m):∀ (todo done:List Int) (owner:Array (Option Nat)),Own m owner done→done.length + todo.length≤m→∃ owner',todo.foldl (JnM m) (some (owner,done.length))=some (owner',done.length + todo.length)∧Own m owner' (done ++ todo)
 | [],done,owner,O,_=>⟨owner,by simp,by simpa using O⟩
 | x :: todo,done,owner,O,h=>by
  simp only [List.length_cons] at h;obtain ⟨j,e,O2⟩:=O.step hm (by omega) x;obtain ⟨o3,e3,O3⟩:=JnL hm todo (done ++ [x]) _ O2 (by rw [List.length_append,List.length_singleton]; omega);refine ⟨o3,?_,by simpa using O3⟩;rw [List.foldl_cons];have e4:JnM m (some (owner,done.length)) x=some (owner.setIfInBounds j (some done.length),done.length + 1):=by
   unfold JnM;simp [e]
  rw [e4];rw [List.length_append,List.length_singleton] at e3;rw [e3];simp only [List.length_cons];congr 2;omega
theorem JqW {m:Nat} (hm:Msk m) (hashes:Array Int) (h:hashes.size≤m):∃ owner,layClean m hashes=some owner∧Own m owner hashes.toList:=by
 have O0:Own m (Array.replicate (m + 1) none) []:=by
  have g:∀ j,(Array.replicate (m + 1) (none:Option Nat)).getD j none=none:=fun j=>by
   rw [Array.getD_eq_getD_getElem?,Array.getElem?_replicate];split <;> rfl
  refine ⟨by simp,fun a ha=>absurd ha (Nat.not_lt_zero _),fun j a e=>?_,fun j j' a e=>?_⟩
  ·rw [g] at e; cases e
  ·rw [g] at e; cases e
 obtain ⟨owner,e,O⟩:=JnL hm hashes.toList [] _ O0 (by simpa using h);refine ⟨owner,?_,by simpa using O⟩;unfold layClean;have e2:(hashes.foldl (init:=some (Array.replicate (m + 1) none,0)) fun acc h=>do
  let (owner,k) ← acc;let j ← layClean.free m owner (turns m) (bits h % (m + 1)) (bits h)
  pure (owner.setIfInBounds j (some k),k + 1))=hashes.toList.foldl (JnM m) (some (Array.replicate (m + 1) none,0)):=by
  rw [← Array.foldl_toList];rfl
 rw [e2];have e3:hashes.toList.foldl (JnM m) (some (Array.replicate (m + 1) none,0))=some (owner,0 + hashes.toList.length):=e;rw [e3];rfl
theorem JmL {es:Array (Int×Value)}:∀ {live:List (Nat×Nat)},(∀ x∈live,x.2 < es.size)→((live.map (·.2)).filterMap (es[·]?)).length=live.length ∧
  ∀ z∈(live.map (·.1)).zip ((live.map (·.2)).filterMap (es[·]?)),∃ x∈live,z.1=x.1∧es[x.2]?=some z.2
 | [],_=>⟨rfl,fun z hz=>nomatch hz⟩
 | x :: r,h=>by
  obtain ⟨a,b⟩:=JmL (live:=r) fun y hy=>h y (List.mem_cons_of_mem _ hy)
  have hx:=h x (List.mem_cons_self ..);have e:es[x.2]?=some es[x.2]:=Array.getElem?_eq_getElem hx;rw [List.map_cons,List.filterMap_cons_some e,List.map_cons,List.zip_cons_cons];refine ⟨by rw [List.length_cons,List.length_cons,a],fun z hz=>?_⟩;rcases List.mem_cons.mp hz with q | q
  ·exact ⟨x,List.mem_cons_self ..,by rw [q],by rw [q]; exact e⟩
  ·obtain ⟨y,hy,e1,e2⟩:=b z q;exact ⟨y,List.mem_cons_of_mem _ hy,e1,e2⟩
theorem JvO {m:Nat} (hm:Msk m) (finger moves:Nat) (led plain:Bool) (es:Array (Int×Value)) (h:es.size≤m) :
  ∃ t order,laid m finger moves led plain (es.map (·.1))=some (t,order)∧Tab t (order.filterMap (es[·]?))∧(order.filterMap (es[·]?)).size=es.size∧(∀ e,e∈(order.filterMap (es[·]?)).toList↔e∈es.toList)∧t.mask=m:=by
 obtain ⟨owner,eo,O⟩:=JqW hm (es.map (·.1)) (by simpa using h);have hlen:(es.map (·.1)).toList.length=es.size:=by simp
 let live:=(List.range (m + 1)).filterMap fun j=>(owner.getD j none).map (j,·)
 have hlive:∀ x,x∈live↔owner.getD x.1 none=some x.2:=fun x=>by
  rw [List.mem_filterMap];constructor
  ·rintro ⟨j,hj,e⟩;obtain ⟨a,ea,e2⟩:=Option.map_eq_some_iff.mp e;rw [← e2];exact ea
  ·intro e;exact ⟨x.1,List.mem_range.mpr (by have:=(O.lt e).1; omega),by rw [e]; rfl⟩
 have hlt:∀ x∈live,x.2 < es.size:=fun x hx=>by rw [← hlen]; exact (O.lt ((hlive x).mp hx)).2
 obtain ⟨zl,zm⟩:=JmL hlt;have efst:live.map (·.1)=(List.range (m + 1)).filter fun j=>(owner.getD j none).isSome:=by
  show ((List.range (m + 1)).filterMap fun j=>(owner.getD j none).map (j,·)).map (·.1)=_;rw [List.map_filterMap]
  induction List.range (m + 1) with
  | nil=>rfl
  | cons a r ih =>
   cases ho:owner.getD a none with
   | none=>simp only [List.filterMap_cons,List.filter_cons,ho,Option.map_none,Option.isSome_none,Bool.false_eq_true,if_false]; exact ih
   | some b=>simp only [List.filterMap_cons,List.filter_cons,ho,Option.map_some,Option.isSome_some,if_true]; rw [ih]
 have hocc:∀ j,ZO owner j=true→j≤m→Y0 (live.map (·.1)).toArray j=true:=fun j q hj=>by
  unfold Y0;rw [List.contains_iff_mem,List.toList_toArray,efst,List.mem_filter];refine ⟨List.mem_range.mpr (by omega),?_⟩;unfold ZO at q;rw [JhJ (by rw [O.siz]; omega)] at q;exact q
 have hcount:live.length=es.size:=by
  have n1:(live.map (·.2)).Nodup:=by
   rw [List.Nodup,List.pairwise_map];refine List.Pairwise.imp_of_mem (R:=fun x y=>x.1 < y.1) ?_ ?_
   ·intro x y hx hy hxy e;have e1:=(hlive x).mp hx;have e2:=(hlive y).mp hy;rw [← e] at e2;have:=O.inj _ _ _ e1 e2;omega
   ·have z:(live.map (·.1)).Pairwise (· < ·):=by rw [efst]; exact List.pairwise_lt_range.sublist List.filter_sublist
    exact List.pairwise_map.mp z
  have a1:=Je0 n1 (r:=List.range es.size) fun x hx=>by
   obtain ⟨y,hy,e⟩:=List.mem_map.mp hx;rw [← e];exact List.mem_range.mpr (hlt y hy)
  have a2:=Je0 (l:=List.range es.size) (r:=live.map (·.2)) List.nodup_range fun x hx=>by
   obtain ⟨j,hj,e⟩:=O.all x (by rw [hlen]; exact List.mem_range.mp hx);exact List.mem_map.mpr ⟨(j,x),(hlive _).mpr e,rfl⟩
  rw [List.length_map,List.length_range] at a1 a2;omega
 have efm:((live.map (·.2)).toArray.filterMap (es[·]?)).toList=(live.map (·.2)).filterMap (es[·]?):=by rw [Array.toList_filterMap]
 have esz:((live.map (·.2)).toArray.filterMap (es[·]?)).size=es.size:=by rw [← Array.length_toList,efm,zl,hcount]
 refine ⟨{ mask:=m,place:=(live.map (·.1)).toArray,dummies:=#[],finger,led,moves,plain },(live.map (·.2)).toArray,?_,⟨hm,rfl,?_,?_,?_,?_,?_⟩,esz,fun e=>?_,rfl⟩
 ·unfold laid;rw [eo];rfl
 ·rw [esz];show (live.map (·.1)).toArray.size=es.size;rw [List.size_toArray,List.length_map,hcount]
 ·rw [JkZ];show (live.map (·.1)).toArray.toList.Pairwise _;rw [List.toList_toArray,efst];exact List.pairwise_lt_range.sublist List.filter_sublist
 ·intro j hj;have hj':j∈(live.map (·.1)).toArray.toList:=hj;rw [List.toList_toArray] at hj';obtain ⟨x,hx,e⟩:=List.mem_map.mp hj';rw [← e];exact (O.lt ((hlive x).mp hx)).1
 ·rw [esz]; exact h
 ·intro z hz;rw [efm] at hz;have hz':z∈(live.map (·.1)).zip ((live.map (·.2)).filterMap (es[·]?)):=by simpa using hz
  obtain ⟨x,hx,e1,e2⟩:=zm z hz';obtain ⟨hh,e3,r⟩:=O.has _ _ ((hlive x).mp hx);have e4:hh=z.2.1:=by
   rw [Array.getElem?_toList,Array.getElem?_map,e2] at e3;exact (Option.some.inj e3).symm
  rw [e1,← e4];obtain ⟨k,ek,ak⟩:=r;refine ⟨k,ek,fun k' hk=>hocc _ (ak k' hk) ?_⟩;have:=Jj9 (m:=m) (k:=k') (Jja m hh);show (Yz m k' (YI m hh)).j≤m;omega
 ·rw [efm,List.mem_filterMap];constructor
  ·rintro ⟨a,_,q⟩;exact List.mem_of_getElem? (by rw [Array.getElem?_toList]; exact q)
  ·intro he;obtain ⟨a,ha,q⟩:=List.mem_iff_getElem.mp he;have ha':a < es.size:=by simpa using ha
   obtain ⟨j,hj,e⟩:=O.all a (by rw [hlen]; exact ha');refine ⟨a,List.mem_map.mpr ⟨(j,a),(hlive _).mpr e,rfl⟩,?_⟩;rw [Array.getElem?_eq_getElem ha'];simpa using q
end HS
namespace HS
open PySem PySem.SetTable L2
section
variable {prog:Program} {w:World} {A:Around} {E:Value→Shared→Prop} {s:Shared}
abbrev TK (prog:Program) (w:World):=IsTupleKey (Yq prog w)
abbrev hsh (prog:Program) (w:World) (ks:List JI):Int:=tupleKeyHash (Yq prog w) ks
theorem Jov (n:Nat) {v:Value} (h:carriedByValue v=true):ofAClassStatement n v=pure false:=by
 cases v with
 | ref a=>simp [carriedByValue] at h
 | _=>first | rfl | simp [ofAClassStatement] | (unfold ofAClassStatement; rfl)
theorem JiV {ks:List JI} {a:Addr} {Q:Bool→Shared→Prop} (hk:TK prog w s.heap ks a) (h:Q false s):wpAny (model prog w) A (ofAClassStatement 8 (.ref a)) Q E s:=by
 obtain ⟨o,items,n,ho,hc,hd,hi⟩:=hk;unfold ofAClassStatement;refine wpAny_bind (PySem.W.Looks.here (show PySem.W.Looks _ s.heap (typeOf (.ref a)) (.type "tuple") from hc ▸ (PySem.W.Looks.ld ho).andThen .now) ?_);dsimp only;rw [if_pos (by decide)];refine wpAny_bind (wpAny_pure ?_);rw [if_neg (by decide)];refine wpAny_bind (wpAny_seqItems ho hd ?_);dsimp only;refine wpAny_bind ?_;rw [← Array.forIn_toList];refine wpAny_forIn_list _ (fun rest r s'=>r=(none,())∧s'=s∧∀ v∈rest,carriedByValue v=true) _ ?_ ?_ _ _ ⟨rfl,rfl,hi.byValue⟩
 ·rintro v rest r s' ⟨hr,rfl,hall⟩;rw [Jov _ (hall v List.mem_cons_self)];refine wpAny_bind (wpAny_pure ?_);rw [if_neg (by decide)];exact wpAny_pure ⟨rfl,rfl,fun u hu'=>hall u (List.mem_cons_of_mem _ hu')⟩
 ·rintro r s' ⟨hr,rfl,_⟩;subst hr;exact wpAny_pure h
theorem JtX {ks:List JI} {x:Addr} {stored:List Value} {Q:Bool→Shared→Prop} (hk:TK prog w s.heap ks x) (hall:∀ v∈stored,∃ a k',v=.ref a∧TK prog w s.heap k' a) (h:Q false s) :
  wpAny (model prog w) A (searchCouldBeSeen (.ref x) stored) Q E s:=by
 unfold searchCouldBeSeen;refine wpAny_bind ?_;refine wpAny_forIn_list _ (fun rest r s'=>r=(none,())∧s'=s∧∀ v∈rest,∃ a k',v=.ref a∧TK prog w s.heap k' a) _ ?_ ?_ _ _ ⟨rfl,rfl,hall⟩
 ·rintro v rest r s' ⟨hr,rfl,hall⟩;obtain ⟨a,k',rfl,hk'⟩:=hall v List.mem_cons_self;have rest_ok:∀ v∈rest,∃ a k',v=Value.ref a∧TK prog w s'.heap k' a:=fun u hu'=>hall u (List.mem_cons_of_mem _ hu')
  dsimp only;split
  ·exact wpAny_pure ⟨rfl,rfl,rest_ok⟩
  ·refine wpAny_bind (wpAny_eqIsQuiet_tuple hk ?_);rw [if_neg (by decide)];refine wpAny_bind (wpAny_eqIsQuiet_tuple hk' ?_);rw [if_neg (by decide)];refine wpAny_bind (JiV hk ?_);rw [if_neg (by decide)];refine wpAny_bind (JiV hk' ?_);rw [if_neg (by decide)];exact wpAny_pure ⟨rfl,rfl,rest_ok⟩
 ·rintro r s' ⟨hr,rfl,_⟩;subst hr;exact wpAny_pure h
structure JfT (prog:Program) (w:World) (h:Heap) (S:Addr) (es:Array (Int×Value)) (t:SetTable) (D:List (List JI)):Prop where
 tab:Tab t es
 full:es.size * 5 < t.mask * 3
 els:∀ e∈es.toList,∃ ks∈D,∃ a,e=(hsh prog w ks,.ref a)∧TK prog w h ks a
 all:∀ ks∈D,∃ a,(hsh prog w ks,.ref a)∈es.toList∧TK prog w h ks a
 siz:es.size=D.length
theorem Jph {S x:Addr} {ks:List JI} {o:Obj} {es:Array (Int×Value)} {ep:Nat} {t:SetTable} {D:List (List JI)} {Q:SetFound→Shared→Prop} (hu:A.units < cLine) (ho:s.heap.get? S=some o) (hd:o.data=.set es ep t)
  (SA:JfT prog w s.heap S es t D) (hk:TK prog w s.heap ks x) :
  ∀ (k fuel:Nat) (sd:Option Probe),k < fuel→k < 10 * turns t.mask→Jci t.mask (Y0 t.place) (sd.getD (t.probeStart (hsh prog w ks))) k→(sd.getD (t.probeStart (hsh prog w ks))).dummy=none →
   ((∃ n i a,n < k∧t.slot (Yz t.mask n (sd.getD (t.probeStart (hsh prog w ks)))).j=.live i∧es.toList[i]?=some (hsh prog w ks,.ref a)∧TK prog w s.heap ks a)→Q (.there none) s) →
   ((∀ n i a,n < k→t.slot (Yz t.mask n (sd.getD (t.probeStart (hsh prog w ks)))).j=.live i→es.toList[i]?=some (hsh prog w ks,.ref a)→TK prog w s.heap ks a→False)→Q (.free (Yz t.mask k (sd.getD (t.probeStart (hsh prog w ks)))).j false) s) →
   wpAny (model prog w) A (setSearchFrom S (.ref x) (hsh prog w ks) true fuel sd) Q E s:=by
 intro k
 induction k using Nat.strongRecOn with
 | _ k ih =>
  intro fuel sd hf hb hF hdm h1 h2;obtain ⟨fuel,rfl⟩:∃ f,fuel=f + 1:=⟨fuel - 1,by omega⟩
  unfold setSearchFrom;refine wpAny_bind (wpAny_setState_of ho hd SA.tab.fits ?_);dsimp only;have hg:¬ t.gaveWay=true:=by
   unfold SetTable.gaveWay;rcases SA.tab.msk with e | e | e <;> rw [e] <;> decide
  rw [if_neg hg];have spec:=JoO (t:=t) (hashAt:=fun i=>(es[i]?.map (·.1)).getD 0) (h:=hsh prog w ks) (fun j=>JsC SA.tab.ris) (fun j=>JjO SA.tab.ris SA.tab.dum) k (10 * turns t.mask) (sd.getD (t.probeStart (hsh prog w ks))) hb hF hdm;split
  ·rename_i met hmet;rcases spec with ⟨n,i,a1,a2,a3,a4,a5⟩ | ⟨a1,a2⟩
   ·have e:=Option.some.inj (hmet.symm.trans a5);subst e;dsimp only;obtain ⟨hi,hpl⟩:=Jug SA.tab.ris SA.tab.dum a2;have hie:i < es.size:=by rw [← SA.tab.siz]; exact hi
    obtain ⟨k',hk'D,b,eb,hkb⟩:=SA.els es[i] (by simp);have hei:es[i]?=some (hsh prog w k',.ref b):=by rw [Array.getElem?_eq_getElem hie,eb]
    have heL:es.toList[i]?=some (hsh prog w k',.ref b):=by rw [Array.getElem?_toList]; exact hei
    have hhash:hsh prog w k'=hsh prog w ks:=by
     rw [hei] at a3;exact a3
    have eI:∀ j,Yz t.mask j (Yz t.mask (n + 1) (sd.getD (t.probeStart (hsh prog w ks))))=Yz t.mask (n + 1 + j) (sd.getD (t.probeStart (hsh prog w ks))):=fun j=>(Jev t.mask (n + 1) j _).symm
    have again:k'≠ks→wpAny (model prog w) A (setSearchFrom S (.ref x) (hsh prog w ks) true fuel (some (Yz t.mask (n + 1) (sd.getD (t.probeStart (hsh prog w ks)))))) Q E s:=fun he=>by
     have ek:n + 1 + (k - (n + 1))=k:=by omega
     refine ih (k - (n + 1)) (by omega) fuel (some (Yz t.mask (n + 1) (sd.getD (t.probeStart (hsh prog w ks))))) (by omega) (by omega) ⟨?_,fun j hj=>?_⟩ ?_ (fun q=>?_) (fun q=>?_)
     ·show Y0 t.place (Yz t.mask _ (Yz t.mask (n + 1) _)).j=false;rw [eI,ek]; exact hF.1
     ·show Y0 t.place (Yz t.mask _ (Yz t.mask (n + 1) _)).j=true;rw [eI]; exact hF.2 _ (by omega)
     ·show (Yz t.mask (n + 1) _).dummy=none;rw [Jh7]; exact hdm
     ·obtain ⟨n2,i2,c,c1,c2,c3,c4⟩:=q;have c2':t.slot (Yz t.mask n2 (Yz t.mask (n + 1) (sd.getD (t.probeStart (hsh prog w ks))))).j=.live i2:=c2;rw [eI] at c2';exact h1 ⟨_,i2,c,by omega,c2',c3,c4⟩
     ·show Q (.free (Yz t.mask _ (Yz t.mask (n + 1) (sd.getD (t.probeStart (hsh prog w ks))))).j false) s;rw [eI,ek];refine h2 fun n2 i2 c c1 c2 c3 c4=>?_
      rcases Nat.lt_trichotomy n2 n with g | g | g
      ·exact a4 n2 i2 g c2 (by rw [← Array.getElem?_toList,c3]; rfl)
      ·subst g;rw [a2] at c2;cases c2;rw [heL] at c3;have e5:=congrArg (fun z=>z.2) (Option.some.inj c3);have e6:b=c:=Value.ref.inj e5;subst e6;exact he (hkb.inj c4)
      ·refine q (n2 - (n + 1)) i2 c (by omega) ?_ c3 c4;show t.slot (Yz t.mask _ (Yz t.mask (n + 1) _)).j=_;rw [eI,show n + 1 + (n2 - (n + 1))=n2 by omega];exact c2
    cases hl:t.led
    ·rw [if_pos (by rfl)];refine wpAny_bind (JtX hk (fun v hv=>?_) ?_)
     ·obtain ⟨e,he,rfl⟩:=List.mem_map.mp hv;have he2:e∈es.toList:=by
       have:=Array.mem_toList_iff.mp he;exact Array.mem_toList_iff.mpr (Array.mem_filter.mp this).1
      obtain ⟨k2,_,b2,rfl,hb2⟩:=SA.els e he2;exact ⟨b2,k2,rfl,hb2⟩
     ·rw [if_neg (by decide)];rw [hei];dsimp only;refine wpAny_bind (wpAny_holding (wpAny_eqBool_tuple hu hkb hk ?_));refine wpAny_bind (wpAny_setState_of ho hd SA.tab.fits ?_);dsimp only;by_cases he:k'=ks
      ·subst he;rw [decide_eq_true rfl,if_pos (by decide)];exact wpAny_pure (h1 ⟨n,i,b,a1,a2,heL,hkb⟩)
      ·rw [decide_eq_false he,if_neg (by decide)];have hsm:t.sameMemory t.moves t.mask=some true:=by unfold SetTable.sameMemory; rw [if_pos (by simp)]
       rw [hsm];dsimp only;rw [if_pos rfl,a2];dsimp only;rw [hei];dsimp only;refine wpAny_bind (wpAny_isSame_ref_self ?_);rw [if_pos rfl];refine wpAny_bind (wpAny_pure ?_);dsimp only;rw [if_neg (by decide)];exact again he
    ·rw [if_neg (by decide)];rw [hei];dsimp only;refine wpAny_bind (wpAny_holding (wpAny_eqBool_tuple hu hkb hk ?_));refine wpAny_bind (wpAny_setState_of ho hd SA.tab.fits ?_);dsimp only;by_cases he:k'=ks
     ·subst he;rw [decide_eq_true rfl,if_pos (by decide)];exact wpAny_pure (h1 ⟨n,i,b,a1,a2,heL,hkb⟩)
     ·rw [decide_eq_false he,if_neg (by decide)];have hsm:t.sameMemory t.moves t.mask=some true:=by unfold SetTable.sameMemory; rw [if_pos (by simp)]
      rw [hsm];dsimp only;rw [if_pos rfl,a2];dsimp only;rw [hei];dsimp only;refine wpAny_bind (wpAny_isSame_ref_self ?_);rw [if_pos rfl];refine wpAny_bind (wpAny_pure ?_);dsimp only;rw [if_neg (by decide)];exact again he
   ·have e:=Option.some.inj (hmet.symm.trans a2);subst e;exact wpAny_pure (h2 fun n i a hn hs he hka=>a1 n i hn hs (by
     show (es[i]?.map (·.1)).getD 0=_;rw [← Array.getElem?_toList,he]; rfl))
  ·rename_i hmet;exfalso;rcases spec with ⟨n,i,a1,a2,a3,a4,a5⟩ | ⟨a1,a2⟩
   ·exact hmet _ a5
   ·exact hmet _ a2
open Classical in
noncomputable def dd (D:List (List JI)) (ks:List JI):List (List JI):=if ks∈D then D else D ++ [ks]
theorem TK.stay {h h':Heap} {S a:Addr} {o:Obj} {ks:List JI} {es:Array (Int×Value)} {ep:Nat} {t:SetTable} (hk:TK prog w h ks a) (ho:h.get? S=some o) (hd:o.data=.set es ep t) (hs:Heap.SameBut S h h'):TK prog w h' ks a:=by
 obtain ⟨o',items,n,ho',hc,hd',hi⟩:=hk;have hne:a≠S:=by
  rintro rfl;obtain rfl:o'=o:=Option.some.inj (ho'.symm.trans ho);rw [hd] at hd';exact nomatch hd'
 exact ⟨o',items,n,(hs.2 a hne).trans ho',hc,hd',hi⟩
theorem Juj {M:Model} {ks:List JI} {a:Addr} {Q:Bool→Shared→Prop} (hk:TK prog w s.heap ks a) (h:∀ b,Q b s):wpAny (model prog w) A (hashByValue 8 (.ref a)) Q E s:=by
 have hT:=hk.typeIs;obtain ⟨o,items,n,ho,hc,hd,hi⟩:=hk;unfold hashByValue;refine wpAny_bind (wpAny_specialOf hT F.slot_tuple_hash.lookup ?_);dsimp only;refine wpAny_bind (wpAny_seqItems ho hd ?_);refine wpAny_bind ?_;show wpAny _ _ (forIn items _ _) _ _ s;rw [← Array.forIn_toList];refine wpAny_forIn_list _ (fun rest r s'=>r=(none,())∧s'=s∧∀ v∈rest,carriedByValue v=true) _ ?_ ?_ _ _ ⟨rfl,rfl,hi.byValue⟩
 ·rintro v rest r s' ⟨hr,rfl,hall⟩;have hb:∃ b,hashByValue 7 v=pure b:=by
   have hv:=hall v List.mem_cons_self;cases v <;> first | exact ⟨_,rfl⟩ | (simp [carriedByValue] at hv; done)
  obtain ⟨b,eb⟩:=hb;rw [eb];refine wpAny_bind (wpAny_pure ?_);cases b with
  | true =>
   rw [if_neg (by decide)];exact wpAny_pure ⟨rfl,rfl,fun u hu'=>hall u (List.mem_cons_of_mem _ hu')⟩
  | false =>
   rw [if_pos (by decide)];exact wpAny_pure (wpAny_pure (h _))
 ·rintro r s' ⟨hr,rfl,_⟩;subst hr;exact wpAny_pure (h _)
theorem JrL {S x:Addr} {ks:List JI} {o:Obj} {es es1:Array (Int×Value)} {ep:Nat} {t t1:SetTable} {D:List (List JI)} {Q:Bool→Shared→Prop} (ho:s.heap.get? S=some o) (hex:o.ExactSet) (hd:o.data=.set es ep t)
  (SA:JfT prog w s.heap S es t D) (hk:TK prog w s.heap ks x) (hn:D.length < 64) (T1:Tab t1 es1) (hsz:es1.size=es.size + 1) (hmk:t1.mask=t.mask) (hmem:∀ e,e∈es1.toList↔e∈es.toList∨e=(hsh prog w ks,.ref x))
  (h:∀ b h' es' ep' t' o',Heap.SameBut S s.heap h'→h'.get? S=some o'→o'.ExactSet→o'.data=.set es' ep' t'→JfT prog w h' S es' t' (D ++ [ks])→Q b { s with heap:=h' }) :
  wpAny (model prog w) A (do
   storeSet S es1 t1
   if (!false && t1.tooFull)=true then do
    setRelay S (grown (es.size + 1))
    pure true
   else pure true) Q E s:=by
 have hes:=SA.siz;have bound:∀ n,n≤1000→n≤sizeLine:=fun n hn=>by rw [sizeLine_eq]; omega
 have mk:∀ {h':Heap} {es':Array (Int×Value)} {t':SetTable},Heap.SameBut S s.heap h'→Tab t' es'→es'.size * 5 < t'.mask * 3→es'.size=es1.size→(∀ e,e∈es'.toList↔e∈es1.toList)→JfT prog w h' S es' t' (D ++ [ks]):=fun {h' es' t'} hs T f z m=>by
  refine ⟨T,f,fun e he=>?_,fun k2 hk2=>?_,by rw [z,hsz,hes,List.length_append]; rfl⟩
  ·rcases (hmem e).mp ((m e).mp he) with q | q
   ·obtain ⟨k2,a1,a,a2,a3⟩:=SA.els e q;exact ⟨k2,List.mem_append_left _ a1,a,a2,a3.stay ho hd hs⟩
   ·exact ⟨ks,List.mem_append_right _ (List.mem_singleton.mpr rfl),x,q,hk.stay ho hd hs⟩
  ·rcases List.mem_append.mp hk2 with q | q
   ·obtain ⟨a,a1,a2⟩:=SA.all k2 q;exact ⟨a,(m _).mpr ((hmem _).mpr (.inl a1)),a2.stay ho hd hs⟩
   ·rw [List.mem_singleton.mp q];exact ⟨x,(m _).mpr ((hmem _).mpr (.inr rfl)),hk.stay ho hd hs⟩
 refine wpAny_bind (wpAny_storeSet_of ho hd ?_ (bound _ (by omega)));have hg:∀ {hh:Heap} {o:Obj} {es es':Array (Int×Value)} {ep:Nat} {t t':SetTable},hh.get? S=some o→o.data=.set es ep t→(hh.update S (Obj.putSet es' t')).get? S=some { o with data:=.set es' (ep + 1) t' }:=fun {hh o es es' ep t t'} ho hd=>by
  have z:=Heap.get?_update_self (Obj.putSet es' t') ho (by rw [putSet_of es' t' hd]; rfl);rw [putSet_of es' t' hd] at z;exact z
 have ho1:=hg (es':=es1) (t':=t1) ho hd;have hs1:=Heap.SameBut.update s.heap S (Obj.putSet es1 t1);have hfill:t1.fill=es1.size:=by unfold SetTable.fill; rw [T1.dum,T1.siz]; rfl
 by_cases hf:t1.tooFull=true
 ·rw [if_pos (by rw [hf]; rfl)];have hfull:=SA.full;unfold SetTable.tooFull at hf;rw [hfill,decide_eq_true_eq,hmk] at hf;obtain ⟨m',hm',hw,hcap⟩:∃ m',Msk m'∧sizeAbove (grown (es.size + 1))=m' + 1∧es1.size * 5 < m' * 3:=by
   rcases SA.tab.msk with e | e | e
   ·refine ⟨31,.inr (.inl rfl),?_,by omega⟩;have e4:es.size=4:=by omega
    rw [e4]; decide
   ·refine ⟨127,.inr (.inr rfl),?_,by omega⟩;have e4:es.size=18:=by omega
    rw [e4]; decide
   ·omega
  have hm127:m'≤127:=by rcases hm' with e | e | e <;> omega
  obtain ⟨t2,order,e2,T2,z2,m2,_⟩:=JvO hm' t1.finger (t1.movedTo m') t1.led t1.plain es1 (by omega);have erel:t1.relaid (es1.map (·.1)) (grown (es.size + 1))=some (t2,order):=by
   unfold SetTable.relaid;rw [hw];exact e2
  unfold setRelay;refine wpAny_bind (wpAny_bind (wpAny_setState_of (s:={ s with heap:=s.heap.update S (Obj.putSet es1 t1) }) ho1 rfl T1.fits ?_));dsimp only;rw [if_neg (by rw [hw]; exact Nat.not_lt.mpr (bound _ (by omega)))];refine wpAny_bind ?_;rw [erel];show wpAny _ _ (if ((order.filterMap (es1[·]?)).size != es1.size)=true then _ else _) _ _ _;rw [if_neg (by rw [z2]; simp)];refine wpAny_pure ?_;dsimp only;refine wpAny_storeSet_of (s:={ s with heap:=s.heap.update S (Obj.putSet es1 t1) }) ho1 rfl ?_ (bound _ (by omega));have hs2:=hs1.trans (Heap.SameBut.update (s.heap.update S (Obj.putSet es1 t1)) S (Obj.putSet (order.filterMap (es1[·]?)) t2));exact wpAny_pure (h _ _ _ _ _ _ hs2 (hg ho1 rfl) hex rfl (mk hs2 T2 (by rw [z2]; have:=T2.cap; omega) z2 m2))
 ·rw [if_neg (by simpa using hf)];refine wpAny_pure (h _ _ es1 _ t1 _ hs1 ho1 hex rfl (mk hs1 T1 ?_ rfl fun _=>Iff.rfl));unfold SetTable.tooFull at hf;rw [hfill,decide_eq_true_eq] at hf;omega
theorem Jur {S x:Addr} {ks:List JI} {o:Obj} {es:Array (Int×Value)} {ep:Nat} {t:SetTable} {D:List (List JI)} {Q:Bool→Shared→Prop} (hu:A.units < cLine) (ho:s.heap.get? S=some o) (hex:o.ExactSet) (hd:o.data=.set es ep t)
  (SA:JfT prog w s.heap S es t D) (hk:TK prog w s.heap ks x) (hn:D.length < 64)
  (h:∀ b h' tk es' ep' t' o',Heap.SameBut S s.heap h'→h'.get? S=some o'→o'.ExactSet→o'.data=.set es' ep' t'→JfT prog w h' S es' t' (dd D ks)→Q b { s with heap:=h',toks:=tk }) :
  wpAny (model prog w) A (setAdd S (.ref x)) Q E s:=by
 unfold setAdd;refine wpAny_holding (wpAny_bind (wpAny_pyHash_tuple hu hk ?_));unfold setAddHashed setAddHashedIn;refine wpAny_holding (wpAny_bind (wpAny_setState_of ho hd SA.tab.fits ?_));dsimp only;have hbs:byScan (.ref x) es=false:=rfl;rw [hbs,if_neg (by decide)];obtain ⟨k,hk1,hF⟩:=SA.tab.first (hsh prog w ks);have hm:t.mask≤127:=by rcases SA.tab.msk with e | e | e <;> omega
 have SA2:JfT prog w ({ s with toks:=s.toks + (ks.length + 1) }:Shared).heap S es t D:=SA;refine wpAny_bind (Jph (s:={ s with toks:=s.toks + (ks.length + 1) }) hu ho hd SA2 hk k 100000 none (by unfold turns at hk1; omega) hk1 hF rfl ?_ ?_)
 ·rintro ⟨n,i,a,g1,g2,g3,g4⟩;dsimp only;have hin:ks∈D:=by
   obtain ⟨k2,hk2,b,e,hb⟩:=SA.els _ (List.mem_of_getElem? g3);have e6:a=b:=Value.ref.inj (congrArg (fun z=>z.2) e);subst e6;rw [IsTupleKey.inj g4 hb];exact hk2
  have e:dd D ks=D:=by unfold dd; exact if_pos hin
  exact wpAny_pure (h _ s.heap _ es ep t o (Heap.SameBut.refl S s.heap) ho hex hd (by rw [e]; exact SA))
 ·intro hno;dsimp only;have hnin:ks∉D:=fun hin=>by
   obtain ⟨a,ha,hka⟩:=SA.all ks hin;obtain ⟨i,hi⟩:=List.mem_iff_getElem?.mp ha;obtain ⟨n,hn1,hn2⟩:=SA.tab.met hF hi rfl;exact hno n i a hn1 hn2 hi hka
  have edd:dd D ks=D ++ [ks]:=by unfold dd; exact if_neg hnin
  refine wpAny_bind (wpAny_setState_of ho hd SA.tab.fits ?_);dsimp only;have hc:es.size + 1≤t.mask:=by
   have:=SA.full;rcases SA.tab.msk with e | e | e <;> omega
  have hmem:∀ (p:Nat) e,e∈(insertAt es p (hsh prog w ks,Value.ref x)).toList↔e∈es.toList∨e=(hsh prog w ks,.ref x):=fun p e=>by
   rw [(SetTable.insertAt_perm es p _).mem_iff,Array.toList_push,List.mem_append,List.mem_singleton]
  have hsz:∀ p:Nat,(insertAt es p (hsh prog w ks,Value.ref x)).size=es.size + 1:=fun p=>by
   rw [← Array.length_toList,(SetTable.insertAt_perm es p _).length_eq,Array.length_toList,Array.size_push]
  have fin:=fun (b:Bool)=>JrL (prog:=prog) (w:=w) (A:=A) (E:=E) (s:={ s with toks:=s.toks + (ks.length + 1) }) (Q:=Q) ho hex hd SA2 hk hn (SA.tab.put (x:=.ref x) b hF hc) (hsz _) rfl (hmem _) fun b h' es' ep' t' o' a1 a2 a3 a4 a5=>h b h' _ es' ep' t' o' a1 a2 a3 a4 (by rw [edd]; exact a5)
  have ep2:=JuZ SA.tab (Yz t.mask k (YI t.mask (hsh prog w ks))).j;have ep3:t.put (Yz t.mask k ((none:Option Probe).getD (t.probeStart (hsh prog w ks)))).j=_:=ep2;rw [ep3];dsimp only;by_cases hp:t.plain=true
  ·rw [if_pos hp];refine wpAny_bind (Juj (M:=model prog w) hk fun b=>?_);cases b with
   | true=>exact fin t.plain
   | false=>exact fin false
  ·rw [if_neg hp];refine wpAny_bind (wpAny_pure ?_);exact fin t.plain
end
end HS
set_option maxHeartbeats 3200000
namespace HS
open PySem PySem.SetTable L2
section
variable {prog:Program} {w:World} {A:Around} {E:Value→Shared→Prop} {s:Shared} {R:Result→Shared→Prop}
theorem Jr7 {S I l:Addr} {items:Array Value} (hh:A.in1.handled=none) (hlI:l≠I) (hSI:S≠I) (hSl:S≠l) (J:Nat→Heap→Prop)
  (hJ:∀ i j h h',J i h→h.IsListIter I l j→(∀ b o,b≠I→h.get? b=some o→h'.get? b=some o)→J i h')
  (hadd:∀ i v (s':Shared) (E':Value→Shared→Prop) (Q:Bool→Shared→Prop),items[i]?=some v→J i s'.heap→(∀ b h' tk,Heap.SameBut S s'.heap h'→J (i + 1) h'→Q b { s' with heap:=h',toks:=tk })→wpAny (model prog w) A.in1 (setAdd S v) Q E' s') :
  ∀ (k i:Nat) (h:Heap) (tk:Nat),items.size - i=k→i≤items.size→h.IsListIter I l i→h.IsList l items→J i h →
   (∀ h' tk',(∀ b o,b≠S→b≠I→h.get? b=some o→h'.get? b=some o)→J items.size h'→R (.ok (.ret .none)) { s with heap:=h',toks:=tk' }) →
   codeAny (model prog w) A (.builtin "set.update.loop" ⟨[.ref S,.ref I],[]⟩) R { s with heap:=h,toks:=tk }:=by
 have W:=Walks.list (prog:=prog) (w:=w) hh I l hlI items;intro k
 induction k with
 | zero =>
  intro i h tk e0 e1 it li j hR;obtain rfl:i=items.size:=by omega
  refine codeAny_builtin PyProof.Rows.F.entry_set_update_loop (by
   rw [Around.under_plainId PyProof.Rows.F.plain_set_update_loop _];show wpAny _ A.in1 (pyNext (.ref I) >>= _) _ _ _;refine wpAny_bind (W.done _ _ _ ⟨it,li⟩ fun h' tk' kk=>?_);exact wpAny_pure (hR h' tk' (fun b o _ hb e=>kk b o (by simpa using hb) e) (hJ _ _ _ _ j it fun b o hb e=>kk b o (by simpa using hb) e)))
 | succ k ih =>
  intro i h tk e0 e1 it li j hR;have hlt:i < items.size:=by omega
  refine codeAny_builtin PyProof.Rows.F.entry_set_update_loop (by
   rw [Around.under_plainId PyProof.Rows.F.plain_set_update_loop _];show wpAny _ A.in1 (pyNext (.ref I) >>= _) _ _ _;refine wpAny_bind (W.item i _ _ _ hlt ⟨it,li⟩ fun v h1 tk1 hv st1 kk=>?_);have j1:J i h1:=hJ _ _ _ _ j it fun b o hb e=>kk b o (by simpa using hb) e
   show wpAny _ A.in1 (holding [v] (setAdd S v) >>= _) _ _ _;refine wpAny_bind (wpAny_holding (hadd i v { s with heap:=h1,toks:=tk1 } _ _ hv j1 fun b h2 tk2 sb j2=>?_));have it2:h2.IsListIter I l (i + 1):=st1.1.at fun o e=>(sb.2 I (Ne.symm hSI)).trans e
   have li2:h2.IsList l items:=st1.2.at fun o e=>(sb.2 l (Ne.symm hSl)).trans e
   refine wpAny_pure ⟨plainId_quiet PyProof.Rows.F.plain_set_update_loop _,ih (i + 1) h2 tk2 (by omega) hlt it2 li2 j2 fun h3 tk3 keep j3=>hR h3 tk3 (fun b o hb hbI e=>keep b o hb hbI ((sb.2 b hb).trans (kk b o (by simpa using hbI) e))) j3⟩)
theorem Ji6 {l:Addr} {items:Array Value} {Q:Value→Shared→Prop} (hh:A.handled=none) (hl:s.heap.IsList l items) (J:Addr→Nat→Heap→Prop)
  (h0:∀ (led:Bool) (h':Heap),h'.get? s.heap.objs.size=some { cls:=.type "set",dict:=none,data:=.set #[] 0 (.fresh 0 0 led) }→(∀ b o,s.heap.get? b=some o→h'.get? b=some o)→J s.heap.objs.size 0 h')
  (hJ:∀ S I i j h h',J S i h→h.IsListIter I l j→(∀ b o,b≠I→h.get? b=some o→h'.get? b=some o)→J S i h')
  (hadd:∀ S i v (A':Around) (s':Shared) (E':Value→Shared→Prop) (Q':Bool→Shared→Prop),A'.units≤A.units + 4→items[i]?=some v→J S i s'.heap→(∀ b h' tk,Heap.SameBut S s'.heap h'→J S (i + 1) h'→Q' b { s' with heap:=h',toks:=tk })→wpAny (model prog w) A' (setAdd S v) Q' E' s')
  (h:∀ (h':Heap) (tk:Nat),J s.heap.objs.size items.size h'→(∀ b o,b < s.heap.objs.size→s.heap.get? b=some o→h'.get? b=some o)→Q (.ref s.heap.objs.size) { s with heap:=h',toks:=tk }) :
  wpAny (model prog w) A (call (.type "set") [.ref l]) Q E s:=by
 obtain ⟨c,tl,hmro⟩:=F.called_set.mro;have made:=F.called_set.made;have sub:=F.called_set.sub;refine wpAny_call (codeAny_of_tree (wpAny_pure ⟨Code.quiet_builtin _ (by decide +kernel),codeAny_builtin F.entry_type_call ?_⟩));rw [Around.under_plain (weight_type_call_type "set" [.ref l] []) rfl];have n1:=F.called_set.notType;have n2:=F.called_set.canCreate;have n3:=F.typeCall_set_1 (.ref l)
 repeat (any_goals (first | assumption | wp_step))
 let fresh (led:Bool):Obj:={ cls:=.type "set",dict:=none,data:=.set #[] 0 (.fresh 0 0 led) }
 refine codeAny_mono (code_set_new_1 (.ref l) (E:=E) (Q₁:=fun obj s1=>∃ led,obj=.ref s.heap.objs.size∧s1={ s with heap:=s.heap.push (fresh led) }) fun led=>⟨led,rfl,rfl⟩) fun r s1 hr=>?_
 rcases r with e | f
 ·exact hr
 cases f with
 | ret obj =>
  obtain ⟨led,rfl,rfl⟩:=hr;have gS:(s.heap.push (fresh led)).get? s.heap.objs.size=some (fresh led):=Heap.get?_push_size _ rfl;have tS:Shared.TypeIs { s with heap:=s.heap.push (fresh led) } (.ref s.heap.objs.size) "set":=⟨_,gS,rfl⟩
  have i1:=F.called_set.init.lookup;have i2:=F.called_set.init.bind (.ref s.heap.objs.size)
  repeat (any_goals (first | assumption | wp_step))
  refine codeAny_mono (codeAny_call_builtin (R:=wants (fun r s2=>r=.none∧∃ h' tk,s2={ s with heap:=h',toks:=tk }∧J s.heap.objs.size items.size h'∧∀ b o,b < s.heap.objs.size→s.heap.get? b=some o→h'.get? b=some o) E)
   F.called_set.init.plain F.entry_set_init (check_set_init_1 tS ?_)) fun r2 s2 hr2=>?_
  ·obtain ⟨ol,gl,cl,nl,dl⟩:=hl;obtain ⟨k1,k2,k3,k4⟩:=ol;simp only at cl dl;subst cl dl;have gl1:(s.heap.push (fresh led)).get? l=some { cls:=.type "list",dict:=k2,data:=.seq items nl,slots:=k4 }:=Heap.get?_push_of_some _ gl;have z1:=F.sub_list_set;have z2:=F.sub_list_frozenset;have z3:(Value.type "list" == Value.type "dict")=false:=by decide
   have ll:(s.heap.push (fresh led)).IsList l items:=⟨_,gl1,rfl,nl,rfl⟩
   have lS:l < s.heap.objs.size:=Heap.lt_size gl;unfold Builtin.«set.__init__» noKeywords Builtin.Frozenset.updateFrom;generalize pe:pyIter=PI
   wp_walk
   subst pe;refine wpAny_pyIter_list ll (wpAny_bind (wpAny_runValue ?_));have szp:(s.heap.push (fresh led)).objs.size=s.heap.objs.size + 1:=Heap.size_push ..;refine Jr7 (s:={ s with heap:=s.heap.push (fresh led) }) (I:=(s.heap.push (fresh led)).objs.size) (l:=l) (items:=items) (by simp [hh]) (Nat.ne_of_lt (by rw [szp]; exact Nat.lt_succ_of_lt lS)) (Nat.ne_of_lt (by rw [szp]; exact Nat.lt_succ_self _)) (Nat.ne_of_gt lS) (J s.heap.objs.size) (fun i j h h'=>hJ _ _ i j h h')
    (fun i v s' E' Q' hv j q=>hadd _ i v _ s' E' Q' (by show A.units + 1 + 1 + 1≤A.units + 4; omega) hv j q) (items.size - 0) 0 _ _ rfl (Nat.zero_le _) ⟨_,Heap.get?_push_size _ rfl,rfl,rfl⟩ (ll.push _) ?_ ?_
   ·exact h0 led _ (Heap.get?_push_of_some _ gS) fun b o e=>Heap.get?_push_of_some _ (Heap.get?_push_of_some _ e)
   ·intro h' tk' keep j;refine wpAny_pure (wpAny_pure ⟨rfl,h',tk',rfl,j,fun b o hb e=>keep b o (Nat.ne_of_lt hb) (Nat.ne_of_lt (by rw [szp]; exact Nat.lt_succ_of_lt hb)) (Heap.get?_push_of_some _ (Heap.get?_push_of_some _ e))⟩)
  ·rcases r2 with e | f2
   ·exact hr2
   cases f2 with
   | ret r =>
    obtain ⟨rfl,h',tk,rfl,j,keep⟩:=hr2
    repeat (any_goals (first | assumption | wp_step))
    exact h _ _ j keep
   | _=>exact hr2.elim
 | _=>exact hr.elim
end
end HS
namespace L2
open PySem PySem.Spec PyProof.Rows HS
open Classical in
noncomputable def dg {α:Type} (D:List α) (x:α):List α:=if x∈D then D else D ++ [x]
theorem JpR {α:Type} {D:List α} {x:α} (h:x∈D):dg D x=D:=by unfold dg; exact if_pos h
theorem Jki {α:Type} {D:List α} {x:α} (h:¬ x∈D):dg D x=D ++ [x]:=by unfold dg; exact if_neg h
noncomputable def Jih {α:Type} (l:List α):List α:=l.foldl dg []
theorem JiI {α:Type}:∀ (l D:List α),(l.foldl dg D).length≤D.length + l.length
 | [],D=>Nat.le_refl _
 | x :: l,D=>by
  rw [List.foldl_cons];have z:=JiI l (dg D x);by_cases h:x∈D
  ·rw [JpR h] at z ⊢; simp only [List.length_cons]; omega
  ·rw [Jki h] at z ⊢; rw [List.length_append] at z; simp only [List.length_cons,List.length_nil] at z ⊢; omega
theorem JoR {α:Type} (l:List α):(Jih l).length≤l.length:=by have:=JiI l []; simpa [Jih] using this
theorem Jkc {α:Type}:∀ (l D:List α),(D ++ l).Nodup→l.foldl dg D=D ++ l
 | [],D,_=>by simp
 | x :: l,D,h=>by
  have hx:¬ x∈D:=fun q=>by
   rw [List.nodup_append] at h;exact h.2.2 x q x (List.mem_cons_self ..) rfl
  rw [List.foldl_cons,Jki hx,Jkc l (D ++ [x]) (by simpa using h)];simp
theorem Jkh {α:Type} {l:List α} (h:l.Nodup):(Jih l).length=l.length:=by unfold Jih; rw [Jkc l [] (by simpa using h)]; simp
theorem Jib {α:Type} {l:List α} {i:Nat} {x:α} (h:l[i]?=some x):(l.take (i + 1)).foldl dg []=dg ((l.take i).foldl dg []) x:=by
 rw [List.take_succ,h];simp
def szO (a:Addr) (n:Nat):HO:=.ext fun h=>∃ o es ep t,h.get? a=some o∧o.ExactSet∧o.data=.set es ep t∧t.fits es.size=true∧es.size=n∧n≤1000
theorem Jqc {P:Program} {w:World} {H:Hp} {h:Heap} {a:Addr} {n:Nat} {o:Obj} {es:Array (Int×Value)} {ep:Nat} {t:SetTable} (h1:h.get? a=some o) (h2:o.ExactSet) (h3:o.data=.set es ep t) (h4:t.fits es.size=true) (h5:es.size=n) (h6:n≤1000) :
  YD P w H h a (szO a n):=⟨⟨o,es,ep,t,h1,h2,h3,h4,h5,h6⟩,⟨o,h1⟩,fun g1 g2 ⟨o,es,ep,t,e1,r⟩ k=>⟨o,es,ep,t,k o e1,r⟩⟩
section
variable {X:Cx}
theorem JoA:Yl X (.builtin "len") (fun xs H Q=>∃ a n,xs=[.ref a]∧H a=some (szO a n)∧Q (.int n) H):=by
 intro pins s σ H xs us Q I r h;obtain ⟨a,n,rfl,hn,q⟩:=h;obtain ⟨u,rfl,ru⟩:=JK.one r;cases ru;obtain ⟨⟨o,es,ep,t,e1,e2,e3,e4,rfl,e6⟩,_⟩:=(show YD X.prog X.w H s.heap a (szO a n) from I.hok a _ hn)
 exact call_len_set e1 e2 e3 e4 (by omega) ⟨.int es.size,H,(I.tok _).tok _,⟨_,rfl⟩,q⟩
theorem Jeo:∀ {vs:List V} {us:List Value} {i:Nat} {x:V},JK vs us→vs[i]?=some x→∃ u,us[i]?=some u∧JU x u
 | _,_,i,x,.nil,h=>by simp at h
 | _,_,0,x,.cons r t,h=>by
  cases h;exact ⟨_,rfl,r⟩
 | _,_,i + 1,x,.cons r t,h=>Jeo (i:=i) t (by simpa using h)
def JgP (K:PySem.W.Frag) (H:Hp) (vs:List V) (kss:List (List JI)):Prop:=vs.length=kss.length∧∀ (i:Nat) v ks,vs[i]?=some v→kss[i]?=some ks→∃ a,v=.ref a∧J1 K H a (ks.map kV)
theorem JnQ {P:Program} {w:World}:∀ {ks:List JI} {us:List Value},JK (ks.map kV) us→ItemsAre (Yq P w) ks us
 | [],_,r=>by cases r; exact .nil
 | k :: ks,_,r=>by
  cases r with
  | cons r rr=>exact .cons (Jg7 r) (JnQ rr)
theorem Jo6 {pins:List (Addr×Obj)} {σ:St} {H:Hp} {s:Shared} {a:Addr} {ks:List JI} (I:Jn X pins σ H s) (h:J1 X.K H a (ks.map kV)):TK X.prog X.w s.heap ks a:=by
 obtain ⟨its,r,⟨o,e,c,n,d⟩,_⟩:=I.tuple h;exact ⟨o,its.toArray,n,e,c,d,by simpa using JnQ r⟩
theorem JkB {prog:Program} {w:World} {h h':Heap} {ks:List JI} {a:Addr} (hk:TK prog w h ks a) (k:∀ o,h.get? a=some o→(∃ its n,o.data=.seq its n)→h'.get? a=some o):TK prog w h' ks a:=by
 obtain ⟨o,its,n,e,c,d,i⟩:=hk;exact ⟨o,its,n,k o e ⟨its,n,d⟩,c,d,i⟩
def Jtm (K:PySem.W.Frag):List V→Hp→VK→Prop:=fun xs H Q=>∃ l vs kss,xs=[.ref l]∧JA K H l vs∧JgP K H vs kss∧kss.length≤64∧∀ p,H p=none→Q (.ref p) (upd H p (szO p (Jih kss).length))
theorem Jrn (hc:X.calm=true) (hu:X.A.units + 64 < cLine):Yl X (.type "set") (Jtm X.K):=by
 intro pins s σ H xs us Q I r h;obtain ⟨l,vs,kss,rfl,hl,⟨tl,tt⟩,hz,q⟩:=h;obtain ⟨u,rfl,ru⟩:=JK.one r;cases ru;obtain ⟨its,rv,pl,_⟩:=I.list hl;have rlen:=rv.length;have at_:∀ (i:Nat) v,its.toArray[i]?=some v→∃ ks a,kss[i]?=some ks∧v=.ref a∧TK X.prog X.w s.heap ks a:=fun i v hv=>by
  have hi:i < its.length:=by
   have:=(Array.getElem?_eq_some_iff.mp hv).1;simpa using this
  obtain ⟨x,hx⟩:∃ x,vs[i]?=some x:=⟨vs[i],List.getElem?_eq_getElem (by omega)⟩
  obtain ⟨ks,hks⟩:∃ ks,kss[i]?=some ks:=⟨kss[i],List.getElem?_eq_getElem (by omega)⟩
  obtain ⟨a,rfl,ha⟩:=tt i x ks hx hks;obtain ⟨u,hu1,hu2⟩:=Jeo rv hx;have e:v=u:=by
   rw [List.getElem?_toArray] at hv;exact Option.some.inj (hv.symm.trans hu1)
  subst e;cases (show v=.ref a from hu2);exact ⟨ks,a,hks,rfl,Jo6 I ha⟩
 have hsz:its.toArray.size=kss.length:=by rw [List.size_toArray]; omega
 refine Ji6 (J:=fun S i h'=>(∀ b o,b < s.heap.objs.size→s.heap.get? b=some o→(∃ its n,o.data=.seq its n)→h'.get? b=some o)∧∃ o es ep t,h'.get? S=some o∧o.ExactSet∧o.data=.set es ep t∧JfT X.prog X.w h' S es t ((kss.take i).foldl dg []))
  (I.ok.hd hc) pl.isList ?_ ?_ ?_ ?_
 ·intro led h' g keep;refine ⟨fun b o _ e _=>keep b o e,_,#[],0,_,g,⟨rfl,rfl,rfl⟩,rfl,⟨.inl rfl,rfl,rfl,fun a b _ hb=>absurd hb (Nat.not_lt_zero _),fun j hj=>by simp [SetTable.fresh] at hj,Nat.zero_le _,fun z hz=>by simp [SetTable.fresh] at hz⟩,?_,fun e he=>by simp at he,fun ks hks=>?_,rfl⟩
  ·show 0 * 5 < 7 * 3
   decide
  ·rw [List.take_zero] at hks; exact nomatch hks
 ·rintro S Ia i j h1 h2 ⟨k1,o,es,ep,t,e1,e2,e3,SA⟩ ⟨oi,i1,i2,i3⟩ keep;have seq:∀ b o',h1.get? b=some o'→(∃ its n,o'.data=.seq its n)→h2.get? b=some o':=fun b o' e ⟨its,n,d⟩=>keep b o' (by
   rintro rfl;rw [i1] at e; cases e;rw [i3] at d; cases d) e
  refine ⟨fun b o' hb e d=>seq b o' (k1 b o' hb e d) d,o,es,ep,t,keep S o (by
   rintro rfl;rw [i1] at e1; cases e1;rw [i3] at e3; cases e3) e1,e2,e3,SA.tab,SA.full,fun e he=>?_,fun ks hks=>?_,SA.siz⟩
  ·obtain ⟨ks,a1,a,a2,a3⟩:=SA.els e he;exact ⟨ks,a1,a,a2,JkB a3 fun o' e' d=>seq _ _ e' d⟩
  ·obtain ⟨a,a1,a2⟩:=SA.all ks hks;exact ⟨a,a1,JkB a2 fun o' e' d=>seq _ _ e' d⟩
 ·rintro S i v A' s' E' Q' hA hv ⟨k1,o,es,ep,t,e1,e2,e3,SA⟩ hQ;obtain ⟨ks,a,hks,rfl,hk⟩:=at_ i v hv;have hk':TK X.prog X.w s'.heap ks a:=JkB hk fun o' e' d=>k1 a o' (Heap.lt_size e') e' d
  have hlt:((kss.take i).foldl dg []).length < 64:=by
   have z:=JiI (kss.take i) [];have z2:=(List.getElem?_eq_some_iff.mp hks).1;rw [List.length_take] at z;simp only [List.length_nil] at z;omega
  refine Jur (by omega) e1 e2 e3 SA hk' hlt fun b h' tk es' ep' t' o' sb g1 g2 g3 g4=>hQ b h' tk sb ⟨fun b' o2 hb e d=>?_,o',es',ep',t',g1,g2,g3,?_⟩
  ·have z:=k1 b' o2 hb e d;have hne:b'≠S:=by
    rintro rfl;rw [e1] at z; cases z;obtain ⟨its,n,d⟩:=d;rw [e3] at d; cases d
   exact (sb.2 b' hne).trans z
  ·rw [Jib hks];have e:dg ((kss.take i).foldl dg []) ks=dd ((kss.take i).foldl dg []) ks:=by unfold dg dd; split <;> rfl
   rw [e];exact g4
 ·rintro h' tk ⟨_,o,es,ep,t,e1,e2,e3,SA⟩ keep;rw [hsz,List.take_length] at SA;have hf:H s.heap.objs.size=none:=I.hok.fresh (Nat.le_refl _);refine ⟨.ref s.heap.objs.size,_,I.laid (fun b u e=>keep b u (Heap.lt_size e) e) (Nat.le_refl _) (Jqc e1 e2 e3 SA.tab.fits SA.siz ?_),rfl,q _ hf⟩;have:=JoR kss;show (Jih kss).length≤1000;omega
def Jtn (K:PySem.W.Frag):List V→Hp→VK→Prop:=fun xs H Q=>∃ l ss,xs=[.ref l]∧JA K H l (ss.map V.str)∧ss.length≤64∧∀ p,H p=none→Q (.ref p) (upd H p (szO p (Jih ss).length))
theorem Jro (hc:X.calm=true):Yl X (.type "set") (Jtn X.K):=by
 intro pins s σ H xs us Q I r h;obtain ⟨l,ss,rfl,hl,hz,q⟩:=h;obtain ⟨u,rfl,ru⟩:=JK.one r;cases ru;obtain ⟨its,rv,pl,_⟩:=I.list hl;have rlen:=rv.length;rw [List.length_map] at rlen;have at_:∀ (i:Nat) v,its.toArray[i]?=some v→∃ x t,ss[i]?=some x∧v=.str x t:=fun i v hv=>by
  have hi:i < its.length:=by
   have:=(Array.getElem?_eq_some_iff.mp hv).1;simpa using this
  obtain ⟨x,hx⟩:∃ x,ss[i]?=some x:=⟨ss[i],List.getElem?_eq_getElem (by omega)⟩
  obtain ⟨u,hu1,hu2⟩:=Jeo (i:=i) (x:=.str x) rv (by rw [List.getElem?_map,hx]; rfl);have e:v=u:=by
   rw [List.getElem?_toArray] at hv;exact Option.some.inj (hv.symm.trans hu1)
  subst e;obtain ⟨t,e⟩:=hu2;exact ⟨x,t,hx,e⟩
 have hsz:its.toArray.size=ss.length:=by rw [List.size_toArray]; omega
 refine Ji6 (J:=fun S i h'=>∃ f,h'.SetOf (Yq X.prog X.w) S f ((ss.take i).foldl dg []).length∧∀ x:Str,f (.inr x)=true↔x∈(ss.take i).foldl dg []) (I.ok.hd hc) pl.isList ?_ ?_ ?_ ?_
 ·intro led h' g keep;refine ⟨fun _=>false,⟨_,#[],0,_,g,⟨rfl,rfl,rfl⟩,rfl,fun e he=>by simp at he,fun k=>by simp,by decide,rfl,rfl⟩,fun x=>?_⟩;rw [List.take_zero];simp
 ·rintro S Ia i j h1 h2 ⟨f,⟨o,es,ep,t,e1,e2,e3,r⟩,hf⟩ ⟨oi,i1,i2,i3⟩ keep;refine ⟨f,⟨o,es,ep,t,keep S o ?_ e1,e2,e3,r⟩,hf⟩;rintro rfl;rw [i1] at e1; cases e1;rw [i3] at e3; cases e3
 ·rintro S i v A' s' E' Q' hA hv ⟨f,hS,hf⟩ hQ;obtain ⟨x,t,hx,rfl⟩:=at_ i v hv;have hlt:((ss.take i).foldl dg []).length + 1 < scanBound:=by
   have z:=JiI (ss.take i) [];have z2:=(List.getElem?_eq_some_iff.mp hx).1;rw [List.length_take] at z;simp only [List.length_nil] at z;show _ + 1 < 4096;omega
  unfold setAdd;refine wpAny_holding (wpAny_bind ((Yq X.prog X.w).pyHash (Jbh X.prog X.w x t) ?_));refine wpAny_setAddHashed_of (knd:=Yq X.prog X.w) (s:={ s' with toks:=s'.toks + 1 }) (Jbh X.prog X.w x t) rfl hS hlt fun h' sb hS2=>?_
  refine hQ _ h' _ sb ⟨fun k'=>f k' || decide (k'=.inr x),?_,?_⟩
  ·rw [Jib hx];by_cases hin:x∈(ss.take i).foldl dg []
   ·rw [JpR hin];have e:=(hf x).mpr hin;rw [if_pos e] at hS2;exact hS2
   ·rw [Jki hin];have e:¬ f (.inr x)=true:=fun w=>hin ((hf x).mp w)
    rw [if_neg e] at hS2;rw [List.length_append];exact hS2
  ·intro y;rw [Jib hx,Bool.or_eq_true,hf y,decide_eq_true_eq];by_cases hin:x∈(ss.take i).foldl dg []
   ·rw [JpR hin];exact ⟨fun z=>z.elim id fun e=>(Sum.inr.inj e) ▸ hin,.inl⟩
   ·rw [Jki hin,List.mem_append,List.mem_singleton];exact ⟨fun z=>z.imp id fun e=>Sum.inr.inj e,fun z=>z.imp id fun e=>by rw [e]⟩
 ·rintro h' tk ⟨f,⟨o,es,ep,t,e1,e2,e3,_,_,_,e7,e8⟩,hf⟩ keep;rw [hsz,List.take_length] at e8;have hfr:H s.heap.objs.size=none:=I.hok.fresh (Nat.le_refl _);refine ⟨.ref s.heap.objs.size,_,I.laid (fun b u e=>keep b u (Heap.lt_size e) e) (Nat.le_refl _) (Jqc e1 e2 e3 e7 e8 ?_),rfl,q _ hfr⟩;have:=JoR ss;show (Jih ss).length≤1000;omega
def JvQ (K:PySem.W.Frag):List V→Hp→VK→Prop:=fun xs H Q=>Jtn K xs H Q∨Jtm K xs H Q
theorem Jrp (hc:X.calm=true) (hu:X.A.units + 64 < cLine):Yl X (.type "set") (JvQ X.K):=by
 intro pins s σ H xs us Q I r h;rcases h with h | h
 ·exact Jro hc pins s σ H xs us Q I r h
 ·exact Jrn hc hu pins s σ H xs us Q I r h
end
end L2
namespace KS
open PySem PySem.W PyProof.Rows
section
variable {O:KeyOrd} {key:Nat→O.α} {n:Nat}
def Ok (O:KeyOrd) (key:Nat→O.α) (n:Nat) {α:Type} (Post:α→Prop):KasT α→Prop
 | .ret a=>Post a
 | .ask i j k=>i < n∧j < n∧Ok O key n Post (k (O.blt (key i) (key j)))
theorem Ok.bind {α β:Type} {Post:β→Prop} {f:α→KasT β}:∀ {t:KasT α},Ok O key n (fun a=>Ok O key n Post (f a)) t→Ok O key n Post (t.bind f)
 | .ret _,h=>h
 | .ask _ _ _,h=>⟨h.1,h.2.1,Ok.bind h.2.2⟩
theorem Ok.wp {α:Type} {Post:α→Prop} {cmp:Nat→Nat→(Bool→Shared→Prop)→Shared→Prop} {Q:α→Shared→Prop} {s:Shared} (hc:∀ i j C,i < n→j < n→C (O.blt (key i) (key j)) s→cmp i j C s) (hq:∀ a,Post a→Q a s):∀ {t:KasT α},Ok O key n Post t→t.kasWp cmp Q s
 | .ret _,h=>hq _ h
 | .ask i j k,h=>hc i j _ h.1 h.2.1 (Ok.wp hc hq h.2.2)
def Pm (n:Nat) (p:Array Nat):Prop:=p.Perm (List.toArray (List.range n))
theorem Pm.size {p:Array Nat} (h:Pm n p):p.size=n:=by rw [Array.Perm.size_eq h]; simp
theorem Pm.lt {p:Array Nat} (h:Pm n p) (h0:0 < n) (i:Nat):p.getD i 0 < n:=by
 by_cases hi:i < p.size
 ·have hm:p[i]∈p:=Array.getElem_mem hi;have hm2:p[i]∈List.toArray (List.range n):=h.mem_iff.mp hm;rw [List.mem_toArray,List.mem_range] at hm2;simpa [Array.getD,hi] using hm2
 ·simpa [Array.getD,hi] using h0
def Kp (key:Nat→O.α) (p:Array Nat) (i:Nat):O.α:=key (p.getD i 0)
def Srt (O:KeyOrd) (key:Nat→O.α) (p:Array Nat) (m:Nat):Prop:=∀ i j,i≤j→j < m→O.kle (Kp key p i) (Kp key p j)
def Fal (O:KeyOrd) (key:Nat→O.α) (p:Array Nat) (m:Nat):Prop:=∀ i j,i≤j→j < m→O.kle (Kp key p j) (Kp key p i)
theorem JgJ {p q:Array Nat} {i j:Nat} (h:p[i]?=q[j]?):p.getD i 0=q.getD j 0:=by rw [Array.getD_eq_getD_getElem?,Array.getD_eq_getD_getElem?,h]
theorem JjW {p:Array Nat} {i j:Nat} (hj:j≤p.size) (k:Nat):Kp key (kas_rev p i j) k=if i≤k∧k < j then Kp key p (i + j - 1 - k) else Kp key p k:=by
 have e:=getElem?_mirror_all (i:=i) hj k;unfold Kp kas_rev;split
 ·rename_i h;rw [if_pos h] at e;rw [JgJ e]
 ·rename_i h;rw [if_neg h] at e;rw [JgJ e]
theorem JhF {p:Array Nat} (i j:Nat) (h:Pm n p):Pm n (kas_rev p i j):=(mirror_perm p i j _).trans h
theorem Jvs {p:Array Nat} {s d:Nat} (hs:s < p.size) (hd:d≤s) (k:Nat):Kp key (bubble p s d) k=if k=s - d then Kp key p s else if s - d < k∧k≤s then Kp key p (k - 1) else Kp key p k:=by
 have e:=getElem?_bubble hs d hd k;unfold Kp;by_cases h1:k=s - d
 ·rw [if_pos h1] at e ⊢; rw [JgJ e]
 ·rw [if_neg h1] at e ⊢;by_cases h2:s - d < k∧k≤s
  ·rw [if_pos h2] at e ⊢; rw [JgJ e]
  ·rw [if_neg h2] at e ⊢; rw [JgJ e]
theorem nlt {a b:O.α} (h:¬ O.blt a b=true):O.kle b a:=by
 show O.blt a b=false;simpa using h
theorem Jod {Post:Nat→Prop} {p:Array Nat} (hp:Pm n p) (h0:0 < n):∀ (f a:Nat),1≤a→Srt O key p a→(∀ m,a≤m→m≤a + f→Srt O key p m→(m < a + f→O.klt (Kp key p m) (Kp key p (m - 1)))→Post m)→Ok O key n Post (kas_asc p f a)
 | 0,a,h1,hs,hq=>hq a (Nat.le_refl _) (Nat.le_refl _) hs fun h=>absurd h (Nat.lt_irrefl _)
 | f + 1,a,h1,hs,hq=>by
  refine ⟨hp.lt h0 _,hp.lt h0 _,?_⟩;dsimp only;by_cases hc:O.blt (key (p.getD a 0)) (key (p.getD (a - 1) 0))=true
  ·rw [if_pos hc];exact hq a (Nat.le_refl _) (by omega) hs fun _=>hc
  ·rw [if_neg hc];have hle:O.kle (Kp key p (a - 1)) (Kp key p a):=nlt hc;refine Jod hp h0 f (a + 1) (by omega) (fun i j hij hj=>?_) fun m g1 g2 g3 g4=>hq m (by omega) (by omega) g3 fun h=>g4 (by omega)
   by_cases hja:j < a
   ·exact hs i j hij hja
   ·obtain rfl:j=a:=by omega
    by_cases hia:i=j
    ·subst hia; exact O.kle_refl _
    ·exact O.kle_trans (hs i (j - 1) (by omega) (by omega)) hle
def Dsc (O:KeyOrd) (key:Nat→O.α) (p:Array Nat) (a q:Nat):Prop:=q + 1≤a∧Fal O key p a∧∀ i,a - (q + 1)≤i→i < a→O.kle (Kp key p i) (Kp key p (a - 1))
theorem Dsc.rev {p:Array Nat} {a q:Nat} (ha:a≤p.size) (h:Dsc O key p a q):(∀ k,Kp key (kas_rev p (a - (q + 1)) a) k=Kp key p k):=by
 obtain ⟨h1,h2,h3⟩:=h;have same:∀ i,a - (q + 1)≤i→i < a→Kp key p i=Kp key p (a - 1):=fun i g1 g2=>O.kle_antisymm (h3 i g1 g2) (h2 i (a - 1) (by omega) (by omega))
 intro k;rw [JjW ha];split
 ·rename_i h;rw [same _ (by omega) (by omega),same k h.1 h.2]
 ·rfl
theorem Dsc.congr {p p':Array Nat} {a q:Nat} (h:Dsc O key p a q) (e:∀ k,Kp key p' k=Kp key p k):Dsc O key p' a q :=
 ⟨h.1,fun i j hij hj=>by rw [e,e]; exact h.2.1 i j hij hj,fun i g1 g2=>by rw [e,e]; exact h.2.2 i g1 g2⟩
theorem Dsc.next {p:Array Nat} {a q:Nat} (h:Dsc O key p a q) (hlt:O.klt (Kp key p a) (Kp key p (a - 1))):Dsc O key p (a + 1) 0:=by
 refine ⟨by omega,fun i j hij hj=>?_,fun i g1 g2=>?_⟩
 ·by_cases hja:j < a
  ·exact h.2.1 i j hij hja
  ·obtain rfl:j=a:=by omega
   by_cases hia:i=j
   ·subst hia; exact O.kle_refl _
   ·have:=h.1;exact O.kle_trans (O.kle_of_klt hlt) (h.2.1 i (j - 1) (by omega) (by omega))
 ·obtain rfl:i=a:=by omega
  exact O.kle_refl _
theorem Dsc.same {p:Array Nat} {a q:Nat} (h:Dsc O key p a q) (e:Kp key p a=Kp key p (a - 1)):Dsc O key p (a + 1) (q + 1):=by
 have h1:=h.1;refine ⟨by omega,fun i j hij hj=>?_,fun i g1 g2=>?_⟩
 ·by_cases hja:j < a
  ·exact h.2.1 i j hij hja
  ·obtain rfl:j=a:=by omega
   by_cases hia:i=j
   ·subst hia; exact O.kle_refl _
   ·rw [e];exact h.2.1 i (j - 1) (by omega) (by omega)
 ·show O.kle (Kp key p i) (Kp key p (a + 1 - 1));rw [Nat.add_sub_cancel,e];by_cases hia:i=a
  ·subst hia; rw [e]; exact O.kle_refl _
  ·exact h.2.2 i (by omega) (by omega)
theorem JiK {Post:Array Nat×Nat×Nat→Prop} (h0:0 < n):∀ (f:Nat) (p:Array Nat) (a q:Nat),Pm n p→a + f≤n→Dsc O key p a q→(∀ p' a' q',Pm n p'→a≤a'→a'≤a + f→Dsc O key p' a' q'→Post (p',a',q'))→Ok O key n Post (kas_desc f p a q)
 | 0,p,a,q,hp,hn,hd,hq=>hq p a q hp (Nat.le_refl _) (Nat.le_refl _) hd
 | f + 1,p,a,q,hp,hn,hd,hq=>by
  have hz:=hp.size;refine ⟨hp.lt h0 _,hp.lt h0 _,?_⟩;dsimp only;by_cases hc:O.blt (key (p.getD a 0)) (key (p.getD (a - 1) 0))=true
  ·rw [if_pos hc];have hd2:=hd.next hc;by_cases hq0:q > 0
   ·rw [if_pos hq0];have e:=hd.rev (by omega);exact JiK h0 f _ (a + 1) 0 (JhF _ _ hp) (by omega) (hd2.congr e) fun p' a' q' g1 g2 g3 g4=>hq p' a' q' g1 (by omega) (by omega) g4
   ·rw [if_neg hq0];exact JiK h0 f p (a + 1) 0 hp (by omega) hd2 fun p' a' q' g1 g2 g3 g4=>hq p' a' q' g1 (by omega) (by omega) g4
  ·rw [if_neg hc];refine ⟨hp.lt h0 _,hp.lt h0 _,?_⟩;dsimp only;by_cases hc2:O.blt (key (p.getD (a - 1) 0)) (key (p.getD a 0))=true
   ·rw [if_pos hc2];exact hq p a q hp (Nat.le_refl _) (by omega) hd
   ·rw [if_neg hc2];have e:Kp key p a=Kp key p (a - 1):=O.kle_antisymm (nlt hc2) (nlt hc);exact JiK h0 f p (a + 1) (q + 1) hp (by omega) (hd.same e) fun p' a' q' g1 g2 g3 g4=>hq p' a' q' g1 (by omega) (by omega) g4
theorem JmP {Post:Nat×Array Nat→Prop} (h0:0 < n) {a nrem:Nat} {p:Array Nat} (hp:Pm n p) (h1:1≤a) (ha:a≤nrem) (hn:nrem≤n) (hf:Fal O key p a) (hq:∀ m p',Pm n p'→1≤m→m≤nrem→Srt O key p' m→Post (m,p')):Ok O key n Post (kas_tail3 a nrem p):=by
 have hz:=hp.size;unfold kas_tail3;refine Ok.bind (Jod (JhF 0 a hp) h0 (nrem - a) a h1 (fun i j hij hj=>?_) fun m g1 g2 g3 _=>hq m _ (JhF 0 a hp) (by omega) (by omega) g3);rw [JjW (by omega),JjW (by omega),if_pos ⟨Nat.zero_le _,by omega⟩,if_pos ⟨Nat.zero_le _,hj⟩];exact hf _ _ (by omega) (by omega)
theorem Ji4 {Post:Nat×Array Nat→Prop} (h0:0 < n) {a nrem:Nat} {p:Array Nat} (hp:Pm n p) (h1:1≤a) (ha:a + 1≤nrem) (hn:nrem≤n) (hf:Fal O key p a) (hlt:O.klt (Kp key p a) (Kp key p (a - 1))) (hq:∀ m p',Pm n p'→1≤m→m≤nrem→Srt O key p' m→Post (m,p')) :
  Ok O key n Post (kas_descPart a nrem p):=by
 have hd:Dsc O key p a 0:=⟨h1,hf,fun i g1 g2=>by
  obtain rfl:i=a - 1:=by omega
  exact O.kle_refl _⟩
 unfold kas_descPart;refine Ok.bind (JiK h0 _ p (a + 1) 0 hp (by omega) (hd.next hlt) fun p' a' q' g1 g2 g3 g4=>?_);have hz:=g1.size;dsimp only;split
 ·refine JmP h0 (JhF _ _ g1) (by omega) (by omega) hn (fun i j hij hj=>?_) hq;rw [g4.rev (by omega),g4.rev (by omega)];exact g4.2.1 i j hij hj
 ·exact JmP h0 g1 (by omega) (by omega) hn g4.2.1 hq
theorem Js3 {Post:Nat×Array Nat→Prop} (h0:0 < n) {p:Array Nat} (hp:Pm n p) (hq:∀ m p',Pm n p'→1≤m→m≤n→Srt O key p' m→Post (m,p')):Ok O key n Post (kas_count n p):=by
 have hz:=hp.size;unfold kas_count;refine Ok.bind (Jod hp h0 (n - 1) 1 (Nat.le_refl _) (fun i j hij hj=>?_) fun m g1 g2 g3 g4=>?_)
 ·obtain rfl:i=j:=by omega
  exact O.kle_refl _
 ·by_cases hm:(m == n)=true
  ·rw [if_pos hm];exact hq m p hp g1 (by omega) g3
  ·rw [if_neg hm];have hmn:m≠n:=fun e=>hm (by simp [e])
   have hlt:=g4 (by omega);by_cases hm1:m > 1
   ·rw [if_pos hm1];refine ⟨hp.lt h0 _,hp.lt h0 _,?_⟩;dsimp only;by_cases hc:O.blt (key (p.getD 0 0)) (key (p.getD (m - 1) 0))=true
    ·rw [if_pos hc];exact hq m p hp g1 (by omega) g3
    ·rw [if_neg hc];have all:∀ i,i < m→Kp key p i=Kp key p (m - 1):=fun i hi=>by
      refine O.kle_antisymm (g3 i (m - 1) (by omega) (by omega)) ?_;exact O.kle_trans (nlt hc) (g3 0 i (Nat.zero_le _) hi)
     have e:∀ k,Kp key (kas_rev p 0 m) k=Kp key p k:=fun k=>by
      rw [JjW (by omega)];split
      ·rename_i h;rw [all _ (by omega),all k h.2]
      ·rfl
     refine Ji4 h0 (JhF 0 m hp) g1 (by omega) (Nat.le_refl _) (fun i j hij hj=>?_) (by rw [e,e]; exact hlt) hq;rw [e,e,all i (by omega),all j hj];exact O.kle_refl _
   ·rw [if_neg hm1];refine Ji4 h0 hp g1 (by omega) (Nat.le_refl _) (fun i j hij hj=>?_) hlt hq;obtain rfl:i=j:=by omega
    exact O.kle_refl _
theorem Jjh {Post:Nat→Prop} (h0:0 < n) {p:Array Nat} (hp:Pm n p) {k:Nat} (hs:Srt O key p k):∀ (f l r:Nat),l≤r→r≤k→r - l≤f→(∀ i,i < l→O.kle (Kp key p i) (Kp key p k))→(∀ i,r≤i→i < k→O.klt (Kp key p k) (Kp key p i)) →
  (∀ m,m≤k→(∀ i,i < m→O.kle (Kp key p i) (Kp key p k))→(∀ i,m≤i→i < k→O.klt (Kp key p k) (Kp key p i))→Post m)→Ok O key n Post (kas_place p k f l r)
 | 0,l,r,h1,h2,h3,h4,h5,hq=>by
  obtain rfl:l=r:=by omega
  exact hq l h2 h4 h5
 | f + 1,l,r,h1,h2,h3,h4,h5,hq=>by
  unfold kas_place;by_cases hlr:l≥r
  ·rw [if_pos hlr];obtain rfl:l=r:=by omega
   exact hq l h2 h4 h5
  ·rw [if_neg hlr];refine ⟨hp.lt h0 _,hp.lt h0 _,?_⟩;dsimp only;by_cases hc:O.blt (key (p.getD k 0)) (key (p.getD ((l + r) / 2) 0))=true
   ·rw [if_pos hc];refine Jjh h0 hp hs f l _ (by omega) (by omega) (by omega) h4 (fun i g1 g2=>?_) hq;exact O.klt_of_klt_of_kle hc (hs ((l + r) / 2) i g1 g2)
   ·rw [if_neg hc];refine Jjh h0 hp hs f _ r (by omega) h2 (by omega) (fun i g=>?_) h5 hq;exact O.kle_trans (hs i ((l + r) / 2) (by omega) (by omega)) (nlt hc)
theorem Jrx {Post:Array Nat→Prop} (h0:0 < n):∀ (f:Nat) (p:Array Nat) (k:Nat),Pm n p→k + f=n→Srt O key p k→(∀ p',Pm n p'→Srt O key p' n→Post p')→Ok O key n Post (kas_bin f p k)
 | 0,p,k,hp,hk,hs,hq=>hq p hp (by rw [← hk]; exact hs)
 | f + 1,p,k,hp,hk,hs,hq=>by
  have hz:=hp.size;unfold kas_bin;refine Ok.bind (Jjh h0 hp hs k 0 k (Nat.zero_le _) (Nat.le_refl _) (by omega) (fun i g=>absurd g (Nat.not_lt_zero _)) (fun i g1 g2=>by omega) fun m g1 g2 g3=>?_);have e:∀ i,Kp key (bubble p k (k - m)) i=if i=m then Kp key p k else if m < i∧i≤k then Kp key p (i - 1) else Kp key p i:=fun i=>by
   have z:=Jvs (key:=key) (p:=p) (s:=k) (d:=k - m) (by omega) (by omega) i;rw [show k - (k - m)=m by omega] at z;exact z
  refine Jrx h0 f _ (k + 1) ((bubble_perm p k (k - m)).trans hp) (by omega) (fun i j hij hj=>?_) hq;rw [e,e];rcases Nat.lt_trichotomy i m with a | a | a
  ·rw [if_neg (by omega),if_neg (by omega)];rcases Nat.lt_trichotomy j m with b | b | b
   ·rw [if_neg (by omega),if_neg (by omega)];exact hs i j hij (by omega)
   ·rw [if_pos b];exact g2 i a
   ·rw [if_neg (by omega),if_pos ⟨b,by omega⟩];exact hs i (j - 1) (by omega) (by omega)
  ·rw [if_pos a];by_cases b:j=m
   ·rw [if_pos b]; exact O.kle_refl _
   ·rw [if_neg b,if_pos ⟨by omega,by omega⟩];exact O.kle_of_klt (g3 (j - 1) (by omega) (by omega))
  ·rw [if_neg (by omega),if_pos ⟨a,by omega⟩,if_neg (by omega),if_pos ⟨by omega,by omega⟩];exact hs (i - 1) (j - 1) (by omega) (by omega)
theorem JtV {Post:Array Nat→Prop} (h0:0 < n) (hq:∀ p,Pm n p→Srt O key p n→Post p):Ok O key n Post (kas_sort n):=by
 unfold kas_sort;refine Ok.bind (Js3 h0 (Array.Perm.refl _) fun m p g1 g2 g3 g4=>?_);dsimp only;split
 ·rename_i h;have e:max m 1=m:=by omega
  rw [e];exact Jrx h0 (n - m) p m g1 (by omega) g4 hq
 ·obtain rfl:m=n:=by omega
  exact hq p g1 g4
end
end KS
namespace KS
open PySem PySem.W PyProof.Rows
def Zn:KeyOrd where
 α:=List Nat×List Nat
 blt a b:=if a.1=b.1 then decide (a.2 < b.2) else decide (a.1 < b.1)
 irrefl a:=by rw [if_pos rfl]; exact strKind.irrefl a.2
 trans a b c h1 h2:=by
  by_cases e1:a.1=b.1
  ·rw [if_pos e1] at h1;by_cases e2:b.1=c.1
   ·rw [if_pos e2] at h2;rw [if_pos (e1.trans e2)];exact strKind.trans _ _ _ h1 h2
   ·rw [if_neg e2] at h2;rw [if_neg (fun e=>e2 (e1.symm.trans e)),e1];exact h2
  ·rw [if_neg e1] at h1;by_cases e2:b.1=c.1
   ·rw [if_pos e2] at h2;rw [if_neg (fun e=>e1 (e.trans e2.symm)),← e2];exact h1
   ·rw [if_neg e2] at h2;have h3:=strKind.trans _ _ _ h1 h2;have hne:¬ a.1=c.1:=fun e=>by
     rw [e] at h3;have:=strKind.irrefl c.1;rw [this] at h3;cases h3
    rw [if_neg hne];exact h3
 negTrans a b c h:=by
  by_cases e1:a.1=b.1
  ·by_cases e2:b.1=c.1
   ·rw [if_pos (e1.trans e2)] at h;rw [if_pos e1,if_pos e2];exact strKind.negTrans _ _ _ h
   ·rw [if_neg (fun e=>e2 (e1.symm.trans e))] at h;rw [if_neg e2,← e1];exact .inr h
  ·by_cases e2:b.1=c.1
   ·rw [if_neg (fun e=>e1 (e.trans e2.symm))] at h;rw [if_neg e1,e2];exact .inl h
   ·rw [if_neg e1,if_neg e2];by_cases e3:a.1=c.1
    ·rw [if_pos e3] at h;cases h4:decide (a.1 < b.1) with
     | true=>exact .inl rfl
     | false =>
      refine .inr ?_;cases h5:decide (b.1 < c.1) with
      | true=>rfl
      | false =>
       rw [← e3] at h5;exact absurd (strKind.total _ _ h4 h5) e1
    ·rw [if_neg e3] at h;exact strKind.negTrans _ _ _ h
 total a b h1 h2:=by
  by_cases e:a.1=b.1
  ·rw [if_pos e] at h1;rw [if_pos e.symm] at h2;exact Prod.ext e (strKind.total _ _ h1 h2)
  ·rw [if_neg e] at h1;rw [if_neg (fun q=>e q.symm)] at h2;exact absurd (strKind.total _ _ h1 h2) e
section
variable {prog:Program} {w:World} {A:Around} {E:Value→Shared→Prop} {s:Shared}
def JfC (h:Heap) (a:Addr) (x y:Str):Prop:=∃ o n t u,h.get? a=some o∧o.cls=.type "tuple"∧o.data=.seq #[.str x t,.str y u] n
def pk (x:Str×Str):Zn.α:=(x.1.cps.toList,x.2.cps.toList)
theorem JoU {x y:Str} (h:x.cps.toList=y.cps.toList):x=y:=by
 cases x; cases y;congr 1;exact Array.toList_inj.mp h
theorem JoQ {x y:Str} {t u:Tok} {Q:Bool→Shared→Prop} (h:Q (decide (x=y)) s):wpAny (model prog w) A (eqBool (.str x t) (.str y u)) Q E s:=by
 refine (L2.Yq prog w).eqBool (L2.Jbh prog w x t) (L2.Jbh prog w y u) ?_;rw [L2.Jq0];exact h
theorem Js7 {a b:Addr} {p q:Str×Str} {Q:Bool→Shared→Prop} (ha:JfC s.heap a p.1 p.2) (hb:JfC s.heap b q.1 q.2) (h:Q (Zn.blt (pk p) (pk q)) s):wpAny (model prog w) A (keyLt' (tuples' true) (.ref a) (.ref b)) Q E s:=by
 obtain ⟨o,n,t,u,h1,_,h3⟩:=ha;obtain ⟨o',n',t',u',g1,_,g3⟩:=hb;refine kat_lt h1 h3 g1 g3 (kat_cons (JoQ (kat_go (fun e=>?_) (fun e=>?_))))
 ·have e1:p.1=q.1:=of_decide_eq_true e;refine kat_yes (kat_cons (JoQ (kat_go (fun e=>?_) (fun e=>?_))))
  ·have e2:p.2=q.2:=of_decide_eq_true e;refine kat_yes (kat_nil ?_);have hf:Zn.blt (pk p) (pk q)=false:=by
    have:pk p=pk q:=by unfold pk; rw [e1,e2]
    rw [this];exact Zn.irrefl _
   rw [hf] at h;exact h
  ·refine kat_no (kat_one _ _ ?_);have hf:Zn.blt (pk p) (pk q)=decide (p.2.cps.toList < q.2.cps.toList):=by
    show (if p.1.cps.toList=q.1.cps.toList then _ else _)=_;rw [if_pos (by rw [e1])];rfl
   rw [hf] at h;exact PySem.P.lt_str h
 ·have e1:¬ p.1=q.1:=of_decide_eq_false e;refine kat_no ?_;have hf:Zn.blt (pk p) (pk q)=decide (p.1.cps.toList < q.1.cps.toList):=by
   show (if p.1.cps.toList=q.1.cps.toList then _ else _)=_;rw [if_neg (fun z=>e1 (JoU z))];rfl
  rw [hf] at h;exact oneLt_str h
def dfl:Str×Str:=(Str.empty,Str.empty)
def ky (ps:List (Str×Str)) (i:Nat):Zn.α:=pk (ps.getD i dfl)
def JaC (vs:List Value) (p:Array Nat):Array Value:=List.toArray (p.toList.map fun i=>vs.getD i Value.none)
theorem Jnl (n:Nat):Pm n (List.toArray (List.range n)):=Array.Perm.refl _
theorem JqE (vs:List Value):JaC vs (List.toArray (List.range vs.length))=vs.toArray:=by
 unfold JaC;congr 1;apply List.ext_getElem?;intro i;rw [List.getElem?_map];by_cases hi:i < vs.length
 ·simp [hi]
 ·simp [hi]
theorem Jqt {a:Addr} {vs:List Value} {ps:List (Str×Str)} {n:Nat} {P:PySem.Fin→Shared→Prop} (ho:s.heap.get? a=some (seqObj "list" vs.toArray n)) (hlen:vs.length=ps.length) (h64:vs.length < 64)
  (hp:∀ (i:Nat) v p,vs[i]?=some v→ps[i]?=some p→∃ b,b≠a∧v=.ref b∧JfC s.heap b p.1 p.2)
  (h:∀ p:Array Nat,Pm vs.length p→Srt Zn (ky ps) p vs.length→P (.done (.ret .none)) { s with heap:=sortedHeap s.heap a vs (JaC vs p) }) :
  wpAny (model prog w) A (Builtin.«list.sort» ⟨[.ref a],[]⟩) P E s:=by
 have hlt:a < s.heap.objs.size:=Heap.lt_size ho;obtain ⟨e1,g1⟩:∃ e1,(s.heap.update a (Obj.mapSeq fun _=>#[])).get? a=some (seqObj "list" #[] e1):=⟨_,get?_update_seq ho fun _=>#[]⟩
 have big:vs.length≤sizeLine:=by rw [sizeLine_eq]; omega
 rw [list_sort_plain];refine wpAny_bind (listItems_at ho rfl (wpAny_bind (listUpdate_at ho rfl (wpAny_bind (seqEpoch_at g1 rfl (wpAny_bind (wpAny_newTuple (wpAny_bind (wpAny_newList (wpAny_holding ?_))) (by simpa using big))))) (by simpa using big))));generalize hh6:(((s.heap.update a (Obj.mapSeq fun _=>#[])).push (seqObj "tuple" vs.toArray 0)).push (seqObj "list" #[] 0))=h6;have g6:h6.get? a=some (seqObj "list" #[] e1):=by
  rw [← hh6];exact Heap.get?_push_of_some _ (Heap.get?_push_of_some _ g1)
 have keep:∀ b o,b≠a→s.heap.get? b=some o→h6.get? b=some o:=fun b o hb e=>by
  rw [← hh6];refine Heap.get?_push_of_some _ (Heap.get?_push_of_some _ ?_);rw [Heap.get?_update_ne _ _ _ _ hb];exact e
 have hp6:∀ (i:Nat) v p,vs[i]?=some v→ps[i]?=some p→∃ b,v=.ref b∧JfC h6 b p.1 p.2:=fun i v p hv hq=>by
  obtain ⟨b,hb,e,o,n,t,u,z1,z2⟩:=hp i v p hv hq;exact ⟨b,e,o,n,t,u,keep b o hb z1,z2⟩
 have hfin:∀ p:Array Nat,Pm vs.length p→(JaC vs p).size≤sizeLine + 1:=fun p hpm=>by
  unfold JaC;rw [List.size_toArray,List.length_map,Array.length_toList,hpm.size];exact Nat.le_succ_of_le big
 have eH:∀ out,h6.update a (Obj.mapSeq fun _=>out)=sortedHeap s.heap a vs out:=fun out=>by rw [← hh6]; rfl
 have sz:vs.toArray.size=vs.length:=List.size_toArray;show wpAny (model prog w) A _ P E { s with heap:=h6 };dsimp only;rw [sz];by_cases h2:vs.length < 2
 ·rw [if_pos h2,if_pos h2];refine wpAny_bind (wpAny_pure ?_);rw [StateT.run_pure];refine wpAny_bind (wpAny_pure ?_);dsimp only;have eo:(arrOf (SortSt.mk' general' (vs.toArray.zip vs.toArray) #[] 7 none)).map (·.2)=JaC vs (List.toArray (List.range vs.length)):=by
   rw [JqE];show (vs.toArray.zip vs.toArray).map (·.2)=_;simp [List.map_snd_zip]
  rw [eo];refine wpAny_bind (seqEpoch_at g6 rfl (wpAny_bind (listUpdate_at g6 rfl ?_ (hsz2:=hfin _ (Jnl _)))));rw [if_neg (by simp)];show wpAny _ _ _ _ _ { s with heap:=h6.update a (Obj.mapSeq fun _=>JaC vs (List.toArray (List.range vs.length))) };rw [eH];refine wpAny_pure (h _ (Jnl _) fun i j hij hj=>?_);obtain rfl:i=j:=by omega
  exact Zn.kle_refl _
 ·rw [if_neg h2,if_neg h2];have tups:∀ (vs:List Value) (ps:List (Str×Str)),vs.length=ps.length→(∀ (i:Nat) v p,vs[i]?=some v→ps[i]?=some p→∃ b,v=.ref b∧JfC h6 b p.1 p.2)→∃ fs:List Value,KatTups h6 vs fs∧fs.length=vs.length∧∀ v∈fs,∃ x t,v=.str x t:=by
   intro vs
   induction vs with
   | nil=>exact fun ps _ _=>⟨[],.nil,rfl,fun v hv=>nomatch hv⟩
   | cons v r ih =>
    intro ps hl hq;cases ps with
    | nil=>cases hl
    | cons p ps =>
     obtain ⟨b,rfl,o,n,t,u,z1,z2,z3⟩:=hq 0 v p rfl rfl;obtain ⟨fs,y1,y2,y3⟩:=ih ps (by simpa using hl) fun i v' p' a1 a2=>hq (i + 1) v' p' (by simpa using a1) (by simpa using a2)
     refine ⟨.str p.1 t :: fs,.cons z1 z2 z3 rfl y1,by simp [y2],fun v' hv'=>?_⟩;rcases List.mem_cons.mp hv' with rfl | q
     ·exact ⟨_,_,rfl⟩
     ·exact y3 v' q
  obtain ⟨fs,f1,f2,f3⟩:=tups vs ps hlen hp6;refine wpAny_bind (kat_kind (s:={ s with heap:=h6 }) f1 (by omega) (T:=.type "str") (fun v hv=>?_) (by decide) ?_)
  ·obtain ⟨x,t,rfl⟩:=f3 v hv;exact .now
  have ek:(Value.type "str" != Value.type "tuple")=true:=by decide
  rw [ek];refine wpAny_bind (wpAny_mono (kat_run (E:=E) (ks:=vs) (vs:=vs) (G:=fun p s'=>s'={ s with heap:=h6 }∧Pm vs.length p∧Srt Zn (ky ps) p vs.length)
   (Q:=fun st' s'=>∃ p:Array Nat,s'={ s with heap:=h6 }∧Pm vs.length p∧Srt Zn (ky ps) p vs.length∧arrOf st'=p.map (kas_item (vs.toArray.zip vs.toArray))∧failedOf st'=none) rfl (by omega) h64
   (fun p st' s' b1 b2 b3 b4=>⟨p,b4.1,b4.2.1,b4.2.2,b2,b3⟩) ?_) ?_ fun _ _ e=>e)
  ·refine Ok.wp (O:=Zn) (key:=ky ps) (n:=vs.length) (Post:=fun p=>Pm vs.length p∧Srt Zn (ky ps) p vs.length) (fun i j C hi hj hC=>?_) (fun p q=>⟨rfl,q.1,q.2⟩) (JtV (by omega) fun p q1 q2=>⟨q1,q2⟩);have at_:∀ i,i < vs.length→∃ b,vs.getD i Value.none=.ref b∧JfC h6 b (ps.getD i dfl).1 (ps.getD i dfl).2:=fun i hi=>by
    have hi':i < ps.length:=by omega
    obtain ⟨b,e,pb⟩:=hp6 i vs[i] ps[i] (List.getElem?_eq_getElem hi) (List.getElem?_eq_getElem hi');refine ⟨b,?_,?_⟩
    ·rw [List.getD_eq_getElem?_getD,List.getElem?_eq_getElem hi]; exact e
    ·rw [List.getD_eq_getElem?_getD,List.getElem?_eq_getElem hi']; exact pb
   obtain ⟨b,eb,pb⟩:=at_ i hi;obtain ⟨c,ec,pc⟩:=at_ j hj;show wpAny (model prog w) A (keyLt' (tuples' true) (vs.getD i Value.none) (vs.getD j Value.none)) C (fun _ _=>False) { s with heap:=h6 };rw [eb,ec];exact Js7 (s:={ s with heap:=h6 }) pb pc hC
  ·rintro ⟨⟨⟩,st'⟩ s' ⟨p,rfl,q1,q2,q3,q4⟩;dsimp only;have eo:(arrOf st').map (·.2)=JaC vs p:=kat_snds rfl q3;rw [eo,q4];refine wpAny_bind (seqEpoch_at g6 rfl (wpAny_bind (listUpdate_at g6 rfl ?_ (hsz2:=hfin p q1))));dsimp only;rw [if_neg (by simp)];show wpAny _ _ _ _ _ { s with heap:=h6.update a (Obj.mapSeq fun _=>JaC vs p) };rw [eH];exact wpAny_pure (h p q1 q2)
theorem JmW {l:Addr} {vs:List Value} {ps:List (Str×Str)} {Q:Value→Shared→Prop} (hl:s.heap.IsList l vs.toArray) (hlen:vs.length=ps.length) (h64:vs.length < 64)
  (hp:∀ (i:Nat) v p,vs[i]?=some v→ps[i]?=some p→∃ b,v=.ref b∧JfC s.heap b p.1 p.2)
  (h:∀ p:Array Nat,Pm vs.length p→Srt Zn (ky ps) p vs.length→Q (.ref (s.heap.objs.size + 1)) { s with heap:=sortedAll s.heap vs (JaC vs p) }) :
  wpAny (model prog w) A (call (.builtin "sorted") [.ref l]) Q E s:=by
 have big:vs.length≤sizeLine:=by rw [sizeLine_eq]; omega
 refine Calls.call_function_entry kind_sorted plain_sorted entry_sorted (args_sorted1 _) ?_;unfold Builtin.«sorted»;refine wpAny_bind (m:=checkCount "sorted" 1 1 _) (wpAny_pure (wpAny_bind (collect_list hl (wpAny_bind (wpAny_newList ?_ (by simpa using big))) (by simpa using big))));generalize hh1:((s.heap.push (seqObj "list" #[] 0)).update s.heap.objs.size (Obj.mapSeq (· ++ vs.toArray)))=h1;have z1:h1.objs.size=s.heap.objs.size + 1:=by rw [← hh1,Heap.size_update,size_push']
 have g1:(h1.push (seqObj "list" vs.toArray 0)).get? (s.heap.objs.size + 1)=some (seqObj "list" vs.toArray 0):=by rw [← z1]; exact Heap.get?_push_size _ rfl
 have keep:∀ b o,s.heap.get? b=some o→(h1.push (seqObj "list" vs.toArray 0)).get? b=some o:=fun b o q=>by
  have hb:b < s.heap.objs.size:=Heap.lt_size q;refine Heap.get?_push_of_some _ ?_;rw [← hh1,Heap.get?_update_ne _ _ _ _ (Nat.ne_of_lt hb)];exact Heap.get?_push_of_some _ q
 show wpAny _ _ _ _ _ { s with heap:=h1.push (seqObj "list" vs.toArray 0) };rw [z1];refine wpAny_bind (wpAny_holding (wpAny_call_entry slot_list_sort ⟨_,g1,rfl⟩ entry_list_sort (Jqt (s:={ s with heap:=h1.push (seqObj "list" vs.toArray 0) }) g1 hlen h64 (fun i v p hv hq=>?_) fun p q1 q2=>⟨_,rfl,?_⟩) (args_list_sort _)))
 ·obtain ⟨b,e,o,n,t,u,y1,y2⟩:=hp i v p hv hq;exact ⟨b,Nat.ne_of_lt (Nat.lt_succ_of_lt (Heap.lt_size y1)),e,o,n,t,u,keep b o y1,y2⟩
 ·refine wpAny_pure ⟨_,rfl,?_⟩;have z:=h p q1 q2;unfold sortedAll at z;rw [hh1] at z;exact z
end
end KS
namespace L2
open PySem PySem.Spec PyProof.Rows KS
def sle (a b:Str):Prop:=strKind.kle a.cps.toList b.cps.toList
def ple (p q:Str×Str):Prop:=Zn.kle (pk p) (pk q)
theorem Jqu {a b c:Str} (h1:sle a b) (h2:sle b c):sle a c:=KeyOrd.kle_trans h1 h2
theorem Jr6 {a b:Str} (h1:sle a b) (h2:sle b a):a=b:=JoU (KeyOrd.kle_antisymm h1 h2)
theorem JjV:∀ {p:Str} {l:List Str},risingS p l=true→(∀ x∈l,sle p x)∧l.Pairwise sle
 | p,[],_=>⟨(fun x hx=>nomatch hx),.nil⟩
 | p,x :: r,h=>by
  have h':(!ltCps x.cps.toList p.cps.toList && risingS x r)=true:=h;rw [Bool.and_eq_true] at h';obtain ⟨a,b⟩:=JjV h'.2;have hx:sle p x:=by
   have z:=h'.1;rw [ltCps_eq] at z;show decide (x.cps.toList < p.cps.toList)=false;simpa using z
  refine ⟨fun y hy=>?_,List.pairwise_cons.mpr ⟨a,b⟩⟩;rcases List.mem_cons.mp hy with rfl | hy
  ·exact hx
  ·exact Jqu hx (a y hy)
theorem JjN {l:List Str} (h:sortedS l=true):l.Pairwise sle:=by
 cases l with
 | nil=>exact .nil
 | cons x r =>
  obtain ⟨a,b⟩:=JjV (p:=x) (l:=r) h;exact List.pairwise_cons.mpr ⟨a,b⟩
theorem Jhw:∀ {us:List Value} {ss:List Str},StrsAre us ss→JK (ss.map V.str) us
 | _,_,.nil=>.nil
 | _,_,.cons x t h=>.cons ⟨t,rfl⟩ (Jhw h)
section
variable {X:Cx}
def JuT (K:PySem.W.Frag):List V→Hp→VK→Prop:=fun xs H Q=>∃ (l:Addr) (ss:List Str),xs=[.ref l]∧JA K H l (ss.map V.str)∧ss.length < 64∧∀ (p:Addr) (ss':List Str),H p=none→ss'.Perm ss→ss'.Pairwise sle→Q (.ref p) (upd H p (.lst (ss'.map V.str)))
theorem Jei:Yl X (.builtin "sorted") (JuT X.K):=by
 intro pins s σ H xs us Q I r h;obtain ⟨l,ss,rfl,hl,hz,q⟩:=h;obtain ⟨u,rfl,ru⟩:=JK.one r;cases ru;obtain ⟨its,rv,pl,_⟩:=I.list hl;have rlen:=rv.length;rw [List.length_map] at rlen;refine sorted_strs pl.isList (JkD rv) (by omega) fun out ss' a1 a2 a3=>?_
 obtain ⟨e,he⟩:=sortedAll_at s.heap its out;have hf:H (s.heap.objs.size + 1)=none:=I.hok.fresh (Nat.le_succ _);have hv:=Jhw a1;refine ⟨.ref (s.heap.objs.size + 1),_,I.laid (t':=s.toks) (o:=.lst (ss'.map V.str)) (fun b u=>sortedAll_old) (Nat.le_succ _) ⟨?_,out.toList,e,hv,he⟩,rfl,q _ ss' hf a2 (JjN a3)⟩;rw [List.length_map,a2.length_eq];exact Nat.le_trans (Nat.le_of_lt hz) (by decide)
def Zo (K:PySem.W.Frag) (H:Hp) (zs:List (V×(Str×Str))):Prop:=∀ z∈zs,∃ a,z.1=.ref a∧J1 K H a [.str z.2.1,.str z.2.2]
def JuS (K:PySem.W.Frag):List V→Hp→VK→Prop:=fun xs H Q=>∃ (l:Addr) (zs:List (V×(Str×Str))),xs=[.ref l]∧JA K H l (zs.map (·.1))∧Zo K H zs∧zs.length < 64∧∀ (p:Addr) (zs':List (V×(Str×Str))),H p=none→zs'.Perm zs→(zs'.map (·.2)).Pairwise ple→Q (.ref p) (upd H p (.lst (zs'.map (·.1))))
theorem Jp6:∀ {vs:List V} {us:List Value},JK vs us→∀ (p:List Nat),(∀ i∈p,i < vs.length)→JK (p.map fun i=>vs.getD i .non) (p.map fun i=>us.getD i Value.none):=by
 intro vs us r p
 induction p with
 | nil=>exact fun _=>.nil
 | cons i p ih =>
  intro h;have hi:=h i (List.mem_cons_self ..);obtain ⟨u,hu,ru⟩:=Jeo (i:=i) r (List.getElem?_eq_getElem hi);refine .cons ?_ (ih fun j hj=>h j (List.mem_cons_of_mem _ hj));show JU (vs.getD i .non) (us.getD i Value.none);rw [List.getD_eq_getElem?_getD,List.getD_eq_getElem?_getD,hu,List.getElem?_eq_getElem hi];exact ru
theorem JqA {α:Type} {l:List α} {d:α} {p:Array Nat} (h:Pm l.length p):(p.toList.map fun i=>l.getD i d).Perm l:=by
 have h1:p.toList.Perm (List.range l.length):=by
  have:=Array.perm_iff_toList_perm.mp h;simpa using this
 have h2:=h1.map fun i=>l.getD i d
 refine h2.trans (List.Perm.of_eq ?_);apply List.ext_getElem?;intro i;rw [List.getElem?_map];by_cases hi:i < l.length
 ·simp [hi]
 ·simp [hi]
theorem JpU:Yl X (.builtin "sorted") (JuS X.K):=by
 intro pins s σ H xs us Q I r h;obtain ⟨l,zs,rfl,hl,hp,hz,q⟩:=h;obtain ⟨u,rfl,ru⟩:=JK.one r;cases ru;obtain ⟨its,rv,pl,_⟩:=I.list hl;have rlen:=rv.length;rw [List.length_map] at rlen;refine JmW (ps:=zs.map (·.2)) pl.isList (by rw [List.length_map]; omega) (by omega) (fun i v p hv hq=>?_) fun p pm so=>?_
 ·rw [List.getElem?_map] at hq;obtain ⟨z,hz1,hz2⟩:=Option.map_eq_some_iff.mp hq;obtain ⟨a,ea,ha⟩:=hp z (List.mem_of_getElem? hz1);obtain ⟨u,hu,ru⟩:=Jeo (i:=i) (x:=z.1) rv (by rw [List.getElem?_map,hz1]; rfl);rw [hv] at hu;cases hu;rw [ea] at ru;cases (show v=.ref a from ru);obtain ⟨its',r',⟨o,e,c,n,d⟩,_⟩:=I.tuple ha;cases r' with
  | cons r1 rr =>
   cases rr with
   | cons r2 rr =>
    cases rr;obtain ⟨t,e1⟩:=r1;obtain ⟨t',e2⟩:=r2;subst e1 e2;rw [← hz2];exact ⟨a,rfl,o,n,t,t',e,c,d⟩
 ·obtain ⟨e,he⟩:=sortedAll_at s.heap its (JaC its p);have hf:H (s.heap.objs.size + 1)=none:=I.hok.fresh (Nat.le_succ _);have pmz:Pm zs.length p:=by rw [rlen]; exact pm
  have hlt:∀ i∈p.toList,i < zs.length:=fun i hi=>by
   have:=(Array.perm_iff_toList_perm.mp pmz).mem_iff.mp hi;simpa using this
  let d:V×(Str×Str):=(.non,dfl)
  have e1:(p.toList.map fun i=>zs.getD i d).map (·.1)=p.toList.map fun i=>(zs.map (·.1)).getD i .non:=by
   rw [List.map_map];refine List.map_congr_left fun i hi=>?_
   have:=hlt i hi;simp [List.getD_eq_getElem?_getD,List.getElem?_eq_getElem this]
  have e2:(p.toList.map fun i=>zs.getD i d).map (·.2)=p.toList.map fun i=>(zs.map (·.2)).getD i dfl:=by
   rw [List.map_map];refine List.map_congr_left fun i hi=>?_
   have:=hlt i hi;simp [List.getD_eq_getElem?_getD,List.getElem?_eq_getElem this]
  have hv:JK ((p.toList.map fun i=>zs.getD i d).map (·.1)) (JaC its p).toList:=by
   rw [e1];have z:=Jp6 rv p.toList (fun i hi=>by rw [List.length_map]; exact hlt i hi);unfold JaC;rw [List.toList_toArray];exact z
  refine ⟨.ref (s.heap.objs.size + 1),_,I.laid (t':=s.toks) (o:=.lst ((p.toList.map fun i=>zs.getD i d).map (·.1))) (fun b u=>sortedAll_old) (Nat.le_succ _) ⟨?_,(JaC its p).toList,e,hv,he⟩,rfl,q _ (p.toList.map fun i=>zs.getD i d) hf (JqA pmz) ?_⟩
  ·rw [List.length_map,List.length_map,Array.length_toList,pmz.size];exact Nat.le_trans (Nat.le_of_lt hz) (by decide)
  ·rw [e2,List.pairwise_map,List.pairwise_iff_getElem];intro i j hi hj hij;rw [Array.length_toList] at hi hj;have z:=so i j (Nat.le_of_lt hij) (by rw [← rlen,← pmz.size]; exact hj);unfold Kp ky at z;rw [Array.getD_eq_getD_getElem?,Array.getD_eq_getD_getElem?,Array.getElem?_eq_getElem hi,Array.getElem?_eq_getElem hj] at z;exact z
theorem JlZ {P P':Program} {w w':World}:∀ {ks:List JI} {us:List Value},ItemsAre (Yq P w) ks us→ItemsAre (Yq P' w') ks us
 | _,_,.nil=>.nil
 | _,_,.cons h t=>.cons h (JlZ t)
theorem Jqb {P P':Program} {w w':World} {h:Heap} {ks:List JI} {a:Addr} (hk:HS.TK P w h ks a):HS.TK P' w' h ks a:=let ⟨o,its,n,e,c,d,i⟩:=hk; ⟨o,its,n,e,c,d,JlZ i⟩
theorem JvY {A:Around} {s:Shared} {P:Program} {w:World} {x y:List JI} {a b:Addr} (hu:A.units < cLine) (hx:HS.TK P w s.heap x a) (hy:HS.TK P w s.heap y b):SeqAt.EqAt A s (.ref a) (.ref b) (decide (x=y)) :=
 fun prog w E Q hq=>wpAny_eqBool_tuple hu (Jqb hx) (Jqb hy) hq
open Classical in
def Jwz (K:PySem.W.Frag) (neg:Bool):R2:=fun x y H Q=>∃ a l vs ks kss,x=.ref a∧y=.ref l∧J1 K H a (ks.map kV)∧JA K H l vs∧JgP K H vs kss∧Q (.bl (if neg then !decide (ks∈kss) else decide (ks∈kss))) H
open Classical in
theorem Jmt (hu:X.A.units + 1 < cLine):ZS X (compareOp .NotIn) (Jwz X.K true):=by
 intro pins s σ H x y v u Q I rx ry h;obtain ⟨a,l,vs,ks,kss,rfl,rfl,ha,hl,⟨tl,tt⟩,q⟩:=h;cases rx;cases ry;obtain ⟨its,rv,pl,_⟩:=I.list hl;have rlen:=rv.length;have hk:=Jo6 I ha;let e:Value→Bool:=fun u=>match u with
  | .ref b=>decide (HS.TK X.prog X.w s.heap ks b)
  | _=>false
 have at_:∀ (i:Nat) v,its[i]?=some v→∃ k2 b,kss[i]?=some k2∧v=.ref b∧HS.TK X.prog X.w s.heap k2 b:=fun i v hv=>by
  have hi:=(List.getElem?_eq_some_iff.mp hv).1;obtain ⟨x,hx⟩:∃ x,vs[i]?=some x:=⟨vs[i],List.getElem?_eq_getElem (by omega)⟩
  obtain ⟨k2,hk2⟩:∃ k2,kss[i]?=some k2:=⟨kss[i],List.getElem?_eq_getElem (by omega)⟩
  obtain ⟨b,rfl,hb⟩:=tt i x k2 hx hk2;obtain ⟨u,hu1,hu2⟩:=Jeo rv hx;rw [hv] at hu1;cases hu1;cases (show v=.ref b from hu2);exact ⟨k2,b,hk2,rfl,Jo6 I hb⟩
 have same:∀ {k2:List JI} {b:Addr},HS.TK X.prog X.w s.heap k2 b→decide (k2=ks)=decide (HS.TK X.prog X.w s.heap ks b):=fun {k2 b} hb=>by
  refine decide_eq_decide.mpr ⟨fun e=>e ▸ hb,fun h=>IsTupleKey.inj hb h⟩
 refine SeqAt.notIn_listAt e pl.isList (fun w hw=>?_) ⟨.bl _,H,I,rfl,?_⟩
 ·obtain ⟨i,hi⟩:=List.mem_iff_getElem?.mp (show w∈its by simpa using hw);obtain ⟨k2,b,_,rfl,hb⟩:=at_ i w hi;have z:=JvY (A:=X.A.in1) hu hb hk;rw [same hb] at z;exact z
 ·have e2:its.toArray.any e=decide (ks∈kss):=by
   rw [show its.toArray.any e=its.any e by simp,Bool.eq_iff_iff,List.any_eq_true,decide_eq_true_eq];constructor
   ·rintro ⟨w,hw,he⟩;obtain ⟨i,hi⟩:=List.mem_iff_getElem?.mp hw;obtain ⟨k2,b,h2,rfl,hb⟩:=at_ i w hi;have he':decide (HS.TK X.prog X.w s.heap ks b)=true:=he;rw [← same hb] at he';rw [← of_decide_eq_true he'];exact List.mem_of_getElem? h2
   ·intro hin;obtain ⟨i,hi⟩:=List.mem_iff_getElem?.mp hin;have hlt:=(List.getElem?_eq_some_iff.mp hi).1;obtain ⟨k2,b,h2,h3,hb⟩:=at_ i its[i] (List.getElem?_eq_getElem (by omega));rw [hi] at h2;cases h2;refine ⟨its[i],List.getElem_mem _,?_⟩;rw [h3];exact decide_eq_true hb
  rw [e2];exact q
def JuX (K:PySem.W.Frag):R2:=fun x y H Q=>∃ a l vs,x=.ref a∧y=.ref l∧JA K H a vs∧JA K H l []∧Q (.bl vs.isEmpty) H
theorem Jnv (hu:X.A.units < cLine):ZS X (compareOp .Eq) (JuX X.K):=by
 intro pins s σ H x y v u Q I rx ry h;obtain ⟨a,l,vs,rfl,rfl,ha,hl,q⟩:=h;cases rx;cases ry;obtain ⟨its,rv,pl,_⟩:=I.list ha;obtain ⟨its2,rv2,pl2,_⟩:=I.list hl;cases rv2;have rlen:=rv.length;cases vs with
 | nil =>
  cases rv;refine SeqAt.eq_listAt (e:=fun _=>true) pl.isList pl2.isList rfl hu (fun j h1 h2=>absurd h1 (Nat.not_lt_zero _)) ⟨.bl _,H,I,rfl,q⟩
 | cons v r=>exact SeqAt.eq_list_lengthsAt pl.isList pl2.isList (by rw [List.size_toArray,← rlen]; rfl) hu ⟨.bl _,H,I,rfl,q⟩
end
section
variable {tc:TT} {te:TE} {σc:St} {D:Addr} {H1:Hp} {Q:Hp→Prop} {K:PySem.W.Frag}
theorem Jkl {a:Addr} {xs:List V} (Pv:Nat→List V→Hp→Prop) (h00:σc[0]?=some none) (h01:σc[1]?=some none) (hq:∀ i ys H,Pv i ys H→JA K H a xs) (h0:Pv 0 [] (upd H1 D (.lst []))) (hl:∀ i ys H,Pv i ys H→H D=some (.lst ys))
  (hs:∀ i x ys H,xs[i]?=some x→Pv i ys H→∃ b u v,x=.ref b∧J1 K H b [u,v]∧tc ((σc.set 0 (some u)).set 1 (some v)) H fun c H3=>if c=true then te ((σc.set 0 (some u)).set 1 (some v)) H3 fun v' H4=>H4 D=some (.lst ys)∧ys.length < sizeLine∧Pv (i + 1) (ys ++ [v']) (upd H4 D (.lst (ys ++ [v']))) else Pv (i + 1) ys H3)
  (hd:∀ ys H,Pv xs.length ys H→Q H):Jen (Itl K a) (JpF K 2 (JpG (Ja4 0) (JpG (Ja4 1) Jvo))) tc te σc D H1 Q:=by
 refine ⟨fun i m ys H=>m=xs.length - i∧i≤xs.length∧Pv i ys H,⟨xs.length,by simp,Nat.zero_le _,h0⟩,?_⟩;rintro i m ys H ⟨rfl,hi,p⟩;refine ⟨hl _ _ _ p,?_⟩;by_cases hlt:i < xs.length
 ·refine .inr ⟨⟨xs,xs[i],hq _ _ _ p,by simp [hlt]⟩,Pv (i + 1),fun zs H' p'=>⟨xs.length - (i + 1),by omega,rfl,hlt,p'⟩,fun x H' y=>?_⟩;obtain ⟨e,y⟩:=y;subst e;have hx:=y xs (hq _ _ _ p);obtain ⟨b,u,v,rfl,hb,z⟩:=hs i x ys _ hx p;exact ⟨b,[u,v],rfl,hb,rfl,u,[v],rfl,v,[],rfl,rfl,((JfX.refl σc).set h00).set h01,z⟩
 ·have e:i=xs.length:=by omega
  subst e;exact .inl ⟨⟨xs,hq _ _ _ p,Nat.le_refl _⟩,hd _ _ p⟩
end
end L2
namespace L2
open PySem PySem.Spec PyProof.Rows
structure Md (K:PySem.W.Frag) (C:Addr) (x qual:Str) (st:Stmt) (ps:List Str) (f:Addr) (fd:FuncData):Prop where
 F:Fun K x qual st f fd
 b:Jbz K fd ps []
 m:JpZ K C x f
theorem Zp {X:Cx}:Jac (Ys X.prog X.w) X E0:=fun pins σ H s e s' I h=>by
 obtain ⟨ea,C,B,H2,_,_,_,_,q⟩:=h;exact q.elim
section
variable {tc:TT} {te:TE} {σc:St} {D:Addr} {H1:Hp} {Q:Hp→Prop} {K:PySem.W.Frag}
theorem Jjz {a:Addr} {xs:List V} (Pv:Nat→List V→Hp→Prop) (h00:σc[0]?=some none) (hq:∀ i ys H,Pv i ys H→J1 K H a xs) (h0:Pv 0 [] (upd H1 D (.lst []))) (hl:∀ i ys H,Pv i ys H→H D=some (.lst ys))
  (hs:∀ i x ys H,xs[i]?=some x→Pv i ys H→tc (σc.set 0 (some x)) H fun b H3=>if b=true then te (σc.set 0 (some x)) H3 fun v H4=>H4 D=some (.lst ys)∧ys.length < sizeLine∧Pv (i + 1) (ys ++ [v]) (upd H4 D (.lst (ys ++ [v]))) else Pv (i + 1) ys H3)
  (hd:∀ ys H,Pv xs.length ys H→Q H):Jen (Itt K a) (Ja4 0) tc te σc D H1 Q :=
 Jlx (n:=xs.length) (X1:=fun i x=>xs[i]?=some x) Pv h00 (fun i H hi ⟨ys,p⟩=>⟨⟨xs,xs[i],hq _ _ _ p,by simp [hi]⟩,fun x H' y=>⟨y.1,y.2 xs (hq _ _ _ p)⟩⟩) (fun H ⟨ys,p⟩=>⟨xs,hq _ _ _ p,Nat.le_refl _⟩) h0 hl (fun i x ys H _ hx p=>hs i x ys H hx p) hd
end
theorem JjM {α:Type} {R:α→α→Prop} (anti:∀ a b,R a b→R b a→a=b):∀ {l r:List α},l.Perm r→l.Pairwise R→r.Pairwise R→l=r
 | [],r,p,_,_=>(p.symm.eq_nil).symm
 | x :: l,[],p,_,_=>absurd p.eq_nil (by simp)
 | x :: l,y :: r,p,h1,h2=>by
  have hx:=List.pairwise_cons.mp h1;have hy:=List.pairwise_cons.mp h2;have e:x=y:=by
   have m1:x∈y :: r:=p.mem_iff.mp (List.mem_cons_self ..);have m2:y∈x :: l:=p.mem_iff.mpr (List.mem_cons_self ..);rcases List.mem_cons.mp m1 with q | q
   ·exact q
   ·rcases List.mem_cons.mp m2 with q' | q'
    ·exact q'.symm
    ·exact anti _ _ (hx.1 _ q') (hy.1 _ q)
  subst e;rw [JjM anti (List.perm_cons _ |>.mp p) hx.2 hy.2]
end L2
namespace L2
open PySem PySem.Spec PyProof.Rows
section
variable {X:Cx}
theorem JoN {ns:List Int} {us:List Value} (r:JK (ns.map V.int) us):∃ xs:Array (Int×Tok),us.toArray=intItems xs∧ns=xs.toList.map (·.1):=by
 induction ns generalizing us with
 | nil=>cases r; exact ⟨#[],by simp [intItems],rfl⟩
 | cons n ns ih =>
  cases r with
  | cons r1 r2 =>
   obtain ⟨t,rfl⟩:=r1;obtain ⟨xs,h1,h2⟩:=ih r2;refine ⟨((n,t) :: xs.toList).toArray,?_,by rw [h2]; rfl⟩;have e:∀ {a b:List Value},a.toArray=b.toArray→a=b:=fun h=>by simpa using h
   unfold intItems at h1 ⊢;rw [List.map_toArray];have h3:=congrArg Array.toList h1;rw [Array.toList_map] at h3;simp only [List.map_cons];rw [← h3]
def JvT (K:PySem.W.Frag):List V→Hp→VK→Prop:=fun xs H Q=>∃ (l:Addr) (ns:List Int),xs=[.ref l]∧JA K H l (ns.map V.int)∧0 < ns.length∧∀ M,M∈ns→(∀ a∈ns,a≤M)→Q (.int M) H
def JvS (K:PySem.W.Frag):List V→Hp→VK→Prop:=fun xs H Q=>∃ (l:Addr) (ns:List Int),xs=[.ref l]∧JA K H l (ns.map V.int)∧0 < ns.length∧∀ M,M∈ns→(∀ a∈ns,M≤a)→Q (.int M) H
theorem Jrs (hc:X.calm=true):Yl X (.builtin "max") (JvT X.K):=by
 intro pins s σ H xs us Q I r h;obtain ⟨l,ns,rfl,hl,hne,q⟩:=h;obtain ⟨u,rfl,ru⟩:=JK.one r;cases ru;obtain ⟨its,rv,pl,_⟩:=I.list hl;obtain ⟨zs,e,rfl⟩:=JoN rv;have hsz:0 < zs.size:=by rw [List.length_map,Array.length_toList] at hne; exact hne
 have hl':=pl.isList;rw [e] at hl';refine max_intList (I.ok.hd hc) hl' hsz fun v h' tk hv hk=>?_
 obtain ⟨t,rfl⟩:=intItems_at hv;obtain ⟨h1,h2⟩:=argBest_gt (numAt zs) (zs.size - 1);refine ⟨.int (numAt zs _),H,I.kept hk,⟨_,rfl⟩,q _ ?_ fun a ha=>?_⟩
 ·rw [numAt_eq]; exact getD_mem (by rw [List.length_map,Array.length_toList]; omega)
 ·obtain ⟨j,hj,rfl⟩:=mem_getD ha;rw [List.length_map,Array.length_toList] at hj;rw [← numAt_eq]; exact h2 j (by omega)
theorem Jrq (hc:X.calm=true):Yl X (.builtin "min") (JvS X.K):=by
 intro pins s σ H xs us Q I r h;obtain ⟨l,ns,rfl,hl,hne,q⟩:=h;obtain ⟨u,rfl,ru⟩:=JK.one r;cases ru;obtain ⟨its,rv,pl,_⟩:=I.list hl;obtain ⟨zs,e,rfl⟩:=JoN rv;have hsz:0 < zs.size:=by rw [List.length_map,Array.length_toList] at hne; exact hne
 have hl':=pl.isList;rw [e] at hl';refine min_intList (I.ok.hd hc) hl' hsz fun v h' tk hv hk=>?_
 obtain ⟨t,rfl⟩:=intItems_at hv;obtain ⟨h1,h2⟩:=argBest_lt (numAt zs) (zs.size - 1);refine ⟨.int (numAt zs _),H,I.kept hk,⟨_,rfl⟩,q _ ?_ fun a ha=>?_⟩
 ·rw [numAt_eq]; exact getD_mem (by rw [List.length_map,Array.length_toList]; omega)
 ·obtain ⟨j,hj,rfl⟩:=mem_getD ha;rw [List.length_map,Array.length_toList] at hj;rw [← numAt_eq]; exact h2 j (by omega)
end
end L2
namespace L2
def JaW:List Int→Int
 | []=>0
 | [a]=>a
 | a :: b :: l=>if a≤JaW (b :: l) then JaW (b :: l) else a
def JaV:List Int→Int
 | []=>0
 | [a]=>a
 | a :: b :: l=>if JaV (b :: l)≤a then JaV (b :: l) else a
theorem Jh0:∀ {l:List Int},l≠[]→JaW l∈l∧∀ x∈l,x≤JaW l
 | [],h=>absurd rfl h
 | [a],_=>⟨List.mem_singleton.mpr rfl,fun x hx=>by rw [List.mem_singleton.mp hx]; exact Int.le_refl _⟩
 | a :: b :: l,_=>by
  obtain ⟨h1,h2⟩:=Jh0 (l:=b :: l) (by simp);show (if a≤JaW (b :: l) then JaW (b :: l) else a)∈_∧∀ x∈_,x≤(if a≤JaW (b :: l) then JaW (b :: l) else a);by_cases h:a≤JaW (b :: l)
  ·rw [if_pos h];refine ⟨List.mem_cons_of_mem _ h1,fun x hx=>?_⟩;rcases List.mem_cons.mp hx with q | q
   ·rw [q]; exact h
   ·exact h2 x q
  ·rw [if_neg h];refine ⟨List.mem_cons_self ..,fun x hx=>?_⟩;rcases List.mem_cons.mp hx with q | q
   ·rw [q]; exact Int.le_refl _
   ·have:=h2 x q; omega
theorem JhZ:∀ {l:List Int},l≠[]→JaV l∈l∧∀ x∈l,JaV l≤x
 | [],h=>absurd rfl h
 | [a],_=>⟨List.mem_singleton.mpr rfl,fun x hx=>by rw [List.mem_singleton.mp hx]; exact Int.le_refl _⟩
 | a :: b :: l,_=>by
  obtain ⟨h1,h2⟩:=JhZ (l:=b :: l) (by simp);show (if JaV (b :: l)≤a then JaV (b :: l) else a)∈_∧∀ x∈_,(if JaV (b :: l)≤a then JaV (b :: l) else a)≤x;by_cases h:JaV (b :: l)≤a
  ·rw [if_pos h];refine ⟨List.mem_cons_of_mem _ h1,fun x hx=>?_⟩;rcases List.mem_cons.mp hx with q | q
   ·rw [q]; exact h
   ·exact h2 x q
  ·rw [if_neg h];refine ⟨List.mem_cons_self ..,fun x hx=>?_⟩;rcases List.mem_cons.mp hx with q | q
   ·rw [q]; exact Int.le_refl _
   ·have:=h2 x q; omega
theorem Juf {l:List Int} {m:Int} (h1:m∈l) (h2:∀ x∈l,x≤m):m=JaW l:=by
 have hne:l≠[]:=fun e=>by rw [e] at h1; cases h1
 obtain ⟨h3,h4⟩:=Jh0 hne;have:=h2 _ h3;have:=h4 _ h1;omega
theorem Jud {l:List Int} {m:Int} (h1:m∈l) (h2:∀ x∈l,m≤x):m=JaV l:=by
 have hne:l≠[]:=fun e=>by rw [e] at h1; cases h1
 obtain ⟨h3,h4⟩:=JhZ hne;have:=h2 _ h3;have:=h4 _ h1;omega
section
variable {α:Type}
def YV (W:α→List α) (g:α→Bool) (c:Int):Nat→α→Bool→Int
 | 0,p,_=>if g p=true then 0 else c + 1
 | t + 1,p,r=>if g p=true then 0 else if (W p).isEmpty=true then c + 1 else
   if r=true then (if (JaV ((W p).map fun w=>YV W g c t w false) + JaW ((W p).map fun w=>YV W g c t w true)) / 2 > JaV ((W p).map fun w=>YV W g c t w false) then (JaV ((W p).map fun w=>YV W g c t w false) + JaW ((W p).map fun w=>YV W g c t w true)) / 2 else JaV ((W p).map fun w=>YV W g c t w false))
   else (if (JaV ((W p).map fun w=>YV W g c t w false) + JaW ((W p).map fun w=>YV W g c t w true) + 1) / 2 < JaW ((W p).map fun w=>YV W g c t w true) then (JaV ((W p).map fun w=>YV W g c t w false) + JaW ((W p).map fun w=>YV W g c t w true) + 1) / 2 else JaW ((W p).map fun w=>YV W g c t w true))
def loA (W:α→List α) (g:α→Bool) (c:Int) (t:Nat) (p:α) (r:Bool):Int:=JaV ((W p).map fun w=>YV W g c t w r)
def hiB (W:α→List α) (g:α→Bool) (c:Int) (t:Nat) (p:α) (r:Bool):Int:=JaW ((W p).map fun w=>YV W g c t w r)
variable {W:α→List α} {g:α→Bool} {c:Int} {t:Nat} {p:α} {r:Bool}
theorem JhU (h:g p=true):YV W g c t p r=0:=by
 cases t with
 | zero=>show (if g p=true then 0 else c + 1)=0; rw [if_pos h]
 | succ t=>unfold YV; rw [if_pos h]
theorem JhT (h:g p=false) (hw:W p=[]):YV W g c t p r=c + 1:=by
 cases t with
 | zero=>show (if g p=true then 0 else c + 1)=_; rw [if_neg (by rw [h]; exact Bool.false_ne_true)]
 | succ t=>unfold YV; rw [if_neg (by rw [h]; exact Bool.false_ne_true),if_pos (by rw [hw]; rfl)]
theorem JqM (h:g p=false):YV W g c 0 p r=c + 1:=by
 show (if g p=true then 0 else c + 1)=_; rw [if_neg (by rw [h]; exact Bool.false_ne_true)]
theorem Jl0 {l:List α} (h:l≠[]):¬ (l.isEmpty=true):=fun e=>h (List.isEmpty_iff.mp e)
theorem JqO (h:g p=false) (hw:W p≠[]):YV W g c (t + 1) p true=if (loA W g c t p false + hiB W g c t p true) / 2 > loA W g c t p false then (loA W g c t p false + hiB W g c t p true) / 2 else loA W g c t p false:=by
 unfold YV loA hiB; rw [if_neg (by rw [h]; exact Bool.false_ne_true),if_neg (Jl0 hw),if_pos rfl]
theorem JqN (h:g p=false) (hw:W p≠[]):YV W g c (t + 1) p false=if (loA W g c t p false + hiB W g c t p true + 1) / 2 < hiB W g c t p true then (loA W g c t p false + hiB W g c t p true + 1) / 2 else hiB W g c t p true:=by
 unfold YV loA hiB; rw [if_neg (by rw [h]; exact Bool.false_ne_true),if_neg (Jl0 hw),if_neg Bool.false_ne_true]
theorem JsK (hw:W p≠[]):(∃ w∈W p,loA W g c t p r=YV W g c t w r)∧∀ w∈W p,loA W g c t p r≤YV W g c t w r:=by
 have hne:(W p).map (fun w=>YV W g c t w r)≠[]:=fun e=>hw (List.map_eq_nil_iff.mp e)
 obtain ⟨h1,h2⟩:=JhZ hne;obtain ⟨w,h3,h4⟩:=List.mem_map.mp h1;exact ⟨⟨w,h3,h4.symm⟩,fun w hw=>h2 _ (List.mem_map.mpr ⟨w,hw,rfl⟩)⟩
theorem JsR (hw:W p≠[]):(∃ w∈W p,hiB W g c t p r=YV W g c t w r)∧∀ w∈W p,YV W g c t w r≤hiB W g c t p r:=by
 have hne:(W p).map (fun w=>YV W g c t w r)≠[]:=fun e=>hw (List.map_eq_nil_iff.mp e)
 obtain ⟨h1,h2⟩:=Jh0 hne;obtain ⟨w,h3,h4⟩:=List.mem_map.mp h1;exact ⟨⟨w,h3,h4.symm⟩,fun w hw=>h2 _ (List.mem_map.mpr ⟨w,hw,rfl⟩)⟩
theorem JuQ:∀ (t:Nat) (p:α),YV W g c t p true≤YV W g c t p false + 1∧YV W g c t p false≤YV W g c t p true + 1
 | 0,p=>by
  show (if g p=true then 0 else c + 1)≤(if g p=true then 0 else c + 1) + 1∧_;exact ⟨by omega,by show (if g p=true then 0 else c + 1)≤(if g p=true then 0 else c + 1) + 1; omega⟩
 | t + 1,p=>by
  cases hg:g p with
  | true=>rw [JhU hg,JhU hg]; omega
  | false =>
   by_cases hw:W p=[]
   ·rw [JhT hg hw,JhT hg hw]; omega
   ·obtain ⟨⟨w1,m1,e1⟩,_⟩:=JsK (W:=W) (g:=g) (c:=c) (t:=t) (p:=p) (r:=false) hw;obtain ⟨_,l2⟩:=JsR (W:=W) (g:=g) (c:=c) (t:=t) (p:=p) (r:=true) hw;have b1:=JuQ t w1;have b2:=l2 w1 m1;rw [← e1] at b1;rw [JqO hg hw,JqN hg hw];constructor <;> split <;> split <;> omega
def after (k:Int) (r:Bool) (b a:Int):Bool×Int×Bool :=
 if b > a then (!r,(if r then k + b else k - b),r) else if a > b then (r,(if r then k - a else k + a),r) else (r,(if r then k - a else k + a),!r)
def own (c k:Int) (r:Bool):Int:=if r then k else c - k
end
end L2
namespace L2
open PySem PySem.Spec PyProof.Rows
theorem Jh {K:PySem.W.Frag} {f:Addr} {x q:Str} {st:Stmt} (h:JW K f q=JX x q st):Fun K x q st f (JF K f):=by
 obtain ⟨oc,od,kV,doc,pm,an,cdv,ct,osl,h1,h2,h3,h4⟩:=JqJ h;exact ⟨⟨oc,od,kV,doc,pm,an,cdv,ct,osl,h1,h2,h3⟩,h4⟩
theorem JN {K:PySem.W.Frag} {f:Addr} {x q:Str} {st:Stmt} (h:JW K f q=JX x q st):PySem.W.keepIn K (.ref f)=true:=(Jh h).kp
def Jpu:Sum Int Str→V
 | .inl i=>.int i
 | .inr x=>.str x
theorem Jrc {v:Value} {x:Sum Int Str} (h:Jha v=some x):JU (Jpu x) v:=by
 unfold Jha at h;split at h
 ·cases h; exact ⟨_,rfl⟩
 ·cases h; exact ⟨_,rfl⟩
 ·cases h
theorem Jkd:∀ {us:List Value} {xs:List (Sum Int Str)},us.map Jha=xs.map some→JK (xs.map Jpu) us
 | [],[],_=>.nil
 | u :: us,x :: xs,h=>by
  rw [List.map_cons,List.map_cons,List.cons.injEq] at h;exact .cons (Jrc h.1) (Jkd h.2)
 | [],_ :: _,h=>by cases h
 | _ :: _,[],h=>by cases h
theorem Jvf {K:PySem.W.Frag} {n:Str} {xs:List (Sum Int Str)} (h:obT K n=some (true,xs.map some)) (H:Hp):J1 K H (Jf K n) (xs.map Jpu):=by
 unfold obT at h;split at h
 ·rename_i its m sl e;have h:=Option.some.inj h;have h1:decide (its.size≤1000)=true:=congrArg Prod.fst h;have h2:its.toList.map Jha=xs.map some:=congrArg Prod.snd h;exact .inr ⟨_,its,m,e,rfl,rfl,Nat.le_trans (of_decide_eq_true h1) (by decide),Jkd h2⟩
 ·cases h
theorem mgV {K:PySem.W.Frag} {h:Heap} {mg:Str→Option Value} {n:Str} {i:Int} (X:K.In h) (G:h.Ns mainGlobals mg) (e:obV K n=some (.inl i)):∃ u,mg n=some u∧JU (.int i) u:=by
 obtain ⟨t,z⟩:=Jua e;exact ⟨_,PySem.W.mg_of X G z,⟨_,rfl⟩⟩
theorem JrJ {l:PySem.W.OpenLaw} {n k:Nat} {q:Program} {loose:List Str} {XP:(Str→Option Value)→Heap→Prop} {YP:World→Heap→Prop} {d:DefRec} {C:PySem.W.Frag→Prop} {CX:CXT} {sp:PySem.W.Frag→Sp} {x:Str}
  (hn:l.most=some n) (hn2:n≤sizeLine) (hdf:d.params.defaults=[]) (hr:YZ k callerA)
  (hY:∀ (w:World) (h:Heap),YP w h→∃ K:PySem.W.Frag,K.In h∧C K)
  (F:∀ (w:World) (K:PySem.W.Frag) (mg:Str→Option Value) (fa:Addr) (h:Heap),C K→K.In h→h.Ns mainGlobals mg→mg d.name=some (.ref fa) →
   ∃ fd:FuncData,(∀ (s:Shared) (u:Value),BindsTo s fd ⟨[u],[]⟩ [(x,u)]) ∧
    ∀ base:Heap,K.In base→base.Ns mainGlobals mg→JC l.prog w K mg base CX k fa fd [x] (sp K))
  (hsp:∀ (K:PySem.W.Frag) (H:Hp) (a:Addr) (ns:List Int),ns.length≤n→Jtb H→JA K H a (ns.map V.int)→sp K [.ref a] H (fun v _=>v=.bl true) fun _ _ _=>False)
  (hCX:∀ (H:Hp) (s:Shared) (e:Value) (s':Shared),CX [] H s (fun _ _ _=>False) e s'→False) :
  PySem.W.WalkO q loose XP YP l.row.toRowW d [] (fun f vs=>PySem.call f vs):=by
 refine Att.JoB hn hdf fun w s₀ s₁ mg mb fa o pm cd doc a vs ns G Y ho hd hcd hmg hobj hints hlen hg=>?_
 obtain ⟨K,KX,hC⟩:=hY w _ Y;obtain ⟨fd,hb,hF⟩:=F w K mg fa _ hC KX G.T.g hmg;exact JsL KX G.T.g G.T.b G.T.builtins G.T.nolimit hg hobj hints (Nat.le_trans hlen hn2) hr hF hb (fun H hO hS=>hsp K H a ns hlen hO hS) fun H e s'=>hCX H s₁ e s'
end L2
namespace L2
open PySem PySem.Spec PyProof.Rows
theorem Js4 {X:Cx}:Yl X (.builtin "isinstance") (fun xs H Q=>∃ (a:Addr) (ys:List V),xs=[.ref a,.ty "tuple"]∧J1 X.K H a ys∧Q (.bl true) H):=by
 intro pins s σ H xs us Q I r h;obtain ⟨a,ys,rfl,hs,q⟩:=h;cases r with
 | cons r rr =>
  cases rr with
  | cons r' rr =>
   cases rr;rename_i u u';obtain rfl:u'=.type "tuple":=r';obtain rfl:u=.ref a:=r;obtain ⟨its,_,⟨o,h1,h2,_⟩,_⟩:=I.tuple hs;exact PySem.W.kia_one PySem.W.kitx_tuple I.kIn ⟨o,h1,h2⟩ JqX (fun z=>nomatch z) fun tk=>⟨.bl true,H,I.tok _,rfl,q⟩
theorem cxK {CX:CXT} {P:Program} {w:World} {K:PySem.W.Frag} {mg:Str→Option Value} {base:Heap} {N:List Str} {q:Str} {sc:Scope} {f:Addr} {cd:Value} {A:Around} {o:List Env} {s:Shared} {H:Hp} {E:XK}:(ZU CX P w K mg base N q sc f cd A o s H E).nox.K=K:=rfl
theorem Jhi {CX:CXT} {P:Program} {w:World} {K:PySem.W.Frag} {mg:Str→Option Value} {base:Heap} {N:List Str} {q:Str} {sc:Scope} {f:Addr} {cd:Value} {A:Around} {o:List Env} {s:Shared} {H:Hp} {E:XK}:(ZU CX P w K mg base N q sc f cd A o s H E).K=K:=rfl
def JuU:List V→Hp→VK→Prop:=fun xs H Q=>∃ (d:Addr) (kvs:List (JI×V)) (ss:List Str),xs=[.ref d]∧H d=some (.dK kvs)∧kvs.map (·.1)=ss.map Sum.inr∧ss.length < 64∧∀ (p:Addr) (ss':List Str),H p=none→ss'.Perm ss→ss'.Pairwise sle→Q (.ref p) (upd H p (.lst (ss'.map V.str)))
theorem JlX {P:Program} {w:World}:∀ {ss:List Str} {vs:List (JI×Value)} {us:List Value},vs.map (·.1)=ss.map Sum.inr→us.length=vs.length→(∀ (i:Nat) v,us[i]?=some v→∃ k x,vs[i]?=some (k,x)∧(Yq P w).is k v=true)→StrsAre us ss
 | [],[],[],_,_,_=>.nil
 | [],[],u :: us,_,h,_=>by simp at h
 | [],v :: vs,_,h,_,_=>by simp at h
 | s :: ss,[],_,h,_,_=>by simp at h
 | s :: ss,v :: vs,[],_,h,_=>by simp at h
 | s :: ss,v :: vs,u :: us,h1,h2,h3=>by
  obtain ⟨k,x,e,hk⟩:=h3 0 u rfl;have e:v=(k,x):=Option.some.inj e;subst e;have h1':k=Sum.inr s∧vs.map (·.1)=ss.map Sum.inr:=by simpa using h1
  obtain ⟨rfl,h1'⟩:=h1';rw [Jpy] at hk;rcases Y8 hk with ⟨i,t,e,_⟩ | ⟨y,t,e,rfl⟩
  ·cases e
  ·cases e;exact .cons _ _ (JlX (P:=P) (w:=w) h1' (by simpa using h2) fun i v hv=>h3 (i + 1) v hv)
theorem Jko {X:Cx} (hc:X.calm=true):Yl X (.builtin "sorted") JuU:=by
 intro pins s σ H xs us Q I r h;obtain ⟨d,kvs,ss,rfl,hd,hk,hz,q⟩:=h;obtain ⟨u,rfl,ru⟩:=JK.one r;cases ru;obtain ⟨z,lo,vs,rel,dd⟩:=JpQ I.hok hd;obtain ⟨ep,hat⟩:=dd.dictAt;have hh:X.A.handled=none:=I.ok.hd hc;have hlen:vs.length=ss.length:=by rw [← List.length_map (f:=(·.1)),← rel.keys,hk,List.length_map]
 refine Calls.call_function_entry kind_sorted plain_sorted entry_sorted (args_sorted1 _) ?_;unfold Builtin.«sorted»;refine wpAny_bind (m:=checkCount "sorted" 1 1 _) (wpAny_pure ?_);refine wpAny_bind (PySem.W.kdu_collect (A:=X.A.in1) (PySem.W.kdl_dict (knd:=Yq X.prog X.w) (kvs:=vs) (ep:=ep) lo) hh hat (by rw [hlen]; exact Nat.le_trans (Nat.le_of_lt hz) (by decide)) fun h' tk acc hk' hacc=>?_);have I1:Jn X pins σ H { s with heap:=h',toks:=tk }:=I.kept hk';have hl:acc.toList.length=vs.length:=by rw [Array.length_toList]; exact hacc.1
 have hS:StrsAre acc.toList ss:=JlX (P:=X.prog) (w:=X.w) (by rw [← rel.keys]; exact hk) hl fun i v hv=>hacc.2 i v (by simpa using hv)
 have h64:acc.toList.length < 64:=by rw [hl,hlen]; exact hz
 refine wpAny_bind (wpAny_newList ?_ (Nat.le_trans (Nat.le_of_lt h64) (by decide)));have hoL:(h'.push (seqObj "list" acc.toList.toArray 0)).get? h'.objs.size=some (seqObj "list" acc.toList.toArray 0):=Heap.get?_push_size _ rfl;show wpAny _ _ _ _ _ { s with heap:=h'.push (seqObj "list" acc.toList.toArray 0),toks:=tk };refine wpAny_bind (wpAny_holding (wpAny_call_entry slot_list_sort ⟨_,hoL,rfl⟩ entry_list_sort (list_sort_treeK strKind_oneLt hoL hS.keysOf (fun v₁ v₂ rest e=>keyKind_strs (by rw [← e]; exact hS)) h64 fun st' a1 a2=>⟨_,rfl,?_⟩) (args_list_sort _)));obtain ⟨ss',b1,b2,b3⟩:=sorted_out_str hS a1 a2;obtain ⟨e,he⟩:=sortedHeap_at (out:=(arrOf st').map (·.2)) hoL;have hv:=Jhw b1;refine wpAny_pure ⟨_,rfl,.ref h'.objs.size,_,I1.laid (t':=tk) (o:=.lst (ss'.map V.str)) (fun b u eb=>?_) (Nat.le_refl _) ⟨?_,((arrOf st').map (·.2)).toList,e,hv,he⟩,rfl,q _ ss' (I1.hok.fresh (Nat.le_refl _)) b2 (JjN b3)⟩
 ·have hlt:=Heap.lt_size eb;rw [sortedHeap_old (Nat.ne_of_lt hlt) (by rw [size_push']; exact Nat.lt_succ_of_lt hlt)];exact Heap.get?_push_of_some _ eb
 ·rw [List.length_map,b2.length_eq];exact Nat.le_trans (Nat.le_of_lt hz) (by decide)
end L2
set_option maxHeartbeats 1600000
namespace Pf
open PySem L2
theorem JmZ:Jp ["text"] ["text"] (Jk JcV):=⟨rfl,rfl,rfl,by decide +kernel,rfl,by decide +kernel,by decide +kernel⟩
theorem Jmk:Jp ["hand"] ["hand"] (Jk JeE):=⟨rfl,rfl,rfl,by decide +kernel,rfl,by decide +kernel,by decide +kernel⟩
theorem Jsh:Jp ["hand"] ["hand"] (Jk JkV):=⟨rfl,rfl,rfl,by decide +kernel,rfl,by decide +kernel,by decide +kernel⟩
theorem JkI:Jp ["number", "most"] ["number", "most"] (Jk Jdm):=⟨rfl,rfl,rfl,by decide +kernel,rfl,by decide +kernel,by decide +kernel⟩
theorem JkJ:Jp ["north", "south"] ["north", "south"] (Jk Jdp):=⟨rfl,rfl,rfl,by decide +kernel,rfl,by decide +kernel,by decide +kernel⟩
theorem JiO:Jp ["board", "place", "turns", "north", "south", "ribbon"] ["board", "place", "turns", "north", "south", "ribbon"] (Jk JbB):=⟨rfl,rfl,rfl,by decide +kernel,rfl,by decide +kernel,by decide +kernel⟩
theorem Jsj:Jp ["board", "place", "turns"] ["board", "place", "turns"] (Jk JkX):=⟨rfl,rfl,rfl,by decide +kernel,rfl,by decide +kernel,by decide +kernel⟩
theorem JhB:Jp ["self", "board", "coins", "turns", "left"] ["self", "board", "coins", "turns"] (Jk Jgb):=⟨rfl,rfl,rfl,by decide +kernel,rfl,by decide +kernel,by decide +kernel⟩
theorem ZZ:Jp ["self", "turns", "row", "place", "ribbon"] ["self", "turns"] (Jk Jba):=⟨rfl,rfl,rfl,by decide +kernel,rfl,by decide +kernel,by decide +kernel⟩
theorem JaB:Jp ["self", "place", "turns", "ribbon", "victor", "leading", "led"] ["self", "place", "turns", "ribbon"] (Jk Jcx):=⟨rfl,rfl,rfl,by decide +kernel,rfl,by decide +kernel,by decide +kernel⟩
theorem Z1:Jp ["self", "place", "turns", "behind"] ["self", "place", "turns"] (Jk YM):=⟨rfl,rfl,rfl,by decide +kernel,rfl,by decide +kernel,by decide +kernel⟩
theorem Z0:Jp ["self", "place", "turns", "behind"] ["self", "place", "turns"] (Jk YL):=⟨rfl,rfl,rfl,by decide +kernel,rfl,by decide +kernel,by decide +kernel⟩
theorem Jhv:Jp ["self", "place", "turns", "north", "ribbon"] ["self", "place", "turns", "north", "ribbon"] (Jk JaN):=⟨rfl,rfl,rfl,by decide +kernel,rfl,by decide +kernel,by decide +kernel⟩
theorem JkR:Jp ["self", "place", "turns", "north", "ribbon"] ["self", "place", "turns", "north", "ribbon"] (Jk Jdx):=⟨rfl,rfl,rfl,by decide +kernel,rfl,by decide +kernel,by decide +kernel⟩
theorem Jhm:Jp ["self", "place", "turns", "ribbon", "need"] ["self", "place", "turns", "ribbon"] (Jk JeO):=⟨rfl,rfl,rfl,by decide +kernel,rfl,by decide +kernel,by decide +kernel⟩
theorem JkL:Jp ["self", "place", "turns", "north", "south", "ribbon", "hand", "word", "heard"] ["self", "place", "turns", "north", "south", "ribbon", "hand", "word", "heard"] (Jk Jdr):=⟨rfl,rfl,rfl,by decide +kernel,rfl,by decide +kernel,by decide +kernel⟩
theorem Jmj:Jp ["board", "place", "turns", "north", "south", "ribbon"] ["board", "place", "turns", "north", "south", "ribbon"] (Jk JeB):=⟨rfl,rfl,rfl,by decide +kernel,rfl,by decide +kernel,by decide +kernel⟩
theorem Jnb:Jp ["self", "board", "place", "turns", "north", "south", "ribbon"] ["self", "board", "place", "turns", "north", "south", "ribbon"] (Jk Jf9):=⟨rfl,rfl,rfl,by decide +kernel,rfl,by decide +kernel,by decide +kernel⟩
theorem JeA:Jp ["self", "now"] ["self"] (Jk JbS):=⟨rfl,rfl,rfl,by decide +kernel,rfl,by decide +kernel,by decide +kernel⟩
theorem JiS:Jp ["self", "now"] ["self"] (Jk JgY):=⟨rfl,rfl,rfl,by decide +kernel,rfl,by decide +kernel,by decide +kernel⟩
theorem Jmp:Jp ["self"] ["self"] (Jk JeL):=⟨rfl,rfl,rfl,by decide +kernel,rfl,by decide +kernel,by decide +kernel⟩
theorem Jmq:Jp ["self"] ["self"] (Jk JeM):=⟨rfl,rfl,rfl,by decide +kernel,rfl,by decide +kernel,by decide +kernel⟩
theorem JhA:Jp ["self", "now"] ["self"] (Jk Jf8):=⟨rfl,rfl,rfl,by decide +kernel,rfl,by decide +kernel,by decide +kernel⟩
theorem JkP:Jp ["self", "now"] ["self"] (Jk Jdv):=⟨rfl,rfl,rfl,by decide +kernel,rfl,by decide +kernel,by decide +kernel⟩
theorem Jm9:Jp ["self", "now", "what"] ["self"] (Jk Jf6):=⟨rfl,rfl,rfl,by decide +kernel,rfl,by decide +kernel,by decide +kernel⟩
theorem Joq:Jp ["self", "hand", "coins", "now", "behind"] ["self", "hand", "coins"] (Jk JgZ):=⟨rfl,rfl,rfl,by decide +kernel,rfl,by decide +kernel,by decide +kernel⟩
theorem JkQ:Jp ["self", "hand", "coins", "now", "settled", "leader", "behind"] ["self", "hand", "coins"] (Jk Jdw):=⟨rfl,rfl,rfl,by decide +kernel,rfl,by decide +kernel,by decide +kernel⟩
theorem Jna:Jp ["self", "hand", "place", "now", "behind"] ["self", "hand", "place"] (Jk Jf7):=⟨rfl,rfl,rfl,by decide +kernel,rfl,by decide +kernel,by decide +kernel⟩
theorem Jnc:Jp ["self"] ["self"] (Jk Jga):=⟨rfl,rfl,rfl,by decide +kernel,rfl,by decide +kernel,by decide +kernel⟩
theorem Jm2:Jp ["name", "kept", "most"] ["name", "kept", "most"] (Jk JfZ):=⟨rfl,rfl,rfl,by decide +kernel,rfl,by decide +kernel,by decide +kernel⟩
theorem Jm0:Jp ["name", "kept"] ["name", "kept"] (Jk JfY):=⟨rfl,rfl,rfl,by decide +kernel,rfl,by decide +kernel,by decide +kernel⟩
theorem Jm6:Jp ["self"] ["self"] (Jk Jf3):=⟨rfl,rfl,rfl,by decide +kernel,rfl,by decide +kernel,by decide +kernel⟩
theorem JiP:Jp ["self", "name", "board"] ["self", "name", "board"] (Jk JbC):=⟨rfl,rfl,rfl,by decide +kernel,rfl,by decide +kernel,by decide +kernel⟩
theorem Jjf:Jp ["self", "name"] ["self", "name"] (Jk JbR):=⟨rfl,rfl,rfl,by decide +kernel,rfl,by decide +kernel,by decide +kernel⟩
theorem Jhl:Jp ["self", "name", "board_name", "place", "turns", "north", "south", "ribbon", "board"] ["self", "name", "board_name", "place", "turns", "north", "south", "ribbon"] (Jk JeK):=⟨rfl,rfl,rfl,by decide +kernel,rfl,by decide +kernel,by decide +kernel⟩
theorem JjS:Jp ["self", "name"] ["self", "name"] (Jk Jcw):=⟨rfl,rfl,rfl,by decide +kernel,rfl,by decide +kernel,by decide +kernel⟩
theorem Jm7:Jp ["self", "name"] ["self", "name"] (Jk Jf4):=⟨rfl,rfl,rfl,by decide +kernel,rfl,by decide +kernel,by decide +kernel⟩
theorem JkN:Jp ["self"] ["self"] (Jk Jdt):=⟨rfl,rfl,rfl,by decide +kernel,rfl,by decide +kernel,by decide +kernel⟩
theorem Jmn:Jp ["self"] ["self"] (Jk JeI):=⟨rfl,rfl,rfl,by decide +kernel,rfl,by decide +kernel,by decide +kernel⟩
theorem Jje:Jp ["self", "name"] ["self", "name"] (Jk JbQ):=⟨rfl,rfl,rfl,by decide +kernel,rfl,by decide +kernel,by decide +kernel⟩
theorem Joo:Jp ["self", "name"] ["self", "name"] (Jk JgW):=⟨rfl,rfl,rfl,by decide +kernel,rfl,by decide +kernel,by decide +kernel⟩
theorem Jml:Jp ["self", "name"] ["self", "name"] (Jk JeF):=⟨rfl,rfl,rfl,by decide +kernel,rfl,by decide +kernel,by decide +kernel⟩
theorem Jmo:Jp ["self", "name"] ["self", "name"] (Jk JeJ):=⟨rfl,rfl,rfl,by decide +kernel,rfl,by decide +kernel,by decide +kernel⟩
theorem Jm5:Jp ["self", "name"] ["self", "name"] (Jk Jf2):=⟨rfl,rfl,rfl,by decide +kernel,rfl,by decide +kernel,by decide +kernel⟩
theorem JkM:Jp ["self", "name"] ["self", "name"] (Jk Jds):=⟨rfl,rfl,rfl,by decide +kernel,rfl,by decide +kernel,by decide +kernel⟩
theorem Jm3:Jp ["self", "name"] ["self", "name"] (Jk Jf0):=⟨rfl,rfl,rfl,by decide +kernel,rfl,by decide +kernel,by decide +kernel⟩
theorem Jop:Jp ["self", "name", "hand", "coins"] ["self", "name", "hand", "coins"] (Jk JgX):=⟨rfl,rfl,rfl,by decide +kernel,rfl,by decide +kernel,by decide +kernel⟩
theorem JkO:Jp ["self", "name", "hand", "coins"] ["self", "name", "hand", "coins"] (Jk Jdu):=⟨rfl,rfl,rfl,by decide +kernel,rfl,by decide +kernel,by decide +kernel⟩
theorem Jm4:Jp ["self", "name", "hand", "place"] ["self", "name", "hand", "place"] (Jk Jf1):=⟨rfl,rfl,rfl,by decide +kernel,rfl,by decide +kernel,by decide +kernel⟩
theorem Jm8:Jp ["self", "name"] ["self", "name"] (Jk Jf5):=⟨rfl,rfl,rfl,by decide +kernel,rfl,by decide +kernel,by decide +kernel⟩
theorem Jhk:Jp ["self", "board_name", "place", "turns", "north", "south", "ribbon", "board"] ["self", "board_name", "place", "turns", "north", "south", "ribbon"] (Jk JeH):=⟨rfl,rfl,rfl,by decide +kernel,rfl,by decide +kernel,by decide +kernel⟩
theorem Jmm:Jp ["self", "board_name", "coins", "place", "turns", "ribbon"] ["self", "board_name", "coins", "place", "turns", "ribbon"] (Jk JeG):=⟨rfl,rfl,rfl,by decide +kernel,rfl,by decide +kernel,by decide +kernel⟩
theorem Jhz:Jp ["things"] ["things"] (Jk Ja9):=⟨rfl,rfl,rfl,by decide +kernel,rfl,by decide +kernel,by decide +kernel⟩
theorem JkK:Jp ["place", "places"] ["place", "places"] (Jk Jdq):=⟨rfl,rfl,rfl,by decide +kernel,rfl,by decide +kernel,by decide +kernel⟩
theorem JfL:Jp ["places", "place"] ["places"] (Jk Jcv):=⟨rfl,rfl,rfl,by decide +kernel,rfl,by decide +kernel,by decide +kernel⟩
theorem Jgy:Jp ["lanes", "places", "lane"] ["lanes", "places"] (Jk Jdn):=⟨rfl,rfl,rfl,by decide +kernel,rfl,by decide +kernel,by decide +kernel⟩
theorem Jgz:Jp ["goals", "places", "goal"] ["goals", "places"] (Jk Jdo):=⟨rfl,rfl,rfl,by decide +kernel,rfl,by decide +kernel,by decide +kernel⟩
theorem Jms:Jp ["self", "places", "lanes", "goals"] ["self", "places", "lanes", "goals"] (Jk JeQ):=⟨rfl,rfl,rfl,by decide +kernel,rfl,by decide +kernel,by decide +kernel⟩
theorem JgU:Jp ["self", "place"] ["self", "place"] (Jk Jax):=⟨rfl,rfl,rfl,by decide +kernel,rfl,by decide +kernel,by decide +kernel⟩
theorem Jmr:Jp ["self", "place"] ["self", "place"] (Jk JbT):=⟨rfl,rfl,rfl,by decide +kernel,rfl,by decide +kernel,by decide +kernel⟩
theorem Jjg:Jp ["self", "place"] ["self", "place"] (Jk JbU):=⟨rfl,rfl,rfl,by decide +kernel,rfl,by decide +kernel,by decide +kernel⟩
theorem JvM:Jp ["_law_script", "_law_k"] ["_law_script", "_law_k"] (Jk Jsl):=⟨rfl,rfl,rfl,by decide +kernel,rfl,by decide +kernel,by decide +kernel⟩
theorem Jey:Jp ["_law_cell", "_law_many", "_law_base", "_law_rest", "_law_mixed", "_law_found", "_law_k"] ["_law_cell", "_law_many", "_law_base"] (Jk Jpk):=⟨rfl,rfl,rfl,by decide +kernel,rfl,by decide +kernel,by decide +kernel⟩
theorem Jsf:Jp ["_law_found"] ["_law_found"] (Jk JkS):=⟨rfl,rfl,rfl,by decide +kernel,rfl,by decide +kernel,by decide +kernel⟩
theorem Za:Jp ["_law_cell", "_law_many", "_law_letters", "_law_free", "_law_found", "_law_k", "_law_places", "_law_size", "_law_head", "_law_more", "_law_name"] ["_law_cell", "_law_many"] (Jk Jiy):=⟨rfl,rfl,rfl,by decide +kernel,rfl,by decide +kernel,by decide +kernel⟩
theorem ZK:Jp ["_law_cell", "_law_draw", "_law_size", "_law_pairs_here", "_law_many", "_law_k", "_law_ends", "_law_pair"] ["_law_cell", "_law_draw", "_law_size"] (Jk JkU):=⟨rfl,rfl,rfl,by decide +kernel,rfl,by decide +kernel,by decide +kernel⟩
theorem Jez:Jp ["_law_cell", "_law_kind", "_law_size", "_law_marks", "_law_found"] ["_law_cell", "_law_kind", "_law_size"] (Jk Jiz):=⟨rfl,rfl,rfl,by decide +kernel,rfl,by decide +kernel,by decide +kernel⟩
theorem ZY:Jp ["_law_script", "_law_at_here", "_law_cell", "_law_size", "_law_names_here", "_law_kind", "_law_pairs_here", "_law_goals_here", "_law_lanes"] ["_law_script", "_law_at_here"] (Jk JeD):=⟨rfl,rfl,rfl,by decide +kernel,rfl,by decide +kernel,by decide +kernel⟩
theorem Jsg:Jp ["_law_cell"] ["_law_cell"] (Jk JkT):=⟨rfl,rfl,rfl,by decide +kernel,rfl,by decide +kernel,by decide +kernel⟩
theorem JtZ:Jp ["_law_cell"] ["_law_cell"] (Jk Jnf):=⟨rfl,rfl,rfl,by decide +kernel,rfl,by decide +kernel,by decide +kernel⟩
theorem JtY:Jp ["_law_ground_here", "_law_place"] ["_law_ground_here", "_law_place"] (Jk JjT):=⟨rfl,rfl,rfl,by decide +kernel,rfl,by decide +kernel,by decide +kernel⟩
theorem JuL:Jp ["_law_hand_here"] ["_law_hand_here"] (Jk Jpl):=⟨rfl,rfl,rfl,by decide +kernel,rfl,by decide +kernel,by decide +kernel⟩
theorem Jt0:Jp ["_law_cell"] ["_law_cell"] (Jk Jng):=⟨rfl,rfl,rfl,by decide +kernel,rfl,by decide +kernel,by decide +kernel⟩
theorem JuK:Jp ["_law_ground_here", "_law_place", "_law_left_here"] ["_law_ground_here", "_law_place", "_law_left_here"] (Jk Jpi):=⟨rfl,rfl,rfl,by decide +kernel,rfl,by decide +kernel,by decide +kernel⟩
theorem JgT:Jp ["_law_marks", "_law_words", "_law_found"] ["_law_marks"] (Jk Jix):=⟨rfl,rfl,rfl,by decide +kernel,rfl,by decide +kernel,by decide +kernel⟩
theorem Jsi:Jp ["_law_found", "_law_due_here"] ["_law_found", "_law_due_here"] (Jk JkW):=⟨rfl,rfl,rfl,by decide +kernel,rfl,by decide +kernel,by decide +kernel⟩
theorem JoG:Jp ["_law_found", "_law_due_here", "_law_k"] ["_law_found", "_law_due_here"] (Jk Jnh):=⟨rfl,rfl,rfl,by decide +kernel,rfl,by decide +kernel,by decide +kernel⟩
theorem Jm1:Jp ["_law_found", "_law_due_here", "_law_k"] ["_law_found", "_law_due_here"] (Jk JkY):=⟨rfl,rfl,rfl,by decide +kernel,rfl,by decide +kernel,by decide +kernel⟩
theorem Jdb:Jp ["_law_ground_here", "_law_now", "_law_place", "_law_left_here", "_law_north", "_law_south", "_law_ribbon", "_law_bid", "_law_mover"] ["_law_ground_here", "_law_now"] (Jk Jpm):=⟨rfl,rfl,rfl,by decide +kernel,rfl,by decide +kernel,by decide +kernel⟩
theorem Jag:Jp ["_law_script", "_law_ground_here", "_law_at_here", "_law_place", "_law_total_here", "_law_left_here", "_law_north", "_law_ribbon"] ["_law_script", "_law_ground_here", "_law_at_here"] (Jk JhD):=⟨rfl,rfl,rfl,by decide +kernel,rfl,by decide +kernel,by decide +kernel⟩
theorem Jdl:Jp ["_law_hall", "_law_name", "_law_ground_here", "_law_now", "_law_log", "_law_won_here"] ["_law_hall", "_law_name", "_law_ground_here", "_law_now", "_law_log"] (Jk JeC):=⟨rfl,rfl,rfl,by decide +kernel,rfl,by decide +kernel,by decide +kernel⟩
theorem Jiw:Jp ["_law_ground_here", "_law_cell", "_law_names_here", "_law_k", "_law_place"] ["_law_ground_here", "_law_cell"] (Jk Jne):=⟨rfl,rfl,rfl,by decide +kernel,rfl,by decide +kernel,by decide +kernel⟩
theorem JuM:Jp ["_law_hall", "_law_door", "_law_name"] ["_law_hall", "_law_door", "_law_name"] (Jk Jpn):=⟨rfl,rfl,rfl,by decide +kernel,rfl,by decide +kernel,by decide +kernel⟩
theorem JjQ:Jp ["_law_hall", "_law_door", "_law_name", "_law_hand_here", "_law_coins", "_law_place", "_law_marks", "e"] ["_law_hall", "_law_door", "_law_name", "_law_hand_here", "_law_coins", "_law_place"] (Jk Jpj):=⟨rfl,rfl,rfl,by decide +kernel,rfl,by decide +kernel,by decide +kernel⟩
theorem JjR:Jp ["_law_cell", "_law_name", "_law_kind", "_law_lost", "_law_texts"] ["_law_cell", "_law_name", "_law_kind", "_law_lost"] (Jk JhC):=⟨rfl,rfl,rfl,by decide +kernel,rfl,by decide +kernel,by decide +kernel⟩
theorem Zq:Jp ["_law_script", "_law_ground_here", "_law_hall", "_law_name", "_law_now", "_law_plays", "_law_game", "_law_base", "_law_cell", "_law_hand_here", "_law_coins", "_law_place", "_law_door", "_law_text", "_law_found"] ["_law_script"] (Jk JgV):=⟨rfl,rfl,rfl,by decide +kernel,rfl,by decide +kernel,by decide +kernel⟩
set_option genInjectivity false in
set_option genSizeOf false in
structure Txt (K:PySem.W.Frag) (mg:Str→Option Value) where
 Jgg:Addr
 Je5:FuncData
 Jc1:Df K mg "good_name" JcV ["text"] Jgg Je5
 Jfm:Addr
 JdE:FuncData
 Ja0:Df K mg "check_hand" JeE ["hand"] Jfm JdE
 Jlp:Addr
 Jjs:FuncData
 JlG:Df K mg "other" JkV ["hand"] Jlp Jjs
 JdQ:Addr
 JcE:FuncData
 Zg:Df K mg "check_up_to" Jdm ["number", "most"] JdQ JcE
 JdT:Addr
 JcH:FuncData
 Jd5:Df K mg "check_coins" Jdp ["north", "south"] JdT JcH
 Ji3:Addr
 Jid:FuncData
 JoC:Df K mg "check_bid" JiT ["named", "coins"] Ji3 Jid
 JbI:Addr
 Jbb:FuncData
 Jam:Df K mg "check_standing" JbB ["board", "place", "turns", "north", "south", "ribbon"] JbI Jbb
 Jlt:Addr
 Jjw:FuncData
 JgR:Df K mg "ended" JkX ["board", "place", "turns"] Jlt Jjw
 Jkf:Addr
 Ji2:FuncData
 Jp3:Df K mg "coins_of" JjU ["hand", "north", "south"] Jkf Ji2
 Jtu:Addr
 Jrd:FuncData
 Jv2:Df K mg "pay" Jtk ["hand", "price", "north", "south", "ribbon"] Jtu Jrd
 Jn0:Addr
 Jl3:FuncData
 Jtc:Df K mg "settle" Jnd ["north", "south", "ribbon", "bid", "answer"] Jn0 Jl3
 Jfk:Addr
 JdC:FuncData
 JfF:Df K mg "turn_begin" JeB ["board", "place", "turns", "north", "south", "ribbon"] Jfk JdC
 Jl4:Addr
 Jke:FuncData
 JrH:Df K mg "told_by" JlQ ["book", "now"] Jl4 Jke
 Jgi:Addr
 Je7:FuncData
 Jc3:Df K mg "check_new" JfZ ["name", "kept", "most"] Jgi Je7
 Jgh:Addr
 Je6:FuncData
 Jc2:Df K mg "find_kept" JfY ["name", "kept"] Jgh Je6
 Jbd:Addr
 JaX:FuncData
 ZD:Df K mg "check_each_once" Ja9 ["things"] Jbd JaX
 JdU:Addr
 JcI:FuncData
 ZX:Df K mg "check_among" Jdq ["place", "places"] JdU JcI
 JcQ:Addr
 Jb9:FuncData
 JcU:Df K mg "check_places" Jcv ["places"] JcQ Jb9
 JdR:Addr
 JcF:FuncData
 Jd3:Df K mg "check_lanes" Jdn ["lanes", "places"] JdR JcF
 JdS:Addr
 JcG:FuncData
 Jd4:Df K mg "check_goals" Jdo ["goals", "places"] JdS JcG
 JsX:Addr
 JpI:FuncData
 Jan:Df K mg "_law_at" Jsl ["_law_script", "_law_k"] JsX JpI
 JpL:Addr
 JnU:FuncData
 Jkz:Df K mg "_law_row" Jpk ["_law_cell", "_law_many", "_law_base"] JpL JnU
 Jll:Addr
 Jjo:FuncData
 JlC:Df K mg "_law_whole" JkS ["_law_found"] Jll Jjo
 Jlq:Addr
 Jjt:FuncData
 JiN:Df K mg "_law_names" Jiy ["_law_cell", "_law_many"] Jlq Jjt
 Jlo:Addr
 Jjr:FuncData
 JlF:Df K mg "_law_pairs" JkU ["_law_cell", "_law_draw", "_law_size"] Jlo Jjr
 Jls:Addr
 Jjv:FuncData
 JlH:Df K mg "_law_goals" Jiz ["_law_cell", "_law_kind", "_law_size"] Jls Jjv
 Jjy:Addr
 Jic:FuncData
 JjF:Df K mg "_law_ground" JeD ["_law_script", "_law_at_here"] Jjy Jic
 Jln:Addr
 Jjq:FuncData
 JlE:Df K mg "_law_total" JkT ["_law_cell"] Jln Jjq
 Jn2:Addr
 Jli:FuncData
 Jol:Df K mg "_law_left" Jnf ["_law_cell"] Jn2 Jli
 JnZ:Addr
 Jlg:FuncData
 Joj:Df K mg "_law_ways" JjT ["_law_ground_here", "_law_place"] JnZ Jlg
 JpN:Addr
 JnW:FuncData
 Jp2:Df K mg "_law_foe" Jpl ["_law_hand_here"] JpN JnW
 Jn3:Addr
 Jlj:FuncData
 Jom:Df K mg "_law_hand" Jng ["_law_cell"] Jn3 Jlj
 JpJ:Addr
 JnS:FuncData
 Jky:Df K mg "_law_won" Jpi ["_law_ground_here", "_law_place", "_law_left_here"] JpJ JnS
 Jlm:Addr
 Jjp:FuncData
 JlD:Df K mg "_law_which" Jix ["_law_marks"] Jlm Jjp
 Jlr:Addr
 Jju:FuncData
 JgQ:Df K mg "_law_holds" JkW ["_law_found", "_law_due_here"] Jlr Jju
 Jn4:Addr
 Jlk:FuncData
 Jdk:Df K mg "_law_flat" Jnh ["_law_found", "_law_due_here"] Jn4 Jlk
 Jlu:Addr
 Jjx:FuncData
 JlI:Df K mg "_law_deeds" JkY ["_law_found", "_law_due_here"] Jlu Jjx
 JpO:Addr
 JnX:FuncData
 JmK:Df K mg "_law_due" Jpm ["_law_ground_here", "_law_now"] JpO JnX
 Jif:Addr
 Jhc:FuncData
 Jis:Df K mg "_law_opening" JhD ["_law_script", "_law_ground_here", "_law_at_here"] Jif Jhc
 Jfl:Addr
 JdD:FuncData
 JfG:Df K mg "_law_hall_shows" JeC ["_law_hall", "_law_name", "_law_ground_here", "_law_now", "_law_log"] Jfl JdD
 Jn1:Addr
 Jlh:FuncData
 Jok:Df K mg "_law_open" Jne ["_law_ground_here", "_law_cell"] Jn1 Jlh
 JpP:Addr
 JnY:FuncData
 Jp4:Df K mg "_law_ask" Jpn ["_law_hall", "_law_door", "_law_name"] JpP JnY
 JpK:Addr
 JnT:FuncData
 Jp1:Df K mg "_law_try" Jpj ["_law_hall", "_law_door", "_law_name", "_law_hand_here", "_law_coins", "_law_place"] JpK JnT
 Jie:Addr
 Jhb:FuncData
 JfW:Df K mg "_law_strange" JhC ["_law_cell", "_law_name", "_law_kind", "_law_lost"] Jie Jhb
 JpM:Addr
 JnV:FuncData
 Jtz:Df K mg "law" JgV ["_law_script"] JpM JnV
 JgO:Addr
 Jlf:mg "HANDS" = some (.ref JgO)
 Jiu:∀ H:Hp,J1 K H JgO [.str "north",.str "south"]
 JaJ:Value
 Jb6:mg "MOST_SIGNS" = some JaJ
 JbV:JU (.int 6) JaJ
 JaI:Value
 ZP:mg "MOST_TURNS" = some JaI
 ZL:JU (.int 30) JaI
 JaM:Value
 Z9:mg "MOST_COINS" = some JaM
 Z7:JU (.int 20) JaM
 Jaq:Value
 Jbq:mg "MOST_BOARDS" = some Jaq
 Jbm:JU (.int 12) Jaq
 JaL:Value
 Jb8:mg "MOST_GAMES" = some JaL
 JbX:JU (.int 20) JaL
 Jap:Value
 Jbp:mg "MOST_PLACES" = some Jap
 Jbl:JU (.int 12) Jap
 JaK:Value
 Jb7:mg "MOST_LANES" = some JaK
 JbW:JU (.int 40) JaK
 Jts:mg "all" = none
 Zm:mg "len" = none
 Zx:mg "range" = none
 Jpw:mg "min" = none
 Jj3:mg "max" = none
 Jau:mg "tuple" = none
 JaU:mg "sorted" = none
 Jtr:mg "set" = none
 J8:mg "isinstance" = none
 JmH:mg "int" = none
 JqP:mg "bool" = none
 Jpv:mg "str" = none
 JhW:mg "ValueError" = none
 Jj4:mg "list" = none
 Jb5:Addr
 JfQ:mg "BidmoverError" = some (.ref Jb5)
 Jdh:Addr
 Jio:mg "BadName" = some (.ref Jdh)
 Zs:Addr
 Jip:mg "BadHand" = some (.ref Zs)
 Yj:Addr
 Jch:mg "OutOfRange" = some (.ref Yj)
 JiG:Addr
 JoW:mg "Twice" = some (.ref JiG)
 Y1:Addr
 Jim:mg "NoPlace" = some (.ref Y1)
 Jg6:Addr
 Job:mg "BadBid" = some (.ref Jg6)
 Jg5:Addr
 Jn9:mg "NoLane" = some (.ref Jg5)
 Jg4:Addr
 Jn8:mg "NotDue" = some (.ref Jg4)
 Jbo:Addr
 Jhu:mg "NothingDone" = some (.ref Jbo)
 JgH:Addr
 Jly:mg "Taken" = some (.ref JgH)
 Jh6:Addr
 Joa:mg "Full" = some (.ref Jh6)
 J4:Addr
 Jin:mg "Missing" = some (.ref J4)
 J0:Addr
 Jkp:mg "Book" = some (.ref J0)
 Ym:Cls K J0
 Jc0:Addr
 Jfj:FuncData
 Jbk:Md K J0 "__init__" "Book.__init__" Jgb ["self", "board", "coins", "turns"] Jc0 Jfj
 Jbe:Addr
 JaY:FuncData
 Z6:Md K J0 "needs_with" "Book.needs_with" Jba ["self", "turns"] Jbe JaY
 JcS:Addr
 Jcb:FuncData
 Ja7:Md K J0 "need_at" "Book.need_at" Jcx ["self", "place", "turns", "ribbon"] JcS Jcb
 Zj:Addr
 Ze:FuncData
 YQ:Md K J0 "need_where_north_leads" "Book.need_where_north_leads" YM ["self", "place", "turns"] Zj Ze
 Zi:Addr
 Zd:FuncData
 YO:Md K J0 "need_where_south_leads" "Book.need_where_south_leads" YL ["self", "place", "turns"] Zi Zd
 JaZ:Addr
 Jay:FuncData
 Y7:Md K J0 "check_share" "Book.check_share" JaN ["self", "place", "turns", "north", "ribbon"] JaZ Jay
 Jd0:Addr
 JcP:FuncData
 Jby:Md K J0 "winner" "Book.winner" Jdx ["self", "place", "turns", "north", "ribbon"] Jd0 JcP
 Jfw:Addr
 JdN:FuncData
 Jcp:Md K J0 "least" "Book.least" JeO ["self", "place", "turns", "ribbon"] Jfw JdN
 Jht:Addr
 JgK:FuncData
 JmE:Md K J0 "bid_of" "Book.bid_of" Jhn ["self", "place", "turns", "north", "ribbon"] Jht JgK
 Jfx:Addr
 Jeb:FuncData
 JjH:Md K J0 "answer_of" "Book.answer_of" JeP ["self", "place", "turns", "north", "ribbon", "bid"] Jfx Jeb
 Jdi:Addr
 Jcr:FuncData
 Jit:Md K J0 "answer_wins" "Book.answer_wins" Jdc ["self", "place", "turns", "settled", "holder"] Jdi Jcr
 JgL:Addr
 JfO:FuncData
 JlJ:Md K J0 "step_of" "Book.step_of" JgA ["self", "place", "turns", "north", "ribbon", "hand"] JgL JfO
 JiF:Mk K J0 Jc0
 ZA:YC K J0 "board"
 ZV:YC K J0 "coins"
 JdB:YC K J0 "turns"
 Zz:YC K J0 "needs"
 Yn:Addr
 JjA:mg "Moment" = some (.ref Yn)
 Yr:Cls K Yn
 Jbr:Addr
 JcJ:FuncData
 Jbs:Md K Yn "__init__" "Moment.__init__" Jdr ["self", "place", "turns", "north", "south", "ribbon", "hand", "word", "heard"] Jbr JcJ
 JhY:Mk K Yn Jbr
 JaE:YC K Yn "place"
 JaD:YC K Yn "turns"
 Jb3:YC K Yn "north"
 Jb2:YC K Yn "south"
 JbD:YC K Yn "ribbon"
 JcA:YC K Yn "hand"
 Ja3:YC K Yn "word"
 Jb4:YC K Yn "heard"
 J7:Addr
 Jrv:mg "Game" = some (.ref J7)
 YF:Cls K J7
 JcZ:Addr
 Jfh:FuncData
 Jgu:Md K J7 "__init__" "Game.__init__" Jf9 ["self", "board", "place", "turns", "north", "south", "ribbon"] JcZ Jfh
 Jce:Addr
 JbG:FuncData
 JaG:Md K J7 "standing" "Game.standing" JbS ["self"] Jce JbG
 Jhf:Addr
 Jge:FuncData
 Jel:Md K J7 "due" "Game.due" JgY ["self"] Jhf Jge
 Jft:Addr
 JdL:FuncData
 Jcn:Md K J7 "named" "Game.named" JeL ["self"] Jft JdL
 Jfu:Addr
 JdM:FuncData
 Jco:Md K J7 "deeds" "Game.deeds" JeM ["self"] Jfu JdM
 Jgq:Addr
 Jfg:FuncData
 Jc9:Md K J7 "over" "Game.over" Jf8 ["self"] Jgq Jfg
 JdY:Addr
 JcN:FuncData
 Jbw:Md K J7 "winner" "Game.winner" Jdv ["self"] JdY JcN
 Jgo:Addr
 Jfe:FuncData
 Jc7:Md K J7 "told" "Game.told" Jf6 ["self"] Jgo Jfe
 Jfv:Addr
 Jea:FuncData
 JjG:Md K J7 "check_due" "Game.check_due" JeN ["self", "hand", "word"] Jfv Jea
 Jig:Addr
 Jhs:FuncData
 Jon:Md K J7 "go_on" "Game.go_on" JhE ["self", "deed", "moment"] Jig Jhs
 Jhg:Addr
 Jgf:FuncData
 Jem:Md K J7 "bid" "Game.bid" JgZ ["self", "hand", "coins"] Jhg Jgf
 JdZ:Addr
 JcO:FuncData
 Jbx:Md K J7 "answer" "Game.answer" Jdw ["self", "hand", "coins"] JdZ JcO
 Jgp:Addr
 Jff:FuncData
 Jc8:Md K J7 "step" "Game.step" Jf7 ["self", "hand", "place"] Jgp Jff
 Jgr:Addr
 Jfi:FuncData
 Jda:Md K J7 "back" "Game.back" Jga ["self"] Jgr Jfi
 JoL:Mk K J7 JcZ
 JdA:YC K J7 "board"
 JhV:YC K J7 "book"
 Je1:YC K J7 "done"
 Zw:YC K J7 "moments"
 Yg:Addr
 Jru:mg "Hall" = some (.ref Yg)
 JH:Cls K Yg
 JcY:Addr
 Jfb:FuncData
 Jgt:Md K Yg "__init__" "Hall.__init__" Jf3 ["self"] JcY Jfb
 JbJ:Addr
 Jbc:FuncData
 Jao:Md K Yg "add_board" "Hall.add_board" JbC ["self", "name", "board"] JbJ Jbc
 Jcd:Addr
 JbF:FuncData
 YE:Md K Yg "board_of" "Hall.board_of" JbR ["self", "name"] Jcd JbF
 Jfs:Addr
 JdK:FuncData
 Jaf:Md K Yg "begin" "Hall.begin" JeK ["self", "name", "board_name", "place", "turns", "north", "south", "ribbon"] Jfs JdK
 JcR:Addr
 Jca:FuncData
 JJ:Md K Yg "game_of" "Hall.game_of" Jcw ["self", "name"] JcR Jca
 Jgm:Addr
 Jfc:FuncData
 Jaw:Md K Yg "drop" "Hall.drop" Jf4 ["self", "name"] Jgm Jfc
 JdW:Addr
 JcL:FuncData
 Jbu:Md K Yg "boards" "Hall.boards" Jdt ["self"] JdW JcL
 Jfq:Addr
 JdI:FuncData
 Jcm:Md K Yg "games" "Hall.games" JeI ["self"] Jfq JdI
 Jcc:Addr
 JbE:FuncData
 Zy:Md K Yg "standing" "Hall.standing" JbQ ["self", "name"] Jcc JbE
 Jhd:Addr
 Jgc:FuncData
 Ja6:Md K Yg "due" "Hall.due" JgW ["self", "name"] Jhd Jgc
 Jfn:Addr
 JdF:FuncData
 Jad:Md K Yg "named" "Hall.named" JeF ["self", "name"] Jfn JdF
 Jfr:Addr
 JdJ:FuncData
 Jae:Md K Yg "deeds" "Hall.deeds" JeJ ["self", "name"] Jfr JdJ
 Jgl:Addr
 Jfa:FuncData
 Jav:Md K Yg "over" "Hall.over" Jf2 ["self", "name"] Jgl Jfa
 JdV:Addr
 JcK:FuncData
 Jbt:Md K Yg "winner" "Hall.winner" Jds ["self", "name"] JdV JcK
 Jgj:Addr
 Je8:FuncData
 Jc4:Md K Yg "told" "Hall.told" Jf0 ["self", "name"] Jgj Je8
 Jhe:Addr
 Jgd:FuncData
 Jek:Md K Yg "bid" "Hall.bid" JgX ["self", "name", "hand", "coins"] Jhe Jgd
 JdX:Addr
 JcM:FuncData
 Jbv:Md K Yg "answer" "Hall.answer" Jdu ["self", "name", "hand", "coins"] JdX JcM
 Jgk:Addr
 Je9:FuncData
 Jc5:Md K Yg "step" "Hall.step" Jf1 ["self", "name", "hand", "place"] Jgk Je9
 Jgn:Addr
 Jfd:FuncData
 Jc6:Md K Yg "back" "Hall.back" Jf5 ["self", "name"] Jgn Jfd
 Jfp:Addr
 JdH:FuncData
 Jcl:Md K Yg "judge" "Hall.judge" JeH ["self", "board_name", "place", "turns", "north", "south", "ribbon"] Jfp JdH
 Jfo:Addr
 JdG:FuncData
 Jck:Md K Yg "least" "Hall.least" JeG ["self", "board_name", "coins", "place", "turns", "ribbon"] Jfo JdG
 JoK:Mk K Yg JcY
 Y2:YC K Yg "kept_boards"
 YS:YC K Yg "kept_games"
 JT:Addr
 JoX:mg "Board" = some (.ref JT)
 YU:Cls K JT
 Jcg:Addr
 JdP:FuncData
 JfH:Md K JT "__init__" "Board.__init__" JeQ ["self", "places", "lanes", "goals"] Jcg JdP
 Jaz:Addr
 Jak:FuncData
 J9:Md K JT "check_place" "Board.check_place" Jax ["self", "place"] Jaz Jak
 Jfy:Addr
 JdO:FuncData
 Zu:Md K JT "ways" "Board.ways" JbT ["self", "place"] Jfy JdO
 Jcf:Addr
 JbH:FuncData
 JaH:Md K JT "is_goal" "Board.is_goal" JbU ["self", "place"] Jcf JbH
 JnJ:Mk K JT Jcg
 JaF:YC K JT "places"
 JcB:YC K JT "lanes"
 JcC:YC K JT "goals"
 Jkv:ExC K Zs
 Jd1:ExC K Yj
 JrC:ExC K Jg6
 JrA:ExC K Jg4
 JrB:ExC K Jg5
 JlA:ExC K Jbo
 Jku:ExC K Jdh
 Joe:ExC K JgH
 JoZ:ExC K Jh6
 YG:ExC K J4
 Jkg:PySem.W.exmOne K (.ref J4) (.ref Jb5)=some true
 Jj7:PySem.W.kitOne K (.ref J4) (.type "ValueError")=some true
 Jdf:PySem.W.kitOne K (.ref J4) (.ref Jdh)=some false
 Jdg:PySem.W.kitOne K (.ref J4) (.ref Zs)=some false
 JbM:PySem.W.kitOne K (.ref J4) (.ref Yj)=some false
 Je3:PySem.W.kitOne K (.ref J4) (.ref JiG)=some false
 Jdd:PySem.W.kitOne K (.ref J4) (.ref Y1)=some false
 Jd9:PySem.W.kitOne K (.ref J4) (.ref Jg6)=some false
 Jd8:PySem.W.kitOne K (.ref J4) (.ref Jg5)=some false
 Jd7:PySem.W.kitOne K (.ref J4) (.ref Jg4)=some false
 Jbi:PySem.W.kitOne K (.ref J4) (.ref Jbo)=some false
 Je4:PySem.W.kitOne K (.ref J4) (.ref JgH)=some false
 JfM:PySem.W.kitOne K (.ref J4) (.ref Jh6)=some false
 Jde:PySem.W.kitOne K (.ref J4) (.ref J4)=some true
 Js9:ExC K JiG
 Jkt:ExC K Y1
def hs:Bool→Str
 | true => "north"
 | false => "south"
theorem JsP (b:Bool):decide (V.str (hs b)=V.str "north")=b:=by cases b <;> decide +kernel
def Z5 (ns:List Int) (k:Int):Int:=if k < ns.length then ns.getD k.toNat 0 else 0
def Yb (z:Str):Prop:=z.length≤1000∧∀ c∈z.cps.toList,c < 16 ^ 8
theorem JfK {z:Str} (h:Yb z):(reprText z).length≤10002:=Nat.le_trans (PySem.StrLaws.reprText_len z h.2) (by have:=h.1; omega)
def Jo7 (z:Str):Bool:=decide (z.length≤1000) && z.cps.toList.all fun c=>decide (c < 16 ^ 8)
theorem Jcu {z:Str} (h:Jo7 z=true):Yb z:=by
 unfold Jo7 at h;rw [Bool.and_eq_true] at h;exact ⟨of_decide_eq_true h.1,fun c hc=>of_decide_eq_true (List.all_eq_true.mp h.2 c hc)⟩
def Jat (z:Str):Bool:=z == "north" || z == "south"
theorem Jh8 (b:Bool):Jat (hs b)=true:=by cases b <;> decide +kernel
theorem JgI {z:Str} (h:Jat z=true):∃ b,z=hs b:=by
 unfold Jat at h;rcases Bool.or_eq_true_iff.mp h with q | q
 ·exact ⟨true,beq_iff_eq.mp q⟩
 ·exact ⟨false,beq_iff_eq.mp q⟩
theorem Jq6 (z:Str):inV (.str z) [.str "north",.str "south"]=Jat z:=by
 have h:∀ a b:Str,(a == b)=(b == a):=fun a b=>by rw [Bool.eq_iff_iff,beq_iff_eq,beq_iff_eq]; exact eq_comm
 show ((("north" : Str) == z) || ((("south" : Str) == z) || false))=(z == "north" || z == "south")
 rw [Bool.or_false,h "north" z,h "south" z]
theorem JkC (b:Bool):Yb (hs b):=Jcu (by cases b <;> decide +kernel)
theorem lt1 (a b:Nat):decide ([a] < [b])=decide (a < b):=by
 rw [Bool.eq_iff_iff,decide_eq_true_eq,decide_eq_true_eq];constructor
 ·intro h;cases h with
  | rel h=>exact h
  | cons h=>cases h
 ·exact fun h=>.rel h
def ZR (c:Nat):Bool:=decide (97≤c) && decide (c≤122)
def YB (z:Str):Bool:=decide (1≤z.length) && decide (z.length≤6) && z.cps.toList.all ZR
theorem Jg9 {z:Str} (h:YB z=true):tm 6 z:=by
 unfold YB at h;rw [Bool.and_eq_true,Bool.and_eq_true,decide_eq_true_eq,decide_eq_true_eq] at h;refine ⟨h.1.2,fun c hc=>?_⟩;have z:=List.all_eq_true.mp h.2 c hc;unfold ZR at z;rw [Bool.and_eq_true,decide_eq_true_eq,decide_eq_true_eq] at z;have:c≤122:=z.2;omega
theorem Yo {z:Str} (h:YB z=true):Yb z:=(Jg9 h).mono (by decide)
structure Jd2 (ps:List Str) (zs:List (Str×Str)) (gs:List Str):Prop where
 p1:1≤ps.length
 p2:ps.length≤12
 p3:∀ p∈ps,YB p=true
 p4:ps.Nodup
 l1:zs.length≤40
 l2:∀ z∈zs,z.1∈ps∧z.2∈ps
 l3:zs.Nodup
 g1:∀ g∈gs,g∈ps
 g2:gs.Nodup
theorem Jd2.glen {ps:List Str} {zs:List (Str×Str)} {gs:List Str} (G:Jd2 ps zs gs):gs.length≤12:=by
 have:∀ {l r:List Str},l.Nodup→(∀ x∈l,x∈r)→l.length≤r.length:=by
  intro l
  induction l with
  | nil=>exact fun _ _=>Nat.zero_le _
  | cons x l ih =>
   intro r hn hs
   classical
   have hx:=hs x (List.mem_cons_self ..);have h1:=List.nodup_cons.mp hn;obtain ⟨r1,r2,rfl⟩:=List.append_of_mem hx;have z:=ih (r:=r1 ++ r2) h1.2 fun y hy=>by
    have:=hs y (List.mem_cons_of_mem _ hy);simp only [List.mem_append,List.mem_cons] at this ⊢;rcases this with q | q | q
    ·exact .inl q
    ·subst q; exact absurd hy h1.1
    ·exact .inr q
   simp only [List.length_append,List.length_cons] at z ⊢;omega
 exact Nat.le_trans (this G.g2 G.g1) G.p2
theorem JcD (z:Str) (ps:List Str):inV (.str z) (ps.map V.str)=decide (z∈ps):=by
 rw [Bool.eq_iff_iff,decide_eq_true_eq];unfold inV;rw [List.any_eq_true];constructor
 ·rintro ⟨v,hv,e⟩;obtain ⟨y,hy,rfl⟩:=List.mem_map.mp hv;have e':(y == z)=true:=e;rw [← beq_iff_eq.mp e'];exact hy
 ·intro h;exact ⟨.str z,List.mem_map.mpr ⟨z,h,rfl⟩,beq_iff_eq.mpr rfl⟩
theorem JbN (ps:List Str):(ps.map V.str).all Jeh=true:=by
 rw [List.all_map,List.all_eq_true];exact fun _ _=>rfl
def Jk2 (p:Str×Str):List JI:=[.inr p.1,.inr p.2]
theorem Jso {p q:Str×Str} (h:Jk2 p=Jk2 q):p=q:=by
 unfold Jk2 at h;simp only [List.cons.injEq,Sum.inr.injEq,and_true] at h;exact Prod.ext h.1 h.2
theorem Jor {zs:List (Str×Str)} (h:zs.Nodup):(zs.map Jk2).Nodup:=by
 rw [List.Nodup,List.pairwise_map];exact List.Pairwise.imp (fun hne e=>hne (Jso e)) h
theorem Jpr {K:PySem.W.Frag} {H:Hp} {zs:List (V×(Str×Str))} (h:Zo K H zs):JgP K H (zs.map (·.1)) ((zs.map (·.2)).map Jk2):=by
 refine ⟨by simp,fun i v ks hv hk=>?_⟩;rw [List.getElem?_map] at hv;obtain ⟨z,hz,rfl⟩:=Option.map_eq_some_iff.mp hv;rw [List.getElem?_map,List.getElem?_map,hz] at hk;have hk':Jk2 z.2=ks:=Option.some.inj hk;rw [← hk'];exact h z (List.mem_of_getElem? hz)
theorem Jah {K:PySem.W.Frag} {H H':Hp} {zs:List (V×(Str×Str))} (h:Zo K H zs) (e:Ji H H'):Zo K H' zs:=fun z hz=>let ⟨a,h1,h2⟩:=h z hz; ⟨a,h1,e.tup h2⟩
def Ja8 (K:PySem.W.Frag) (C:Addr) (H:Hp) (b:Addr) (ps:List Str) (zs:List (V×(Str×Str))) (gs:List Str):Prop :=
 ∃ dx tp tl tg,H b=some (.ins C dx [("places",.ref tp),("lanes",.ref tl),("goals",.ref tg)])∧H tp=some (.tup (ps.map V.str))∧H tl=some (.tup (zs.map (·.1)))∧Zo K H zs∧H tg=some (.tup (gs.map V.str))
theorem Ja8.same {K:PySem.W.Frag} {C:Addr} {H H':Hp} {b:Addr} {ps:List Str} {zs:List (V×(Str×Str))} {gs:List Str} (h:Ja8 K C H b ps zs gs) (e:Ji H H'):Ja8 K C H' b ps zs gs :=
 let ⟨dx,tp,tl,tg,h1,h2,h3,h4,h5⟩:=h; ⟨dx,tp,tl,tg,e _ _ h1,e _ _ h2,e _ _ h3,Jah h4 e,e _ _ h5⟩
def Yc (b:Addr) (H H':Hp):Prop:=∀ a u,a≠b→H a=some u→H' a=some u
theorem Yc.of {b:Addr} {H H':Hp} (e:Ji H H'):Yc b H H':=fun a u _ h=>e a u h
theorem Yc.trans {b:Addr} {H H' H2:Hp} (e:Yc b H H') (e2:Yc b H' H2):Yc b H H2:=fun a u hn h=>e2 a u hn (e a u hn h)
theorem Yc.put {b:Addr} {H:Hp} {o:HO}:Yc b H (upd H b o):=fun a u hn h=>by rw [Js hn]; exact h
theorem Yc.seq {K:PySem.W.Frag} {b l C dx:Addr} {fs:List (Str×V)} {H H':Hp} {xs:List V} (e:Yc b H H') (hb:H b=some (.ins C dx fs)) (h:JA K H l xs):JA K H' l xs:=by
 rcases h with (h | ⟨o,h⟩) | h
 ·exact .inl (.inl (e _ _ (Jaj h hb (fun z=>nomatch z)) h))
 ·exact .inl (.inr ⟨o,e _ _ (Jaj h hb (fun z=>nomatch z)) h⟩)
 ·exact .inr h
theorem Yc.tup {K:PySem.W.Frag} {b l C dx:Addr} {fs:List (Str×V)} {H H':Hp} {xs:List V} (e:Yc b H H') (hb:H b=some (.ins C dx fs)) (h:J1 K H l xs):J1 K H' l xs:=by
 rcases h with (h | ⟨o,h⟩) | h
 ·exact .inl (.inl (e _ _ (Jaj h hb (fun z=>nomatch z)) h))
 ·exact .inl (.inr ⟨o,e _ _ (Jaj h hb (fun z=>nomatch z)) h⟩)
 ·exact .inr h
def JtP:Sp:=fun vs H Q _=>∃ z:Str,vs=[.str z]∧z.length≤1000∧∀ H',Ji H H'→Q (.bl (YB z)) H'
def JtJ (K:PySem.W.Frag):Sp:=fun vs H Q _=>∃ l:Addr,vs=[.ref l]∧((∃ ss:List Str,JA K H l (ss.map V.str)∧ss.length≤64∧ss.Nodup)∨(∃ (us:List V) (kss:List (List JI)),JA K H l us∧JgP K H us kss∧kss.length≤64∧kss.Nodup))∧∀ H',Ji H H'→Q .non H'
def Jr5 (K:PySem.W.Frag) (k:Addr):Sp:=fun vs H Q E=>∃ (z:Str) (t:Addr) (ps:List Str),vs=[.str z,.ref t]∧Yb z∧(JA K H t (ps.map V.str)∨J1 K H t (ps.map V.str))∧(z∈ps→Q .non H)∧(z∉ps→E (.ref k) none H)
def Jpc (K:PySem.W.Frag):Sp:=fun vs H Q _=>∃ (l:Addr) (ps:List Str),vs=[.ref l]∧JA K H l (ps.map V.str)∧1≤ps.length∧ps.length≤12∧(∀ p∈ps,YB p=true)∧ps.Nodup∧∀ H',Ji H H'→Q .non H'
def Jqr (K:PySem.W.Frag):Sp:=fun vs H Q _=>∃ (l lp:Addr) (zs:List (V×(Str×Str))) (ps:List Str),vs=[.ref l,.ref lp]∧JA K H l (zs.map (·.1))∧Zo K H zs∧JA K H lp (ps.map V.str)∧(∀ p∈ps,Yb p)∧zs.length≤40∧(∀ z∈zs,z.2.1∈ps∧z.2.2∈ps)∧(zs.map (·.2)).Nodup∧∀ H',Ji H H'→Q .non H'
def Jqs (K:PySem.W.Frag):Sp:=fun vs H Q _=>∃ (l lp:Addr) (gs ps:List Str),vs=[.ref l,.ref lp]∧JA K H l (gs.map V.str)∧JA K H lp (ps.map V.str)∧(∀ p∈ps,Yb p)∧gs.length≤64∧(∀ g∈gs,g∈ps)∧gs.Nodup∧∀ H',Ji H H'→Q .non H'
def JoE (K:PySem.W.Frag) (C:Addr):Sp:=fun vs H Q _=>∃ (b lp ll lg dx:Addr) (ps:List Str) (zs:List (V×(Str×Str))) (gs:List Str),vs=[.ref b,.ref lp,.ref ll,.ref lg]∧H b=some (.ins C dx [])∧JA K H lp (ps.map V.str)∧JA K H ll (zs.map (·.1))∧Zo K H zs∧JA K H lg (gs.map V.str)∧Jd2 ps (zs.map (·.2)) gs ∧
 ∀ H' ps' zs' gs',Yc b H H'→ps'.Perm ps→ps'.Pairwise sle→zs'.Perm zs→(zs'.map (·.2)).Pairwise ple→gs'.Perm gs→gs'.Pairwise sle→Ja8 K C H' b ps' zs' gs'→Q .non H'
def Jqq (K:PySem.W.Frag) (C k:Addr):Sp:=fun vs H Q E=>∃ (b:Addr) (z:Str) (ps:List Str) (zs:List (V×(Str×Str))) (gs:List Str),vs=[.ref b,.str z]∧Yb z∧Ja8 K C H b ps zs gs∧(z∈ps→Q .non H)∧(z∉ps→E (.ref k) none H)
def JR (zs:List (Str×Str)) (p:Str):List Str:=(zs.filter fun z=>decide (z.1=p)).map (·.2)
def JtF (K:PySem.W.Frag) (C k:Addr):Sp:=fun vs H Q E=>∃ (b:Addr) (z:Str) (ps:List Str) (zs:List (V×(Str×Str))) (gs:List Str),vs=[.ref b,.str z]∧Yb z∧zs.length≤40∧Ja8 K C H b ps zs gs∧(z∈ps→∀ t H',Ji H H'→H' t=some (.tup ((JR (zs.map (·.2)) z).map V.str))→Q (.ref t) H')∧(z∉ps→E (.ref k) none H)
def Jqh (K:PySem.W.Frag) (C k:Addr):Sp:=fun vs H Q E=>∃ (b:Addr) (z:Str) (ps:List Str) (zs:List (V×(Str×Str))) (gs:List Str),vs=[.ref b,.str z]∧Yb z∧Ja8 K C H b ps zs gs∧(z∈ps→Q (.bl (decide (z∈gs))) H)∧(z∉ps→E (.ref k) none H)
def JvL (K:PySem.W.Frag):Sp:=fun vs H Q _=>∃ (a:Addr) (ns:List Int) (k:Int),vs=[.ref a,.int k]∧JA K H a (ns.map V.int)∧0≤k∧Q (.int (Z5 ns k)) H
def Jpe (K:PySem.W.Frag):Sp:=fun vs H Q _=>∃ (a:Addr) (ns:List Int),vs=[.ref a]∧JA K H a (ns.map V.int)∧ns.length≤63∧∀ H',Q (.bl true) H'
def JuC:Sp:=fun vs H Q _=>∃ (c:Int) (n:Nat) (b:Int),vs=[.int c,.int n,.int b]∧n≤1000∧0 < b∧b < 1000000∧∀ (p:Addr) (xs:List Int) (H':Hp),H p=none→Ji H H'→H' p=some (.lst (xs.map V.int))→xs.length=n→(∀ x∈xs,0≤x∧x < b)→Q (.ref p) H'
theorem JhS {α:Type}:∀ {l r:List α},l.Nodup→(∀ x∈l,x∈r)→l.length≤r.length
 | [],_,_,_=>Nat.zero_le _
 | x :: l,r,hn,hs=>by
  have hx:=hs x (List.mem_cons_self ..);have h1:=List.nodup_cons.mp hn;obtain ⟨r1,r2,rfl⟩:=List.append_of_mem hx;have z:=JhS (l:=l) (r:=r1 ++ r2) h1.2 fun y hy=>by
   have:=hs y (List.mem_cons_of_mem _ hy);simp only [List.mem_append,List.mem_cons] at this ⊢;rcases this with q | q | q
   ·exact .inl q
   ·subst q; exact absurd hy h1.1
   ·exact .inr q
  simp only [List.length_append,List.length_cons] at z ⊢;omega
theorem Jet {xs:List Int} {e:Int} (h0:0≤e) (h1:e < xs.length):∃ y,Z3 (xs.map V.int) e=some (.int y)∧y∈xs:=by
 obtain ⟨j,rfl⟩:∃ j:Nat,e=(j:Int):=⟨e.toNat,by omega⟩
 have hj:j < xs.length:=by omega
 exact ⟨xs[j],YX (by rw [List.getElem?_map,List.getElem?_eq_getElem hj]; rfl),List.getElem_mem hj⟩
def LT:Str := "abcdefghijklmnopqrstuvwxyz"
theorem JlW {j:Int} (h0:0≤j) (h1:j < 26):Z3 LT.cps.toList j=some (97 + j.toNat):=by
 obtain ⟨i,rfl⟩:∃ i:Nat,j=(i:Int):=⟨j.toNat,by omega⟩
 have hi:i < 26:=by omega
 refine YX ?_;rw [Int.toNat_natCast];have z:∀ i,i < 26→LT.cps.toList[i]?=some (97 + i):=by decide +kernel
 exact z i hi
theorem JrF:LT.length≤sizeLine:=by decide +kernel
theorem JmX {j:Nat} (h:j < 26):ZR (97 + j)=true:=by
 unfold ZR;rw [decide_eq_true (by omega),decide_eq_true (by omega)]; rfl
theorem Jj8:∀ {ys:List Str},(∀ y∈ys,∃ c,y=⟨#[c]⟩∧ZR c=true)→(Str.join Str.empty ys).length=ys.length∧∀ c∈(Str.join Str.empty ys).cps.toList,ZR c=true
 | [],_=>⟨rfl,fun c hc=>by simp [Str.join,Str.empty] at hc⟩
 | [y],h=>by
  obtain ⟨c,rfl,hc⟩:=h y (List.mem_cons_self ..);exact ⟨rfl,fun d hd=>by
   have e:d=c:=by simpa [Str.join] using hd
   rw [e]; exact hc⟩
 | y :: x :: r,h=>by
  obtain ⟨c,rfl,hc⟩:=h y (List.mem_cons_self ..);obtain ⟨a,b⟩:=Jj8 (ys:=x :: r) fun q hq=>h q (List.mem_cons_of_mem _ hq)
  have e:Str.join Str.empty (⟨#[c]⟩ :: x :: r)=(⟨#[c]⟩:Str) ++ Str.empty ++ Str.join Str.empty (x :: r):=rfl;rw [e];refine ⟨?_,fun d hd=>?_⟩
  ·rw [strLen_append,strLen_append,a];simp only [List.length_cons];show 1 + 0 + _=_;omega
  ·rcases PyProof.Rows.mem_cps_append.mp hd with q | q
   ·rcases PyProof.Rows.mem_cps_append.mp q with q | q
    ·have e2:d=c:=by simpa using q
     rw [e2]; exact hc
    ·simp [Str.empty] at q
   ·exact b d q
def nam (hd:Str) (j:Nat):Str:=hd ++ ⟨#[97 + j]⟩
theorem JsF {hd:Str} {j:Nat} (h1:hd.length≤5) (h2:∀ c∈hd.cps.toList,ZR c=true) (hj:j < 26):YB (nam hd j)=true:=by
 unfold YB nam;have e:(hd ++ (⟨#[97 + j]⟩:Str)).length=hd.length + 1:=by rw [strLen_append]; rfl
 rw [Bool.and_eq_true,Bool.and_eq_true,decide_eq_true_eq,decide_eq_true_eq,e,List.all_eq_true];refine ⟨⟨by omega,by omega⟩,fun c hc=>?_⟩;rcases PyProof.Rows.mem_cps_append.mp hc with q | q
 ·exact h2 c q
 ·have e2:c=97 + j:=by simpa using q
  rw [e2]; exact JmX hj
theorem Jub {hd:Str} {i j:Nat} (h:nam hd i=nam hd j):i=j:=by
 have e:(hd.cps ++ #[97 + i])=(hd.cps ++ #[97 + j]):=congrArg Str.cps h;have e2:=congrArg Array.toList e;rw [Array.toList_append,Array.toList_append] at e2;have e3:=List.append_cancel_left e2;simp at e3;omega
theorem JsG {hd:Str} {x:Int} {ss:List Str} (h:ss.length < 26) (hx:∀ m:Nat,m < 26→nam hd ((x + m) % 26).toNat∈ss):False:=by
 have nd:((List.range 26).map fun m=>nam hd ((x + (m:Nat)) % 26).toNat).Nodup:=by
  rw [List.Nodup,List.pairwise_map];refine List.Pairwise.imp_of_mem ?_ (List.pairwise_lt_range (n:=26));intro a b ha hb hlt e;have e2:=Jub e;have:=List.mem_range.mp ha;have:=List.mem_range.mp hb;have h1:=Int.emod_nonneg (x + (a:Nat)) (b:=26) (by decide);have h2:=Int.emod_nonneg (x + (b:Nat)) (b:=26) (by decide);omega
 have z:=JhS (r:=ss) nd fun y hy=>by
  obtain ⟨m,hm,rfl⟩:=List.mem_map.mp hy;exact hx m (List.mem_range.mp hm)
 rw [List.length_map,List.length_range] at z;omega
theorem JoT {xs:List Int} {k:Int} (h0:0≤k) (h1:k≤xs.length):((Jaa (xs.map V.int) none (some k)).length:Int)=k:=by
 unfold Jaa;rw [List.length_map,HT.Jsm];show ((List.take ((if k < 0 then _ else _) - 0) _).length:Int)=k;rw [if_neg (by omega),List.length_take,List.length_drop,List.length_map];omega
theorem Jn6 {xs:List Int} {lo hi:Option Int}:∃ ys:List Int,Jaa (xs.map V.int) lo hi=ys.map V.int∧∀ y∈ys,y∈xs:=by
 refine ⟨(xs.drop (HT.Yw xs.length 0 lo)).take (HT.Yw xs.length xs.length hi - HT.Yw xs.length 0 lo),?_,fun y hy=>List.mem_of_mem_drop (List.mem_of_mem_take hy)⟩;unfold Jaa;rw [List.length_map,List.map_take,List.map_drop]
def JrV:Sp:=fun vs H Q _=>∃ (c:Int) (n:Nat),vs=[.int c,.int n]∧1≤n∧n≤12∧∀ (p:Addr) (ss:List Str) (H':Hp),H p=none→Ji H H'→H' p=some (.lst (ss.map V.str))→ss.length=n→(∀ s∈ss,YB s=true)→ss.Nodup→Q (.ref p) H'
def JrG (K:PySem.W.Frag) (H:Hp) (zs:List (V×(Int×Int))):Prop:=∀ z∈zs,∃ a,z.1=.ref a∧J1 K H a [.int z.2.1,.int z.2.2]
def Jh9 (p:Int×Int):List JI:=[.inl p.1,.inl p.2]
theorem JsO {p q:Int×Int} (h:Jh9 p=Jh9 q):p=q:=by
 unfold Jh9 at h;simp only [List.cons.injEq,Sum.inl.injEq,and_true] at h;exact Prod.ext h.1 h.2
theorem Jox {K:PySem.W.Frag} {H:Hp} {zs:List (V×(Int×Int))} (h:JrG K H zs):JgP K H (zs.map (·.1)) ((zs.map (·.2)).map Jh9):=by
 refine ⟨by simp,fun i v ks hv hk=>?_⟩;rw [List.getElem?_map] at hv;obtain ⟨z,hz,rfl⟩:=Option.map_eq_some_iff.mp hv;rw [List.getElem?_map,List.getElem?_map,hz] at hk;have hk':Jh9 z.2=ks:=Option.some.inj hk;rw [← hk'];exact h z (List.mem_of_getElem? hz)
structure PW (K:PySem.W.Frag) (H0:Hp) (pl:Addr) (size:Nat) (H:Hp) (zs:List (V×(Int×Int))):Prop where
 sm:Ji H0 H
 at_:H pl=some (.lst (zs.map (·.1)))
 ip:JrG K H zs
 nd:(zs.map (·.2)).Nodup
 rg:∀ z∈zs,(0≤z.2.1∧z.2.1 < size)∧(0≤z.2.2∧z.2.2 < size)
theorem PW.add {K:PySem.W.Frag} {H0:Hp} {pl:Addr} {size:Nat} {H H':Hp} {zs:List (V×(Int×Int))} (h:PW K H0 pl size H zs) (n0:H0 pl=none) (e:Ji H H') {t:Addr} {a b:Int} (ht:H' t=some (.tup [.int a,.int b]))
  (hn:(a,b)∉zs.map (·.2)) (hr:(0≤a∧a < size)∧(0≤b∧b < size)):PW K H0 pl size (upd H' pl (.lst (zs.map (·.1) ++ [.ref t]))) (zs ++ [(.ref t,(a,b))]):=by
 have hp':=e _ _ h.at_;have tup:∀ {a:Addr} {xs:List V},J1 K H' a xs→J1 K (upd H' pl (.lst (zs.map (·.1) ++ [.ref t]))) a xs:=fun {a xs} q=>by
  rcases q with (q | ⟨o,q⟩) | q
  ·exact .inl (.inl (by rw [Js (Jaj q hp' (fun z=>nomatch z))]; exact q))
  ·exact .inl (.inr ⟨o,by rw [Js (Jaj q hp' (fun z=>nomatch z))]; exact q⟩)
  ·exact .inr q
 refine ⟨fun b' u q=>?_,by rw [Jj,List.map_append]; rfl,fun z hz=>?_,?_,fun z hz=>?_⟩
 ·rw [Js (Ju q n0)]; exact e _ _ (h.sm _ _ q)
 ·rcases List.mem_append.mp hz with q | q
  ·obtain ⟨c,h1,h2⟩:=h.ip z q;exact ⟨c,h1,tup (e.tup h2)⟩
  ·rw [List.mem_singleton.mp q];exact ⟨t,rfl,tup (J1.of ht)⟩
 ·rw [List.map_append,List.nodup_append];refine ⟨h.nd,by simp,fun x hx y hy q=>?_⟩;have hy':y=(a,b):=by simpa using hy
  rw [q,hy'] at hx;exact hn hx
 ·rcases List.mem_append.mp hz with q | q
  ·exact h.rg z q
  ·rw [List.mem_singleton.mp q]; exact hr
def JrS (K:PySem.W.Frag):Sp:=fun vs H Q _=>∃ (c d:Int) (n:Nat),vs=[.int c,.int d,.int n]∧1≤n∧n≤12∧∀ (p:Addr) (zs:List (V×(Int×Int))) (H':Hp),H p=none→PW K H p n H' zs→zs.length≤40→Q (.ref p) H'
section
variable {P:Program} {w:World} {K:PySem.W.Frag} {mg:Str→Option Value} {base:Heap}
theorem Z2 (T:Txt K mg):JC P w K mg base YJ 1 T.JsX T.JpI ["_law_script", "_law_k"] (JvL K):=by
 refine T.Jan.F.ok JvM (fun vs H Q E h=>?_) (fun cdv A outer s H vs Q E hr h=>?_)
 ·obtain ⟨a,ns,k,rfl,_⟩:=h;rfl
 ·obtain ⟨a,ns,k,rfl,hS,h0,q⟩:=h;refine ⟨_,(@Jd _ _ _ _ _ (@JL _ _ _ _ _ _ _ _ (@Jx _ _ _ _ _ _ _ _ (@Jee _) (@pv _ 1 _ _ rfl (.inl rfl) rfl rfl) (@JB _ _ _ _ _ _ _ _ _ (@Yk _) rfl T.Zm PySem.boot_len (@Ja _ _ _ _ _ (@pv _ 0 _ _ rfl (.inl rfl) rfl rfl) (@Jc _) rfl) (by decide) (by decide) rfl rfl) (JE _)) (@Jg _ _ _ (@Jq _ _ _ _ (@JM _ _ _ _ _ _ _ (@JV _) (@pv _ 0 _ _ rfl (.inl rfl) rfl rfl) (@pv _ 1 _ _ rfl (.inl rfl) rfl rfl) (fun _ _=>rfl)))) (@Jw _)) (@Jg _ _ _ (@Jq _ _ _ _ (@Je _ _ _ _)))),?_⟩;refine ⟨_,rfl,_,rfl,a,_,rfl,.inl hS,_,_,rfl,rfl,_,rfl,?_⟩;rw [List.length_map];refine Yt (fun c=>?_) (fun c=>?_)
  ·have c':k < ns.length:=of_decide_eq_true c;refine ⟨_,rfl,_,rfl,a,_,k,.int (Z5 ns k),rfl,rfl,hS,?_,q⟩;obtain ⟨j,rfl⟩:∃ j:Nat,k=(j:Int):=⟨k.toNat,by omega⟩
   have hj:j < ns.length:=by omega
   refine YX ?_;rw [List.getElem?_map];unfold Z5;rw [if_pos c',Int.toNat_natCast,List.getD_eq_getElem?_getD,List.getElem?_eq_getElem hj];rfl
  ·have c':¬ k < ns.length:=fun z=>c (decide_eq_true z)
   have e:Z5 ns k=0:=by unfold Z5; rw [if_neg c']
   rw [e] at q;exact q
theorem Jnx (T:Txt K mg):JC P w K mg base YJ 1 T.JpL T.JnU ["_law_cell", "_law_many", "_law_base"] JuC:=by
 refine T.Jkz.F.ok Jey (fun vs H Q E h=>?_) (fun cdv A outer s H vs Q E hr h=>?_)
 ·obtain ⟨_,_,_,rfl,_⟩:=h;rfl
 ·obtain ⟨c,n,b,rfl,hn,hb0,hb1,q⟩:=h;refine ⟨_,(@Jd _ _ _ _ _ (@Jz _ _ 3 _ _ _ _ Jey.nd rfl (Or.inl rfl) (@Jo _ _ _ _ _ _ _ _ (@YK _) (@pv _ 0 _ _ rfl (.inl rfl) rfl rfl) (@Je _ _ _ _)) rfl (.inl rfl)) (@Jd _ _ _ _ _ (@Jz _ _ 4 _ _ _ _ Jey.nd rfl (Or.inl rfl) (@Jo _ _ _ _ _ _ _ _ (@J6 _) (@pv _ 0 _ _ rfl (.inl rfl) rfl rfl) (@Je _ _ _ _)) rfl (.inl rfl)) (@Jd _ _ _ _ _ (@Jz _ _ 5 _ _ _ _ Jey.nd rfl (Or.inl rfl) (@Yx _ _ _ _ (@Jc _)) rfl (.inl rfl)) (@Jd _ _ _ _ _ (@ZC _ _ _ _ _ _ _ _ PassesOwn.never rfl (@Zf _ _ _ _ _ _ rfl T.Zx (@Ja _ _ _ _ _ (@pv _ 1 _ _ rfl (.inl rfl) rfl rfl) (@Jc _) rfl) rfl) (@YA _ _ 6 _ Jey.nd rfl (Or.inl rfl) (.inl rfl)) (@Jd _ _ _ _ _ (@Jz _ _ 4 _ _ _ _ Jey.nd rfl (Or.inl rfl) (@Jo _ _ _ _ _ _ _ _ (@J6 _) (@Jo _ _ _ _ _ _ _ _ (@Ye _) (@Jo _ _ _ _ _ _ _ _ (@Ye _) (@Jo _ _ _ _ _ _ _ _ (@Jas _) (@pv _ 4 _ _ rfl (.inl rfl) rfl rfl) (@Je _ _ _ _)) (@Jo _ _ _ _ _ _ _ _ (@Jas _) (@Je _ _ _ _) (@pv _ 6 _ _ rfl (.inl rfl) rfl rfl))) (@Je _ _ _ _)) (@Je _ _ _ _)) rfl (.inl rfl)) (@Jd _ _ _ _ _ (@JL _ _ _ _ _ _ _ _ (@Jx _ _ _ _ _ _ _ _ (@Yi _) (@Jo _ _ _ _ _ _ _ _ (@J6 _) (@pv _ 0 _ _ rfl (.inl rfl) rfl rfl) (@Je _ _ _ _)) (@Je _ _ _ _) (JE _)) (@Jg _ _ _ (@JP _ _ _ _ (@JcW _ _ _ _ _ _ _ _ _ _ _ _ PySem.F.plainAttrs_list PySem.F.slot_list_append PySem.F.type_list_append (@ZF _) (@pv _ 5 _ _ rfl (.inl rfl) rfl rfl) (@Ja _ _ _ _ _ (@Jo _ _ _ _ _ _ _ _ (@J6 _) (@pv _ 3 _ _ rfl (.inl rfl) rfl rfl) (@pv _ 2 _ _ rfl (.inl rfl) rfl rfl)) (@Jc _) rfl) rfl rfl rfl rfl rfl) rfl)) (@Jg _ _ _ (@JP _ _ _ _ (@JcW _ _ _ _ _ _ _ _ _ _ _ _ PySem.F.plainAttrs_list PySem.F.slot_list_append PySem.F.type_list_append (@ZF _) (@pv _ 5 _ _ rfl (.inl rfl) rfl rfl) (@Ja _ _ _ _ _ (@Jo _ _ _ _ _ _ _ _ (@J6 _) (@Jo _ _ _ _ _ _ _ _ (@Ye _) (@Jo _ _ _ _ _ _ _ _ (@YK _) (@pv _ 4 _ _ rfl (.inl rfl) rfl rfl) (@Je _ _ _ _)) (@Jo _ _ _ _ _ _ _ _ (@J6 _) (@Jo _ _ _ _ _ _ _ _ (@Jas _) (@pv _ 4 _ _ rfl (.inl rfl) rfl rfl) (@Je _ _ _ _)) (@Je _ _ _ _))) (@pv _ 2 _ _ rfl (.inl rfl) rfl rfl)) (@Jc _) rfl) rfl rfl rfl rfl rfl) rfl))) (@Jg _ _ _ (@Jz _ _ 3 _ _ _ _ Jey.nd rfl (Or.inl rfl) (@Jo _ _ _ _ _ _ _ _ (@YK _) (@pv _ 3 _ _ rfl (.inl rfl) rfl rfl) (@pv _ 2 _ _ rfl (.inl rfl) rfl rfl)) rfl (.inl rfl))))) (by intro _; rfl)) (@Jg _ _ _ (@Jq _ _ _ _ (@pv _ 5 _ _ rfl (.inl rfl) rfl rfl))))))),?_⟩
  try dsimp only [cxK,Jhi]
  refine ⟨_,rfl,_,_,rfl,rfl,⟨by decide,by decide⟩,_,rfl,_,_,rfl,rfl,(by show (0:Int) < 2147483647; decide),by show 0≤sizeLine; decide,fun p hp=>?_⟩;have hs0:n < sizeLine:=Nat.lt_of_le_of_lt hn (by decide);refine ⟨_,rfl,(n:Int),rfl,by omega,by omega,?_⟩;refine Zt (n:=n) (fun i σ H2=>∃ (r m:Int) (xs:List Int) (v:Option V),Ji H H2∧H2 p=some (.lst (xs.map V.int))∧xs.length=i∧(∀ x∈xs,0≤x∧x < b)∧σ=[some (.int c),some (.int n),some (.int b),some (.int r),some (.int m),some (.ref p),v])
   ⟨_,_,[],none,Ji.upd hp,Jj,rfl,(fun x hx=>nomatch hx),rfl⟩ ?_ ?_
  ·rintro i σ H2 hi ⟨r,m,xs,v,e,hx,hl,hr,rfl⟩;have add:∀ x:Int,0≤x∧x < b→Ji H (upd H2 p (.lst (xs.map V.int ++ [.int x])))∧upd H2 p (.lst (xs.map V.int ++ [.int x])) p=some (.lst ((xs ++ [x]).map V.int))∧(xs ++ [x]).length=i + 1∧∀ y∈xs ++ [x],0≤y∧y < b:=fun x h=>by
    refine ⟨fun b' u q=>?_,by rw [Jj,List.map_append]; rfl,by simp [hl],fun y hy=>?_⟩
    ·rw [Js (Ju q hp)]; exact e b' u q
    ·rcases List.mem_append.mp hy with z | z
     ·exact hr y z
     ·rw [List.mem_singleton.mp z]; exact h
   refine ⟨_,rfl,_,_,rfl,rfl,.inr ⟨by decide,by decide⟩,_,rfl,_,_,rfl,rfl,.inl ⟨by decide,by decide⟩,_,_,rfl,rfl,_,_,rfl,rfl,_,_,rfl,rfl,(by show (0:Int) < 2147483647; decide),?_⟩;have hxl:(xs.map V.int).length < sizeLine:=by rw [List.length_map]; omega
   refine ⟨_,rfl,_,_,rfl,rfl,(by show (0:Int) < 2; decide),rfl,_,rfl,Yt (fun _=>?_) (fun _=>?_)⟩
   ·refine ⟨_,rfl,.inl ⟨rfl,_,JA.of hx⟩,_,rfl,_,rfl,_,_,rfl,rfl,hb0,p,_,_,rfl,rfl,hx,hxl,?_⟩;refine ⟨_,rfl,_,rfl,_,_,rfl,rfl,⟨hb0,by show b < 1073741824; omega⟩,?_⟩;obtain ⟨a1,a2,a3,a4⟩:=add (r % b) ⟨Int.emod_nonneg _ (by omega),Int.emod_lt_of_pos _ hb0⟩;exact ⟨_,_,xs ++ [r % b],_,a1,a2,a3,a4,rfl⟩
   ·refine ⟨_,rfl,.inl ⟨rfl,_,JA.of hx⟩,_,rfl,_,_,rfl,rfl,⟨by decide,by decide⟩,_,rfl,_,_,rfl,rfl,.inr ⟨by decide,by decide⟩,_,_,rfl,rfl,(by show (0:Int) < 2147483647; decide),_,_,rfl,rfl,_,rfl,_,_,rfl,rfl,hb0,p,_,_,rfl,rfl,hx,hxl,?_⟩;refine ⟨_,rfl,_,rfl,_,_,rfl,rfl,⟨hb0,by show b < 1073741824; omega⟩,?_⟩;obtain ⟨a1,a2,a3,a4⟩:=add (((m * 48271 + 7 * (0 + (i:Int)) + 11) % 2147483647 / 8 + (m * 48271 + 7 * (0 + (i:Int)) + 11) % 2147483647 * 69621 % 2147483647) % b) ⟨Int.emod_nonneg _ (by omega),Int.emod_lt_of_pos _ hb0⟩;exact ⟨_,_,_,_,a1,a2,a3,a4,rfl⟩
  ·rintro σ H2 ⟨r,m,xs,v,e,hx,hl,hr,rfl⟩;exact ⟨_,rfl,q p xs H2 hp e hx hl hr⟩
theorem JhL (T:Txt K mg):JC P w K mg base YJ 1 T.Jgg T.Je5 ["text"] JtP:=by
 refine T.Jc1.F.ok JmZ (fun vs H Q E h=>?_) (fun cdv A outer s H vs Q E hr h=>?_)
 ·obtain ⟨_,rfl,_⟩:=h;rfl
 ·obtain ⟨z,rfl,hz,q⟩:=h;have hzl:z.length≤sizeLine:=Nat.le_trans hz (by decide);refine ⟨_,(@Jd _ _ _ _ _ (@JL _ _ _ _ _ _ _ _ (@PW.pt _ _ _ (@Jbn _ _ _ _ _ _ _ (@Jx _ _ _ _ _ _ _ _ (@Jee _) (@JB _ _ _ _ _ _ _ _ _ (@Jil _) rfl T.Zm PySem.boot_len (@Ja _ _ _ _ _ (@pv _ 0 _ _ rfl (.inl rfl) rfl rfl) (@Jc _) rfl) (by decide) (by decide) rfl rfl) (@Je _ _ _ _) (JE _)) (@JaO _ _ _ _ (@Jx _ _ _ _ _ _ _ _ (@JiE _) (@JB _ _ _ _ _ _ _ _ _ (@Jil _) rfl T.Zm PySem.boot_len (@Ja _ _ _ _ _ (@pv _ 0 _ _ rfl (.inl rfl) rfl rfl) (@Jc _) rfl) (by decide) (by decide) rfl rfl) (@ZH _ _ _ _ _ rfl T.Jb6 T.JbV (by decide)) (JE _))))) (@Jg _ _ _ (@Jq _ _ _ _ (@Ja1 _ _ _ _))) (@Jw _)) (@Jg _ _ _ (@Jq _ _ _ _ (@JB _ _ _ _ _ _ _ _ _ (@Js5 _ rfl) rfl T.Jts PyProof.Rows.boot_all (@Ja _ _ _ _ _ (@Jg1 _ _ _ _ _ _ _ 1 ["sign"] [] _ _ _ _ ["text"] ((Jk JcV).names) (by decide +kernel) (@Ju2 _ _ _ _ (@pv _ 0 _ _ rfl (.inl rfl) rfl rfl)) (fun _ _ _ _=>(@Jar _ _ _ _ _ _ _ _ _ 0 (by decide +kernel) rfl rfl)) (fun _ _ _ _=>(@Jeq _)) (fun _ _ _ _=>(@Jst _ _ _ _ _ _ _ _ _ _ _ _ (@JlS _) (@JlS _) (@Jy _ _ _ _) (@ZN _ _ _ _ _ _ _ _ _ 0 rfl rfl (by decide) (by decide)) (@Jy _ _ _ _) (by with_unfolding_all rfl))) rfl rfl rfl (by intro _; rfl)) (@Jc _) rfl) (by decide) (by decide) rfl rfl)))),?_⟩;refine ⟨_,rfl,z,rfl,hzl,_,_,rfl,rfl,_,rfl,Yt (fun c=>Zh ?_) (fun c=>?_)⟩
  ·have c':(z.length:Int) < 1:=of_decide_eq_true c;have e:YB z=false:=by unfold YB; rw [decide_eq_false (by omega)]; rfl
   rw [← e];exact q H (Ji.refl _)
  refine ⟨_,rfl,z,rfl,hzl,_,_,rfl,rfl,_,rfl,Yt (fun d=>?_) (fun d=>?_)⟩
  ·have d':(6:Int) < z.length:=of_decide_eq_true d;have e:YB z=false:=by unfold YB; rw [decide_eq_false (p:=z.length≤6) (by omega),Bool.and_false]; rfl
   rw [← e];exact q H (Ji.refl _)
  have c':¬ (z.length:Int) < 1:=fun w=>c (decide_eq_true w)
  have d':¬ (6:Int) < z.length:=fun w=>d (decide_eq_true w)
  have e:YB z=z.cps.toList.all ZR:=by unfold YB; rw [decide_eq_true (by omega),decide_eq_true (by omega)]; rfl
  refine ⟨_,rfl,z,rfl,fun D hD=>?_⟩;refine JmD (fun i v=>∃ c,z.cps[i]?=some c∧v=.bl (ZR c)) rfl hD hzl (fun i c H2 hc e2 Q' hQ=>?_) (fun ys H2 e2 hD2 hl hF=>?_)
  ·refine ⟨_,rfl,_,_,rfl,rfl,_,rfl,?_⟩;have e1:(!decide ([c] < [97]))=decide (97≤c):=by rw [lt1,Bool.eq_iff_iff]; simp
   have e2:(!decide ([122] < [c]))=decide (c≤122):=by rw [lt1,Bool.eq_iff_iff]; simp
   by_cases h1:97≤c
   ·refine ZE (e1.trans (decide_eq_true h1)) ⟨_,_,rfl,rfl,?_⟩;refine hQ _ ⟨c,hc,congrArg V.bl (e2.trans ?_)⟩;unfold ZR;rw [decide_eq_true h1]; rfl
   ·refine YN (e1.trans (decide_eq_false h1)) (hQ _ ⟨c,hc,congrArg V.bl ?_⟩);unfold ZR;rw [decide_eq_false h1]; rfl
  ·have hys:ys=(z.cps.toList.map ZR).map V.bl:=by
    apply List.ext_getElem?;intro i;by_cases hi:i < ys.length
    ·obtain ⟨c,h1,h2⟩:=hF i _ (List.getElem?_eq_getElem hi);rw [List.getElem?_eq_getElem hi,h2,List.getElem?_map,List.getElem?_map,Array.getElem?_toList,h1];rfl
    ·rw [List.getElem?_eq_none (by omega),List.getElem?_eq_none];rw [List.length_map,List.length_map,Array.length_toList];have e9:z.cps.size=z.length:=rfl;omega
   refine ⟨D,z.cps.toList.map ZR,rfl,by rw [← hys]; exact JA.of hD2,?_⟩;have e3:(z.cps.toList.map ZR).all id=YB z:=by rw [e,List.all_map]; rfl
   rw [e3];exact q H2 e2
theorem JaT (T:Txt K mg):JC P w K mg base YJ 1 T.Jbd T.JaX ["things"] (JtJ K):=by
 refine T.ZD.F.ok Jhz (fun vs H Q E h=>?_) (fun cdv A outer s H vs Q E hr h=>?_)
 ·obtain ⟨_,rfl,_⟩:=h;rfl
 ·obtain ⟨l,rfl,hl,q⟩:=h;refine ⟨_,(@Jg _ _ _ (@JL _ _ _ _ _ _ _ _ (@Jx _ _ _ _ _ _ _ _ (@Jee _) (@JB _ _ _ _ _ _ _ _ _ (@JoA _) rfl T.Zm PySem.boot_len (@Ja _ _ _ _ _ (@Y5 _ _ _ _ _ _ _ _ _ (@Jrp _ rfl hr.units) rfl T.Jtr PyProof.Rows.boot_set (@Ja _ _ _ _ _ (@pv _ 0 _ _ rfl (.inl rfl) rfl rfl) (@Jc _) rfl) (by decide) (by decide) rfl rfl) (@Jc _) rfl) (by decide) (by decide) rfl rfl) (@JB _ _ _ _ _ _ _ _ _ (@Yk _) rfl T.Zm PySem.boot_len (@Ja _ _ _ _ _ (@pv _ 0 _ _ rfl (.inl rfl) rfl rfl) (@Jc _) rfl) (by decide) (by decide) rfl rfl) (JE _)) (@Jg _ _ _ (@Jg0 _ _)) (@Jw _))),?_⟩;rcases hl with ⟨ss,hS,hz,nd⟩ | ⟨us,kss,hS,tt,hz,nd⟩
  ·refine ⟨_,rfl,.inl ⟨l,ss,rfl,hS,hz,fun p hp=>⟨p,_,rfl,Jj,_,rfl,l,_,rfl,.inl ((Ji.upd hp).seq hS),_,_,rfl,rfl,_,rfl,YN (decide_eq_false ?_) (q _ (Ji.upd hp))⟩⟩⟩;rw [Jkh nd,List.length_map];exact Int.lt_irrefl _
  ·refine ⟨_,rfl,.inr ⟨l,us,kss,rfl,hS,tt,hz,fun p hp=>⟨p,_,rfl,Jj,_,rfl,l,_,rfl,.inl ((Ji.upd hp).seq hS),_,_,rfl,rfl,_,rfl,YN (decide_eq_false ?_) (q _ (Ji.upd hp))⟩⟩⟩;rw [Jkh nd,tt.1];exact Int.lt_irrefl _
theorem Ja2 (T:Txt K mg):JC P w K mg base (Ys P w) 1 T.JdU T.JcI ["place", "places"] (Jr5 K T.Y1):=by
 refine T.ZX.F.ok1 JkK (fun vs H Q E h=>?_) (fun cdv A outer s H vs Q E hr h=>?_)
 ·obtain ⟨_,_,_,rfl,_⟩:=h;rfl
 ·obtain ⟨z,t,ps,rfl,ht,hS,q1,q2⟩:=h;refine ⟨_,(@Jg _ _ _ (@JL _ _ _ _ _ _ _ _ (@Jx _ _ _ _ _ _ _ _ (@JbZ _) (@pv _ 0 _ _ rfl (.inl rfl) rfl rfl) (@pv _ 1 _ _ rfl (.inl rfl) rfl rfl) (by with_unfolding_all rfl)) (@Jg _ _ _ (@JaQ _ _ _ _ _ _ _ _ _ T.Jkt T.Jim JbK (@JbL _ _ _ _ _ _ (PJ.cons (@JeV _ _ _ _ (@pv _ 0 _ _ rfl (.inl rfl) rfl rfl)) (PJ.cons (@Jy _ _ _ _) PJ.nil)) rfl) rfl rfl (by decide) rfl)) (@Jw _))),?_⟩;refine ⟨_,rfl,_,rfl,t,_,rfl,hS,rfl,JbN ps,_,rfl,?_⟩;rw [if_pos rfl,JcD];by_cases hin:z∈ps
  ·exact YN (by rw [decide_eq_true hin]; rfl) (q1 hin)
  ·have hz:=JfK ht;have e1:(Str.empty ++ reprText z).length=(reprText z).length:=by rw [strLen_append]; exact Nat.zero_add _
   refine ZE (by rw [decide_eq_false hin]; rfl) ⟨_,rfl,z,rfl,Nat.le_trans hz (by decide),_,rfl,by rw [e1]; exact Nat.le_trans hz (by decide),_,rfl,?_,?_,q2 hin⟩
   all_goals
    rw [strLen_append,e1];refine Nat.le_trans (Nat.add_le_add_right hz _) (by decide)
theorem JjZ (T:Txt K mg):JC P w K mg base YJ 2 T.JcQ T.Jb9 ["places"] (Jpc K):=by
 refine T.JcU.F.ok JfL (fun vs H Q E h=>?_) (fun cdv A outer s H vs Q E hr h=>?_)
 ·obtain ⟨_,_,rfl,_⟩:=h;rfl
 ·obtain ⟨l,ps,rfl,hS,h1,h2,h3,h4,q⟩:=h;refine ⟨_,(@Jd _ _ _ _ _ (@JL _ _ _ _ _ _ _ _ (@PW.pt _ _ _ (@Jbn _ _ _ _ _ _ _ (@Jx _ _ _ _ _ _ _ _ (@Jee _) (@JB _ _ _ _ _ _ _ _ _ (@Yk _) rfl T.Zm PySem.boot_len (@Ja _ _ _ _ _ (@pv _ 0 _ _ rfl (.inl rfl) rfl rfl) (@Jc _) rfl) (by decide) (by decide) rfl rfl) (@Je _ _ _ _) (JE _)) (@JaO _ _ _ _ (@Jx _ _ _ _ _ _ _ _ (@JiE _) (@JB _ _ _ _ _ _ _ _ _ (@Yk _) rfl T.Zm PySem.boot_len (@Ja _ _ _ _ _ (@pv _ 0 _ _ rfl (.inl rfl) rfl rfl) (@Jc _) rfl) (by decide) (by decide) rfl rfl) (@ZH _ _ _ _ _ rfl T.Jbp T.Jbl (by decide)) (JE _))))) (@Jg _ _ _ (@Jg0 _ _)) (@Jw _)) (@Jd _ _ _ _ _ (@ZC _ _ _ _ _ _ _ _ PassesOwn.never rfl (@Jcy _ _ _ _ (@pv _ 0 _ _ rfl (.inl rfl) rfl rfl)) (@YA _ _ 1 _ JfL.nd rfl (Or.inl rfl) (.inl rfl)) (@Jg _ _ _ (@JL _ _ _ _ _ _ _ _ (@Z8 _ _ _ _ (@Zr _ _ _ (@Jm _ _ _ _ _ _ _ _ _ _ _ _ _ _ _ T.Jc1 (JhL T) (hr.mono (by decide)) JG (@Ja _ _ _ _ _ (@pv _ 1 _ _ rfl (.inl rfl) rfl rfl) (@Jc _) rfl) rfl (by decide) rfl rfl) (by intro _; rfl))) (@Jg _ _ _ (@Jg0 _ _)) (@Jw _))) (by intro _; rfl)) (@Jg _ _ _ (@JP _ _ _ _ (@Jm _ _ _ _ _ _ _ _ _ _ _ _ _ _ _ T.ZD (JaT T) (hr.mono (by decide)) JG (@Ja _ _ _ _ _ (@pv _ 0 _ _ rfl (.inl rfl) rfl rfl) (@Jc _) rfl) rfl (by decide) rfl rfl) rfl)))),?_⟩;refine ⟨_,rfl,l,_,rfl,.inl hS,_,_,rfl,rfl,_,rfl,YN (decide_eq_false (by rw [List.length_map]; omega)) ?_⟩;refine ⟨_,rfl,l,_,rfl,.inl hS,_,_,rfl,rfl,_,rfl,YN (decide_eq_false (by rw [List.length_map]; omega)) ?_⟩;refine ⟨_,rfl,l,rfl,⟨_,hS⟩,Jjn (xs:=ps.map V.str) (fun i σ H2=>Ji H H2∧∃ v,σ=[some (.ref l),v]) ⟨Ji.refl _,none,rfl⟩ (fun i σ H2 _ h=>h.1.seq hS) ?_ ?_⟩
  ·rintro i x σ H2 hx ⟨e2,v,rfl⟩;obtain ⟨p,hp,rfl⟩:=List.mem_map.mp (List.mem_of_getElem? hx);refine ⟨_,rfl,p,rfl,Nat.le_trans (Jg9 (h3 p hp)).1 (by decide),fun H3 e3=>⟨_,rfl,YN (by rw [h3 p hp]; rfl) ?_⟩⟩;exact ⟨e2.trans e3,_,rfl⟩
  ·rintro σ H2 ⟨e2,v,rfl⟩;exact ⟨_,rfl,l,rfl,.inl ⟨ps,e2.seq hS,by omega,h4⟩,fun H3 e3=>q H3 (e2.trans e3)⟩
theorem Jk5 (T:Txt K mg):JC P w K mg base YJ 2 T.JdR T.JcF ["lanes", "places"] (Jqr K):=by
 refine T.Jd3.F.ok Jgy (fun vs H Q E h=>?_) (fun cdv A outer s H vs Q E hr h=>?_)
 ·obtain ⟨_,_,_,_,rfl,_⟩:=h;rfl
 ·obtain ⟨l,lp,zs,ps,rfl,hS,hP,hp,ht,h1,h2,h3,q⟩:=h;refine ⟨_,(@Jd _ _ _ _ _ (@JL _ _ _ _ _ _ _ _ (@Jx _ _ _ _ _ _ _ _ (@JiE _) (@JB _ _ _ _ _ _ _ _ _ (@Yk _) rfl T.Zm PySem.boot_len (@Ja _ _ _ _ _ (@pv _ 0 _ _ rfl (.inl rfl) rfl rfl) (@Jc _) rfl) (by decide) (by decide) rfl rfl) (@ZH _ _ _ _ _ rfl T.Jb7 T.JbW (by decide)) (JE _)) (@Jg _ _ _ (@Jg0 _ _)) (@Jw _)) (@Jd _ _ _ _ _ (@ZC _ _ _ _ _ _ _ _ PassesOwn.never rfl (@Jcy _ _ _ _ (@pv _ 0 _ _ rfl (.inl rfl) rfl rfl)) (@YA _ _ 2 _ Jgy.nd rfl (Or.inl rfl) (.inl rfl)) (@Jd _ _ _ _ _ (@JP _ _ _ _ (@Jm _ _ _ _ _ _ _ _ _ _ _ _ _ _ _ T.ZX (Ja2 T) (hr.mono (by decide)) Zp (@Ja _ _ _ _ _ (@JM _ _ _ _ _ _ _ (@Yy _) (@pv _ 2 _ _ rfl (.inl rfl) rfl rfl) (@Je _ _ _ _) (fun _ _=>rfl)) (@Ja _ _ _ _ _ (@pv _ 1 _ _ rfl (.inl rfl) rfl rfl) (@Jc _) rfl) rfl) rfl (by decide) rfl rfl) rfl) (@Jg _ _ _ (@JP _ _ _ _ (@Jm _ _ _ _ _ _ _ _ _ _ _ _ _ _ _ T.ZX (Ja2 T) (hr.mono (by decide)) Zp (@Ja _ _ _ _ _ (@JM _ _ _ _ _ _ _ (@Yy _) (@pv _ 2 _ _ rfl (.inl rfl) rfl rfl) (@Je _ _ _ _) (fun _ _=>rfl)) (@Ja _ _ _ _ _ (@pv _ 1 _ _ rfl (.inl rfl) rfl rfl) (@Jc _) rfl) rfl) rfl (by decide) rfl rfl) rfl))) (by intro _; rfl)) (@Jg _ _ _ (@JP _ _ _ _ (@Jm _ _ _ _ _ _ _ _ _ _ _ _ _ _ _ T.ZD (JaT T) (hr.mono (by decide)) JG (@Ja _ _ _ _ _ (@pv _ 0 _ _ rfl (.inl rfl) rfl rfl) (@Jc _) rfl) rfl (by decide) rfl rfl) rfl)))),?_⟩;refine ⟨_,rfl,l,_,rfl,.inl hS,_,_,rfl,rfl,_,rfl,YN (decide_eq_false (by rw [List.length_map]; omega)) ?_⟩;refine ⟨_,rfl,l,rfl,⟨_,hS⟩,Jjn (xs:=zs.map (·.1)) (fun i σ H2=>H2=H∧∃ v,σ=[some (.ref l),some (.ref lp),v]) ⟨rfl,none,rfl⟩ (fun i σ H2 _ h=>by rw [h.1]; exact hS) ?_ ?_⟩
  ·rintro i x σ H2 hx ⟨rfl,v,rfl⟩;obtain ⟨z,hz,rfl⟩:=List.mem_map.mp (List.mem_of_getElem? hx);obtain ⟨a,ea,ha⟩:=hP z hz;obtain ⟨i1,i2⟩:=h2 z hz;refine ⟨_,rfl,a,_,_,.str z.2.1,ea,rfl,ha,rfl,_,rfl,z.2.1,lp,ps,rfl,ht _ i1,.inl hp,fun _=>?_,fun hn=>absurd i1 hn⟩;exact ⟨_,rfl,a,_,_,.str z.2.2,ea,rfl,ha,rfl,_,rfl,z.2.2,lp,ps,rfl,ht _ i2,.inl hp,fun _=>⟨rfl,_,rfl⟩,fun hn=>absurd i2 hn⟩
  ·rintro σ H2 ⟨rfl,v,rfl⟩;exact ⟨_,rfl,l,rfl,.inr ⟨_,_,hS,Jpr hP,by rw [List.length_map,List.length_map]; omega,Jor h3⟩,fun H3 e3=>q H3 e3⟩
theorem Jk6 (T:Txt K mg):JC P w K mg base YJ 2 T.JdS T.JcG ["goals", "places"] (Jqs K):=by
 refine T.Jd4.F.ok Jgz (fun vs H Q E h=>?_) (fun cdv A outer s H vs Q E hr h=>?_)
 ·obtain ⟨_,_,_,_,rfl,_⟩:=h;rfl
 ·obtain ⟨l,lp,gs,ps,rfl,hS,hp,ht,h1,h2,h3,q⟩:=h;refine ⟨_,(@Jd _ _ _ _ _ (@ZC _ _ _ _ _ _ _ _ PassesOwn.never rfl (@Jcy _ _ _ _ (@pv _ 0 _ _ rfl (.inl rfl) rfl rfl)) (@YA _ _ 2 _ Jgz.nd rfl (Or.inl rfl) (.inl rfl)) (@Jg _ _ _ (@JP _ _ _ _ (@Jm _ _ _ _ _ _ _ _ _ _ _ _ _ _ _ T.ZX (Ja2 T) (hr.mono (by decide)) Zp (@Ja _ _ _ _ _ (@pv _ 2 _ _ rfl (.inl rfl) rfl rfl) (@Ja _ _ _ _ _ (@pv _ 1 _ _ rfl (.inl rfl) rfl rfl) (@Jc _) rfl) rfl) rfl (by decide) rfl rfl) rfl)) (by intro _; rfl)) (@Jg _ _ _ (@JP _ _ _ _ (@Jm _ _ _ _ _ _ _ _ _ _ _ _ _ _ _ T.ZD (JaT T) (hr.mono (by decide)) JG (@Ja _ _ _ _ _ (@pv _ 0 _ _ rfl (.inl rfl) rfl rfl) (@Jc _) rfl) rfl (by decide) rfl rfl) rfl))),?_⟩;refine ⟨_,rfl,l,rfl,⟨_,hS⟩,Jjn (xs:=gs.map V.str) (fun i σ H2=>H2=H∧∃ v,σ=[some (.ref l),some (.ref lp),v]) ⟨rfl,none,rfl⟩ (fun i σ H2 _ h=>by rw [h.1]; exact hS) ?_ ?_⟩
  ·rintro i x σ H2 hx ⟨rfl,v,rfl⟩;obtain ⟨g,hg,rfl⟩:=List.mem_map.mp (List.mem_of_getElem? hx);exact ⟨_,rfl,_,rfl,g,lp,ps,rfl,ht _ (h2 g hg),.inl hp,fun _=>⟨rfl,_,rfl⟩,fun hn=>absurd (h2 g hg) hn⟩
  ·rintro σ H2 ⟨rfl,v,rfl⟩;exact ⟨_,rfl,l,rfl,.inl ⟨gs,hS,h1,h3⟩,fun H3 e3=>q H3 e3⟩
theorem JmC (T:Txt K mg):JC P w K mg base YJ 3 T.Jcg T.JdP ["self", "places", "lanes", "goals"] (JoE K T.JT):=by
 refine T.JfH.F.ok Jms (fun vs H Q E h=>?_) (fun cdv A outer s H vs Q E hr h=>?_)
 ·obtain ⟨_,_,_,_,_,_,_,_,rfl,_⟩:=h;rfl
 ·obtain ⟨b,lp,ll,lg,dx,ps,zs,gs,rfl,hb,hp,hl,hP,hg,G,q⟩:=h;refine ⟨_,(@Jd _ _ _ _ _ (@JP _ _ _ _ (@Jm _ _ _ _ _ _ _ _ _ _ _ _ _ _ _ T.JcU (JjZ T) (hr.mono (by decide)) JG (@Ja _ _ _ _ _ (@pv _ 1 _ _ rfl (.inl rfl) rfl rfl) (@Jc _) rfl) rfl (by decide) rfl rfl) rfl) (@Jd _ _ _ _ _ (@JP _ _ _ _ (@Jm _ _ _ _ _ _ _ _ _ _ _ _ _ _ _ T.Jd3 (Jk5 T) (hr.mono (by decide)) JG (@Ja _ _ _ _ _ (@pv _ 2 _ _ rfl (.inl rfl) rfl rfl) (@Ja _ _ _ _ _ (@pv _ 1 _ _ rfl (.inl rfl) rfl rfl) (@Jc _) rfl) rfl) rfl (by decide) rfl rfl) rfl) (@Jd _ _ _ _ _ (@JP _ _ _ _ (@Jm _ _ _ _ _ _ _ _ _ _ _ _ _ _ _ T.Jd4 (Jk6 T) (hr.mono (by decide)) JG (@Ja _ _ _ _ _ (@pv _ 3 _ _ rfl (.inl rfl) rfl rfl) (@Ja _ _ _ _ _ (@pv _ 1 _ _ rfl (.inl rfl) rfl rfl) (@Jc _) rfl) rfl) rfl (by decide) rfl rfl) rfl) (@Jd _ _ _ _ _ (@Y3 _ _ _ _ _ _ _ _ (@pv _ 0 _ _ rfl (.inl rfl) rfl rfl) (@Y5 _ _ _ _ _ _ _ _ _ (@ZB _) rfl T.Jau PyProof.Rows.boot_tuple (@Ja _ _ _ _ _ (@JB _ _ _ _ _ _ _ _ _ (@Jei _) rfl T.JaU PyProof.Rows.boot_sorted (@Ja _ _ _ _ _ (@pv _ 1 _ _ rfl (.inl rfl) rfl rfl) (@Jc _) rfl) (by decide) (by decide) rfl rfl) (@Jc _) rfl) (by decide) (by decide) rfl rfl) rfl) (@Jd _ _ _ _ _ (@Y3 _ _ _ _ _ _ _ _ (@pv _ 0 _ _ rfl (.inl rfl) rfl rfl) (@Y5 _ _ _ _ _ _ _ _ _ (@ZB _) rfl T.Jau PyProof.Rows.boot_tuple (@Ja _ _ _ _ _ (@JB _ _ _ _ _ _ _ _ _ (@JpU _) rfl T.JaU PyProof.Rows.boot_sorted (@Ja _ _ _ _ _ (@pv _ 2 _ _ rfl (.inl rfl) rfl rfl) (@Jc _) rfl) (by decide) (by decide) rfl rfl) (@Jc _) rfl) (by decide) (by decide) rfl rfl) rfl) (@Jg _ _ _ (@Y3 _ _ _ _ _ _ _ _ (@pv _ 0 _ _ rfl (.inl rfl) rfl rfl) (@Y5 _ _ _ _ _ _ _ _ _ (@ZB _) rfl T.Jau PyProof.Rows.boot_tuple (@Ja _ _ _ _ _ (@JB _ _ _ _ _ _ _ _ _ (@Jei _) rfl T.JaU PyProof.Rows.boot_sorted (@Ja _ _ _ _ _ (@pv _ 3 _ _ rfl (.inl rfl) rfl rfl) (@Jc _) rfl) (by decide) (by decide) rfl rfl) (@Jc _) rfl) (by decide) (by decide) rfl rfl) rfl))))))),?_⟩;have ht:∀ p∈ps,Yb p:=fun p h=>Yo (G.p3 p h)
  have hzl:zs.length≤40:=by have:=G.l1; rwa [List.length_map] at this
  have hl2:∀ z∈zs,z.2.1∈ps∧z.2.2∈ps:=fun z hz=>G.l2 z.2 (List.mem_map.mpr ⟨z,hz,rfl⟩)
  have hgl:=G.glen;refine ⟨_,rfl,lp,ps,rfl,hp,G.p1,G.p2,G.p3,G.p4,fun H1 e1=>?_⟩;refine ⟨_,rfl,_,rfl,ll,lp,zs,ps,rfl,e1.seq hl,Jah hP e1,e1.seq hp,ht,hzl,hl2,G.l3,fun H2 e2=>?_⟩;have e12:=e1.trans e2;refine ⟨_,rfl,_,rfl,lg,lp,gs,ps,rfl,e12.seq hg,e12.seq hp,ht,by omega,G.g1,G.g2,fun H3 e3=>?_⟩;have e13:=e12.trans e3;have hb3:=e13 _ _ hb;refine ⟨_,rfl,lp,ps,rfl,e13.seq hp,by have:=G.p2; omega,fun p4 ps' n4 pp ps4=>⟨p4,_,rfl,.inl ⟨JA.of Jj,fun t5 n5=>?_⟩⟩⟩;have e35:=(Ji.upd (o:=.lst (ps'.map V.str)) n4).trans (Ji.upd (o:=.tup (ps'.map V.str)) n5);refine ⟨_,rfl,b,_,dx,_,rfl,e35 _ _ hb3,T.YU,T.JaF,by decide,?_⟩;have b6:=(Yc.of (b:=b) (e13.trans e35)).trans (Yc.put (o:=.ins T.JT dx (Yh "places" (.ref t5) [])));have t5b:t5≠b:=fun e=>by
   have z:=(Ji.upd (o:=.lst (ps'.map V.str)) n4) _ _ hb3;rw [e,z] at n5; cases n5
  have hp6:upd (upd (upd H3 p4 (.lst (ps'.map V.str))) t5 (.tup (ps'.map V.str))) b (.ins T.JT dx (Yh "places" (.ref t5) [])) t5=some (.tup (ps'.map V.str)):=by rw [Js t5b,Jj]
  have hb6:upd (upd (upd H3 p4 (.lst (ps'.map V.str))) t5 (.tup (ps'.map V.str))) b (.ins T.JT dx (Yh "places" (.ref t5) [])) b=some (.ins T.JT dx [("places",.ref t5)]):=Jj;generalize upd (upd (upd H3 p4 (.lst (ps'.map V.str))) t5 (.tup (ps'.map V.str))) b (.ins T.JT dx (Yh "places" (.ref t5) []))=H6 at b6 hp6 hb6;refine ⟨_,rfl,ll,zs,rfl,b6.seq hb hl,fun z hz=>let ⟨a,h1,h2⟩:=hP z hz; ⟨a,h1,b6.tup hb h2⟩,by omega,fun p7 zs' n7 zp zs7=>⟨p7,_,rfl,.inl ⟨JA.of Jj,fun t8 n8=>?_⟩⟩⟩;have e68:=(Ji.upd (o:=.lst (zs'.map (·.1))) n7).trans (Ji.upd (o:=.tup (zs'.map (·.1))) n8);refine ⟨_,rfl,b,_,dx,_,rfl,e68 _ _ hb6,T.YU,T.JcB,by show 1 < 1000; decide,?_⟩;have b9:=(b6.trans (Yc.of e68)).trans (Yc.put (o:=.ins T.JT dx (Yh "lanes" (.ref t8) [("places",.ref t5)])));have t8b:t8≠b:=fun e=>by
   have z:=(Ji.upd (o:=.lst (zs'.map (·.1))) n7) _ _ hb6;rw [e,z] at n8; cases n8
  have hl9:upd (upd (upd H6 p7 (.lst (zs'.map (·.1)))) t8 (.tup (zs'.map (·.1)))) b (.ins T.JT dx (Yh "lanes" (.ref t8) [("places",.ref t5)])) t8=some (.tup (zs'.map (·.1))):=by rw [Js t8b,Jj]
  have hp9:upd (upd (upd H6 p7 (.lst (zs'.map (·.1)))) t8 (.tup (zs'.map (·.1)))) b (.ins T.JT dx (Yh "lanes" (.ref t8) [("places",.ref t5)])) t5=some (.tup (ps'.map V.str)):=by rw [Js t5b]; exact e68 _ _ hp6
  have hb9:upd (upd (upd H6 p7 (.lst (zs'.map (·.1)))) t8 (.tup (zs'.map (·.1)))) b (.ins T.JT dx (Yh "lanes" (.ref t8) [("places",.ref t5)])) b=some (.ins T.JT dx [("places",.ref t5),("lanes",.ref t8)]):=Jj;generalize upd (upd (upd H6 p7 (.lst (zs'.map (·.1)))) t8 (.tup (zs'.map (·.1)))) b (.ins T.JT dx (Yh "lanes" (.ref t8) [("places",.ref t5)]))=H9 at b9 hl9 hp9 hb9;refine ⟨_,rfl,lg,gs,rfl,b9.seq hb hg,by omega,fun p10 gs' n10 gp gs10=>⟨p10,_,rfl,.inl ⟨JA.of Jj,fun t11 n11=>?_⟩⟩⟩;have e911:=(Ji.upd (o:=.lst (gs'.map V.str)) n10).trans (Ji.upd (o:=.tup (gs'.map V.str)) n11);refine ⟨_,rfl,b,_,dx,_,rfl,e911 _ _ hb9,T.YU,T.JcC,by show 2 < 1000; decide,?_⟩;have b12:=(b9.trans (Yc.of e911)).trans (Yc.put (o:=.ins T.JT dx (Yh "goals" (.ref t11) [("places",.ref t5),("lanes",.ref t8)])));have t11b:t11≠b:=fun e=>by
   have z:=(Ji.upd (o:=.lst (gs'.map V.str)) n10) _ _ hb9;rw [e,z] at n11; cases n11
  refine q _ ps' zs' gs' b12 pp ps4 zp zs7 gp gs10 ⟨dx,t5,t8,t11,Jj,?_,?_,fun z hz=>?_,?_⟩
  ·rw [Js t5b]; exact e911 _ _ hp9
  ·rw [Js t8b]; exact e911 _ _ hl9
  ·obtain ⟨a,h1,h2⟩:=hP z (zp.mem_iff.mp hz);exact ⟨a,h1,b12.tup hb h2⟩
  ·rw [Js t11b,Jj]
theorem Zb (T:Txt K mg):JC P w K mg base (Ys P w) 2 T.Jaz T.Jak ["self", "place"] (Jqq K T.JT T.Y1):=by
 refine T.J9.F.ok1 JgU (fun vs H Q E h=>?_) (fun cdv A outer s H vs Q E hr h=>?_)
 ·obtain ⟨_,_,_,_,_,rfl,_⟩:=h;rfl
 ·obtain ⟨b,z,ps,zs,gs,rfl,ht,⟨dx,tp,tl,tg,hb,hp,_⟩,q1,q2⟩:=h;refine ⟨_,(@Jg _ _ _ (@JP _ _ _ _ (@Jm _ _ _ _ _ _ _ _ _ _ _ _ _ _ _ T.ZX (Ja2 T) (hr.mono (by decide)) JY (@Ja _ _ _ _ _ (@pv _ 1 _ _ rfl (.inl rfl) rfl rfl) (@Ja _ _ _ _ _ (@J5 _ _ _ _ _ (@pv _ 0 _ _ rfl (.inl rfl) rfl rfl) rfl) (@Jc _) rfl) rfl) rfl (by decide) rfl rfl) rfl)),?_⟩;exact ⟨_,rfl,_,rfl,b,_,dx,_,.ref tp,rfl,hb,T.YU,T.JaF,rfl,z,tp,ps,rfl,ht,.inr (J1.of hp),q1,q2⟩
theorem Jjl (T:Txt K mg):JC P w K mg base (Ys P w) 3 T.Jcf T.JbH ["self", "place"] (Jqh K T.JT T.Y1):=by
 refine T.JaH.F.ok1 Jjg (fun vs H Q E h=>?_) (fun cdv A outer s H vs Q E hr h=>?_)
 ·obtain ⟨_,_,_,_,_,rfl,_⟩:=h;rfl
 ·obtain ⟨b,z,ps,zs,gs,rfl,ht,B,q1,q2⟩:=h;refine ⟨_,(@Jd _ _ _ _ _ (@JP _ _ _ _ (@JD _ _ _ _ _ _ _ _ _ _ _ _ _ _ _ _ _ _ _ _ (@pv _ 0 _ _ rfl (.inl rfl) rfl rfl) T.YU T.J9.m (Zb T) (hr.mono (by decide)) T.J9.b .nil JY (@Ja _ _ _ _ _ (@pv _ 1 _ _ rfl (.inl rfl) rfl rfl) (@Jc _) rfl) rfl rfl rfl) rfl) (@Jg _ _ _ (@Jq _ _ _ _ (@JgC _ _ _ _ _ _ _ _ (@JlT _) (@pv _ 1 _ _ rfl (.inl rfl) rfl rfl) (@J5 _ _ _ _ _ (@pv _ 0 _ _ rfl (.inl rfl) rfl rfl) rfl) (by with_unfolding_all rfl))))),?_⟩;obtain ⟨dx,tp,tl,tg,hb,hp,hl,hP,hg⟩:=id B;refine ⟨_,rfl,b,dx,_,rfl,hb,rfl,_,rfl,b,z,ps,zs,gs,rfl,ht,B,fun hin=>?_,q2⟩;refine ⟨_,rfl,_,rfl,b,_,dx,_,.ref tg,rfl,hb,T.YU,T.JcC,rfl,tg,_,rfl,.inr (J1.of hg),rfl,JbN gs,?_⟩;rw [if_neg Bool.false_ne_true,JcD];exact q1 hin
theorem Jdz (T:Txt K mg):JC P w K mg base (Ys P w) 3 T.Jfy T.JdO ["self", "place"] (JtF K T.JT T.Y1):=by
 refine T.Zu.F.ok1 Jmr (fun vs H Q E h=>?_) (fun cdv A outer s H vs Q E hr h=>?_)
 ·obtain ⟨_,_,_,_,_,rfl,_⟩:=h;rfl
 ·obtain ⟨b,z,ps,zs,gs,rfl,ht,hlen,B,q1,q2⟩:=h;refine ⟨_,(@Jd _ _ _ _ _ (@JP _ _ _ _ (@JD _ _ _ _ _ _ _ _ _ _ _ _ _ _ _ _ _ _ _ _ (@pv _ 0 _ _ rfl (.inl rfl) rfl rfl) T.YU T.J9.m (Zb T) (hr.mono (by decide)) T.J9.b .nil JY (@Ja _ _ _ _ _ (@pv _ 1 _ _ rfl (.inr (.inl rfl)) rfl rfl) (@Jc _) rfl) rfl rfl rfl) rfl) (@Jg _ _ _ (@Jq _ _ _ _ (@Y5 _ _ _ _ _ _ _ _ _ (@ZB _) rfl T.Jau PyProof.Rows.boot_tuple (@Ja _ _ _ _ _ (@Jg1 _ _ _ _ _ _ _ 1 ["lane", "place"] [1] _ _ _ _ ["self", "place"] ((Jk JbT).names) (by decide +kernel) (@JhI _ _ _ _ (@J5 _ _ _ _ _ (@pv _ 0 _ _ rfl (.inl rfl) rfl rfl) rfl)) (fun _ _ _ _=>(@Jar _ _ _ _ _ _ _ _ _ 0 (by decide +kernel) rfl rfl)) (fun _ _ _ _=>(@JiB _ _ _ (@Jx _ _ _ _ _ _ _ _ (@Yi _) (@JM _ _ _ _ _ _ _ (show IxR _ (Jpo K) from (@Yy _)) (@ZN _ _ _ _ _ _ _ _ _ 0 rfl rfl (by decide) (by decide)) (@Je _ _ _ _) (fun _ _=>rfl)) (@JaR _ _ _ _ _ _ _ _ _ 1 rfl rfl (by decide) (by decide)) (JE _)))) (fun _ _ _ _=>(@JM _ _ _ _ _ _ _ (show IxR _ (Jpo K) from (@Yy _)) (@ZN _ _ _ _ _ _ _ _ _ 0 rfl rfl (by decide) (by decide)) (@Je _ _ _ _) (fun _ _=>rfl))) rfl rfl rfl (by intro _; rfl)) (@Jc _) rfl) (by decide) (by decide) rfl rfl)))),?_⟩;obtain ⟨dx,tp,tl,tg,hb,hp,hl,hP,hg⟩:=id B;refine ⟨_,rfl,b,dx,_,rfl,hb,rfl,_,rfl,b,z,ps,zs,gs,rfl,ht,B,fun hin=>?_,q2⟩;refine ⟨_,rfl,b,_,dx,_,.ref tl,rfl,hb,T.YU,T.JcB,rfl,tl,rfl,⟨_,J1.of hl⟩,fun D hD=>?_⟩;refine Jjz (xs:=zs.map (·.1)) (fun i ys H2=>Ji H H2∧H2 D=some (.lst ys)∧ys=(JR ((zs.map (·.2)).take i) z).map V.str) rfl (fun i ys H2 p=>J1.of (p.1 _ _ hl)) ?_ (fun i ys H2 p=>p.2.1) ?_ ?_
  ·exact ⟨Ji.upd hD,Jj,by simp [JR]⟩
  ·rintro i x ys H2 hx ⟨e2,hy,rfl⟩;rw [List.getElem?_map] at hx;obtain ⟨y,hy1,rfl⟩:=Option.map_eq_some_iff.mp hx;obtain ⟨a,ea,ha⟩:=hP y (List.mem_of_getElem? hy1);have ha2:=e2.tup ha;have step:(zs.map (·.2)).take (i + 1)=(zs.map (·.2)).take i ++ [y.2]:=by
    rw [List.take_succ,List.getElem?_map,hy1]; rfl
   have wstep:JR ((zs.map (·.2)).take (i + 1)) z=JR ((zs.map (·.2)).take i) z ++ (if y.2.1=z then [y.2.2] else []):=by
    unfold JR;rw [step,List.filter_append,List.map_append];by_cases h:y.2.1=z
    ·simp [h]
    ·simp [h]
   have wl:(JR ((zs.map (·.2)).take i) z).length≤40:=by
    unfold JR;rw [List.length_map];refine Nat.le_trans (List.length_filter_le _ _) ?_;rw [List.length_take,List.length_map];omega
   refine ⟨_,rfl,a,_,_,.str y.2.1,ea,rfl,ha2,rfl,_,rfl,rfl,_,rfl,?_⟩;by_cases h:y.2.1=z
   ·refine ZE (by rw [h]; exact decide_eq_true rfl) ⟨_,rfl,a,_,_,.str y.2.2,ea,rfl,ha2,rfl,hy,by rw [List.length_map]; exact Nat.lt_of_le_of_lt wl (by decide),fun b' u e=>?_,Jj,?_⟩
    ·rw [Js (Ju e hD)]; exact e2 b' u e
    ·rw [wstep,if_pos h,List.map_append]; rfl
   ·refine YN (decide_eq_false (fun e=>h (V.str.inj e))) ⟨e2,hy,?_⟩;rw [wstep,if_neg h,List.append_nil]
  ·rintro ys H2 ⟨e2,hy,rfl⟩;rw [List.length_map] at hy;rw [show zs.length=(zs.map (·.2)).length by simp,List.take_length] at hy;refine ⟨D,_,rfl,.inl ⟨JA.of hy,fun t n=>?_⟩⟩;exact q1 hin t _ (e2.trans (Ji.upd n)) Jj
theorem Jny (T:Txt K mg):JC P w K mg base YJ 2 T.Jlq T.Jjt ["_law_cell", "_law_many"] JrV:=by
 refine T.JiN.F.ok Za (fun vs H Q E h=>?_) (fun cdv A outer s H vs Q E hr h=>?_)
 ·obtain ⟨_,_,rfl,_⟩:=h;rfl
 ·obtain ⟨c,n,rfl,hn1,hn2,q⟩:=h;refine ⟨_,(@Jd _ _ _ _ _ (@Jz _ _ 2 _ _ _ _ Za.nd rfl (Or.inr rfl) (@Jy _ _ _ _) rfl (by first | exact .inl rfl | exact .inr rfl | assumption)) (@Jd _ _ _ _ _ (@Yd _ _ _ (@Jz _ _ 3 _ _ _ _ Za.nd rfl (Or.inl rfl) (@Jm _ _ _ _ _ _ _ _ _ _ _ _ _ _ _ T.Jkz (Jnx T) (hr.mono (by decide)) JG (@Ja _ _ _ _ _ (@Jo _ _ _ _ _ _ _ _ (@YK _) (@pv _ 0 _ _ rfl (.inl rfl) rfl rfl) (@Je _ _ _ _)) (@Ja _ _ _ _ _ (@Jo _ _ _ _ _ _ _ _ (@Jas _) (@Je _ _ _ _) (@pv _ 1 _ _ rfl (.inl rfl) rfl rfl)) (@Ja _ _ _ _ _ (@Je _ _ _ _) (@Jc _) rfl) rfl) rfl) rfl (by decide) rfl rfl) rfl (.inl rfl))) (@Jd _ _ _ _ _ (@Jz _ _ 4 _ _ _ _ Za.nd rfl (Or.inl rfl) (@Yx _ _ _ _ (@Jc _)) rfl (.inl rfl)) (@Jd _ _ _ _ _ (@ZC _ _ _ _ _ _ _ _ PassesOwn.never rfl (@Zf _ _ _ _ _ _ rfl T.Zx (@Ja _ _ _ _ _ (@pv _ 1 _ _ rfl (.inl rfl) rfl rfl) (@Jc _) rfl) rfl) (@YA _ _ 5 _ Za.nd rfl (Or.inl rfl) (.inl rfl)) (@Jd _ _ _ _ _ (@Jz _ _ 6 _ _ _ _ Za.nd rfl (Or.inl rfl) (@JeU _ _ _ _ _ _ _ _ _ _ (@JkH _) (@pv _ 3 _ _ rfl (.inl rfl) rfl rfl) (@Jep _ _ _ (@Jo _ _ _ _ _ _ _ _ (@Jas _) (@Je _ _ _ _) (@pv _ 5 _ _ rfl (.inl rfl) rfl rfl))) (@Jep _ _ _ (@Jo _ _ _ _ _ _ _ _ (@Ye _) (@Jo _ _ _ _ _ _ _ _ (@Jas _) (@Je _ _ _ _) (@pv _ 5 _ _ rfl (.inl rfl) rfl rfl)) (@Je _ _ _ _)))) rfl (.inl rfl)) (@Jd _ _ _ _ _ (@Jz _ _ 7 _ _ _ _ Za.nd rfl (Or.inl rfl) (@Jo _ _ _ _ _ _ _ _ (@Ye _) (@Je _ _ _ _) (@Jo _ _ _ _ _ _ _ _ (@J6 _) (@JM _ _ _ _ _ _ _ (@JV _) (@pv _ 3 _ _ rfl (.inl rfl) rfl rfl) (@Jo _ _ _ _ _ _ _ _ (@Ye _) (@Jo _ _ _ _ _ _ _ _ (@Jas _) (@Je _ _ _ _) (@pv _ 5 _ _ rfl (.inl rfl) rfl rfl)) (@Je _ _ _ _)) (fun _ _=>rfl)) (@Je _ _ _ _))) rfl (.inl rfl)) (@Jd _ _ _ _ _ (@Yd _ _ _ (@JL _ _ _ _ _ _ _ _ (@Jx _ _ _ _ _ _ _ _ (@Yi _) (@Jo _ _ _ _ _ _ _ _ (@J6 _) (@pv _ 0 _ _ rfl (.inl rfl) rfl rfl) (@Je _ _ _ _)) (@Je _ _ _ _) (JE _)) (@Jd _ _ _ _ _ (@Jz _ _ 6 _ _ _ _ Za.nd rfl (Or.inl rfl) (@JeU _ _ _ _ _ _ _ _ _ _ (@JkH _) (@pv _ 3 _ _ rfl (.inl rfl) rfl rfl) (@JiA _) (@Jep _ _ _ (@Je _ _ _ _))) rfl (.inl rfl)) (@Jd _ _ _ _ _ (@Jz _ _ 7 _ _ _ _ Za.nd rfl (Or.inl rfl) (@Jo _ _ _ _ _ _ _ _ (@Ye _) (@Je _ _ _ _) (@Jo _ _ _ _ _ _ _ _ (@J6 _) (@JM _ _ _ _ _ _ _ (@JV _) (@pv _ 3 _ _ rfl (.inl rfl) rfl rfl) (@Je _ _ _ _) (fun _ _=>rfl)) (@Je _ _ _ _))) rfl (.inl rfl)) (@Jg _ _ _ (@Jqy _ _ _ _ _ _ (@Jo _ _ _ _ _ _ _ _ (@J6 _) (@Jo _ _ _ _ _ _ _ _ (@Ye _) (@JM _ _ _ _ _ _ _ (@JV _) (@pv _ 3 _ _ rfl (.inl rfl) rfl rfl) (@Je _ _ _ _) (fun _ _=>rfl)) (@Jo _ _ _ _ _ _ _ _ (@Jas _) (@Je _ _ _ _) (@pv _ 5 _ _ rfl (.inl rfl) rfl rfl))) (@Je _ _ _ _)) (@Ju3 _ _ _ _ _ _ _ (@pv _ 6 _ _ rfl (.inl rfl) rfl rfl) (@Jo _ _ _ _ _ _ _ _ (@J6 _) (@JM _ _ _ _ _ _ _ (@JV _) (@pv _ 3 _ _ rfl (.inl rfl) rfl rfl) (@Je _ _ _ _) (fun _ _=>rfl)) (@pv _ 7 _ _ rfl (.inl rfl) rfl rfl)) (@Jr8 _) (by intro _; rfl)) rfl rfl rfl)))) (@Jw _))) (@Jd _ _ _ _ _ (@Yd _ _ _ (@JL _ _ _ _ _ _ _ _ (@Jx _ _ _ _ _ _ _ _ (@Yi _) (@Jo _ _ _ _ _ _ _ _ (@J6 _) (@pv _ 0 _ _ rfl (.inl rfl) rfl rfl) (@Je _ _ _ _)) (@Je _ _ _ _) (JE _)) (@Jd _ _ _ _ _ (@Jz _ _ 6 _ _ _ _ Za.nd rfl (Or.inl rfl) (@Jo _ _ _ _ _ _ _ _ (@Ju7 _) (@Yx _ _ _ _ (@Ja _ _ _ _ _ (@Jo _ _ _ _ _ _ _ _ (@J6 _) (@Jo _ _ _ _ _ _ _ _ (@Ye _) (@JM _ _ _ _ _ _ _ (@JV _) (@pv _ 3 _ _ rfl (.inl rfl) rfl rfl) (@Je _ _ _ _) (fun _ _=>rfl)) (@Jo _ _ _ _ _ _ _ _ (@YK _) (@pv _ 5 _ _ rfl (.inl rfl) rfl rfl) (@Je _ _ _ _))) (@Je _ _ _ _)) (@Jc _) rfl)) (@Je _ _ _ _)) rfl (.inl rfl)) (@Jg _ _ _ (@Jz _ _ 7 _ _ _ _ Za.nd rfl (Or.inl rfl) (@Jo _ _ _ _ _ _ _ _ (@Ye _) (@Je _ _ _ _) (@Jo _ _ _ _ _ _ _ _ (@J6 _) (@Jo _ _ _ _ _ _ _ _ (@Ye _) (@pv _ 5 _ _ rfl (.inl rfl) rfl rfl) (@JM _ _ _ _ _ _ _ (@JV _) (@pv _ 3 _ _ rfl (.inl rfl) rfl rfl) (@Je _ _ _ _) (fun _ _=>rfl))) (@Je _ _ _ _))) rfl (.inl rfl)))) (@Jw _))) (@Jd _ _ _ _ _ (@Yd _ _ _ (@Jz _ _ 8 _ _ _ _ Za.nd rfl (Or.inl rfl) (@JcW _ _ _ _ _ _ _ _ _ _ _ _ PySem.F.plainAttrs_str PySem.F.slot_str_join PySem.F.type_str_join (@Juc _) (@Jy _ _ _ _) (@Ja _ _ _ _ _ (@Jg1 _ _ _ _ _ _ _ 1 ["_law_x", "_law_letters"] [2] _ _ _ _ ["_law_cell", "_law_many", "_law_letters", "_law_free", "_law_found", "_law_k", "_law_places", "_law_size", "_law_head", "_law_more", "_law_name"] ((Jk Jiy).names) (by decide +kernel) (@Jcy _ _ _ _ (@JeU _ _ _ _ _ _ _ _ _ _ (@JkH _) (@pv _ 6 _ _ rfl (.inl rfl) rfl rfl) (@JiA _) (@Jep _ _ _ (@Jo _ _ _ _ _ _ _ _ (@JaS _) (@pv _ 7 _ _ rfl (.inl rfl) rfl rfl) (@Je _ _ _ _))))) (fun _ _ _ _=>(@Jar _ _ _ _ _ _ _ _ _ 0 (by decide +kernel) rfl rfl)) (fun _ _ _ _=>(@Jeq _)) (fun _ _ _ _=>(@JM _ _ _ _ _ _ _ (@JnO _) (@JaR _ _ _ _ _ _ _ _ _ 1 rfl rfl (by decide) (by decide)) (@ZN _ _ _ _ _ _ _ _ _ 0 rfl rfl (by decide) (by decide)) (fun _ _=>rfl))) rfl rfl rfl (by intro _; rfl)) (@Jc _) rfl) rfl rfl rfl rfl rfl) rfl (.inl rfl))) (@Jg _ _ _ (@ZC _ _ _ _ _ _ _ _ PassesOwn.never rfl (@Zf _ _ _ _ _ _ rfl T.Zx (@Ja _ _ _ _ _ (@Je _ _ _ _) (@Jc _) rfl) rfl) (@YA _ _ 9 _ Za.nd rfl (Or.inl rfl) (.inl rfl)) (@Jd _ _ _ _ _ (@Jz _ _ 10 _ _ _ _ Za.nd rfl (Or.inl rfl) (@Jo _ _ _ _ _ _ _ _ (@Jg2 _) (@pv _ 8 _ _ rfl (.inl rfl) rfl rfl) (@JM _ _ _ _ _ _ _ (@JnO _) (@pv _ 2 _ _ rfl (.inr (.inl rfl)) rfl rfl) (@Jo _ _ _ _ _ _ _ _ (@J6 _) (@Jo _ _ _ _ _ _ _ _ (@Ye _) (@JM _ _ _ _ _ _ _ (@JV _) (@pv _ 6 _ _ rfl (.inl rfl) rfl rfl) (@Jo _ _ _ _ _ _ _ _ (@JaS _) (@pv _ 7 _ _ rfl (.inl rfl) rfl rfl) (@Je _ _ _ _)) (fun _ _=>rfl)) (@pv _ 9 _ _ rfl (.inl rfl) rfl rfl)) (@Je _ _ _ _)) (fun _ _=>rfl))) rfl (.inl rfl)) (@Jg _ _ _ (@JL _ _ _ _ _ _ _ _ (@Jx _ _ _ _ _ _ _ _ (@JbZ _) (@pv _ 10 _ _ rfl (.inl rfl) rfl rfl) (@pv _ 4 _ _ rfl (.inl rfl) rfl rfl) (by with_unfolding_all rfl)) (@Jd _ _ _ _ _ (@JP _ _ _ _ (@JcW _ _ _ _ _ _ _ _ _ _ _ _ PySem.F.plainAttrs_list PySem.F.slot_list_append PySem.F.type_list_append (@ZF _) (@pv _ 4 _ _ rfl (.inl rfl) rfl rfl) (@Ja _ _ _ _ _ (@pv _ 10 _ _ rfl (.inl rfl) rfl rfl) (@Jc _) rfl) rfl rfl rfl rfl rfl) rfl) (@Jg _ _ _ (@Jsn _ _))) (@Jw _)))) (by intro _; rfl)))))))) (by intro _; rfl)) (@Jg _ _ _ (@Jq _ _ _ _ (@pv _ 4 _ _ rfl (.inl rfl) rfl rfl))))))),?_⟩
  try dsimp only [cxK,Jhi]
  refine ⟨fun σ1 H1=>∃ (pf:Addr) (fs:List Int),Ji H H1∧H1 pf=some (.lst (fs.map V.int))∧fs.length=7 * n∧(∀ x∈fs,0≤x∧x < 26)∧σ1=[some (.int c),some (.int n),some (.str LT),some (.ref pf),none,none,none,none,none,none,none],
   ⟨_,rfl,_,_,rfl,rfl,⟨by decide,by decide⟩,_,rfl,_,_,rfl,rfl,.inl ⟨by decide,by decide⟩,c / 4,7 * n,26,congrArg (fun z=>[V.int (c / 4),V.int z,V.int 26]) (by omega:7 * (n:Int)=((7 * n:Nat):Int)),by omega,by decide,by decide,fun pf fs H1 h1 e1 h2 h3 h4=>⟨pf,fs,e1,h2,h3,h4,rfl⟩⟩,?_⟩
  rintro σ1 H1 ⟨pf,fs,e1,hf,hfl,hfr,rfl⟩;refine ⟨by show 0≤sizeLine; decide,fun pl hpl=>?_⟩;have npl:H pl=none:=by
   cases hd:H pl with
   | none=>rfl
   | some u=>rw [e1 _ _ hd] at hpl; cases hpl
  have sl:=hfl;refine ⟨_,rfl,(n:Int),rfl,by omega,by omega,?_⟩;refine Zt (n:=n) (fun i σ H2=>∃ (ss:List Str) (v5 v6 v7 v8 v9 v10:Option V),Ji H1 H2∧H2 pl=some (.lst (ss.map V.str))∧ss.length=i∧(∀ s∈ss,YB s=true)∧ss.Nodup∧σ=[some (.int c),some (.int n),some (.str LT),some (.ref pf),some (.ref pl),v5,v6,v7,v8,v9,v10])
   ⟨[],none,none,none,none,none,none,Ji.upd hpl,Jj,rfl,(fun s hs=>nomatch hs),List.nodup_nil,rfl⟩ ?_ ?_
  ·rintro i σ H2 hi ⟨ss,v5,v6,v7,v8,v9,v10,e2,hs2,hsl,hsg,hsn,rfl⟩;have hf2:=JA.of (K:=K) (e2 _ _ hf);have at_:∀ {H':Hp} {e:Int},Ji H2 H'→0≤e→e < 7 * n→∃ y,(0≤y∧y < 26)∧Z3 (fs.map V.int) e=some (.int y):=fun {H' e} _ h0 h1=>by
    obtain ⟨y,h2,h3⟩:=Jet (xs:=fs) (e:=e) h0 (by omega);exact ⟨y,hfr y h3,h2⟩
   refine ⟨_,rfl,_,rfl,_,_,rfl,rfl,.inl ⟨by decide,by decide⟩,_,rfl,_,rfl,_,_,rfl,rfl,.inl ⟨by decide,by decide⟩,_,_,rfl,rfl,_,rfl,pf,_,rfl,hf2,fun p1 n1=>?_⟩;obtain ⟨ys1,ey1,my1⟩:=Jn6 (xs:=fs) (lo:=some (7 * (0 + (i:Int)))) (hi:=some (7 * (0 + (i:Int)) + 6));have ly1:ys1.length=6:=by
    have z:=congrArg List.length ey1;rw [List.length_map] at z;rw [← z];unfold Jaa;rw [List.length_map];have a1:HT.Yw fs.length 0 (some (7 * (0 + (i:Int))))=7 * i:=by
     rw [show (7 * (0 + (i:Int)))=((7 * i:Nat):Int) by omega,HT.JoH];omega
    have a2:HT.Yw fs.length fs.length (some (7 * (0 + (i:Int)) + 6))=7 * i + 6:=by
     rw [show (7 * (0 + (i:Int)) + 6)=((7 * i + 6:Nat):Int) by omega,HT.JoH];omega
    rw [a1,a2,List.length_take,List.length_drop,List.length_map];omega
   have e3:=Ji.upd (o:=.lst (Jaa (fs.map V.int) (some (7 * (0 + (i:Int)))) (some (7 * (0 + (i:Int)) + 6)))) n1;have h3:upd H2 p1 (.lst (Jaa (fs.map V.int) (some (7 * (0 + (i:Int)))) (some (7 * (0 + (i:Int)) + 6)))) p1=some (.lst (ys1.map V.int)):=by rw [Jj,ey1]
   generalize upd H2 p1 (.lst (Jaa (fs.map V.int) (some (7 * (0 + (i:Int)))) (some (7 * (0 + (i:Int)) + 6))))=H3 at e3 h3;obtain ⟨y1,yr1,ya1⟩:=at_ e3 (e:=7 * (0 + (i:Int)) + 6) (by omega) (by omega);refine ⟨_,rfl,_,rfl,_,_,rfl,rfl,.inl ⟨by decide,by decide⟩,_,_,rfl,rfl,pf,_,_,.int y1,rfl,rfl,e3.seq hf2,ya1,_,_,rfl,rfl,(by show (0:Int) < 6; decide),_,_,rfl,rfl,?_⟩;refine ⟨fun σ1 H4=>∃ (pp:Addr) (xs:List Int) (sz:Int),Ji H2 H4∧H4 pp=some (.lst (xs.map V.int))∧xs.length=6∧(∀ x∈xs,0≤x∧x < 26)∧1≤sz∧sz≤6∧σ1=[some (.int c),some (.int n),some (.str LT),some (.ref pf),some (.ref pl),some (.int (0 + (i:Int))),some (.ref pp),some (.int sz),v8,v9,v10],?_,?_⟩
   ·refine ⟨_,rfl,_,_,rfl,rfl,(by show (0:Int) < 4; decide),rfl,_,rfl,Yt (fun _=>?_) (fun _=>?_)⟩
    ·refine ⟨_,rfl,_,rfl,pf,_,rfl,e3.seq hf2,fun p4 n4=>?_⟩;obtain ⟨ys2,ey2,my2⟩:=Jn6 (xs:=fs) (lo:=none) (hi:=some 6);have ly2:ys2.length=6:=by
      have z:=congrArg List.length ey2;rw [List.length_map] at z;have z2:=JoT (xs:=fs) (k:=6) (by decide) (by omega);omega
     have n42:H2 p4=none:=by
      cases hd:H2 p4 with
      | none=>rfl
      | some u=>rw [e3 _ _ hd] at n4; cases n4
     have e4:=e3.trans (Ji.upd (o:=.lst (Jaa (fs.map V.int) none (some 6))) n4);obtain ⟨y6,yr6,ya6⟩:=at_ e4 (e:=6) (by omega) (by omega);refine ⟨_,rfl,pf,_,_,.int y6,rfl,rfl,e4.seq hf2,ya6,_,_,rfl,rfl,(by show (0:Int) < 6; decide),_,_,rfl,rfl,?_⟩;obtain ⟨y0,yr0,ya0⟩:=at_ e4 (e:=0) (by omega) (by omega);obtain ⟨yo,yro,yao⟩:=at_ e4 (e:=1) (by omega) (by omega);have hsz1:1≤1 + y6 % 6∧1 + y6 % 6≤6:=by omega
     refine ⟨_,rfl,pf,_,_,.int yo,rfl,rfl,e4.seq hf2,yao,_,rfl,_,_,rfl,rfl,.inl ⟨by decide,by decide⟩,_,_,rfl,rfl,_,_,rfl,rfl,(by show (0:Int) < 26; decide),?_⟩;have hj0:=Int.emod_nonneg y0 (b:=1 + y6 % 6) (by omega);have hj1:=Int.emod_lt_of_pos y0 (b:=1 + y6 % 6) (by omega);refine ⟨_,rfl,_,rfl,pf,_,_,.int y0,rfl,rfl,e4.seq hf2,ya0,_,rfl,_,_,rfl,rfl,(by show (0:Int) < 1 + y6 % 6; omega),p4,_,_,(y0 % (1 + y6 % 6)).toNat,rfl,rfl,Jj,?_,?_⟩
     ·rw [ey2,List.length_map,ly2];unfold ixN;rw [if_pos hj0,if_pos (by omega)]
     ·refine ⟨p4,ys2.set (y0 % (1 + y6 % 6)).toNat ((yo + 5 * (0 + (i:Int))) % 26),1 + y6 % 6,fun b u e=>?_,?_,by rw [List.length_set]; exact ly2,fun x hx=>?_,hsz1.1,hsz1.2,rfl⟩
      ·rw [Js (Ju e n42)]; exact e4 b u e
      ·rw [Jj,ey2,List.map_set]
      ·rcases List.mem_or_eq_of_mem_set hx with w | w
       ·exact hfr x (my2 x w)
       ·rw [w]; omega
    ·exact ⟨p1,ys1,1 + y1 % 6,e3,h3,ly1,fun x hx=>hfr x (my1 x hx),by omega,by omega,rfl⟩
   rintro σ1 H4 ⟨pp,xs,sz,e4,hx4,lx4,rx4,s41,s42,rfl⟩;refine ⟨fun σ1 H4=>∃ (pp:Addr) (xs:List Int) (sz:Int),Ji H2 H4∧H4 pp=some (.lst (xs.map V.int))∧xs.length=6∧(∀ x∈xs,0≤x∧x < 26)∧1≤sz∧sz≤6∧σ1=[some (.int c),some (.int n),some (.str LT),some (.ref pf),some (.ref pl),some (.int (0 + (i:Int))),some (.ref pp),some (.int sz),v8,v9,v10],?_,?_⟩
   ·refine ⟨_,rfl,_,_,rfl,rfl,(by show (0:Int) < 4; decide),rfl,_,rfl,Yt (fun _=>?_) (fun _=>⟨pp,xs,sz,e4,hx4,lx4,rx4,s41,s42,rfl⟩)⟩;obtain ⟨yo,yro,yao⟩:=at_ e4 (e:=1) (by omega) (by omega);refine ⟨_,rfl,pf,_,_,.int yo,rfl,rfl,e4.seq hf2,yao,_,rfl,_,_,rfl,rfl,⟨by decide,by decide⟩,_,_,rfl,rfl,_,_,rfl,rfl,(by show (0:Int) < 26; decide),by show 1≤sizeLine; decide,fun p5 n5=>?_⟩;have e5:=e4.trans (Ji.upd (o:=.lst [.int ((yo + (0 + (i:Int)) / 6) % 26)]) n5);refine ⟨p5,6,_,rfl,rfl,Jj,by decide,by decide,by show 1 * 6≤sizeLine; decide,fun p6 n6=>?_⟩;have e6:=e5.trans (Ji.upd (o:=.lst (List.replicate (6:Int).toNat [V.int ((yo + (0 + (i:Int)) / 6) % 26)]).flatten) n6);obtain ⟨y0,yr0,ya0⟩:=at_ e6 (e:=0) (by omega) (by omega);refine ⟨_,rfl,_,rfl,pf,_,_,.int y0,rfl,rfl,e6.seq hf2,ya0,_,_,rfl,rfl,_,_,rfl,rfl,(by show (0:Int) < 6; decide),_,_,rfl,rfl,?_⟩;refine ⟨p6,List.replicate 6 ((yo + (0 + (i:Int)) / 6) % 26),_,e6,?_,by simp,fun x hx=>?_,?_,?_,rfl⟩
    ·rw [Jj]; rfl
    ·rw [(List.mem_replicate.mp hx).2]; omega
    ·omega
    ·omega
   clear hx4 lx4 rx4 s41 s42 e4 pp xs sz H4 e3 h3 H3 ya1 yr1 y1 ly1 my1 ey1 ys1;rintro σ1 H4 ⟨pp,xs,sz,e4,hx4,lx4,rx4,s41,s42,rfl⟩;refine ⟨fun σ1 H5=>∃ hd:Str,Ji H2 H5∧H5 pp=some (.lst (xs.map V.int))∧hd.length≤5∧(∀ c∈hd.cps.toList,ZR c=true)∧σ1=[some (.int c),some (.int n),some (.str LT),some (.ref pf),some (.ref pl),some (.int (0 + (i:Int))),some (.ref pp),some (.int sz),some (.str hd),v9,v10],?_,?_⟩
   ·refine ⟨rfl,_,rfl,_,rfl,_,_,rfl,rfl,_,rfl,pp,_,rfl,JA.of hx4,fun p5 n5=>⟨p5,rfl,⟨_,JA.of Jj⟩,fun D hD=>?_⟩⟩;have e5:=Ji.upd (o:=.lst (Jaa (xs.map V.int) none (some (sz - 1)))) n5;have hcl:=JoT (xs:=xs) (k:=sz - 1) (by omega) (by omega);refine Jl6 (xs:=Jaa (xs.map V.int) none (some (sz - 1))) (fun _ v=>∃ c,v=.str ⟨#[c]⟩∧ZR c=true) rfl (JA.of Jj) hD (by have:sizeLine=16777216:=sizeLine_eq; omega) (fun i x H6 hx6 e6 Q' hQ=>?_) (fun ys H6 e6 hD6 hl6 hF=>?_)
    ·obtain ⟨j,hj,rfl⟩:=List.mem_map.mp (Jue (List.mem_of_getElem? hx6));obtain ⟨hj0,hj1⟩:=rx4 j hj;exact ⟨_,rfl,_,rfl,_,_,_,rfl,rfl,JrF,JlW hj0 hj1,hQ _ ⟨_,rfl,JmX (by omega)⟩⟩
    ·obtain ⟨zs,rfl,hz⟩:∃ zs:List Str,ys=zs.map V.str∧∀ y∈zs,∃ c,y=⟨#[c]⟩∧ZR c=true:=by
      clear hD6 hl6
      induction ys with
      | nil=>exact ⟨[],rfl,fun u hu=>nomatch hu⟩
      | cons v r ih =>
       obtain ⟨zs,rfl,hz⟩:=ih fun i v' e=>hF (i + 1) v' (by simpa using e)
       obtain ⟨d,rfl,hu⟩:=hF 0 v rfl;refine ⟨⟨#[d]⟩ :: zs,rfl,fun u' h'=>?_⟩;rcases List.mem_cons.mp h' with rfl | h'
       ·exact ⟨d,rfl,hu⟩
       ·exact hz u' h'
     rw [List.length_map] at hl6;obtain ⟨j1,j2⟩:=Jj8 hz;have ej:Txt.join Str.empty zs=Str.join Str.empty zs:=StrLaws.glued_eq_join _ _;have hsum:(zs.map (·.length)).sum=zs.length:=PyProof.Rows.sumLen_of_ones zs fun u hu=>by
      obtain ⟨d,rfl,_⟩:=hz u hu;rfl
     refine ⟨_,D,zs,rfl,rfl,JA.of hD6,by show _ + zs.length * 0≤_; omega,Txt.join Str.empty zs,(e4.trans e5).trans e6,e6 _ _ (e5 _ _ hx4),?_,?_,rfl⟩
     ·rw [ej,j1]; omega
     ·rw [ej]; exact j2
   rintro σ1 H5 ⟨hd,e5,hx5,hd1,hd2,rfl⟩;obtain ⟨x,hxa,hxm⟩:=Jet (xs:=xs) (e:=sz - 1) (by omega) (by omega);have hs5:=e5 _ _ hs2;refine ⟨26,rfl,by decide,by decide,Zt (n:=26) (fun j σ H6=>H6=H5∧(∀ m:Nat,m < j→nam hd ((x + m) % 26).toNat∈ss)∧∃ v9 v10,σ=[some (.int c),some (.int n),some (.str LT),some (.ref pf),some (.ref pl),some (.int (0 + (i:Int))),some (.ref pp),some (.int sz),some (.str hd),v9,v10]) ⟨rfl,fun m hm=>absurd hm (Nat.not_lt_zero _),_,_,rfl⟩ ?_ ?_⟩
   ·rintro j σ H6 hj ⟨rfl,hin,v9,v10,rfl⟩;have m0:=Int.emod_nonneg (x + (0 + (j:Int))) (b:=26) (by decide);have m1:=Int.emod_lt_of_pos (x + (0 + (j:Int))) (b:=26) (by decide);have en:(x + (0 + (j:Int))) % 26=(x + (j:Nat)) % 26:=by rw [Int.zero_add]
    refine ⟨_,rfl,_,rfl,_,rfl,_,rfl,_,_,rfl,rfl,pp,_,_,.int x,rfl,rfl,JA.of hx5,hxa,_,rfl,_,_,rfl,rfl,_,_,rfl,rfl,(by show (0:Int) < 26; decide),_,_,_,rfl,rfl,JrF,JlW m0 m1,_,_,rfl,rfl,?_,?_⟩
    ·show hd.length + 1≤sizeLine;have:sizeLine=16777216:=sizeLine_eq;omega
    ·refine ⟨_,rfl,_,rfl,pl,_,rfl,.inl (JA.of hs5),rfl,JbN ss,_,rfl,?_⟩;rw [if_pos rfl,JcD];show if (!decide (nam hd ((x + (0 + (j:Int))) % 26).toNat∈ss))=true then _ else _;rw [en];by_cases hmem:nam hd ((x + (j:Nat)) % 26).toNat∈ss
     ·refine YN (by rw [decide_eq_true hmem]; rfl) ⟨rfl,fun m hm=>?_,_,_,rfl⟩;by_cases hmj:m=j
      ·rw [hmj]; exact hmem
      ·exact hin m (by omega)
     ·refine ZE (by rw [decide_eq_false hmem]; rfl) ?_;refine ⟨_,rfl,.inl ⟨rfl,_,JA.of hs5⟩,_,rfl,pl,_,_,rfl,rfl,hs5,by rw [List.length_map]; have:sizeLine=16777216:=sizeLine_eq; omega,?_⟩;refine ⟨ss ++ [nam hd ((x + (j:Nat)) % 26).toNat],_,_,_,_,_,_,fun b u e=>?_,?_,by simp [hsl],fun s hs=>?_,?_,rfl⟩
      ·rw [Js (Ju e hpl)]; exact e5 b u (e2 b u e)
      ·rw [Jj,List.map_append];rfl
      ·rcases List.mem_append.mp hs with w | w
       ·exact hsg s w
       ·rw [List.mem_singleton.mp w];exact JsF hd1 hd2 (by rw [en] at m0 m1; omega)
      ·rw [List.nodup_append];refine ⟨hsn,by simp,fun a ha b hb e=>?_⟩;rw [List.mem_singleton] at hb;subst hb e;exact hmem ha
   ·rintro σ H6 ⟨rfl,hin,_⟩;exact (JsG (x:=x) (ss:=ss) (by omega) fun m hm=>hin m hm).elim
  ·rintro σ H2 ⟨ss,v5,v6,v7,v8,v9,v10,e2,hs2,hsl,hsg,hsn,rfl⟩;exact ⟨_,rfl,q pl ss H2 npl (e1.trans e2) hs2 hsl hsg hsn⟩
theorem Jsy (T:Txt K mg):JC P w K mg base YJ 2 T.Jlo T.Jjr ["_law_cell", "_law_draw", "_law_size"] (JrS K):=by
 refine T.JlF.F.ok ZK (fun vs H Q E h=>?_) (fun cdv A outer s H vs Q E hr h=>?_)
 ·obtain ⟨_,_,_,rfl,_⟩:=h;rfl
 ·obtain ⟨c,d,n,rfl,hn1,hn2,q⟩:=h;have hu:=JcX hr;have szl:sizeLine=16777216:=sizeLine_eq;refine ⟨_,(@Jd _ _ _ _ _ (@Jz _ _ 3 _ _ _ _ ZK.nd rfl (Or.inl rfl) (@Yx _ _ _ _ (@Jc _)) rfl (.inl rfl)) (@Jd _ _ _ _ _ (@Jz _ _ 4 _ _ _ _ ZK.nd rfl (Or.inl rfl) (@Jo _ _ _ _ _ _ _ _ (@J6 _) (@Jo _ _ _ _ _ _ _ _ (@YK _) (@pv _ 0 _ _ rfl (.inl rfl) rfl rfl) (@Je _ _ _ _)) (@Je _ _ _ _)) rfl (.inl rfl)) (@Jd _ _ _ _ _ (@Yd _ _ _ (@JL _ _ _ _ _ _ _ _ (@Jx _ _ _ _ _ _ _ _ (@Yi _) (@Jo _ _ _ _ _ _ _ _ (@J6 _) (@pv _ 0 _ _ rfl (.inl rfl) rfl rfl) (@Je _ _ _ _)) (@Je _ _ _ _) (JE _)) (@Jg _ _ _ (@ZC _ _ _ _ _ _ _ _ PassesOwn.never rfl (@Zf _ _ _ _ _ _ rfl T.Zx (@Ja _ _ _ _ _ (@Jo _ _ _ _ _ _ _ _ (@JaS _) (@pv _ 2 _ _ rfl (.inl rfl) rfl rfl) (@Je _ _ _ _)) (@Jc _) rfl) rfl) (@YA _ _ 5 _ ZK.nd rfl (Or.inl rfl) (.inl rfl)) (@Jd _ _ _ _ _ (@JP _ _ _ _ (@JcW _ _ _ _ _ _ _ _ _ _ _ _ PySem.F.plainAttrs_list PySem.F.slot_list_append PySem.F.type_list_append (@ZF _) (@pv _ 3 _ _ rfl (.inl rfl) rfl rfl) (@Ja _ _ _ _ _ (@YR _ _ _ _ _ (@Ja _ _ _ _ _ (@pv _ 5 _ _ rfl (.inl rfl) rfl rfl) (@Ja _ _ _ _ _ (@Jo _ _ _ _ _ _ _ _ (@Ye _) (@pv _ 5 _ _ rfl (.inl rfl) rfl rfl) (@Je _ _ _ _)) (@Jc _) rfl) rfl)) (@Jc _) rfl) rfl rfl rfl rfl rfl) rfl) (@Jg _ _ _ (@JP _ _ _ _ (@JcW _ _ _ _ _ _ _ _ _ _ _ _ PySem.F.plainAttrs_list PySem.F.slot_list_append PySem.F.type_list_append (@ZF _) (@pv _ 3 _ _ rfl (.inl rfl) rfl rfl) (@Ja _ _ _ _ _ (@YR _ _ _ _ _ (@Ja _ _ _ _ _ (@pv _ 5 _ _ rfl (.inl rfl) rfl rfl) (@Ja _ _ _ _ _ (@JB _ _ _ _ _ _ _ _ _ (@Jik _ rfl) rfl T.Jj3 PyProof.Rows.boot_max (@Ja _ _ _ _ _ (@Je _ _ _ _) (@Ja _ _ _ _ _ (@Jo _ _ _ _ _ _ _ _ (@JaS _) (@pv _ 5 _ _ rfl (.inl rfl) rfl rfl) (@Je _ _ _ _)) (@Jc _) rfl) rfl) (by decide) (by decide) rfl rfl) (@Jc _) rfl) rfl)) (@Jc _) rfl) rfl rfl rfl rfl rfl) rfl))) (by intro _; rfl))) (@Jw _))) (@Jd _ _ _ _ _ (@Yd _ _ _ (@JL _ _ _ _ _ _ _ _ (@Jx _ _ _ _ _ _ _ _ (@Yi _) (@Jo _ _ _ _ _ _ _ _ (@J6 _) (@pv _ 0 _ _ rfl (.inl rfl) rfl rfl) (@Je _ _ _ _)) (@Je _ _ _ _) (JE _)) (@Jg _ _ _ (@ZC _ _ _ _ _ _ _ _ PassesOwn.never rfl (@JqB _ _ _ _ _ _ _ rfl T.Zx (@Ja _ _ _ _ _ (@Je _ _ _ _) (@Ja _ _ _ _ _ (@Jo _ _ _ _ _ _ _ _ (@JaS _) (@pv _ 2 _ _ rfl (.inl rfl) rfl rfl) (@Je _ _ _ _)) (@Jc _) rfl) rfl) rfl rfl) (@YA _ _ 5 _ ZK.nd rfl (Or.inl rfl) (.inl rfl)) (@Jd _ _ _ _ _ (@JP _ _ _ _ (@JcW _ _ _ _ _ _ _ _ _ _ _ _ PySem.F.plainAttrs_list PySem.F.slot_list_append PySem.F.type_list_append (@ZF _) (@pv _ 3 _ _ rfl (.inl rfl) rfl rfl) (@Ja _ _ _ _ _ (@YR _ _ _ _ _ (@Ja _ _ _ _ _ (@pv _ 5 _ _ rfl (.inl rfl) rfl rfl) (@Ja _ _ _ _ _ (@Jo _ _ _ _ _ _ _ _ (@Ye _) (@pv _ 5 _ _ rfl (.inl rfl) rfl rfl) (@Je _ _ _ _)) (@Jc _) rfl) rfl)) (@Jc _) rfl) rfl rfl rfl rfl rfl) rfl) (@Jg _ _ _ (@JP _ _ _ _ (@JcW _ _ _ _ _ _ _ _ _ _ _ _ PySem.F.plainAttrs_list PySem.F.slot_list_append PySem.F.type_list_append (@ZF _) (@pv _ 3 _ _ rfl (.inl rfl) rfl rfl) (@Ja _ _ _ _ _ (@YR _ _ _ _ _ (@Ja _ _ _ _ _ (@pv _ 5 _ _ rfl (.inl rfl) rfl rfl) (@Ja _ _ _ _ _ (@Je _ _ _ _) (@Jc _) rfl) rfl)) (@Jc _) rfl) rfl rfl rfl rfl rfl) rfl))) (by intro _; rfl))) (@Jw _))) (@Jd _ _ _ _ _ (@Yd _ _ _ (@JL _ _ _ _ _ _ _ _ (@Jx _ _ _ _ _ _ _ _ (@Yi _) (@Jo _ _ _ _ _ _ _ _ (@J6 _) (@pv _ 0 _ _ rfl (.inl rfl) rfl rfl) (@Je _ _ _ _)) (@Je _ _ _ _) (JE _)) (@Jg _ _ _ (@Jz _ _ 4 _ _ _ _ ZK.nd rfl (Or.inl rfl) (@Jo _ _ _ _ _ _ _ _ (@Jas _) (@Je _ _ _ _) (@JB _ _ _ _ _ _ _ _ _ (@Jik _ rfl) rfl T.Jj3 PyProof.Rows.boot_max (@Ja _ _ _ _ _ (@Je _ _ _ _) (@Ja _ _ _ _ _ (@Jo _ _ _ _ _ _ _ _ (@JaS _) (@pv _ 2 _ _ rfl (.inl rfl) rfl rfl) (@Je _ _ _ _)) (@Jc _) rfl) rfl) (by decide) (by decide) rfl rfl)) rfl (.inl rfl))) (@Jw _))) (@Jd _ _ _ _ _ (@Yd _ _ _ (@JL _ _ _ _ _ _ _ _ (@Jx _ _ _ _ _ _ _ _ (@Yi _) (@Jo _ _ _ _ _ _ _ _ (@J6 _) (@pv _ 0 _ _ rfl (.inl rfl) rfl rfl) (@Je _ _ _ _)) (@Je _ _ _ _) (JE _)) (@Jg _ _ _ (@Jz _ _ 4 _ _ _ _ ZK.nd rfl (Or.inl rfl) (@Jo _ _ _ _ _ _ _ _ (@J6 _) (@Jo _ _ _ _ _ _ _ _ (@Ye _) (@Jo _ _ _ _ _ _ _ _ (@YK _) (@pv _ 0 _ _ rfl (.inl rfl) rfl rfl) (@Je _ _ _ _)) (@Je _ _ _ _)) (@Je _ _ _ _)) rfl (.inl rfl))) (@Jw _))) (@Jd _ _ _ _ _ (@Yd _ _ _ (@Jz _ _ 6 _ _ _ _ ZK.nd rfl (Or.inl rfl) (@Jm _ _ _ _ _ _ _ _ _ _ _ _ _ _ _ T.Jkz (Jnx T) (hr.mono (by decide)) JG (@Ja _ _ _ _ _ (@pv _ 1 _ _ rfl (.inl rfl) rfl rfl) (@Ja _ _ _ _ _ (@Jo _ _ _ _ _ _ _ _ (@Jas _) (@Je _ _ _ _) (@pv _ 4 _ _ rfl (.inl rfl) rfl rfl)) (@Ja _ _ _ _ _ (@pv _ 2 _ _ rfl (.inl rfl) rfl rfl) (@Jc _) rfl) rfl) rfl) rfl (by decide) rfl rfl) rfl (.inl rfl))) (@Jd _ _ _ _ _ (@ZC _ _ _ _ _ _ _ _ PassesOwn.never rfl (@Zf _ _ _ _ _ _ rfl T.Zx (@Ja _ _ _ _ _ (@pv _ 4 _ _ rfl (.inl rfl) rfl rfl) (@Jc _) rfl) rfl) (@YA _ _ 5 _ ZK.nd rfl (Or.inl rfl) (.inl rfl)) (@Jd _ _ _ _ _ (@Jz _ _ 7 _ _ _ _ ZK.nd rfl (Or.inl rfl) (@YR _ _ _ _ _ (@Ja _ _ _ _ _ (@JM _ _ _ _ _ _ _ (@JV _) (@pv _ 6 _ _ rfl (.inl rfl) rfl rfl) (@Jo _ _ _ _ _ _ _ _ (@Jas _) (@Je _ _ _ _) (@pv _ 5 _ _ rfl (.inl rfl) rfl rfl)) (fun _ _=>rfl)) (@Ja _ _ _ _ _ (@JM _ _ _ _ _ _ _ (@JV _) (@pv _ 6 _ _ rfl (.inl rfl) rfl rfl) (@Jo _ _ _ _ _ _ _ _ (@Ye _) (@Jo _ _ _ _ _ _ _ _ (@Jas _) (@Je _ _ _ _) (@pv _ 5 _ _ rfl (.inl rfl) rfl rfl)) (@Je _ _ _ _)) (fun _ _=>rfl)) (@Jc _) rfl) rfl)) rfl (.inl rfl)) (@Jd _ _ _ _ _ (@Yd _ _ _ (@JL _ _ _ _ _ _ _ _ (@Jx _ _ _ _ _ _ _ _ (@Yi _) (@Jo _ _ _ _ _ _ _ _ (@J6 _) (@pv _ 0 _ _ rfl (.inl rfl) rfl rfl) (@Je _ _ _ _)) (@Je _ _ _ _) (JE _)) (@Jg _ _ _ (@Jz _ _ 7 _ _ _ _ ZK.nd rfl (Or.inl rfl) (@YR _ _ _ _ _ (@Ja _ _ _ _ _ (@Jo _ _ _ _ _ _ _ _ (@Ye _) (@Je _ _ _ _) (@Jo _ _ _ _ _ _ _ _ (@YK _) (@pv _ 5 _ _ rfl (.inl rfl) rfl rfl) (@Je _ _ _ _))) (@Ja _ _ _ _ _ (@JM _ _ _ _ _ _ _ (@JV _) (@pv _ 6 _ _ rfl (.inl rfl) rfl rfl) (@pv _ 5 _ _ rfl (.inl rfl) rfl rfl) (fun _ _=>rfl)) (@Jc _) rfl) rfl)) rfl (.inl rfl))) (@Jw _))) (@Jg _ _ _ (@Yd _ _ _ (@JL _ _ _ _ _ _ _ _ (@Jx _ _ _ _ _ _ _ _ (@Jmt _ hu) (@pv _ 7 _ _ rfl (.inl rfl) rfl rfl) (@pv _ 3 _ _ rfl (.inl rfl) rfl rfl) (by with_unfolding_all rfl)) (@Jg _ _ _ (@JP _ _ _ _ (@JcW _ _ _ _ _ _ _ _ _ _ _ _ PySem.F.plainAttrs_list PySem.F.slot_list_append PySem.F.type_list_append (@ZF _) (@pv _ 3 _ _ rfl (.inl rfl) rfl rfl) (@Ja _ _ _ _ _ (@pv _ 7 _ _ rfl (.inl rfl) rfl rfl) (@Jc _) rfl) rfl rfl rfl rfl rfl) rfl)) (@Jw _)))))) (by intro _; rfl)) (@Jg _ _ _ (@Jq _ _ _ _ (@pv _ 3 _ _ rfl (.inl rfl) rfl rfl))))))))))),?_⟩
  try dsimp only [cxK,Jhi]
  refine ⟨by show 0≤sizeLine; decide,fun pl hpl=>?_⟩;have W0:PW K H pl n (upd H pl (.lst [])) []:=⟨Ji.upd hpl,Jj,(fun z hz=>nomatch hz),List.nodup_nil,(fun z hz=>nomatch hz)⟩
  generalize upd H pl (.lst [])=H1 at W0;refine ⟨_,rfl,_,_,rfl,rfl,⟨by decide,by decide⟩,_,_,rfl,rfl,(by show (0:Int) < 9; decide),?_⟩;refine ⟨fun σ1 H2=>∃ zs v5,PW K H pl n H2 zs∧(c % 4=0→zs.length≤22)∧(c % 4≠0→zs=[])∧σ1=[some (.int c),some (.int d),some (.int n),some (.ref pl),some (.int (c / 4 % 9)),v5,none,none],?_,?_⟩
  ·refine ⟨_,rfl,_,_,rfl,rfl,(by show (0:Int) < 4; decide),rfl,_,rfl,Yt (fun c0=>?_) (fun c0=>⟨[],none,W0,fun _=>Nat.zero_le _,fun _=>rfl,rfl⟩)⟩;have c0':c % 4=0:=V.int.inj (of_decide_eq_true c0);refine ⟨_,rfl,_,_,rfl,rfl,(n:Int) - 1,rfl,by omega,by omega,?_⟩;rw [show ((n:Int) - 1).toNat=n - 1 by omega];refine Zt (n:=n - 1) (fun i σ H2=>∃ zs v5,PW K H pl n H2 zs∧zs.length=2 * i∧(∀ z∈zs,z.2.1 < i)∧σ=[some (.int c),some (.int d),some (.int n),some (.ref pl),some (.int (c / 4 % 9)),v5,none,none]) ⟨[],none,W0,rfl,(fun z hz=>nomatch hz),rfl⟩ ?_ ?_
   ·rintro i σ H2 hi ⟨zs,v5,W,hl,hz,rfl⟩;refine ⟨_,rfl,.inl ⟨rfl,_,JA.of W.at_⟩,_,rfl,_,rfl,_,_,rfl,rfl,by show 2≤sizeLine; omega,fun t1 n1=>⟨pl,_,_,rfl,rfl,(Ji.upd n1) _ _ W.at_,by rw [List.length_map]; omega,?_⟩⟩;have W1:=W.add hpl (Ji.upd n1) (t:=t1) (a:=0 + (i:Int)) (b:=0 + (i:Int) + 1) Jj (fun q=>by
     obtain ⟨z,h1,h2⟩:=List.mem_map.mp q;have:=hz z h1;rw [h2] at this;have:(0:Int) + i < i:=this;omega) ⟨by omega,by omega⟩
    refine ⟨_,rfl,.inl ⟨rfl,_,JA.of W1.at_⟩,_,rfl,_,rfl,_,_,rfl,rfl,_,_,rfl,by show 2≤sizeLine; omega,fun t2 n2=>⟨pl,_,_,rfl,rfl,(Ji.upd n2) _ _ W1.at_,by rw [List.length_map,List.length_append]; show _ + 1 < _; omega,?_⟩⟩;have W2:=W1.add hpl (Ji.upd n2) (t:=t2) (a:=0 + (i:Int)) (b:=if 0 + (i:Int) - 1 > 0 then 0 + (i:Int) - 1 else 0) Jj (fun q=>by
     rw [List.map_append,List.mem_append] at q;rcases q with q | q
     ·obtain ⟨z,h1,h2⟩:=List.mem_map.mp q;have:=hz z h1;rw [h2] at this;have:(0:Int) + i < i:=this;omega
     ·have e:=congrArg Prod.snd (List.mem_singleton.mp q);have e:(if 0 + (i:Int) - 1 > 0 then 0 + (i:Int) - 1 else 0)=0 + (i:Int) + 1:=e;split at e <;> omega) ⟨by omega,by split <;> omega⟩
    exact ⟨_,_,W2,by simp [hl]; omega,fun z hz2=>by
     rcases List.mem_append.mp hz2 with q | q
     ·rcases List.mem_append.mp q with q | q
      ·have:=hz z q; show z.2.1 < ((i + 1:Nat):Int); omega
      ·rw [List.mem_singleton.mp q]; show (0:Int) + i < ((i + 1:Nat):Int); omega
     ·rw [List.mem_singleton.mp q]; show (0:Int) + i < ((i + 1:Nat):Int); omega,rfl⟩
   ·rintro σ H2 ⟨zs,v5,W,hl,hz,rfl⟩;exact ⟨zs,v5,W,fun _=>by omega,fun h=>absurd c0' h,rfl⟩
  rintro σ1 H2 ⟨zs,v5,W,l1,l2,rfl⟩;refine ⟨fun σ1 H2=>∃ zs v5,PW K H pl n H2 zs∧(c % 4=0∨c % 4=1→zs.length≤22)∧(c % 4≠0→c % 4≠1→zs=[])∧σ1=[some (.int c),some (.int d),some (.int n),some (.ref pl),some (.int (c / 4 % 9)),v5,none,none],?_,?_⟩
  ·refine ⟨_,rfl,_,_,rfl,rfl,(by show (0:Int) < 4; decide),rfl,_,rfl,Yt (fun c1=>?_) (fun c1=>⟨zs,v5,W,fun h=>l1 (h.elim id fun e=>absurd (decide_eq_true (congrArg V.int e)) c1),fun h _=>l2 h,rfl⟩)⟩;have c1':c % 4=1:=V.int.inj (of_decide_eq_true c1);obtain rfl:zs=[]:=l2 (by omega);refine ⟨_,rfl,_,_,rfl,rfl,1,(n:Int) - 1,rfl,⟨by omega,by omega,by omega,by omega⟩,?_⟩;rw [show ((n:Int) - 1 - 1).toNat=n - 2 by omega];refine Zt (n:=n - 2) (fun i σ H2=>∃ zs v5,PW K H pl n H2 zs∧zs.length=2 * i∧(∀ z∈zs,z.2.1 < 1 + i)∧σ=[some (.int c),some (.int d),some (.int n),some (.ref pl),some (.int (c / 4 % 9)),v5,none,none]) ⟨[],v5,W,rfl,(fun z hz=>nomatch hz),rfl⟩ ?_ ?_
   ·rintro i σ H2 hi ⟨zs,v5,W,hl,hz,rfl⟩;refine ⟨_,rfl,.inl ⟨rfl,_,JA.of W.at_⟩,_,rfl,_,rfl,_,_,rfl,rfl,by show 2≤sizeLine; omega,fun t1 n1=>⟨pl,_,_,rfl,rfl,(Ji.upd n1) _ _ W.at_,by rw [List.length_map]; omega,?_⟩⟩;have W1:=W.add hpl (Ji.upd n1) (t:=t1) (a:=1 + (i:Int)) (b:=1 + (i:Int) + 1) Jj (fun q=>by
     obtain ⟨z,h1,h2⟩:=List.mem_map.mp q;have:=hz z h1;rw [h2] at this;have:(1:Int) + i < 1 + i:=this;omega) ⟨by omega,by omega⟩
    refine ⟨_,rfl,.inl ⟨rfl,_,JA.of W1.at_⟩,_,rfl,by show 2≤sizeLine; omega,fun t2 n2=>⟨pl,_,_,rfl,rfl,(Ji.upd n2) _ _ W1.at_,by rw [List.length_map,List.length_append]; show _ + 1 < _; omega,?_⟩⟩;have W2:=W1.add hpl (Ji.upd n2) (t:=t2) (a:=1 + (i:Int)) (b:=0) Jj (fun q=>by
     rw [List.map_append,List.mem_append] at q;rcases q with q | q
     ·obtain ⟨z,h1,h2⟩:=List.mem_map.mp q;have:=hz z h1;rw [h2] at this;have:(1:Int) + i < 1 + i:=this;omega
     ·have e:=congrArg Prod.snd (List.mem_singleton.mp q);have e:(0:Int)=1 + (i:Int) + 1:=e;omega) ⟨by omega,by omega⟩
    exact ⟨_,_,W2,by simp [hl]; omega,fun z hz2=>by
     rcases List.mem_append.mp hz2 with q | q
     ·rcases List.mem_append.mp q with q | q
      ·have:=hz z q; show z.2.1 < 1 + ((i + 1:Nat):Int); omega
      ·rw [List.mem_singleton.mp q]; show (1:Int) + i < 1 + ((i + 1:Nat):Int); omega
     ·rw [List.mem_singleton.mp q]; show (1:Int) + i < 1 + ((i + 1:Nat):Int); omega,rfl⟩
   ·rintro σ H2 ⟨zs,v5,W,hl,hz,rfl⟩;exact ⟨zs,v5,W,fun _=>by omega,fun h h'=>absurd c1' h',rfl⟩
  clear l1 l2 W v5 zs H2;rintro σ1 H2 ⟨zs,v5,W,l1,l2,rfl⟩;have m9:0≤c / 4 % 9∧c / 4 % 9≤8:=by omega
  refine ⟨fun σ1 H3=>∃ m:Int,H3=H2∧0≤m∧zs.length + m≤40∧(c % 4=2→m≤2 * ((n:Int) - 2)∨m=0)∧σ1=[some (.int c),some (.int d),some (.int n),some (.ref pl),some (.int m),v5,none,none],?_,?_⟩
  ·refine ⟨_,rfl,_,_,rfl,rfl,(by show (0:Int) < 4; decide),rfl,_,rfl,Yt (fun c2=>?_) (fun c2=>⟨_,rfl,m9.1,?_,fun h=>absurd (decide_eq_true (congrArg V.int h)) c2,rfl⟩)⟩
   ·have c2':c % 4=2:=V.int.inj (of_decide_eq_true c2);obtain rfl:zs=[]:=l2 (by omega) (by omega);refine ⟨_,rfl,_,_,rfl,rfl,_,_,rfl,_,_,rfl,rfl,.inl ⟨by decide,by decide⟩,_,rfl,?_,?_,fun _=>?_,rfl⟩
    ·split <;> omega
    ·show ((0:Nat):Int) + _≤40;split <;> omega
    ·split <;> omega
   ·by_cases h:c % 4=0∨c % 4=1
    ·have:=l1 h; omega
    ·rw [l2 (fun e=>h (.inl e)) (fun e=>h (.inr e))];show ((0:Nat):Int) + _≤40;omega
  rintro σ1 H3 ⟨m,rfl,hm0,hm1,hm2,rfl⟩;refine ⟨fun σ1 H4=>∃ m:Nat,H4=H3∧zs.length + m≤40∧(c % 4=2→m≤2 * (n - 2))∧σ1=[some (.int c),some (.int d),some (.int n),some (.ref pl),some (.int m),v5,none,none],?_,?_⟩
  ·refine ⟨_,rfl,_,_,rfl,rfl,(by show (0:Int) < 4; decide),rfl,_,rfl,Yt (fun c3=>?_) (fun c3=>⟨m.toNat,rfl,by omega,fun h=>by have:=hm2 h; omega,by rw [Int.toNat_of_nonneg hm0]⟩)⟩;have c3':c % 4=3:=V.int.inj (of_decide_eq_true c3);obtain rfl:zs=[]:=l2 (by omega) (by omega);refine ⟨_,rfl,_,_,rfl,rfl,⟨by decide,by decide⟩,_,_,rfl,rfl,_,_,rfl,rfl,(by show (0:Int) < 41; decide),((c / 4 + 40) % 41).toNat,rfl,?_,fun h=>by omega,?_⟩
   ·show 0 + _≤40;omega
   ·rw [Int.toNat_of_nonneg (by omega)]; rfl
  clear hm2 hm1 hm0 m;rintro σ1 H4 ⟨m,rfl,hm1,hm2,rfl⟩;refine ⟨fun σ1 H5=>∃ (pe:Addr) (es:List Int),PW K H pl n H5 zs∧JA K H5 pe (es.map V.int)∧pe≠pl∧es.length=2 * m∧(∀ x∈es,0≤x∧x < n)∧σ1=[some (.int c),some (.int d),some (.int n),some (.ref pl),some (.int m),v5,some (.ref pe),none],
   ⟨_,rfl,_,rfl,_,_,rfl,rfl,.inl ⟨by decide,by decide⟩,_,rfl,d,2 * m,n,congrArg (fun z=>[V.int d,V.int z,V.int n]) (by omega:2 * (m:Int)=((2 * m:Nat):Int)),by omega,by omega,by omega,fun pe es H4 h1 e4 h2 h3 h4=>?_⟩,?_⟩
  ·exact ⟨pe,es,⟨W.sm.trans e4,e4 _ _ W.at_,fun z hz=>let ⟨a,g1,g2⟩:=W.ip z hz; ⟨a,g1,e4.tup g2⟩,W.nd,W.rg⟩,JA.of h2,(fun e=>by rw [e,W.at_] at h1; cases h1),h3,h4,rfl⟩
  rintro σ1 H4 ⟨pe,es,W4,he,hne,hel,her,rfl⟩;refine ⟨_,rfl,(m:Int),rfl,by omega,by omega,?_⟩;refine Zt (n:=m) (fun i σ H5=>∃ zs' v5 v7,PW K H pl n H5 zs'∧JA K H5 pe (es.map V.int)∧zs'.length≤zs.length + i∧σ=[some (.int c),some (.int d),some (.int n),some (.ref pl),some (.int m),v5,some (.ref pe),v7]) ⟨zs,v5,none,W4,he,by omega,rfl⟩ ?_ ?_
  ·rintro i σ H5 hi ⟨zs',v5,v7,W5,he5,hl5,rfl⟩;obtain ⟨x1,a1,g1⟩:=Jet (xs:=es) (e:=2 * (0 + (i:Int))) (by omega) (by omega);obtain ⟨x2,a2,g2⟩:=Jet (xs:=es) (e:=2 * (0 + (i:Int)) + 1) (by omega) (by omega);refine ⟨_,rfl,_,rfl,_,_,rfl,rfl,.inl ⟨by decide,by decide⟩,pe,_,_,.int x1,rfl,rfl,he5,a1,_,rfl,_,rfl,_,_,rfl,rfl,.inl ⟨by decide,by decide⟩,_,_,rfl,rfl,pe,_,_,.int x2,rfl,rfl,he5,a2,by show 2≤sizeLine; omega,fun t n1=>?_⟩;have e6:=Ji.upd (o:=.tup [.int x1,.int x2]) n1;refine ⟨fun σ1 H6=>∃ t a b,Ji H5 H6∧H6 t=some (.tup [.int a,.int b])∧((0≤a∧a < n)∧(0≤b∧b < n))∧σ1=[some (.int c),some (.int d),some (.int n),some (.ref pl),some (.int m),some (.int (0 + (i:Int))),some (.ref pe),some (.ref t)],?_,?_⟩
   ·refine ⟨_,rfl,_,_,rfl,rfl,(by show (0:Int) < 4; decide),rfl,_,rfl,Yt (fun c2=>?_) (fun c2=>⟨t,x1,x2,e6,Jj,⟨her x1 g1,her x2 g2⟩,rfl⟩)⟩;have c2':c % 4=2:=V.int.inj (of_decide_eq_true c2);have hmm:=hm2 c2';obtain ⟨x3,a3,g3⟩:=Jet (xs:=es) (e:=0 + (i:Int)) (by omega) (by omega);refine ⟨_,rfl,_,_,rfl,rfl,⟨by decide,by decide⟩,_,_,rfl,rfl,_,rfl,_,rfl,pe,_,_,.int x3,rfl,rfl,e6.seq he5,a3,by show 2≤sizeLine; omega,fun t2 n2=>?_⟩;exact ⟨t2,1 + (0 + (i:Int)) / 2,x3,e6.trans (Ji.upd n2),Jj,⟨by omega,her x3 g3⟩,rfl⟩
   rintro σ1 H6 ⟨t,a,b,e6,ht,hab,rfl⟩;refine ⟨fun σ1 H7=>∃ zs' v5 v7,PW K H pl n H7 zs'∧JA K H7 pe (es.map V.int)∧zs'.length≤zs.length + (i + 1)∧σ1=[some (.int c),some (.int d),some (.int n),some (.ref pl),some (.int m),v5,some (.ref pe),v7],?_,fun σ' H' h=>h⟩;have W6:PW K H pl n H6 zs':=⟨W5.sm.trans e6,e6 _ _ W5.at_,fun z hz=>let ⟨a,g1,g2⟩:=W5.ip z hz; ⟨a,g1,e6.tup g2⟩,W5.nd,W5.rg⟩
   classical
   refine ⟨_,rfl,_,rfl,t,pl,_,Jh9 (a,b),_,rfl,rfl,J1.of ht,JA.of W6.at_,Jox W6.ip,_,rfl,?_⟩;have emem:(Jh9 (a,b)∈(zs'.map (·.2)).map Jh9)↔(a,b)∈zs'.map (·.2):=by
    constructor
    ·intro h;obtain ⟨y,h1,h2⟩:=List.mem_map.mp h;rw [← JsO h2]; exact h1
    ·exact fun h=>List.mem_map.mpr ⟨_,h,rfl⟩
   by_cases hin:(a,b)∈zs'.map (·.2)
   ·refine YN (by rw [if_pos rfl,decide_eq_true (emem.mpr hin)]; rfl) ⟨zs',_,_,W6,e6.seq he5,by omega,rfl⟩
   ·refine ZE (by rw [if_pos rfl,decide_eq_false (fun h=>hin (emem.mp h))]; rfl) ?_;refine ⟨_,rfl,.inl ⟨rfl,_,JA.of W6.at_⟩,_,rfl,pl,_,_,rfl,rfl,W6.at_,by rw [List.length_map]; omega,?_⟩;refine ⟨_,_,_,W6.add hpl (Ji.refl _) ht hin hab,?_,by simp; omega,rfl⟩;rcases e6.seq he5 with (h | ⟨o,h⟩) | h
    ·exact .inl (.inl (by rw [Js hne]; exact h))
    ·exact .inl (.inr ⟨o,by rw [Js hne]; exact h⟩)
    ·exact .inr h
  ·rintro σ H5 ⟨zs',v5,v7,W5,he5,hl5,rfl⟩;exact ⟨_,rfl,q pl zs' H5 hpl W5 (by omega)⟩
end
def Jr1:Sp:=fun vs H Q _=>∃ (c kd:Int) (n:Nat),vs=[.int c,.int kd,.int n]∧1≤n∧n≤12∧∀ (p:Addr) (gs:List Int) (H':Hp),H p=none→Ji H H'→H' p=some (.lst (gs.map V.int))→gs.Nodup→(∀ g∈gs,0≤g∧g < n)→Q (.ref p) H'
def nm (ps:List Str) (x:Int):Str:=ps.getD x.toNat Str.empty
theorem JmG {ps:List Str} {x:Int} (h0:0≤x) (h1:x < ps.length):Z3 (ps.map V.str) x=some (.str (nm ps x)):=by
 obtain ⟨j,rfl⟩:∃ j:Nat,x=(j:Int):=⟨x.toNat,by omega⟩
 have hj:j < ps.length:=by omega
 refine YX ?_;unfold nm;rw [List.getElem?_map,List.getD_eq_getElem?_getD,Int.toNat_natCast,List.getElem?_eq_getElem hj];rfl
theorem Jj2 {ps:List Str} {x:Int} (h0:0≤x) (h1:x < ps.length):nm ps x∈ps:=by
 have hj:x.toNat < ps.length:=by omega
 unfold nm;rw [List.getD_eq_getElem?_getD,List.getElem?_eq_getElem hj];exact List.getElem_mem hj
theorem JnI {ps:List Str} (nd:ps.Nodup) {x y:Int} (h0:0≤x) (h1:x < ps.length) (g0:0≤y) (g1:y < ps.length) (e:nm ps x=nm ps y):x=y:=by
 have hx:x.toNat < ps.length:=by omega
 have hy:y.toNat < ps.length:=by omega
 unfold nm at e;rw [List.getD_eq_getElem?_getD,List.getD_eq_getElem?_getD,List.getElem?_eq_getElem hx,List.getElem?_eq_getElem hy] at e;have e:ps[x.toNat]=ps[y.toNat]:=e;have z:x.toNat=y.toNat:=by
  rcases Nat.lt_trichotomy x.toNat y.toNat with h | h | h
  ·exact absurd e (List.pairwise_iff_getElem.mp nd _ _ hx hy h)
  ·exact h
  ·exact absurd e.symm (List.pairwise_iff_getElem.mp nd _ _ hy hx h)
 omega
def nm2 (ps:List Str) (p:Int×Int):Str×Str:=(nm ps p.1,nm ps p.2)
theorem JlU {α β:Type} {f:α→β}:∀ {l:List α},l.Nodup→(∀ a∈l,∀ b∈l,f a=f b→a=b)→(l.map f).Nodup:=by
 intro l h hi;rw [List.Nodup,List.pairwise_map];exact List.Pairwise.imp_of_mem (fun ha hb hne e=>hne (hi _ ha _ hb e)) h
structure Ground (K:PySem.W.Frag) (H:Hp) (t:Addr) (ps:List Str) (zs:List (V×(Str×Str))) (gs:List Str):Prop where
 good:Jd2 ps (zs.map (·.2)) gs
 at_:∃ pn pl pg,H t=some (.tup [.ref pn,.ref pl,.ref pg])∧H pn=some (.lst (ps.map V.str))∧H pl=some (.lst (zs.map (·.1)))∧Zo K H zs∧H pg=some (.lst (gs.map V.str))
theorem Ground.same {K:PySem.W.Frag} {H H':Hp} {t:Addr} {ps:List Str} {zs:List (V×(Str×Str))} {gs:List Str} (G:Ground K H t ps zs gs) (e:Ji H H'):Ground K H' t ps zs gs :=
 ⟨G.good,let ⟨pn,pl,pg,h1,h2,h3,h4,h5⟩:=G.at_; ⟨pn,pl,pg,e _ _ h1,e _ _ h2,e _ _ h3,Jah h4 e,e _ _ h5⟩⟩
def Jql (K:PySem.W.Frag):Sp:=fun vs H Q _=>∃ (a:Addr) (ns:List Int) (k:Int),vs=[.ref a,.int k]∧JA K H a (ns.map V.int)∧0≤k∧∀ t ps zs gs H',Ji H H'→Ground K H' t ps zs gs→Q (.ref t) H'
section
variable {P:Program} {w:World} {K:PySem.W.Frag} {mg:Str→Option Value} {base:Heap}
theorem JsA (T:Txt K mg):JC P w K mg base YJ 2 T.Jls T.Jjv ["_law_cell", "_law_kind", "_law_size"] Jr1:=by
 refine T.JlH.F.ok Jez (fun vs H Q E h=>?_) (fun cdv A outer s H vs Q E hr h=>?_)
 ·obtain ⟨_,_,_,rfl,_⟩:=h;rfl
 ·obtain ⟨c,kd,n,rfl,hn1,hn2,q⟩:=h;have szl:sizeLine=16777216:=sizeLine_eq;refine ⟨_,(@Jd _ _ _ _ _ (@Yd _ _ _ (@Jz _ _ 3 _ _ _ _ Jez.nd rfl (Or.inr rfl) (@Jm _ _ _ _ _ _ _ _ _ _ _ _ _ _ _ T.Jkz (Jnx T) (hr.mono (by decide)) JG (@Ja _ _ _ _ _ (@Jo _ _ _ _ _ _ _ _ (@YK _) (@pv _ 0 _ _ rfl (.inl rfl) rfl rfl) (@Je _ _ _ _)) (@Ja _ _ _ _ _ (@pv _ 2 _ _ rfl (.inl rfl) rfl rfl) (@Ja _ _ _ _ _ (@Je _ _ _ _) (@Jc _) rfl) rfl) rfl) rfl (by decide) rfl rfl) rfl (by first | exact .inl rfl | exact .inr rfl | assumption))) (@Jd _ _ _ _ _ (@Yd _ _ _ (@Jpp _ _ _ _ _ _ _ _ _ _ 4 1 ["_law_k", "_law_marks"] [3] _ _ _ _ ["_law_cell", "_law_kind", "_law_size", "_law_marks", "_law_found"] ((Jk Jiz).names) (by decide +kernel) Jez.nd rfl (@Zf _ _ _ _ _ _ rfl T.Zx (@Ja _ _ _ _ _ (@pv _ 2 _ _ rfl (.inl rfl) rfl rfl) (@Jc _) rfl) rfl) (fun _ _ _ _=>(@Jar _ _ _ _ _ _ _ _ _ 0 (by decide +kernel) rfl rfl)) (fun _ _ _ _=>(@JiB _ _ _ (@Jx _ _ _ _ _ _ _ _ (@Yi _) (@JM _ _ _ _ _ _ _ (show IxR _ (JhG K) from (@JV _)) (@JaR _ _ _ _ _ _ _ _ _ 1 rfl rfl (by decide) (by decide)) (@ZN _ _ _ _ _ _ _ _ _ 0 rfl rfl (by decide) (by decide)) (fun _ _=>rfl)) (@Je _ _ _ _) (JE _)))) (fun _ _ _ _=>(@ZN _ _ _ _ _ _ _ _ _ 0 rfl rfl (by decide) (by decide))) rfl rfl rfl rfl rfl (by intro _; rfl))) (@Jd _ _ _ _ _ (@Yd _ _ _ (@JL _ _ _ _ _ _ _ _ (@PW.pt _ _ _ (@Jno _ _ _ _ _ _ _ (@Jx _ _ _ _ _ _ _ _ (@Jee _) (@pv _ 1 _ _ rfl (.inl rfl) rfl rfl) (@Je _ _ _ _) (JE _)) (@Jk0 _ _ _ _ (@Jx _ _ _ _ _ _ _ _ (@JjX _) (@Jo _ _ _ _ _ _ _ _ (@J6 _) (@pv _ 0 _ _ rfl (.inl rfl) rfl rfl) (@Je _ _ _ _)) (@Je _ _ _ _) (JE _))))) (@Jg _ _ _ (@Jz _ _ 4 _ _ _ _ Jez.nd rfl (Or.inl rfl) (@Yx _ _ _ _ (@Ja _ _ _ _ _ (@Jo _ _ _ _ _ _ _ _ (@JaS _) (@pv _ 2 _ _ rfl (.inl rfl) rfl rfl) (@Je _ _ _ _)) (@Jc _) rfl)) rfl (.inl rfl))) (@Jw _))) (@Jd _ _ _ _ _ (@Yd _ _ _ (@JL _ _ _ _ _ _ _ _ (@PW.pt _ _ _ (@Jno _ _ _ _ _ _ _ (@Jx _ _ _ _ _ _ _ _ (@Yi _) (@Jo _ _ _ _ _ _ _ _ (@J6 _) (@pv _ 0 _ _ rfl (.inl rfl) rfl rfl) (@Je _ _ _ _)) (@Je _ _ _ _) (JE _)) (@Jk0 _ _ _ _ (@Jx _ _ _ _ _ _ _ _ (@Jnv _ hr.units0) (@pv _ 4 _ _ rfl (.inl rfl) rfl rfl) (@Yx _ _ _ _ (@Jc _)) (JE _))))) (@Jg _ _ _ (@Jz _ _ 4 _ _ _ _ Jez.nd rfl (Or.inl rfl) (@Yx _ _ _ _ (@Ja _ _ _ _ _ (@Jo _ _ _ _ _ _ _ _ (@JaS _) (@pv _ 2 _ _ rfl (.inl rfl) rfl rfl) (@Je _ _ _ _)) (@Jc _) rfl)) rfl (.inl rfl))) (@Jw _))) (@Jg _ _ _ (@Jq _ _ _ _ (@pv _ 4 _ _ rfl (.inl rfl) rfl rfl))))))),?_⟩;refine ⟨fun σ1 H1=>∃ (pm:Addr) (ms:List Int),Ji H H1∧JA K H1 pm (ms.map V.int)∧ms.length=n∧σ1=[some (.int c),some (.int kd),some (.int n),some (.ref pm),none],
   ⟨_,rfl,_,_,rfl,rfl,⟨by decide,by decide⟩,_,rfl,_,n,_,rfl,by omega,by decide,by decide,fun pm ms H1 h1 e1 h2 h3 h4=>⟨pm,ms,e1,JA.of h2,h3,rfl⟩⟩,?_⟩
  rintro σ1 H1 ⟨pm,ms,e1,hm,hml,rfl⟩;have fresh:∀ {p:Addr} {H':Hp},Ji H H'→H' p=none→H p=none:=fun {p H'} e h=>by
   cases hd:H p with
   | none=>rfl
   | some u=>rw [e _ _ hd] at h; cases h
  let R:St→Hp→Prop:=fun σ1 H2=>∃ (p:Addr) (gs:List Int),H p=none∧Ji H H2∧H2 p=some (.lst (gs.map V.int))∧gs.Nodup∧(∀ g∈gs,0≤g∧g < n)∧σ1=[some (.int c),some (.int kd),some (.int n),some (.ref pm),some (.ref p)]
  have one:∀ {p:Addr} {H2:Hp},Ji H H2→H2 p=none→R [some (.int c),some (.int kd),some (.int n),some (.ref pm),some (.ref p)] (upd H2 p (.lst [.int ((n:Int) - 1)])):=fun {p H2} e2 np =>
   ⟨p,[(n:Int) - 1],fresh e2 np,e2.trans (Ji.upd np),Jj,by simp,fun g hg=>by rw [List.mem_singleton.mp hg]; omega,rfl⟩
  refine ⟨R,?_,?_⟩
  ·refine ⟨_,rfl,(n:Int),rfl,by omega,by omega,fun D hD=>?_⟩;rw [show ((n:Int)).toNat=n from Int.toNat_natCast n];refine Jkk (n:=n) (fun i ys H2=>Ji H1 H2∧H2 D=some (.lst ys)∧∃ gs:List Int,ys=gs.map V.int∧gs.length≤i∧gs.Nodup∧∀ g∈gs,0≤g∧g < i) rfl ⟨Ji.upd hD,Jj,[],rfl,Nat.le_refl _,List.nodup_nil,fun g hg=>nomatch hg⟩ (fun i ys H2 p=>p.2.1) ?_ ?_
   ·rintro i ys H2 hi ⟨e2,hy,gs,rfl,hgl,hgn,hgr⟩;obtain ⟨x,a1,_⟩:=Jet (xs:=ms) (e:=0 + (i:Int)) (by omega) (by omega);refine ⟨_,rfl,_,rfl,pm,_,_,.int x,rfl,rfl,e2.seq hm,a1,rfl,_,rfl,Yt (fun _=>?_) (fun _=>?_)⟩
    ·refine ⟨_,rfl,hy,by rw [List.length_map]; omega,fun b u e=>?_,Jj,gs ++ [0 + (i:Int)],by rw [List.map_append]; rfl,by simp; omega,?_,fun g hg=>?_⟩
     ·rw [Js (Ju e hD)]; exact e2 b u e
     ·rw [List.nodup_append];refine ⟨hgn,by simp,fun x hx y hy e=>?_⟩;rw [List.mem_singleton] at hy;have:=hgr x hx;omega
     ·rcases List.mem_append.mp hg with w | w
      ·have:=hgr g w; omega
      ·rw [List.mem_singleton.mp w]; omega
    ·exact ⟨e2,hy,gs,rfl,by omega,hgn,fun g hg=>by have:=hgr g hg; omega⟩
   ·rintro ys H2 ⟨e2,hy,gs,rfl,_,hgn,hgr⟩;exact ⟨D,gs,fresh e1 hD,e1.trans e2,hy,hgn,hgr,rfl⟩
  rintro σ1 H2 ⟨p2,gs2,np2,e2,hp2,nd2,rg2,rfl⟩;refine ⟨R,?_,?_⟩
  ·refine ⟨_,rfl,_,_,rfl,rfl,_,rfl,Yt (fun _=>?_) (fun _=>YT ⟨p2,gs2,np2,e2,hp2,nd2,rg2,rfl⟩)⟩;refine ⟨_,rfl,_,_,rfl,rfl,(by show (0:Int) < 3; decide),rfl,_,rfl,Yt (fun _=>?_) (fun _=>⟨p2,gs2,np2,e2,hp2,nd2,rg2,rfl⟩)⟩;exact ⟨_,rfl,_,_,rfl,rfl,by show 1≤sizeLine; omega,fun p np=>one e2 np⟩
  clear rg2 nd2 hp2 e2 np2 gs2 p2 H2;rintro σ1 H2 ⟨p2,gs2,np2,e2,hp2,nd2,rg2,rfl⟩;refine ⟨R,?_,?_⟩
  ·refine ⟨_,rfl,_,_,rfl,rfl,(by show (0:Int) < 3; decide),rfl,_,rfl,Yt (fun _=>?_) (fun _=>YT ⟨p2,gs2,np2,e2,hp2,nd2,rg2,rfl⟩)⟩;refine ⟨_,rfl,by show 0≤sizeLine; omega,fun l nl=>⟨p2,l,_,rfl,rfl,(Ji.upd nl).seq (JA.of hp2),JA.of Jj,_,rfl,Yt (fun _=>?_) (fun _=>?_)⟩⟩
   ·exact ⟨_,rfl,_,_,rfl,rfl,by show 1≤sizeLine; omega,fun p np=>one (e2.trans (Ji.upd nl)) np⟩
   ·exact ⟨p2,gs2,np2,e2.trans (Ji.upd nl),(Ji.upd nl) _ _ hp2,nd2,rg2,rfl⟩
  clear rg2 nd2 hp2 e2 np2 gs2 p2 H2;rintro σ1 H2 ⟨p2,gs2,np2,e2,hp2,nd2,rg2,rfl⟩;exact ⟨_,rfl,q p2 gs2 H2 np2 e2 hp2 nd2 rg2⟩
theorem JlR {K:PySem.W.Frag} {H:Hp} {D:Addr} {ys ys':List V} {zs:List (V×(Str×Str))} (h:Zo K H zs) (hD:H D=some (.lst ys)):Zo K (upd H D (.lst ys')) zs:=fun z hz=>by
 obtain ⟨a,h1,h2⟩:=h z hz;refine ⟨a,h1,?_⟩;rcases h2 with (q | ⟨o,q⟩) | q
 ·exact .inl (.inl (by rw [Js (Jaj q hD (fun z=>nomatch z))]; exact q))
 ·exact .inl (.inr ⟨o,by rw [Js (Jaj q hD (fun z=>nomatch z))]; exact q⟩)
 ·exact .inr q
theorem JqG (T:Txt K mg):JC P w K mg base YJ 3 T.Jjy T.Jic ["_law_script", "_law_at_here"] (Jql K):=by
 refine T.JjF.F.ok ZY (fun vs H Q E h=>?_) (fun cdv A outer s H vs Q E hr h=>?_)
 ·obtain ⟨_,_,_,rfl,_⟩:=h;rfl
 ·obtain ⟨a,ns,k,rfl,hS,h0,q⟩:=h;have szl:sizeLine=16777216:=sizeLine_eq;refine ⟨_,(@Jd _ _ _ _ _ (@Yd _ _ _ (@Jz _ _ 2 _ _ _ _ ZY.nd rfl (Or.inl rfl) (@Jm _ _ _ _ _ _ _ _ _ _ _ _ _ _ _ T.Jan (Z2 T) (hr.mono (by decide)) JG (@Ja _ _ _ _ _ (@pv _ 0 _ _ rfl (.inl rfl) rfl rfl) (@Ja _ _ _ _ _ (@Jo _ _ _ _ _ _ _ _ (@Ye _) (@pv _ 1 _ _ rfl (.inl rfl) rfl rfl) (@Je _ _ _ _)) (@Jc _) rfl) rfl) rfl (by decide) rfl rfl) rfl (.inl rfl))) (@Jd _ _ _ _ _ (@Yd _ _ _ (@Jz _ _ 3 _ _ _ _ ZY.nd rfl (Or.inl rfl) (@JM _ _ _ _ _ _ _ (@JV _) (@Yx _ _ _ _ (@Ja _ _ _ _ _ (@Je _ _ _ _) (@Ja _ _ _ _ _ (@Je _ _ _ _) (@Ja _ _ _ _ _ (@Je _ _ _ _) (@Ja _ _ _ _ _ (@Je _ _ _ _) (@Ja _ _ _ _ _ (@Je _ _ _ _) (@Ja _ _ _ _ _ (@Je _ _ _ _) (@Ja _ _ _ _ _ (@Je _ _ _ _) (@Jc _) rfl) rfl) rfl) rfl) rfl) rfl) rfl)) (@Jo _ _ _ _ _ _ _ _ (@J6 _) (@pv _ 2 _ _ rfl (.inl rfl) rfl rfl) (@Je _ _ _ _)) (fun _ _=>rfl)) rfl (.inl rfl))) (@Jd _ _ _ _ _ (@Yd _ _ _ (@JL _ _ _ _ _ _ _ _ (@Jx _ _ _ _ _ _ _ _ (@Yi _) (@Jo _ _ _ _ _ _ _ _ (@J6 _) (@Jo _ _ _ _ _ _ _ _ (@YK _) (@pv _ 2 _ _ rfl (.inl rfl) rfl rfl) (@Je _ _ _ _)) (@Je _ _ _ _)) (@Je _ _ _ _) (JE _)) (@Jg _ _ _ (@Jz _ _ 3 _ _ _ _ ZY.nd rfl (Or.inl rfl) (@Jo _ _ _ _ _ _ _ _ (@Ye _) (@Je _ _ _ _) (@Jo _ _ _ _ _ _ _ _ (@J6 _) (@Jo _ _ _ _ _ _ _ _ (@YK _) (@pv _ 2 _ _ rfl (.inl rfl) rfl rfl) (@Je _ _ _ _)) (@Je _ _ _ _))) rfl (.inl rfl))) (@Jw _))) (@Jd _ _ _ _ _ (@Yd _ _ _ (@Jz _ _ 4 _ _ _ _ ZY.nd rfl (Or.inr rfl) (@Jm _ _ _ _ _ _ _ _ _ _ _ _ _ _ _ T.JiN (Jny T) (hr.mono (by decide)) JG (@Ja _ _ _ _ _ (@Jm _ _ _ _ _ _ _ _ _ _ _ _ _ _ _ T.Jan (Z2 T) (hr.mono (by decide)) JG (@Ja _ _ _ _ _ (@pv _ 0 _ _ rfl (.inl rfl) rfl rfl) (@Ja _ _ _ _ _ (@Jo _ _ _ _ _ _ _ _ (@Ye _) (@pv _ 1 _ _ rfl (.inl rfl) rfl rfl) (@Je _ _ _ _)) (@Jc _) rfl) rfl) rfl (by decide) rfl rfl) (@Ja _ _ _ _ _ (@pv _ 3 _ _ rfl (.inl rfl) rfl rfl) (@Jc _) rfl) rfl) rfl (by decide) rfl rfl) rfl (by first | exact .inl rfl | exact .inr rfl | assumption))) (@Jd _ _ _ _ _ (@Yd _ _ _ (@Jz _ _ 5 _ _ _ _ ZY.nd rfl (Or.inl rfl) (@Jm _ _ _ _ _ _ _ _ _ _ _ _ _ _ _ T.Jan (Z2 T) (hr.mono (by decide)) JG (@Ja _ _ _ _ _ (@pv _ 0 _ _ rfl (.inl rfl) rfl rfl) (@Ja _ _ _ _ _ (@pv _ 1 _ _ rfl (.inl rfl) rfl rfl) (@Jc _) rfl) rfl) rfl (by decide) rfl rfl) rfl (.inl rfl))) (@Jd _ _ _ _ _ (@Yd _ _ _ (@Jz _ _ 6 _ _ _ _ ZY.nd rfl (Or.inl rfl) (@Jm _ _ _ _ _ _ _ _ _ _ _ _ _ _ _ T.JlF (Jsy T) (hr.mono (by decide)) JG (@Ja _ _ _ _ _ (@pv _ 5 _ _ rfl (.inl rfl) rfl rfl) (@Ja _ _ _ _ _ (@Jm _ _ _ _ _ _ _ _ _ _ _ _ _ _ _ T.Jan (Z2 T) (hr.mono (by decide)) JG (@Ja _ _ _ _ _ (@pv _ 0 _ _ rfl (.inl rfl) rfl rfl) (@Ja _ _ _ _ _ (@Jo _ _ _ _ _ _ _ _ (@Ye _) (@pv _ 1 _ _ rfl (.inl rfl) rfl rfl) (@Je _ _ _ _)) (@Jc _) rfl) rfl) rfl (by decide) rfl rfl) (@Ja _ _ _ _ _ (@pv _ 3 _ _ rfl (.inl rfl) rfl rfl) (@Jc _) rfl) rfl) rfl) rfl (by decide) rfl rfl) rfl (.inl rfl))) (@Jd _ _ _ _ _ (@Yd _ _ _ (@Jz _ _ 7 _ _ _ _ ZY.nd rfl (Or.inl rfl) (@Jm _ _ _ _ _ _ _ _ _ _ _ _ _ _ _ T.JlH (JsA T) (hr.mono (by decide)) JG (@Ja _ _ _ _ _ (@Jm _ _ _ _ _ _ _ _ _ _ _ _ _ _ _ T.Jan (Z2 T) (hr.mono (by decide)) JG (@Ja _ _ _ _ _ (@pv _ 0 _ _ rfl (.inl rfl) rfl rfl) (@Ja _ _ _ _ _ (@Jo _ _ _ _ _ _ _ _ (@Ye _) (@pv _ 1 _ _ rfl (.inl rfl) rfl rfl) (@Je _ _ _ _)) (@Jc _) rfl) rfl) rfl (by decide) rfl rfl) (@Ja _ _ _ _ _ (@Jo _ _ _ _ _ _ _ _ (@J6 _) (@pv _ 5 _ _ rfl (.inl rfl) rfl rfl) (@Je _ _ _ _)) (@Ja _ _ _ _ _ (@pv _ 3 _ _ rfl (.inl rfl) rfl rfl) (@Jc _) rfl) rfl) rfl) rfl (by decide) rfl rfl) rfl (.inl rfl))) (@Jd _ _ _ _ _ (@Yd _ _ _ (@Jpp _ _ _ _ _ _ _ _ _ _ 8 2 ["_law_a", "_law_b", "_law_names_here"] [4] _ _ _ _ ["_law_script", "_law_at_here", "_law_cell", "_law_size", "_law_names_here", "_law_kind", "_law_pairs_here", "_law_goals_here", "_law_lanes"] ((Jk JeD).names) (by decide +kernel) ZY.nd rfl (@Jcy _ _ _ _ (@pv _ 6 _ _ rfl (.inl rfl) rfl rfl)) (fun _ _ _ _=>(show PG _ _ (JpF K 2 _) from Jnq rfl (@ZM _ _ _ _ _ (@Jar _ _ _ _ _ _ _ _ _ 0 (by decide +kernel) rfl rfl) (@ZM _ _ _ _ _ (@Jar _ _ _ _ _ _ _ _ _ 1 (by decide +kernel) rfl rfl) (@Jk3 _) rfl) rfl))) (fun _ _ _ _=>(@Jeq _)) (fun _ _ _ _=>(@YR _ _ _ _ _ (@Ja _ _ _ _ _ (@JM _ _ _ _ _ _ _ (show IxR _ (JhG K) from (@JV _)) (@JaR _ _ _ _ _ _ _ _ _ 2 rfl rfl (by decide) (by decide)) (@ZN _ _ _ _ _ _ _ _ _ 0 rfl rfl (by decide) (by decide)) (fun _ _=>rfl)) (@Ja _ _ _ _ _ (@JM _ _ _ _ _ _ _ (show IxR _ (JhG K) from (@JV _)) (@JaR _ _ _ _ _ _ _ _ _ 2 rfl rfl (by decide) (by decide)) (@ZN _ _ _ _ _ _ _ _ _ 1 rfl rfl (by decide) (by decide)) (fun _ _=>rfl)) (@Jc _) rfl) rfl))) rfl rfl rfl rfl rfl (by intro _; rfl))) (@Jg _ _ _ (@Jq _ _ _ _ (@YR _ _ _ _ _ (@Ja _ _ _ _ _ (@pv _ 4 _ _ rfl (.inr (.inl rfl)) rfl rfl) (@Ja _ _ _ _ _ (@pv _ 8 _ _ rfl (.inl rfl) rfl rfl) (@Ja _ _ _ _ _ (@Jg1 _ _ _ _ _ _ _ 1 ["_law_k", "_law_names_here"] [4] _ _ _ _ ["_law_script", "_law_at_here", "_law_cell", "_law_size", "_law_names_here", "_law_kind", "_law_pairs_here", "_law_goals_here", "_law_lanes"] ((Jk JeD).names) (by decide +kernel) (@Jcy _ _ _ _ (@pv _ 7 _ _ rfl (.inl rfl) rfl rfl)) (fun _ _ _ _=>(@Jar _ _ _ _ _ _ _ _ _ 0 (by decide +kernel) rfl rfl)) (fun _ _ _ _=>(@Jeq _)) (fun _ _ _ _=>(@JM _ _ _ _ _ _ _ (show IxR _ (JhG K) from (@JV _)) (@JaR _ _ _ _ _ _ _ _ _ 1 rfl rfl (by decide) (by decide)) (@ZN _ _ _ _ _ _ _ _ _ 0 rfl rfl (by decide) (by decide)) (fun _ _=>rfl))) rfl rfl rfl (by intro _; rfl)) (@Jc _) rfl) rfl) rfl)))))))))))),?_⟩
  try dsimp only [cxK,Jhi]
  refine ⟨fun σ1 H1=>∃ c:Int,H1=H∧σ1=[some (.ref a),some (.int k),some (.int c),none,none,none,none,none,none],
   ⟨_,rfl,_,rfl,_,_,rfl,rfl,a,ns,_,rfl,hS,by omega,_,rfl,rfl⟩,?_⟩
  rintro σ1 H1 ⟨c,rfl,rfl⟩;refine ⟨fun σ1 H2=>∃ n:Nat,Ji H1 H2∧1≤n∧n≤12∧σ1=[some (.ref a),some (.int k),some (.int c),some (.int n),none,none,none,none,none],?_,?_⟩
  ·refine ⟨by show 7≤sizeLine; omega,fun l nl=>?_⟩;obtain ⟨n,hn,h1,h2⟩:∃ n:Nat,Z3 [V.int 4,V.int 3,V.int 5,V.int 6,V.int 2,V.int 5,V.int 1] (c % 7)=some (.int n)∧1≤n∧n≤12:=by
    have h:c % 7=0∨c % 7=1∨c % 7=2∨c % 7=3∨c % 7=4∨c % 7=5∨c % 7=6:=by omega
    rcases h with h | h | h | h | h | h | h <;> rw [h]
    ·exact ⟨4,rfl,by decide,by decide⟩
    ·exact ⟨3,rfl,by decide,by decide⟩
    ·exact ⟨5,rfl,by decide,by decide⟩
    ·exact ⟨6,rfl,by decide,by decide⟩
    ·exact ⟨2,rfl,by decide,by decide⟩
    ·exact ⟨5,rfl,by decide,by decide⟩
    ·exact ⟨1,rfl,by decide,by decide⟩
   exact ⟨_,rfl,_,_,rfl,rfl,(by show (0:Int) < 7; decide),l,_,_,.int n,rfl,rfl,JA.of Jj,hn,n,Ji.upd nl,h1,h2,rfl⟩
  rintro σ1 H2 ⟨n,e2,hn1,hn2,rfl⟩;refine ⟨fun σ1 H3=>∃ n:Nat,H3=H2∧1≤n∧n≤12∧σ1=[some (.ref a),some (.int k),some (.int c),some (.int n),none,none,none,none,none],?_,?_⟩
  ·refine ⟨_,rfl,_,_,rfl,rfl,⟨by decide,by decide⟩,_,_,rfl,rfl,(by show (0:Int) < 6; decide),rfl,_,rfl,Yt (fun _=>?_) (fun _=>⟨n,rfl,hn1,hn2,rfl⟩)⟩;refine ⟨_,rfl,_,_,rfl,rfl,⟨by decide,by decide⟩,_,_,rfl,rfl,(by show (0:Int) < 12; decide),_,_,rfl,rfl,(1 + c / 42 % 12).toNat,rfl,by omega,by omega,?_⟩;rw [Int.toNat_of_nonneg (by omega)]; rfl
  clear hn1 hn2 n;rintro σ1 H3 ⟨n,rfl,hn1,hn2,rfl⟩;refine ⟨fun σ1 H4=>∃ (pn:Addr) (ps:List Str),Ji H1 H4∧H4 pn=some (.lst (ps.map V.str))∧ps.length=n∧(∀ s∈ps,YB s=true)∧ps.Nodup∧σ1=[some (.ref a),some (.int k),some (.int c),some (.int n),some (.ref pn),none,none,none,none],
   ⟨_,rfl,_,rfl,_,_,rfl,rfl,a,ns,_,rfl,e2.seq hS,by omega,_,rfl,_,n,rfl,hn1,hn2,fun pn ps H4 h1 e4 h2 h3 h4 h5=>⟨pn,ps,e2.trans e4,h2,h3,h4,h5,rfl⟩⟩,?_⟩
  rintro σ1 H4 ⟨pn,ps,e4,hpn,hpl,hpg,hpd,rfl⟩;refine ⟨fun σ1 H5=>∃ kd:Int,H5=H4∧σ1=[some (.ref a),some (.int k),some (.int c),some (.int n),some (.ref pn),some (.int kd),none,none,none],
   ⟨_,rfl,_,rfl,a,ns,_,rfl,e4.seq hS,h0,_,rfl,rfl⟩,?_⟩
  rintro σ1 H5 ⟨kd,rfl,rfl⟩;refine ⟨fun σ1 H6=>∃ (pp:Addr) (zs:List (V×(Int×Int))),PW K H5 pp n H6 zs∧zs.length≤40∧σ1=[some (.ref a),some (.int k),some (.int c),some (.int n),some (.ref pn),some (.int kd),some (.ref pp),none,none],
   ⟨_,rfl,_,rfl,_,rfl,_,_,rfl,rfl,a,ns,_,rfl,e4.seq hS,by omega,_,rfl,kd,_,n,rfl,hn1,hn2,fun pp zs H6 h1 W hl=>⟨pp,zs,W,hl,rfl⟩⟩,?_⟩
  rintro σ1 H6 ⟨pp,zs,W,hzl,rfl⟩;have e6:=e4.trans W.sm;refine ⟨fun σ1 H7=>∃ (pg:Addr) (gs:List Int),Ji H6 H7∧H7 pg=some (.lst (gs.map V.int))∧gs.Nodup∧(∀ g∈gs,0≤g∧g < n)∧σ1=[some (.ref a),some (.int k),some (.int c),some (.int n),some (.ref pn),some (.int kd),some (.ref pp),some (.ref pg),none],
   ⟨_,rfl,_,rfl,_,_,rfl,rfl,a,ns,_,rfl,e6.seq hS,by omega,_,rfl,_,_,rfl,rfl,(by show (0:Int) < 4; decide),_,rfl,_,_,n,rfl,hn1,hn2,fun pg gs H7 h1 e7 h2 h3 h4=>⟨pg,gs,e7,h2,h3,h4,rfl⟩⟩,?_⟩
  rintro σ1 H7 ⟨pg,gs,e7,hpgs,hgd,hgr,rfl⟩;have e17:=e6.trans e7;have hpn7:=e7 _ _ (W.sm _ _ hpn);have hpp7:=e7 _ _ W.at_;refine ⟨fun σ1 H8=>∃ (pl:Addr) (ls:List (V×(Str×Str))),Ji H7 H8∧H8 pl=some (.lst (ls.map (·.1)))∧Zo K H8 ls∧ls.map (·.2)=(zs.map (·.2)).map (nm2 ps)∧σ1=[some (.ref a),some (.int k),some (.int c),some (.int n),some (.ref pn),some (.int kd),some (.ref pp),some (.ref pg),some (.ref pl)],?_,?_⟩
  ·refine ⟨_,rfl,pp,rfl,⟨_,JA.of hpp7⟩,fun D hD=>?_⟩;refine Jkl (xs:=zs.map (·.1)) (fun i ys H8=>Ji H7 H8∧H8 D=some (.lst ys)∧∃ ls:List (V×(Str×Str)),ys=ls.map (·.1)∧Zo K H8 ls∧ls.map (·.2)=((zs.take i).map (·.2)).map (nm2 ps)) rfl rfl (fun i ys H8 p=>JA.of (p.1 _ _ hpp7)) ⟨Ji.upd hD,Jj,[],rfl,(fun z hz=>nomatch hz),rfl⟩ (fun i ys H8 p=>p.2.1) ?_ ?_
   ·rintro i x ys H8 hx ⟨e8,hy,ls,rfl,hP,hls⟩;rw [List.getElem?_map] at hx;obtain ⟨z,hz,rfl⟩:=Option.map_eq_some_iff.mp hx;obtain ⟨b,eb,hb⟩:=W.ip z (List.mem_of_getElem? hz);obtain ⟨r1,r2⟩:=W.rg z (List.mem_of_getElem? hz);refine ⟨b,.int z.2.1,.int z.2.2,eb,(e7.trans e8).tup hb,?_⟩;simp only [Jex,if_true];have hll:ls.length≤40:=by
     have z:=congrArg List.length hls;rw [List.length_map,List.length_map,List.length_map,List.length_take] at z;omega
    refine ⟨_,rfl,_,rfl,pn,_,_,_,rfl,rfl,JA.of (e8 _ _ hpn7),JmG r1.1 (by omega),_,rfl,_,rfl,pn,_,_,_,rfl,rfl,JA.of (e8 _ _ hpn7),JmG r2.1 (by omega),by show 2≤sizeLine; omega,fun t nt=>?_⟩;have e9:=Ji.upd (o:=.tup [.str (nm ps z.2.1),.str (nm ps z.2.2)]) nt;refine ⟨e9 _ _ hy,by rw [List.length_map]; omega,fun b u e=>?_,Jj,ls ++ [(.ref t,nm2 ps z.2)],by rw [List.map_append]; rfl,fun z' hz'=>?_,?_⟩
    ·rw [Js (Ju e hD)]; exact e9 _ _ (e8 b u e)
    ·rcases List.mem_append.mp hz' with q | q
     ·exact JlR (Jah hP e9) (e9 _ _ hy) z' q
     ·rw [List.mem_singleton.mp q];exact JlR (zs:=[(.ref t,nm2 ps z.2)]) (fun z' hz'=>by rw [List.mem_singleton.mp hz']; exact ⟨t,rfl,J1.of Jj⟩) (e9 _ _ hy) _ (List.mem_singleton.mpr rfl)
    ·rw [List.map_append,hls,List.take_succ,hz,List.map_append,List.map_append]; rfl
   ·rintro ys H8 ⟨e8,hy,ls,rfl,hP,hls⟩;rw [List.length_map,List.take_length] at hls;exact ⟨D,ls,e8,hy,hP,hls,rfl⟩
  rintro σ1 H8 ⟨pl,ls,e8,hll,hP,hls,rfl⟩;refine ⟨_,rfl,_,rfl,_,rfl,pg,rfl,⟨_,JA.of (e8 _ _ hpgs)⟩,fun D hD=>?_⟩;refine Jl6 (xs:=gs.map V.int) (fun i v=>∃ g,gs[i]?=some g∧v=.str (nm ps g)) rfl (JA.of (e8 _ _ hpgs)) hD ?_ (fun i x H9 hx e9 Q' hQ=>?_) (fun ys H9 e9 hy hyl hF=>?_)
  ·rw [List.length_map];have:gs.length≤n:=by
    have z:=JhS (r:=(List.range n).map fun (i:Nat)=>(i:Int)) hgd fun x hx=>by
     have:=hgr x hx;exact List.mem_map.mpr ⟨x.toNat,List.mem_range.mpr (by omega),by omega⟩
    simpa using z
   omega
  ·rw [List.getElem?_map] at hx;obtain ⟨g,hg,rfl⟩:=Option.map_eq_some_iff.mp hx;have:=hgr g (List.mem_of_getElem? hg);exact ⟨_,rfl,_,rfl,pn,_,_,_,rfl,rfl,JA.of (e9 _ _ (e8 _ _ hpn7)),JmG this.1 (by omega),hQ _ ⟨g,hg,rfl⟩⟩
  ·have eys:ys=(gs.map (nm ps)).map V.str:=by
    apply List.ext_getElem?;intro i;by_cases hi:i < ys.length
    ·obtain ⟨g,h1,h2⟩:=hF i _ (List.getElem?_eq_getElem hi);rw [List.getElem?_eq_getElem hi,h2,List.getElem?_map,List.getElem?_map,h1];rfl
    ·rw [List.getElem?_eq_none (by omega),List.getElem?_eq_none];rw [List.length_map] at hyl;rw [List.length_map,List.length_map];omega
   subst eys;refine ⟨by show 3≤sizeLine; omega,fun t nt=>q t ps ls (gs.map (nm ps)) _ ((e17.trans e8).trans (e9.trans (Ji.upd nt))) ⟨⟨by omega,by omega,hpg,hpd,?_,?_,?_,?_,?_⟩,pn,pl,D,Jj,?_,?_,?_,?_⟩⟩
   ·rw [hls,List.length_map,List.length_map]; exact hzl
   ·intro z hz;rw [hls] at hz;obtain ⟨y,hy1,rfl⟩:=List.mem_map.mp hz;obtain ⟨z',hz',rfl⟩:=List.mem_map.mp hy1;obtain ⟨r1,r2⟩:=W.rg z' hz';exact ⟨Jj2 r1.1 (by omega),Jj2 r2.1 (by omega)⟩
   ·rw [hls];refine JlU W.nd fun x hx y hy e=>?_
    obtain ⟨z',hz',rfl⟩:=List.mem_map.mp hx;obtain ⟨z2,hz2,rfl⟩:=List.mem_map.mp hy;obtain ⟨r1,r2⟩:=W.rg z' hz';obtain ⟨r3,r4⟩:=W.rg z2 hz2;have e1:=congrArg Prod.fst e;have e2:=congrArg Prod.snd e;exact Prod.ext (JnI hpd r1.1 (by omega) r3.1 (by omega) e1) (JnI hpd r2.1 (by omega) r4.1 (by omega) e2)
   ·intro g hg;obtain ⟨x,hx,rfl⟩:=List.mem_map.mp hg;have:=hgr x hx;exact Jj2 this.1 (by omega)
   ·refine JlU hgd fun x hx y hy e=>?_
    have h1:=hgr x hx;have h2:=hgr y hy;exact JnI hpd h1.1 (by omega) h2.1 (by omega) e
   ·exact (e9.trans (Ji.upd nt)) _ _ (e8 _ _ hpn7)
   ·exact (e9.trans (Ji.upd nt)) _ _ hll
   ·exact Jah hP (e9.trans (Ji.upd nt))
   ·exact (Ji.upd nt) _ _ hy
end
def rf (x:Str):List V:=[.str "refused",.str x]
def Zk (z:Str) (n:Int) (zs:List (Str×Str)) (gs:List Str):V:=if z∈gs then .str "north" else if n=0∨JR zs z=[] then .str "south" else .non
theorem Jrg {z:Str} {n:Int} {zs zs':List (Str×Str)} {gs gs':List Str} (h1:zs'.Perm zs) (h2:gs'.Perm gs):Zk z n zs' gs'=Zk z n zs gs:=by
 unfold Zk;have e1:(z∈gs')↔(z∈gs):=h2.mem_iff;have e2:(JR zs' z=[])↔(JR zs z=[]):=by
  have hp:(JR zs' z).Perm (JR zs z):=(h1.filter _).map _;constructor
  ·intro e; rw [e] at hp; exact hp.symm.eq_nil
  ·intro e; rw [e] at hp; exact hp.eq_nil
 simp only [e1,e2]
def JtG (k:Addr):Sp:=fun vs H Q E=>∃ n m:Int,vs=[.int n,.int m]∧(0≤m∧m≤30)∧(0≤n∧n≤m→Q .non H)∧(¬ (0≤n∧n≤m)→E (.ref k) none H)
def Jr3 (K:PySem.W.Frag) (C k1 k2:Addr):Sp:=fun vs H Q E=>∃ (b:Addr) (z:Str) (n:Int) (ps:List Str) (zs:List (V×(Str×Str))) (gs:List Str),vs=[.ref b,.str z,.int n]∧Yb z∧zs.length≤40∧Ja8 K C H b ps zs gs ∧
 (z∉ps→E (.ref k1) none H)∧(z∈ps→¬ (0≤n∧n≤30)→E (.ref k2) none H)∧(z∈ps→0≤n∧n≤30→∀ H',Ji H H'→Q (Zk z n (zs.map (·.2)) gs) H')
def ZW (n s:Int):Prop:=0≤n∧0≤s∧n + s≤20
instance (n s:Int):Decidable (ZW n s):=by unfold ZW; exact inferInstance
def Jry (n s:Int) (r:Bool) (b a:Int):Prop:=(0≤b∧b≤(if r then s else n))∧(0≤a∧a≤(if r then n else s))
instance (n s:Int) (r:Bool) (b a:Int):Decidable (Jry n s r b a):=by unfold Jry; exact inferInstance
def Jmh (k:Addr):Sp:=fun vs H Q E=>∃ z:Str,vs=[.str z]∧Yb z∧(Jat z=true→Q .non H)∧(Jat z=false→E (.ref k) none H)
def JrT (k:Addr):Sp:=fun vs H Q E=>∃ z:Str,vs=[.str z]∧Yb z∧(∀ b,z=hs b→Q (.str (hs (!b))) H)∧(Jat z=false→E (.ref k) none H)
def JkF (k:Addr):Sp:=fun vs H Q E=>∃ n s:Int,vs=[.int n,.int s]∧(ZW n s→Q .non H)∧(¬ ZW n s→E (.ref k) none H)
theorem tcT {σ:St} {H:Hp} {F G:Hp→Prop} (h:F H):Jex σ H (fun b H3=>if b=true then F H3 else G H3):=by
 show if true=true then F H else G H;rw [if_pos rfl];exact h
abbrev Zl (zs:List (Str×Str)) (gs:List Str) (c:Int) (t:Nat) (p:Str) (r:Bool):Int:=YV (JR zs) (fun p=>decide (p∈gs)) c t p r
abbrev loB (zs:List (Str×Str)) (gs:List Str) (c:Int) (t:Nat) (p:Str) (r:Bool):Int:=loA (JR zs) (fun p=>decide (p∈gs)) c t p r
abbrev hiC (zs:List (Str×Str)) (gs:List Str) (c:Int) (t:Nat) (p:Str) (r:Bool):Int:=hiB (JR zs) (fun p=>decide (p∈gs)) c t p r
theorem JoD {ps:List Str} {zs:List (Str×Str)} {gs:List Str} (G:Jd2 ps zs gs) {p w:Str} (h:w∈JR zs p):w∈ps:=by
 unfold JR at h;obtain ⟨z,hz,rfl⟩:=List.mem_map.mp h;exact (G.l2 z (List.mem_filter.mp hz).1).2
theorem JlK {ps:List Str} {zs:List (Str×Str)} {gs:List Str} (G:Jd2 ps zs gs) (p:Str):(JR zs p).length≤40:=by
 unfold JR;rw [List.length_map];exact Nat.le_trans (List.length_filter_le _ _) G.l1
theorem Jd2.perm {ps ps':List Str} {zs zs':List (Str×Str)} {gs gs':List Str} (G:Jd2 ps zs gs) (p:ps'.Perm ps) (z:zs'.Perm zs) (g:gs'.Perm gs):Jd2 ps' zs' gs' :=
 ⟨by rw [p.length_eq]; exact G.p1,by rw [p.length_eq]; exact G.p2,fun x h=>G.p3 x (p.mem_iff.mp h),p.nodup_iff.mpr G.p4,by rw [z.length_eq]; exact G.l1,
  fun x h=>let q:=G.l2 x (z.mem_iff.mp h); ⟨p.mem_iff.mpr q.1,p.mem_iff.mpr q.2⟩,z.nodup_iff.mpr G.l3,fun x h=>p.mem_iff.mpr (G.g1 x (g.mem_iff.mp h)),g.nodup_iff.mpr G.g2⟩
structure Bd (K:PySem.W.Frag) (C:Addr) (H:Hp) (b:Addr) (ps:List Str) (zs:List (V×(Str×Str))) (gs:List Str):Prop where
 B:Ja8 K C H b ps zs gs
 G:Jd2 ps (zs.map (·.2)) gs
theorem Bd.same {K:PySem.W.Frag} {C:Addr} {H H':Hp} {b:Addr} {ps:List Str} {zs:List (V×(Str×Str))} {gs:List Str} (h:Bd K C H b ps zs gs) (e:Ji H H'):Bd K C H' b ps zs gs:=⟨h.B.same e,h.G⟩
theorem Bd.zl {K:PySem.W.Frag} {C:Addr} {H:Hp} {b:Addr} {ps:List Str} {zs:List (V×(Str×Str))} {gs:List Str} (h:Bd K C H b ps zs gs):zs.length≤40:=by have:=h.G.l1; rwa [List.length_map] at this
theorem Yc.bd {K:PySem.W.Frag} {C C' dx:Addr} {H H':Hp} {b k:Addr} {ps:List Str} {zs:List (V×(Str×Str))} {gs:List Str} {fs:List (Str×V)} (h:Bd K C H b ps zs gs) (e:Yc k H H') (hk:H k=some (.ins C' dx fs)) (hn:k≠b):Bd K C H' b ps zs gs:=by
 obtain ⟨⟨d,tp,tl,tg,h1,h2,h3,h4,h5⟩,G⟩:=h;exact ⟨⟨d,tp,tl,tg,e _ _ (fun z=>hn z.symm) h1,e _ _ (Jaj h2 hk (fun z=>nomatch z)) h2,e _ _ (Jaj h3 hk (fun z=>nomatch z)) h3,fun z hz=>let ⟨a,q1,q2⟩:=h4 z hz; ⟨a,q1,e.tup hk q2⟩,e _ _ (Jaj h5 hk (fun z=>nomatch z)) h5⟩,G⟩
def Jab (p:Str) (r:Bool):List JI:=[.inr p,.inr (hs r)]
theorem JnR {a b:Bool} (h:hs a=hs b):a=b:=by cases a <;> cases b <;> first | rfl | (exact absurd h (by decide +kernel))
theorem Joc {p q:Str} {r s:Bool} (h:Jab p r=Jab q s):p=q∧r=s:=by
 unfold Jab at h;simp only [List.cons.injEq,Sum.inr.injEq,and_true] at h;exact ⟨h.1,JnR h.2⟩
def JfU (H:Hp) (a:Addr) (ps:List Str) (f:Str→Bool→Int):Prop:=∃ kvs:List (List JI×V),H a=some (.dT kvs)∧∀ p∈ps,∀ r,J2 kvs (Jab p r)=some (.int (f p r))
theorem JfU.same {H H':Hp} {a:Addr} {ps:List Str} {f:Str→Bool→Int} (h:JfU H a ps f) (e:Ji H H'):JfU H' a ps f:=let ⟨kvs,h1,h2⟩:=h; ⟨kvs,e _ _ h1,h2⟩
structure Bk (K:PySem.W.Frag) (C CB:Addr) (H:Hp) (k b:Addr) (ps:List Str) (zs:List (V×(Str×Str))) (gs:List Str) (c:Int) (t n:Nat):Prop where
 B:Bd K C H b ps zs gs
 c0:0≤c
 c1:c≤20
 t1:t≤30
 at_:∃ (dx l:Addr) (rs:List Addr),H k=some (.ins CB dx [("board",.ref b),("coins",.int c),("turns",.int t),("needs",.ref l)])∧H l=some (.lst (rs.map V.ref))∧rs.length=n∧∀ (i:Nat) a,rs[i]?=some a→JfU H a ps (Zl (zs.map (·.2)) gs c i)
theorem Bk.same {K:PySem.W.Frag} {C CB:Addr} {H H':Hp} {k b:Addr} {ps:List Str} {zs:List (V×(Str×Str))} {gs:List Str} {c:Int} {t n:Nat} (h:Bk K C CB H k b ps zs gs c t n) (e:Ji H H'):Bk K C CB H' k b ps zs gs c t n :=
 ⟨h.B.same e,h.c0,h.c1,h.t1,let ⟨dx,l,rs,h1,h2,h3,h4⟩:=h.at_; ⟨dx,l,rs,e _ _ h1,e _ _ h2,h3,fun i a q=>(h4 i a q).same e⟩⟩
section
variable (K:PySem.W.Frag) (C CB:Addr)
def JuE:Sp:=fun vs H Q _=>∃ (k b:Addr) (z:Str) (m:Nat) (ps:List Str) (zs:List (V×(Str×Str))) (gs:List Str) (c:Int) (t n:Nat),vs=[.ref k,.str z,.int ((m:Int) + 1)]∧Bk K C CB H k b ps zs gs c t n∧m < n∧z∈ps∧JR (zs.map (·.2)) z≠[] ∧
 ∀ H',Ji H H'→Q (.int (loB (zs.map (·.2)) gs c m z false)) H'
def JuD:Sp:=fun vs H Q _=>∃ (k b:Addr) (z:Str) (m:Nat) (ps:List Str) (zs:List (V×(Str×Str))) (gs:List Str) (c:Int) (t n:Nat),vs=[.ref k,.str z,.int ((m:Int) + 1)]∧Bk K C CB H k b ps zs gs c t n∧m < n∧z∈ps∧JR (zs.map (·.2)) z≠[] ∧
 ∀ H',Ji H H'→Q (.int (hiC (zs.map (·.2)) gs c m z true)) H'
def JtK:Sp:=fun vs H Q _=>∃ (k b:Addr) (z:Str) (m:Nat) (r:Bool) (ps:List Str) (zs:List (V×(Str×Str))) (gs:List Str) (c:Int) (t n:Nat),vs=[.ref k,.str z,.int m,.str (hs r)]∧Bk K C CB H k b ps zs gs c t n∧m≤n∧m≤30∧z∈ps ∧
 ∀ H',Ji H H'→Q (.int (Zl (zs.map (·.2)) gs c m z r)) H'
def JrU:Sp:=fun vs H Q _=>∃ (k b:Addr) (m:Nat) (ps:List Str) (zs:List (V×(Str×Str))) (gs:List Str) (c:Int) (t n:Nat),vs=[.ref k,.int m]∧Bk K C CB H k b ps zs gs c t n∧m≤n∧m≤30 ∧
 ∀ a H',Ji H H'→JfU H' a ps (Zl (zs.map (·.2)) gs c m)→Q (.ref a) H'
def Jjb (x:Addr):Sp:=fun vs H Q E=>∃ (k b dx:Addr) (c t:Int) (ps:List Str) (zs:List (V×(Str×Str))) (gs:List Str),vs=[.ref k,.ref b,.int c,.int t]∧H k=some (.ins CB dx [])∧k≠b∧Bd K C H b ps zs gs ∧
 (¬ (0≤c∧c≤20)→E (.ref x) none H)∧(0≤c∧c≤20→¬ (0≤t∧t≤30)→E (.ref x) none H) ∧
 (0≤c∧c≤20→0≤t∧t≤30→∀ H',Yc k H H'→Bk K C CB H' k b ps zs gs c t.toNat (t.toNat + 1)→Q .non H')
def JoF (ps:List Str) (c:Int) (t:Nat) (z:Str) (m north:Int) (x:Str):Prop:=z∈ps∧(0≤m∧m≤t)∧(0≤north∧north≤c)∧Jat x=true
def Jhy (kP kR kH:Addr) (ps:List Str) (c:Int) (t:Nat) (z:Str) (m north:Int) (x:Str) (H:Hp) (E:XK):Prop :=
 (z∉ps→E (.ref kP) none H)∧(z∈ps→¬ (0≤m∧m≤t)→E (.ref kR) none H)∧(z∈ps→0≤m∧m≤t→¬ (0≤north∧north≤c)→E (.ref kR) none H)∧(z∈ps→0≤m∧m≤t→0≤north∧north≤c→Jat x=false→E (.ref kH) none H)
theorem Jqv {kP kR kH:Addr} {ps:List Str} {c:Int} {t:Nat} {z:Str} {m north:Int} {x:Str} {H:Hp} {E:XK} (h:JoF ps c t z m north x):Jhy kP kR kH ps c t z m north x H E :=
 ⟨fun z=>absurd h.1 z,fun _ z=>absurd h.2.1 z,fun _ _ z=>absurd h.2.2.1 z,fun _ _ _ z=>by rw [h.2.2.2] at z; cases z⟩
def JrR (kP kR kH:Addr):Sp:=fun vs H Q E=>∃ (k b:Addr) (z x:Str) (m north:Int) (ps:List Str) (zs:List (V×(Str×Str))) (gs:List Str) (c:Int) (t:Nat),vs=[.ref k,.str z,.int m,.int north,.str x]∧Yb z∧Yb x∧Bk K C CB H k b ps zs gs c t (t + 1) ∧
 Jhy kP kR kH ps c t z m north x H E∧(JoF ps c t z m north x→Q .non H)
def Jqe (kP kR kH:Addr):Sp:=fun vs H Q E=>∃ (k b:Addr) (z x:Str) (m north:Int) (ps:List Str) (zs:List (V×(Str×Str))) (gs:List Str) (c:Int) (t:Nat),vs=[.ref k,.str z,.int m,.int north,.str x]∧Yb z∧Yb x∧Bk K C CB H k b ps zs gs c t (t + 1) ∧
 Jhy kP kR kH ps c t z m north x H E∧(z∈ps→(0≤m∧m≤t)→(0≤north∧north≤c)→∀ r,x=hs r→∀ H',Ji H H'→Q (.str (hs (decide (Zl (zs.map (·.2)) gs c m.toNat z r≤north)))) H')
def Jj6 (zs:List (Str×Str)) (gs:List Str) (c:Int) (m:Nat) (z:Str) (r:Bool):V:=if Zl zs gs c m z r≤c then .int (Zl zs gs c m z r) else .non
def JrX (kP kR kH:Addr):Sp:=fun vs H Q E=>∃ (k b:Addr) (z x:Str) (m:Int) (ps:List Str) (zs:List (V×(Str×Str))) (gs:List Str) (c:Int) (t:Nat),vs=[.ref k,.str z,.int m,.str x]∧Yb z∧Yb x∧Bk K C CB H k b ps zs gs c t (t + 1) ∧
 Jhy kP kR kH ps c t z m c x H E∧(z∈ps→(0≤m∧m≤t)→∀ r,x=hs r→∀ H',Ji H H'→Q (Jj6 (zs.map (·.2)) gs c m.toNat z r) H')
def Y6 (zs:List (Str×Str)) (gs:List Str) (m:Nat) (z:Str):Prop:=z∈gs∨m=0∨JR zs z=[]
instance (zs:List (Str×Str)) (gs:List Str) (m:Nat) (z:Str):Decidable (Y6 zs gs m z):=by unfold Y6; exact inferInstance
theorem Jn5 {z:Str} {m:Nat} {zs:List (Str×Str)} {gs:List Str}:(Y6 zs gs m z→∃ x,Zk z (m:Int) zs gs=.str x)∧(¬ Y6 zs gs m z→Zk z (m:Int) zs gs=.non):=by
 unfold Zk Y6;by_cases hg:z∈gs
 ·rw [if_pos hg]; exact ⟨fun _=>⟨_,rfl⟩,fun h=>absurd (.inl hg) h⟩
 ·rw [if_neg hg];by_cases h0:(m:Int)=0∨JR zs z=[]
  ·rw [if_pos h0];refine ⟨fun _=>⟨_,rfl⟩,fun h=>absurd (.inr ?_) h⟩;rcases h0 with h0 | h0
   ·exact .inl (by omega)
   ·exact .inr h0
  ·rw [if_neg h0];refine ⟨fun h=>?_,fun _=>rfl⟩;rcases h with h | h | h
   ·exact absurd h hg
   ·exact absurd (.inl (by omega)) h0
   ·exact absurd (.inr h) h0
end
section
variable {P:Program} {w:World} {K:PySem.W.Frag} {mg:Str→Option Value} {base:Heap}
theorem ZI (T:Txt K mg):JC P w K mg base (Ys P w) 1 T.JdQ T.JcE ["number", "most"] (JtG T.Yj):=by
 refine T.Zg.F.ok1 JkI (fun vs H Q E h=>?_) (fun cdv A outer s H vs Q E hr h=>?_)
 ·obtain ⟨_,_,rfl,_⟩:=h;rfl
 ·obtain ⟨n,m,rfl,hm,q1,q2⟩:=h;refine ⟨_,(@Jg _ _ _ (@JL _ _ _ _ _ _ _ _ (@PW.pt _ _ _ (@Jbn _ _ _ _ _ _ _ (@Jx _ _ _ _ _ _ _ _ (@Jee _) (@pv _ 0 _ _ rfl (.inl rfl) rfl rfl) (@Je _ _ _ _) (JE _)) (@JaO _ _ _ _ (@Jx _ _ _ _ _ _ _ _ (@JiE _) (@pv _ 0 _ _ rfl (.inl rfl) rfl rfl) (@pv _ 1 _ _ rfl (.inl rfl) rfl rfl) (JE _))))) (@Jg _ _ _ (@JaQ _ _ _ _ _ _ _ _ _ T.Jd1 T.Jch JbK (@JbL _ _ _ _ _ _ (PJ.cons (@Jy _ _ _ _) (PJ.cons (@Jk4 _ _ _ _ (@pv _ 1 _ _ rfl (.inl rfl) rfl rfl)) PJ.nil)) rfl) rfl rfl (by decide) rfl)) (@Jw _))),?_⟩;have fm:∀ m:Nat,m < 31→(m:Int).natAbs.log2 < 1920∧(Str.empty ++ Str.ofString "it goes from 0 to " ++ Str.ofString (toString (m:Int))).length≤sizeLine:=by decide +kernel
  obtain ⟨m,rfl⟩:∃ j:Nat,m=(j:Int):=⟨m.toNat,by omega⟩
  have fm:=fm m (by omega);have bad:¬ (0≤n∧n≤m)→JmQ T.Yj E (JjK [tC (.str "it goes from 0 to "),Jo9 (fun σ H Q=>∃ v,σ[1]?=some (some v)∧Q v H)] Str.empty) { nx:=fun _ H'=>Q .non H',rt:=Q } [some (.int n),some (.int (m:Int))] H:=fun hb =>
   ⟨_,rfl,by decide +kernel,_,rfl,_,rfl,fm.1,_,rfl,fm.2,fm.2,q2 hb⟩
  refine ⟨_,rfl,_,_,rfl,rfl,_,rfl,Yt (fun c=>?_) (fun c=>?_)⟩
  ·exact Zh (bad fun z=>by have:=z.1; have:=of_decide_eq_true c; omega)
  refine ⟨_,rfl,_,rfl,_,_,rfl,rfl,_,rfl,Yt (fun d=>?_) (fun d=>?_)⟩
  ·exact bad fun z=>by have:=z.2; have:=of_decide_eq_true d; omega
  ·exact q1 ⟨Int.not_lt.mp fun z=>c (decide_eq_true z),Int.not_lt.mp fun z=>d (decide_eq_true z)⟩
theorem Jjj (T:Txt K mg):JC P w K mg base (Ys P w) 4 T.Jlt T.Jjw ["board", "place", "turns"] (Jr3 K T.JT T.Y1 T.Yj):=by
 refine T.JgR.F.ok1 Jsj (fun vs H Q E h=>?_) (fun cdv A outer s H vs Q E hr h=>?_)
 ·obtain ⟨_,_,_,_,_,_,rfl,_⟩:=h;rfl
 ·obtain ⟨b,z,n,ps,zs,gs,rfl,ht,hl,B,q1,q2,q3⟩:=h;refine ⟨_,(@Jd _ _ _ _ _ (@JP _ _ _ _ (@JD _ _ _ _ _ _ _ _ _ _ _ _ _ _ _ _ _ _ _ _ (@pv _ 0 _ _ rfl (.inl rfl) rfl rfl) T.YU T.J9.m (Zb T) (hr.mono (by decide)) T.J9.b .nil JY (@Ja _ _ _ _ _ (@pv _ 1 _ _ rfl (.inl rfl) rfl rfl) (@Jc _) rfl) rfl rfl rfl) rfl) (@Jd _ _ _ _ _ (@JP _ _ _ _ (@Jm _ _ _ _ _ _ _ _ _ _ _ _ _ _ _ T.Zg (ZI T) (hr.mono (by decide)) JY (@Ja _ _ _ _ _ (@pv _ 2 _ _ rfl (.inl rfl) rfl rfl) (@Ja _ _ _ _ _ (@ZH _ _ _ _ _ rfl T.ZP T.ZL (by decide)) (@Jc _) rfl) rfl) rfl (by decide) rfl rfl) rfl) (@Jd _ _ _ _ _ (@JL _ _ _ _ _ _ _ _ (@Zr _ _ _ (@JD _ _ _ _ _ _ _ _ _ _ _ _ _ _ _ _ _ _ _ _ (@pv _ 0 _ _ rfl (.inl rfl) rfl rfl) T.YU T.JaH.m (Jjl T) (hr.mono (by decide)) T.JaH.b .nil JY (@Ja _ _ _ _ _ (@pv _ 1 _ _ rfl (.inl rfl) rfl rfl) (@Jc _) rfl) rfl rfl rfl) (by intro _; rfl)) (@Jg _ _ _ (@Jq _ _ _ _ (@Jy _ _ _ _))) (@Jw _)) (@Jd _ _ _ _ _ (@JL _ _ _ _ _ _ _ _ (@PW.pt _ _ _ (@Jbn _ _ _ _ _ _ _ (@Jx _ _ _ _ _ _ _ _ (@Yi _) (@pv _ 2 _ _ rfl (.inl rfl) rfl rfl) (@Je _ _ _ _) (JE _)) (@JaO _ _ _ _ (@Jx _ _ _ _ _ _ _ _ (@Yi _) (@JB _ _ _ _ _ _ _ _ _ (@Yk _) rfl T.Zm PySem.boot_len (@Ja _ _ _ _ _ (@JD _ _ _ _ _ _ _ _ _ _ _ _ _ _ _ _ _ _ _ _ (@pv _ 0 _ _ rfl (.inl rfl) rfl rfl) T.YU T.Zu.m (Jdz T) (hr.mono (by decide)) T.Zu.b .nil JY (@Ja _ _ _ _ _ (@pv _ 1 _ _ rfl (.inl rfl) rfl rfl) (@Jc _) rfl) rfl rfl rfl) (@Jc _) rfl) (by decide) (by decide) rfl rfl) (@Je _ _ _ _) (JE _))))) (@Jg _ _ _ (@Jq _ _ _ _ (@Jy _ _ _ _))) (@Jw _)) (@Jg _ _ _ (@Jq _ _ _ _ (@Jbg _ _ _))))))),?_⟩;obtain ⟨dx,tp,tl,tg,hb,_⟩:=id B;refine ⟨_,rfl,b,dx,_,rfl,hb,rfl,_,rfl,b,z,ps,zs,gs,rfl,ht,B,fun hin=>?_,q1⟩;refine ⟨_,rfl,n,30,rfl,⟨by decide,by decide⟩,fun hn=>?_,q2 hin⟩;refine ⟨_,rfl,b,dx,_,rfl,hb,rfl,_,rfl,b,z,ps,zs,gs,rfl,ht,B,fun _=>⟨_,rfl,?_⟩,fun h=>absurd hin h⟩;have q:=q3 hin hn;by_cases hg:z∈gs
  ·refine ZE (decide_eq_true hg) ?_;have e:Zk z n (zs.map (·.2)) gs=.str "north":=by unfold Zk; rw [if_pos hg]
   rw [e] at q;exact q H (Ji.refl _)
  ·refine YN (decide_eq_false hg) ⟨_,rfl,rfl,_,rfl,?_⟩;by_cases h0:n=0
   ·have e:Zk z n (zs.map (·.2)) gs=.str "south":=by unfold Zk; rw [if_neg hg,if_pos (.inl h0)]
    rw [e] at q;exact ZE (by rw [h0]; exact decide_eq_true rfl) (Zh (q H (Ji.refl _)))
   ·refine YN (decide_eq_false fun e=>h0 (V.int.inj e)) ⟨_,rfl,b,dx,_,rfl,hb,rfl,_,rfl,b,z,ps,zs,gs,rfl,ht,hl,B,fun _ t H' e' ht'=>⟨t,_,rfl,.inr (J1.of ht'),rfl,_,rfl,?_⟩,fun h=>absurd hin h⟩;rw [List.length_map];by_cases hw:JR (zs.map (·.2)) z=[]
    ·have e:Zk z n (zs.map (·.2)) gs=.str "south":=by unfold Zk; rw [if_neg hg,if_pos (.inr hw)]
     rw [e] at q;exact ZE (by rw [hw]; exact decide_eq_true rfl) (q H' e')
    ·have e:Zk z n (zs.map (·.2)) gs=.non:=by unfold Zk; rw [if_neg hg,if_neg (fun h=>h.elim h0 hw)]
     rw [e] at q;refine YN (decide_eq_false fun e2=>?_) (q H' e');have e3:((JR (zs.map (·.2)) z).length:Int)=0:=V.int.inj e2;exact hw (List.length_eq_zero_iff.mp (by omega))
theorem Jdy (T:Txt K mg):JC P w K mg base (Ys P w) 1 T.Jfm T.JdE ["hand"] (Jmh T.Zs):=by
 refine T.Ja0.F.ok1 Jmk (fun vs H Q E h=>?_) (fun cdv A outer s H vs Q E hr h=>?_)
 ·obtain ⟨_,rfl,_⟩:=h;rfl
 ·obtain ⟨z,rfl,ht,q1,q2⟩:=h;refine ⟨_,(@Jg _ _ _ (@JL _ _ _ _ _ _ _ _ (@Jx _ _ _ _ _ _ _ _ (@JbZ _) (@pv _ 0 _ _ rfl (.inl rfl) rfl rfl) (@Zv _ _ _ _ rfl T.Jlf (by decide)) (by with_unfolding_all rfl)) (@Jg _ _ _ (@JaQ _ _ _ _ _ _ _ _ _ T.Jkv T.Jip JbK (@JbL _ _ _ _ _ _ (PJ.cons (@JeV _ _ _ _ (@pv _ 0 _ _ rfl (.inl rfl) rfl rfl)) (PJ.cons (@Jy _ _ _ _) PJ.nil)) rfl) rfl rfl (by decide) rfl)) (@Jw _))),?_⟩;refine ⟨_,rfl,T.JgO,_,rfl,.inr (T.Jiu H),rfl,rfl,_,rfl,?_⟩;rw [if_pos rfl,Jq6];have hz:=JfK ht;have e1:(Str.empty ++ reprText z).length=(reprText z).length:=by rw [strLen_append]; exact Nat.zero_add _
  cases hb:Jat z with
  | true=>exact YT (q1 hb)
  | false =>
   refine Zh ⟨_,rfl,z,rfl,Nat.le_trans hz (by decide),_,rfl,by rw [e1]; exact Nat.le_trans hz (by decide),_,rfl,?_,?_,q2 hb⟩
   all_goals
    rw [strLen_append,e1];refine Nat.le_trans (Nat.add_le_add_right hz _) (by decide)
theorem Jsz (T:Txt K mg):JC P w K mg base (Ys P w) 2 T.Jlp T.Jjs ["hand"] (JrT T.Zs):=by
 refine T.JlG.F.ok1 Jsh (fun vs H Q E h=>?_) (fun cdv A outer s H vs Q E hr h=>?_)
 ·obtain ⟨_,rfl,_⟩:=h;rfl
 ·obtain ⟨z,rfl,ht,q1,q2⟩:=h;refine ⟨_,(@Jd _ _ _ _ _ (@JP _ _ _ _ (@Jm _ _ _ _ _ _ _ _ _ _ _ _ _ _ _ T.Ja0 (Jdy T) (hr.mono (by decide)) JY (@Ja _ _ _ _ _ (@pv _ 0 _ _ rfl (.inl rfl) rfl rfl) (@Jc _) rfl) rfl (by decide) rfl rfl) rfl) (@Jg _ _ _ (@Jq _ _ _ _ (@JeW _ _ _ _ _ _ _ _ (@Jx _ _ _ _ _ _ _ _ (@Yi _) (@pv _ 0 _ _ rfl (.inl rfl) rfl rfl) (@Jy _ _ _ _) (JE _)) (@Jy _ _ _ _) (@Jy _ _ _ _))))),?_⟩;refine ⟨_,rfl,z,rfl,ht,fun hb=>?_,q2⟩;obtain ⟨b,rfl⟩:=JgI hb;refine ⟨_,rfl,rfl,_,rfl,?_⟩;rw [JsP];cases b with
  | true=>exact Zh (q1 true rfl)
  | false=>exact YT (q1 false rfl)
theorem Jk7 (T:Txt K mg):JC P w K mg base (Ys P w) 1 T.JdT T.JcH ["north", "south"] (JkF T.Yj):=by
 refine T.Jd5.F.ok1 JkJ (fun vs H Q E h=>?_) (fun cdv A outer s H vs Q E hr h=>?_)
 ·obtain ⟨_,_,rfl,_⟩:=h;rfl
 ·obtain ⟨n,s,rfl,q1,q2⟩:=h;refine ⟨_,(@Jg _ _ _ (@JL _ _ _ _ _ _ _ _ (@PW.pt _ _ _ (@Jbn _ _ _ _ _ _ _ (@Jx _ _ _ _ _ _ _ _ (@Jee _) (@pv _ 0 _ _ rfl (.inl rfl) rfl rfl) (@Je _ _ _ _) (JE _)) (@Jbn _ _ _ _ _ _ _ (@Jx _ _ _ _ _ _ _ _ (@Jee _) (@pv _ 1 _ _ rfl (.inl rfl) rfl rfl) (@Je _ _ _ _) (JE _)) (@JaO _ _ _ _ (@Jx _ _ _ _ _ _ _ _ (@JiE _) (@Jo _ _ _ _ _ _ _ _ (@Ye _) (@pv _ 0 _ _ rfl (.inl rfl) rfl rfl) (@pv _ 1 _ _ rfl (.inl rfl) rfl rfl)) (@ZH _ _ _ _ _ rfl T.Z9 T.Z7 (by decide)) (JE _)))))) (@Jg _ _ _ (@JaQ _ _ _ _ _ _ _ _ _ T.Jd1 T.Jch JbK (@JbL _ _ _ _ _ _ (PJ.cons (@Jy _ _ _ _) (PJ.cons (@Jk4 _ _ _ _ (@ZH _ _ _ _ _ rfl T.Z9 T.Z7 (by decide))) PJ.nil)) rfl) rfl rfl (by decide) rfl)) (@Jw _))),?_⟩;have bad:¬ ZW n s→JmQ T.Yj E (JjK [tC (.str "coins go from 0, both hands' together to "),Jo9 (tC (.int 20))] Str.empty) { nx:=fun _ H'=>Q .non H',rt:=Q } [some (.int n),some (.int s)] H:=fun hb =>
   ⟨_,rfl,by decide +kernel,_,rfl,by decide +kernel,_,rfl,by decide +kernel,by decide +kernel,q2 hb⟩
  refine ⟨_,rfl,_,_,rfl,rfl,_,rfl,Yt (fun c=>?_) (fun c=>?_)⟩
  ·exact Zh (bad fun z=>by have:=z.1; have:=of_decide_eq_true c; omega)
  refine ⟨_,rfl,_,_,rfl,rfl,_,rfl,Yt (fun d=>?_) (fun d=>?_)⟩
  ·exact Zh (bad fun z=>by have:=z.2.1; have:=of_decide_eq_true d; omega)
  refine ⟨_,rfl,_,rfl,_,_,rfl,rfl,_,_,rfl,rfl,_,rfl,Yt (fun e=>?_) (fun e=>?_)⟩
  ·exact bad fun z=>by have:=z.2.2; have:=of_decide_eq_true e; omega
  ·refine q1 ⟨?_,?_,?_⟩
   ·exact Int.not_lt.mp fun z=>c (decide_eq_true z)
   ·exact Int.not_lt.mp fun z=>d (decide_eq_true z)
   ·exact Int.not_lt.mp fun z=>e (decide_eq_true z)
theorem Jb1 (T:Txt K mg):JC P w K mg base YJ 4 T.Zj T.Ze ["self", "place", "turns"] (JuE K T.JT T.J0):=by
 refine T.YQ.F.ok Z1 (fun vs H Q E h=>?_) (fun cdv A outer s H vs Q E hr h=>?_)
 ·obtain ⟨_,_,_,_,_,_,_,_,_,_,rfl,_⟩:=h;rfl
 ·obtain ⟨k,b,z,m,ps,zs,gs,c,t,n,rfl,B,hm,hz,hw,q⟩:=h;have hu:=JcX hr;refine ⟨_,(@Jd _ _ _ _ _ (@Jz _ _ 3 _ _ _ _ Z1.nd rfl (Or.inr rfl) (@JM _ _ _ _ _ _ _ (@JV _) (@J5 _ _ _ _ _ (@pv _ 0 _ _ rfl (.inl rfl) rfl rfl) rfl) (@Jo _ _ _ _ _ _ _ _ (@JaS _) (@pv _ 2 _ _ rfl (.inl rfl) rfl rfl) (@Je _ _ _ _)) (fun _ _=>rfl)) rfl (by first | exact .inl rfl | exact .inr rfl | assumption)) (@Jg _ _ _ (@Jq _ _ _ _ (@JB _ _ _ _ _ _ _ _ _ (@Jrq _ rfl) rfl T.Jpw PyProof.Rows.boot_min (@Ja _ _ _ _ _ (@Jg1 _ _ _ _ _ _ _ 1 ["way", "behind"] [3] _ _ _ _ ["self", "place", "turns", "behind"] ((Jk YM).names) (by decide +kernel) (@JhI _ _ _ _ (@JD _ _ _ _ _ _ _ _ _ _ _ _ _ _ _ _ _ _ _ _ (@J5 _ _ _ _ _ (@pv _ 0 _ _ rfl (.inl rfl) rfl rfl) rfl) T.YU T.Zu.m (Jdz T) (hr.mono (by decide)) T.Zu.b .nil Zp (@Ja _ _ _ _ _ (@pv _ 1 _ _ rfl (.inl rfl) rfl rfl) (@Jc _) rfl) rfl rfl rfl)) (fun _ _ _ _=>(@Jar _ _ _ _ _ _ _ _ _ 0 (by decide +kernel) rfl rfl)) (fun _ _ _ _=>(@Jeq _)) (fun _ _ _ _=>(@JgB _ _ _ _ _ _ hu (@JaR _ _ _ _ _ _ _ _ _ 1 rfl rfl (by decide) (by decide)) (@YR _ _ _ _ _ (@Ja _ _ _ _ _ (@ZN _ _ _ _ _ _ _ _ _ 0 rfl rfl (by decide) (by decide)) (@Ja _ _ _ _ _ (@Jy _ _ _ _) (@Jc _) rfl) rfl)) (fun _ _=>rfl))) rfl rfl rfl (by intro _; rfl)) (@Jc _) rfl) (by decide) (by decide) rfl rfl)))),?_⟩;obtain ⟨dx,l,rs,h1,h2,h3,h4⟩:=B.at_;obtain ⟨a,ha⟩:∃ a,rs[m]?=some a:=⟨_,List.getElem?_eq_getElem (by omega)⟩
  obtain ⟨kvs,hk1,hk2⟩:=h4 m a ha;obtain ⟨bdx,tp,tl,tg,hb,_⟩:=id B.B.B;have hwl:=JlK B.B.G z;have hat:Z3 (rs.map V.ref) ((m:Int) + 1 - 1)=some (.ref a):=by
   rw [Int.add_sub_cancel]; exact YX (by rw [List.getElem?_map,ha]; rfl)
  refine ⟨_,rfl,k,_,dx,_,.ref l,rfl,h1,T.Ym,T.Zz,rfl,_,rfl,_,_,rfl,rfl,l,_,_,.ref a,rfl,rfl,JA.of h2,hat,?_⟩;refine ⟨_,rfl,k,_,dx,_,.ref b,rfl,h1,T.Ym,T.ZA,rfl,b,bdx,_,rfl,hb,rfl,_,rfl,b,z,ps,zs,gs,rfl,Yo (B.B.G.p3 z hz),B.B.zl,B.B.B,fun _ tw H1 e1 ht=>?_,fun h=>absurd hz h⟩;refine ⟨tw,rfl,⟨_,J1.of ht⟩,fun D hD=>?_⟩;refine Jjz (xs:=(JR (zs.map (·.2)) z).map V.str) (fun i ys H2=>Ji H1 H2∧H2 D=some (.lst ys)∧ys=((JR (zs.map (·.2)) z).take i).map fun w=>V.int (Zl (zs.map (·.2)) gs c m w false)) rfl (fun i ys H2 p=>J1.of (p.1 _ _ ht)) ⟨Ji.upd hD,Jj,by simp⟩ (fun i ys H2 p=>p.2.1) ?_ ?_
  ·rintro i x ys H2 hx ⟨e2,hy,rfl⟩;rw [List.getElem?_map] at hx;obtain ⟨w',hw1,rfl⟩:=Option.map_eq_some_iff.mp hx;have hin:=JoD B.B.G (List.mem_of_getElem? hw1);refine tcT ?_;refine ⟨_,rfl,_,rfl,by show 2≤sizeLine; decide,fun p hp=>?_⟩;have g:=JaA.t (k:=Jab w' false) ((Ji.upd (o:=.tup [.str w',.str "south"]) hp) _ _ (e2 _ _ (e1 _ _ hk1))) (show upd H2 p (.tup [.str w',.str "south"]) p=some (.tup ((Jab w' false).map kV)) from Jj);rw [hk2 w' hin false] at g;have hDp:D≠p:=Ju hy hp;refine ⟨a,_,rfl,g,by rw [Js hDp]; exact hy,?_,fun b' u e=>?_,Jj,?_⟩
   ·rw [List.length_map,List.length_take];refine Nat.lt_of_le_of_lt (Nat.min_le_right _ _) (Nat.lt_of_le_of_lt hwl (by decide))
   ·rw [Js (Ju e hD),Js (Ju (e2 _ _ e) hp)]; exact e2 b' u e
   ·rw [List.take_succ,hw1,List.map_append]; rfl
  ·rintro ys H2 ⟨e2,hy,rfl⟩;rw [List.length_map,List.take_length] at hy;have e:((JR (zs.map (·.2)) z).map fun w=>V.int (Zl (zs.map (·.2)) gs c m w false))=((JR (zs.map (·.2)) z).map fun w=>Zl (zs.map (·.2)) gs c m w false).map V.int:=by rw [List.map_map]; rfl
   rw [e] at hy;refine ⟨D,_,rfl,JA.of hy,?_,fun M hM1 hM2=>?_⟩
   ·rw [List.length_map]; exact List.length_pos_iff.mpr hw
   ·rw [Jud hM1 hM2]; exact q H2 (e1.trans e2)
theorem Jb0 (T:Txt K mg):JC P w K mg base YJ 4 T.Zi T.Zd ["self", "place", "turns"] (JuD K T.JT T.J0):=by
 refine T.YO.F.ok Z0 (fun vs H Q E h=>?_) (fun cdv A outer s H vs Q E hr h=>?_)
 ·obtain ⟨_,_,_,_,_,_,_,_,_,_,rfl,_⟩:=h;rfl
 ·obtain ⟨k,b,z,m,ps,zs,gs,c,t,n,rfl,B,hm,hz,hw,q⟩:=h;have hu:=JcX hr;refine ⟨_,(@Jd _ _ _ _ _ (@Jz _ _ 3 _ _ _ _ Z0.nd rfl (Or.inr rfl) (@JM _ _ _ _ _ _ _ (@JV _) (@J5 _ _ _ _ _ (@pv _ 0 _ _ rfl (.inl rfl) rfl rfl) rfl) (@Jo _ _ _ _ _ _ _ _ (@JaS _) (@pv _ 2 _ _ rfl (.inl rfl) rfl rfl) (@Je _ _ _ _)) (fun _ _=>rfl)) rfl (by first | exact .inl rfl | exact .inr rfl | assumption)) (@Jg _ _ _ (@Jq _ _ _ _ (@JB _ _ _ _ _ _ _ _ _ (@Jrs _ rfl) rfl T.Jj3 PyProof.Rows.boot_max (@Ja _ _ _ _ _ (@Jg1 _ _ _ _ _ _ _ 1 ["way", "behind"] [3] _ _ _ _ ["self", "place", "turns", "behind"] ((Jk YL).names) (by decide +kernel) (@JhI _ _ _ _ (@JD _ _ _ _ _ _ _ _ _ _ _ _ _ _ _ _ _ _ _ _ (@J5 _ _ _ _ _ (@pv _ 0 _ _ rfl (.inl rfl) rfl rfl) rfl) T.YU T.Zu.m (Jdz T) (hr.mono (by decide)) T.Zu.b .nil Zp (@Ja _ _ _ _ _ (@pv _ 1 _ _ rfl (.inl rfl) rfl rfl) (@Jc _) rfl) rfl rfl rfl)) (fun _ _ _ _=>(@Jar _ _ _ _ _ _ _ _ _ 0 (by decide +kernel) rfl rfl)) (fun _ _ _ _=>(@Jeq _)) (fun _ _ _ _=>(@JgB _ _ _ _ _ _ hu (@JaR _ _ _ _ _ _ _ _ _ 1 rfl rfl (by decide) (by decide)) (@YR _ _ _ _ _ (@Ja _ _ _ _ _ (@ZN _ _ _ _ _ _ _ _ _ 0 rfl rfl (by decide) (by decide)) (@Ja _ _ _ _ _ (@Jy _ _ _ _) (@Jc _) rfl) rfl)) (fun _ _=>rfl))) rfl rfl rfl (by intro _; rfl)) (@Jc _) rfl) (by decide) (by decide) rfl rfl)))),?_⟩;obtain ⟨dx,l,rs,h1,h2,h3,h4⟩:=B.at_;obtain ⟨a,ha⟩:∃ a,rs[m]?=some a:=⟨_,List.getElem?_eq_getElem (by omega)⟩
  obtain ⟨kvs,hk1,hk2⟩:=h4 m a ha;obtain ⟨bdx,tp,tl,tg,hb,_⟩:=id B.B.B;have hwl:=JlK B.B.G z;have hat:Z3 (rs.map V.ref) ((m:Int) + 1 - 1)=some (.ref a):=by
   rw [Int.add_sub_cancel]; exact YX (by rw [List.getElem?_map,ha]; rfl)
  refine ⟨_,rfl,k,_,dx,_,.ref l,rfl,h1,T.Ym,T.Zz,rfl,_,rfl,_,_,rfl,rfl,l,_,_,.ref a,rfl,rfl,JA.of h2,hat,?_⟩;refine ⟨_,rfl,k,_,dx,_,.ref b,rfl,h1,T.Ym,T.ZA,rfl,b,bdx,_,rfl,hb,rfl,_,rfl,b,z,ps,zs,gs,rfl,Yo (B.B.G.p3 z hz),B.B.zl,B.B.B,fun _ tw H1 e1 ht=>?_,fun h=>absurd hz h⟩;refine ⟨tw,rfl,⟨_,J1.of ht⟩,fun D hD=>?_⟩;refine Jjz (xs:=(JR (zs.map (·.2)) z).map V.str) (fun i ys H2=>Ji H1 H2∧H2 D=some (.lst ys)∧ys=((JR (zs.map (·.2)) z).take i).map fun w=>V.int (Zl (zs.map (·.2)) gs c m w true)) rfl (fun i ys H2 p=>J1.of (p.1 _ _ ht)) ⟨Ji.upd hD,Jj,by simp⟩ (fun i ys H2 p=>p.2.1) ?_ ?_
  ·rintro i x ys H2 hx ⟨e2,hy,rfl⟩;rw [List.getElem?_map] at hx;obtain ⟨w',hw1,rfl⟩:=Option.map_eq_some_iff.mp hx;have hin:=JoD B.B.G (List.mem_of_getElem? hw1);refine tcT ?_;refine ⟨_,rfl,_,rfl,by show 2≤sizeLine; decide,fun p hp=>?_⟩;have g:=JaA.t (k:=Jab w' true) ((Ji.upd (o:=.tup [.str w',.str "north"]) hp) _ _ (e2 _ _ (e1 _ _ hk1))) (show upd H2 p (.tup [.str w',.str "north"]) p=some (.tup ((Jab w' true).map kV)) from Jj);rw [hk2 w' hin true] at g;have hDp:D≠p:=Ju hy hp;refine ⟨a,_,rfl,g,by rw [Js hDp]; exact hy,?_,fun b' u e=>?_,Jj,?_⟩
   ·rw [List.length_map,List.length_take];refine Nat.lt_of_le_of_lt (Nat.min_le_right _ _) (Nat.lt_of_le_of_lt hwl (by decide))
   ·rw [Js (Ju e hD),Js (Ju (e2 _ _ e) hp)]; exact e2 b' u e
   ·rw [List.take_succ,hw1,List.map_append]; rfl
  ·rintro ys H2 ⟨e2,hy,rfl⟩;rw [List.length_map,List.take_length] at hy;have e:((JR (zs.map (·.2)) z).map fun w=>V.int (Zl (zs.map (·.2)) gs c m w true))=((JR (zs.map (·.2)) z).map fun w=>Zl (zs.map (·.2)) gs c m w true).map V.int:=by rw [List.map_map]; rfl
   rw [e] at hy;refine ⟨D,_,rfl,JA.of hy,?_,fun M hM1 hM2=>?_⟩
   ·rw [List.length_map]; exact List.length_pos_iff.mpr hw
   ·rw [Juf hM1 hM2]; exact q H2 (e1.trans e2)
theorem Jj0 (T:Txt K mg):JC P w K mg base YJ 5 T.JcS T.Jcb ["self", "place", "turns", "ribbon"] (JtK K T.JT T.J0):=by
 refine T.Ja7.F.ok JaB (fun vs H Q E h=>?_) (fun cdv A outer s H vs Q E hr h=>?_)
 ·obtain ⟨_,_,_,_,_,_,_,_,_,_,_,rfl,_⟩:=h;rfl
 ·obtain ⟨k,b,z,m,r,ps,zs,gs,c,t,n,rfl,B,hm,hm2,hz,q⟩:=h;refine ⟨_,(@Jd _ _ _ _ _ (@Jz _ _ 4 _ _ _ _ JaB.nd rfl (Or.inl rfl) (@Jm _ _ _ _ _ _ _ _ _ _ _ _ _ _ _ T.JgR (Jjj T) (hr.mono (by decide)) Zp (@Ja _ _ _ _ _ (@J5 _ _ _ _ _ (@pv _ 0 _ _ rfl (.inl rfl) rfl rfl) rfl) (@Ja _ _ _ _ _ (@pv _ 1 _ _ rfl (.inl rfl) rfl rfl) (@Ja _ _ _ _ _ (@pv _ 2 _ _ rfl (.inl rfl) rfl rfl) (@Jc _) rfl) rfl) rfl) rfl (by decide) rfl rfl) rfl (.inl rfl)) (@Jd _ _ _ _ _ (@JL _ _ _ _ _ _ _ _ (@Jbf _ _ _ _ _ _ (@JiD _ _ _ _ _ (@pv _ 4 _ _ rfl (.inl rfl) rfl rfl)) (by first | exact Zc _ (by decide) (by decide) | rfl)) (@Jg _ _ _ (@Jq _ _ _ _ (@JeW _ _ _ _ _ _ _ _ (@Jx _ _ _ _ _ _ _ _ (@Yi _) (@pv _ 4 _ _ rfl (.inl rfl) rfl rfl) (@Jy _ _ _ _) (JE _)) (@Je _ _ _ _) (@Jo _ _ _ _ _ _ _ _ (@Ye _) (@J5 _ _ _ _ _ (@pv _ 0 _ _ rfl (.inl rfl) rfl rfl) rfl) (@Je _ _ _ _))))) (@Jw _)) (@Jd _ _ _ _ _ (@Jz _ _ 5 _ _ _ _ JaB.nd rfl (Or.inl rfl) (@JD _ _ _ _ _ _ _ _ _ _ _ _ _ _ _ _ _ _ _ _ (@pv _ 0 _ _ rfl (.inl rfl) rfl rfl) T.Ym T.YQ.m (Jb1 T) (hr.mono (by decide)) T.YQ.b .nil JG (@Ja _ _ _ _ _ (@pv _ 1 _ _ rfl (.inl rfl) rfl rfl) (@Ja _ _ _ _ _ (@pv _ 2 _ _ rfl (.inl rfl) rfl rfl) (@Jc _) rfl) rfl) rfl rfl rfl) rfl (.inl rfl)) (@Jd _ _ _ _ _ (@Jz _ _ 6 _ _ _ _ JaB.nd rfl (Or.inl rfl) (@JD _ _ _ _ _ _ _ _ _ _ _ _ _ _ _ _ _ _ _ _ (@pv _ 0 _ _ rfl (.inl rfl) rfl rfl) T.Ym T.YO.m (Jb0 T) (hr.mono (by decide)) T.YO.b .nil JG (@Ja _ _ _ _ _ (@pv _ 1 _ _ rfl (.inl rfl) rfl rfl) (@Ja _ _ _ _ _ (@pv _ 2 _ _ rfl (.inl rfl) rfl rfl) (@Jc _) rfl) rfl) rfl rfl rfl) rfl (.inl rfl)) (@Jd _ _ _ _ _ (@JL _ _ _ _ _ _ _ _ (@Jx _ _ _ _ _ _ _ _ (@Yi _) (@pv _ 3 _ _ rfl (.inl rfl) rfl rfl) (@Jy _ _ _ _) (JE _)) (@Jg _ _ _ (@Jq _ _ _ _ (@JB _ _ _ _ _ _ _ _ _ (@Jik _ rfl) rfl T.Jj3 PyProof.Rows.boot_max (@Ja _ _ _ _ _ (@pv _ 5 _ _ rfl (.inl rfl) rfl rfl) (@Ja _ _ _ _ _ (@Jo _ _ _ _ _ _ _ _ (@YK _) (@Jo _ _ _ _ _ _ _ _ (@Ye _) (@pv _ 5 _ _ rfl (.inl rfl) rfl rfl) (@pv _ 6 _ _ rfl (.inl rfl) rfl rfl)) (@Je _ _ _ _)) (@Jc _) rfl) rfl) (by decide) (by decide) rfl rfl))) (@Jw _)) (@Jg _ _ _ (@Jq _ _ _ _ (@JB _ _ _ _ _ _ _ _ _ (@Jrr _ rfl) rfl T.Jpw PyProof.Rows.boot_min (@Ja _ _ _ _ _ (@pv _ 6 _ _ rfl (.inl rfl) rfl rfl) (@Ja _ _ _ _ _ (@Jo _ _ _ _ _ _ _ _ (@YK _) (@Jo _ _ _ _ _ _ _ _ (@Ye _) (@Jo _ _ _ _ _ _ _ _ (@Ye _) (@pv _ 5 _ _ rfl (.inl rfl) rfl rfl) (@pv _ 6 _ _ rfl (.inl rfl) rfl rfl)) (@Je _ _ _ _)) (@Je _ _ _ _)) (@Jc _) rfl) rfl) (by decide) (by decide) rfl rfl)))))))),?_⟩;obtain ⟨dx,l,rs,h1,h2,h3,h4⟩:=B.at_;refine ⟨_,rfl,k,_,dx,_,.ref b,rfl,h1,T.Ym,T.ZA,rfl,_,rfl,_,rfl,b,z,m,ps,zs,gs,rfl,Yo (B.B.G.p3 z hz),B.B.zl,B.B.B,fun h=>absurd hz h,fun _ h=>absurd (by omega) h,fun _ _ H1 e1=>?_⟩;by_cases hg:z∈gs
  ·have ev:Zk z m (zs.map (·.2)) gs=.str "north":=by unfold Zk; rw [if_pos hg]
   rw [ev];have en:Zl (zs.map (·.2)) gs c m z r=0:=JhU (decide_eq_true hg);rw [en] at q;exact ⟨_,rfl,_,rfl,Zh ⟨_,rfl,rfl,_,rfl,Zh (q H1 e1)⟩⟩
  ·by_cases h0:(m:Int)=0∨JR (zs.map (·.2)) z=[]
   ·have ev:Zk z m (zs.map (·.2)) gs=.str "south":=by unfold Zk; rw [if_neg hg,if_pos h0]
    rw [ev];have en:Zl (zs.map (·.2)) gs c m z r=c + 1:=by
     rcases h0 with h0 | h0
     ·have:m=0:=by omega
      subst this;exact JqM (decide_eq_false hg)
     ·exact JhT (decide_eq_false hg) h0
    rw [en] at q;exact ⟨_,rfl,_,rfl,Zh ⟨_,rfl,rfl,_,rfl,YT ⟨_,rfl,k,_,dx,_,.int c,rfl,e1 _ _ h1,T.Ym,T.ZV,rfl,_,_,rfl,rfl,q H1 e1⟩⟩⟩
   ·have ev:Zk z m (zs.map (·.2)) gs=.non:=by unfold Zk; rw [if_neg hg,if_neg h0]
    rw [ev];obtain ⟨j,rfl⟩:∃ j,m=j + 1:=⟨m - 1,by omega⟩
    have hw:JR (zs.map (·.2)) z≠[]:=fun e=>h0 (.inr e)
    refine ⟨_,rfl,_,rfl,YT ?_⟩;refine ⟨_,rfl,k,dx,_,rfl,e1 _ _ h1,rfl,_,rfl,_,rfl,k,b,z,j,ps,zs,gs,c,t,n,rfl,B.same e1,by omega,hz,hw,fun H2 e2=>?_⟩;have e12:=e1.trans e2;refine ⟨_,rfl,k,dx,_,rfl,e12 _ _ h1,rfl,_,rfl,_,rfl,k,b,z,j,ps,zs,gs,c,t,n,rfl,B.same e12,by omega,hz,hw,fun H3 e3=>?_⟩;have q:=q H3 (e12.trans e3);refine ⟨_,rfl,rfl,_,rfl,?_⟩;rw [JsP];cases r with
    | true =>
     rw [Zl,JqO (W:=JR (zs.map (·.2))) (g:=fun p=>decide (p∈gs)) (p:=z) (decide_eq_false hg) hw] at q;exact Zh ⟨_,rfl,_,rfl,_,rfl,_,_,rfl,rfl,_,_,rfl,rfl,⟨by decide,by decide⟩,_,_,rfl,q⟩
    | false =>
     rw [Zl,JqN (W:=JR (zs.map (·.2))) (g:=fun p=>decide (p∈gs)) (p:=z) (decide_eq_false hg) hw] at q;exact YT ⟨_,rfl,_,rfl,_,rfl,_,_,rfl,rfl,_,_,rfl,rfl,_,_,rfl,rfl,⟨by decide,by decide⟩,_,_,rfl,q⟩
theorem JhQ (T:Txt K mg):JC P w K mg base YJ 6 T.Jbe T.JaY ["self", "turns"] (JrU K T.JT T.J0):=by
 refine T.Z6.F.ok ZZ (fun vs H Q E h=>?_) (fun cdv A outer s H vs Q E hr h=>?_)
 ·obtain ⟨_,_,_,_,_,_,_,_,_,rfl,_⟩:=h;rfl
 ·obtain ⟨k,b,m,ps,zs,gs,c,t,n,rfl,B,hm,hm2,q⟩:=h;have hu:=JcX hr;have szl:sizeLine=16777216:=sizeLine_eq;refine ⟨_,(@Jd _ _ _ _ _ (@Jz _ _ 2 _ _ _ _ ZZ.nd rfl (Or.inl rfl) (@Jss _ _) rfl (.inl rfl)) (@Jd _ _ _ _ _ (@ZC _ _ _ _ _ _ _ _ PassesOwn.never rfl (@JhI _ _ _ _ (@J5 _ _ _ _ _ (@J5 _ _ _ _ _ (@pv _ 0 _ _ rfl (.inl rfl) rfl rfl) rfl) rfl)) (@YA _ _ 3 _ ZZ.nd rfl (Or.inl rfl) (.inl rfl)) (@Jg _ _ _ (@ZC _ _ _ _ _ _ _ _ PassesOwn.never rfl (@JhI _ _ _ _ (@Zv _ _ _ _ rfl T.Jlf (by decide))) (@YA _ _ 4 _ ZZ.nd rfl (Or.inl rfl) (.inl rfl)) (@Jg _ _ _ (@Jk1 _ _ _ _ _ _ _ _ _ hu (@pv _ 2 _ _ rfl (.inl rfl) rfl rfl) (@YR _ _ _ _ _ (@Ja _ _ _ _ _ (@pv _ 3 _ _ rfl (.inl rfl) rfl rfl) (@Ja _ _ _ _ _ (@pv _ 4 _ _ rfl (.inl rfl) rfl rfl) (@Jc _) rfl) rfl)) (@JD _ _ _ _ _ _ _ _ _ _ _ _ _ _ _ _ _ _ _ _ (@pv _ 0 _ _ rfl (.inl rfl) rfl rfl) T.Ym T.Ja7.m (Jj0 T) (hr.mono (by decide)) T.Ja7.b .nil JG (@Ja _ _ _ _ _ (@pv _ 3 _ _ rfl (.inl rfl) rfl rfl) (@Ja _ _ _ _ _ (@pv _ 1 _ _ rfl (.inl rfl) rfl rfl) (@Ja _ _ _ _ _ (@pv _ 4 _ _ rfl (.inl rfl) rfl rfl) (@Jc _) rfl) rfl) rfl) rfl rfl rfl) rfl)) (by intro _; rfl))) (by intro _; rfl)) (@Jg _ _ _ (@Jq _ _ _ _ (@pv _ 2 _ _ rfl (.inl rfl) rfl rfl))))),?_⟩;obtain ⟨dx,l,rs,h1,h2,h3,h4⟩:=B.at_;obtain ⟨bdx,tp,tl,tg,hb,hp,_⟩:=id B.B.B;intro d hd;have kp:∀ {H2:Hp} {kvs:List (List JI×V)},Ji H H2→Ji H (upd H2 d (.dT kvs)):=fun e b' u h=>by rw [Js (Ju h hd)]; exact e b' u h
  refine ⟨_,rfl,k,_,dx,_,.ref b,rfl,kp (Ji.refl _) _ _ h1,T.Ym,T.ZA,rfl,b,_,bdx,_,.ref tp,rfl,kp (Ji.refl _) _ _ hb,T.YU,T.JaF,rfl,tp,rfl,⟨_,J1.of (kp (Ji.refl _) _ _ hp)⟩,?_⟩;refine JoP (xs:=ps.map V.str) (fun i σ H2=>∃ kvs v1 v2,Ji H H2∧H2 d=some (.dT kvs)∧kvs.length≤2 * i∧(∀ p∈ps.take i,∀ r,J2 kvs (Jab p r)=some (.int (Zl (zs.map (·.2)) gs c m p r)))∧σ=[some (.ref k),some (.int m),some (.ref d),v1,v2])
   ⟨[],none,none,kp (Ji.refl _),Jj,Nat.zero_le _,fun p hp=>by simp at hp,rfl⟩ (fun i σ H2 _ h=>by obtain ⟨_,_,_,e,_⟩:=h; exact J1.of (e _ _ hp)) ?_ ?_
  ·rintro i x σ H2 hx ⟨kvs,v1,v2,e2,hd2,hl2,hv2,rfl⟩;rw [List.getElem?_map] at hx;obtain ⟨p,hp1,rfl⟩:=Option.map_eq_some_iff.mp hx;have hpm:=List.mem_of_getElem? hp1;refine ⟨T.JgO,rfl,⟨_,T.Jiu _⟩,?_⟩;refine JoP (xs:=[.str "north",.str "south"]) (fun j σ H3=>∃ kvs v2,Ji H H3∧H3 d=some (.dT kvs)∧kvs.length≤2 * i + j∧(∀ p∈ps.take i,∀ r,J2 kvs (Jab p r)=some (.int (Zl (zs.map (·.2)) gs c m p r))) ∧
     (0 < j→J2 kvs (Jab p true)=some (.int (Zl (zs.map (·.2)) gs c m p true)))∧(1 < j→J2 kvs (Jab p false)=some (.int (Zl (zs.map (·.2)) gs c m p false)))∧σ=[some (.ref k),some (.int m),some (.ref d),some (.str p),v2])
    ⟨kvs,v2,e2,hd2,by omega,hv2,fun z=>absurd z (by decide),fun z=>absurd z (by decide),rfl⟩ (fun i σ H2 _ h=>T.Jiu _) ?_ ?_
   ·rintro j y σ H3 hy ⟨kvs,v2,e3,hd3,hl3,hv3,hn3,hs3,rfl⟩;obtain ⟨r,rfl,hrj⟩:∃ r:Bool,y=.str (hs r)∧((r=true∧j=0)∨(r=false∧j=1)):=by
     match j,hy with
     | 0,h=>exact ⟨true,(Option.some.inj h).symm,.inl ⟨rfl,rfl⟩⟩
     | 1,h=>exact ⟨false,(Option.some.inj h).symm,.inr ⟨rfl,rfl⟩⟩
     | j + 2,h=>cases h
    refine ⟨_,rfl,k,dx,_,rfl,e3 _ _ h1,rfl,_,rfl,_,rfl,_,rfl,k,b,p,m,r,ps,zs,gs,c,t,n,rfl,B.same e3,hm,hm2,hpm,fun H4 e4=>?_⟩;refine ⟨_,rfl,_,rfl,_,rfl,by show 2≤sizeLine; decide,fun tp4 n4=>?_⟩;have hd4:upd H4 tp4 (.tup [.str p,.str (hs r)]) d=some (.dT kvs):=(Ji.upd n4) _ _ (e4 _ _ hd3);have hlen:ps.length≤12:=B.B.G.p2;have hil:i < ps.length:=(List.getElem?_eq_some_iff.mp hp1).1;have hj2:j≤1:=by rcases hrj with h | h <;> omega
    refine ⟨d,_,rfl,Jhj.t (k:=Jab p r) hd4 (show upd H4 tp4 (.tup [.str p,.str (hs r)]) tp4=some (.tup ((Jab p r).map kV)) from Jj) (by omega),_,_,kp ((e3.trans e4).trans (Ji.upd n4)),Jj,?_,fun p' hp' r'=>?_,fun h=>?_,fun h=>?_,rfl⟩
    ·unfold JaP;split
     ·rw [List.length_map]; omega
     ·rw [List.length_append,List.length_singleton]; omega
    ·rw [Ji8];by_cases hk:Jab p' r'=Jab p r
     ·obtain ⟨rfl,rfl⟩:=Joc hk;rw [if_pos rfl]
     ·rw [if_neg hk]; exact hv3 p' hp' r'
    ·rw [Ji8];rcases hrj with ⟨rfl,rfl⟩ | ⟨rfl,rfl⟩
     ·rw [if_pos rfl]
     ·rw [if_neg (fun e=>by have:=(Joc e).2; cases this)]; exact hn3 (by decide)
    ·rcases hrj with ⟨rfl,rfl⟩ | ⟨rfl,rfl⟩
     ·exact absurd h (by decide)
     ·rw [Ji8,if_pos rfl]
   ·rintro σ H3 ⟨kvs,v2,e3,hd3,hl3,hv3,hn3,hs3,rfl⟩;refine ⟨kvs,_,_,e3,hd3,by have:[V.str "north",V.str "south"].length=2:=rfl; omega,fun p' hp' r=>?_,rfl⟩;rw [List.take_succ,hp1] at hp';rcases List.mem_append.mp hp' with h | h
    ·exact hv3 p' h r
    ·have h:p'=p:=by simpa using h
     subst h;cases r with
     | true=>exact hn3 (by decide)
     | false=>exact hs3 (by decide)
  ·rintro σ H2 ⟨kvs,v1,v2,e2,hd2,hl2,hv2,rfl⟩;rw [List.length_map,List.take_length] at hv2;exact ⟨_,rfl,q d H2 e2 ⟨kvs,hd2,hv2⟩⟩
theorem JeZ (T:Txt K mg):JC P w K mg base (Ys P w) 7 T.Jc0 T.Jfj ["self", "board", "coins", "turns"] (Jjb K T.JT T.J0 T.Yj):=by
 refine T.Jbk.F.ok1 JhB (fun vs H Q E h=>?_) (fun cdv A outer s H vs Q E hr h=>?_)
 ·obtain ⟨_,_,_,_,_,_,_,_,rfl,_⟩:=h;rfl
 ·obtain ⟨k,b,dx,c,t,ps,zs,gs,rfl,hk,hkb,B,q1,q2,q⟩:=h;have szl:sizeLine=16777216:=sizeLine_eq;refine ⟨_,(@Jd _ _ _ _ _ (@JP _ _ _ _ (@Jm _ _ _ _ _ _ _ _ _ _ _ _ _ _ _ T.Zg (ZI T) (hr.mono (by decide)) JY (@Ja _ _ _ _ _ (@pv _ 2 _ _ rfl (.inl rfl) rfl rfl) (@Ja _ _ _ _ _ (@ZH _ _ _ _ _ rfl T.Z9 T.Z7 (by decide)) (@Jc _) rfl) rfl) rfl (by decide) rfl rfl) rfl) (@Jd _ _ _ _ _ (@JP _ _ _ _ (@Jm _ _ _ _ _ _ _ _ _ _ _ _ _ _ _ T.Zg (ZI T) (hr.mono (by decide)) JY (@Ja _ _ _ _ _ (@pv _ 3 _ _ rfl (.inl rfl) rfl rfl) (@Ja _ _ _ _ _ (@ZH _ _ _ _ _ rfl T.ZP T.ZL (by decide)) (@Jc _) rfl) rfl) rfl (by decide) rfl rfl) rfl) (@Jd _ _ _ _ _ (@Y3 _ _ _ _ _ _ _ _ (@pv _ 0 _ _ rfl (.inl rfl) rfl rfl) (@pv _ 1 _ _ rfl (.inl rfl) rfl rfl) rfl) (@Jd _ _ _ _ _ (@Y3 _ _ _ _ _ _ _ _ (@pv _ 0 _ _ rfl (.inl rfl) rfl rfl) (@pv _ 2 _ _ rfl (.inl rfl) rfl rfl) rfl) (@Jd _ _ _ _ _ (@Y3 _ _ _ _ _ _ _ _ (@pv _ 0 _ _ rfl (.inl rfl) rfl rfl) (@pv _ 3 _ _ rfl (.inl rfl) rfl rfl) rfl) (@Jd _ _ _ _ _ (@Y3 _ _ _ _ _ _ _ _ (@pv _ 0 _ _ rfl (.inl rfl) rfl rfl) (@Yx _ _ _ _ (@Jc _)) rfl) (@Jg _ _ _ (@ZC _ _ _ _ _ _ _ _ PassesOwn.leaving rfl (@Zf _ _ _ _ _ _ rfl T.Zx (@Ja _ _ _ _ _ (@Jo _ _ _ _ _ _ _ _ (@Ye _) (@pv _ 3 _ _ rfl (.inl rfl) rfl rfl) (@Je _ _ _ _)) (@Jc _) rfl) rfl) (@YA _ _ 4 _ JhB.nd rfl (Or.inl rfl) (.inl rfl)) (@Jg _ _ _ (@JP _ _ _ _ (@JcW _ _ _ _ _ _ _ _ _ _ _ _ PySem.F.plainAttrs_list PySem.F.slot_list_append PySem.F.type_list_append (@ZF _) (@J5 _ _ _ _ _ (@pv _ 0 _ _ rfl (.inl rfl) rfl rfl) rfl) (@Ja _ _ _ _ _ (@JD _ _ _ _ _ _ _ _ _ _ _ _ _ _ _ _ _ _ _ _ (@pv _ 0 _ _ rfl (.inl rfl) rfl rfl) T.Ym T.Z6.m (JhQ T) (hr.mono (by decide)) T.Z6.b .nil JG (@Ja _ _ _ _ _ (@pv _ 4 _ _ rfl (.inl rfl) rfl rfl) (@Jc _) rfl) rfl rfl rfl) (@Jc _) rfl) rfl rfl rfl rfl rfl) rfl)) (by intro _; rfl))))))))),?_⟩;refine ⟨_,rfl,c,20,rfl,⟨by decide,by decide⟩,fun hc=>?_,q1⟩;refine ⟨_,rfl,t,30,rfl,⟨by decide,by decide⟩,fun ht=>?_,q2 hc⟩;have q:=q hc ht;obtain ⟨tn,rfl⟩:∃ j:Nat,t=(j:Int):=⟨t.toNat,by omega⟩
  rw [Int.toNat_natCast] at q;refine ⟨_,rfl,_,rfl,k,_,dx,_,rfl,hk,T.Ym,T.ZA,by decide,?_⟩;have b1:Yc k H (upd H k (.ins T.J0 dx (Yh "board" (.ref b) []))):=Yc.put;have h1:upd H k (.ins T.J0 dx (Yh "board" (.ref b) [])) k=some (.ins T.J0 dx [("board",.ref b)]):=Jj;generalize upd H k (.ins T.J0 dx (Yh "board" (.ref b) []))=H1 at b1 h1;refine ⟨_,rfl,_,rfl,k,_,dx,_,rfl,h1,T.Ym,T.ZV,by show 1 < 1000; decide,?_⟩;have b2:=b1.trans (Yc.put (o:=.ins T.J0 dx (Yh "coins" (.int c) [("board",.ref b)])));have h2:upd H1 k (.ins T.J0 dx (Yh "coins" (.int c) [("board",.ref b)])) k=some (.ins T.J0 dx [("board",.ref b),("coins",.int c)]):=Jj;generalize upd H1 k (.ins T.J0 dx (Yh "coins" (.int c) [("board",.ref b)]))=H2 at b2 h2;refine ⟨_,rfl,_,rfl,k,_,dx,_,rfl,h2,T.Ym,T.JdB,by show 2 < 1000; decide,?_⟩;have b3:=b2.trans (Yc.put (o:=.ins T.J0 dx (Yh "turns" (.int (tn:Int)) [("board",.ref b),("coins",.int c)])));have h3:upd H2 k (.ins T.J0 dx (Yh "turns" (.int (tn:Int)) [("board",.ref b),("coins",.int c)])) k=some (.ins T.J0 dx [("board",.ref b),("coins",.int c),("turns",.int (tn:Int))]):=Jj;generalize upd H2 k (.ins T.J0 dx (Yh "turns" (.int (tn:Int)) [("board",.ref b),("coins",.int c)]))=H3 at b3 h3;refine ⟨by show 0≤sizeLine; decide,fun l hl=>?_⟩;refine ⟨_,rfl,k,_,dx,_,rfl,(Ji.upd hl) _ _ h3,T.Ym,T.Zz,by show 3 < 1000; decide,?_⟩;have lk:l≠k:=fun e=>by rw [e,h3] at hl; cases hl
  have lH:H l=none:=by
   cases e:H l with
   | none=>rfl
   | some u=>rw [b3 l u lk e] at hl; cases hl
  have b4:=(b3.trans (Yc.of (Ji.upd (o:=.lst []) hl))).trans (Yc.put (o:=.ins T.J0 dx (Yh "needs" (.ref l) [("board",.ref b),("coins",.int c),("turns",.int (tn:Int))])));have h4:upd (upd H3 l (.lst [])) k (.ins T.J0 dx (Yh "needs" (.ref l) [("board",.ref b),("coins",.int c),("turns",.int (tn:Int))])) k=some (.ins T.J0 dx [("board",.ref b),("coins",.int c),("turns",.int (tn:Int)),("needs",.ref l)]):=Jj;have l4:upd (upd H3 l (.lst [])) k (.ins T.J0 dx (Yh "needs" (.ref l) [("board",.ref b),("coins",.int c),("turns",.int (tn:Int))])) l=some (.lst []):=by rw [Js lk,Jj]
  generalize upd (upd H3 l (.lst [])) k (.ins T.J0 dx (Yh "needs" (.ref l) [("board",.ref b),("coins",.int c),("turns",.int (tn:Int))]))=H4 at b4 h4 l4;refine ⟨_,rfl,_,_,rfl,rfl,(tn:Int) + 1,rfl,by omega,by omega,?_⟩;rw [show ((tn:Int) + 1).toNat=tn + 1 by omega];refine Zt (n:=tn + 1) (fun i σ H5=>∃ rs v,Yc k H H5∧H5 k=some (.ins T.J0 dx [("board",.ref b),("coins",.int c),("turns",.int (tn:Int)),("needs",.ref l)])∧H5 l=some (.lst (rs.map V.ref))∧rs.length=i∧(∀ (j:Nat) a,rs[j]?=some a→JfU H5 a ps (Zl (zs.map (·.2)) gs c j))∧σ=[some (.ref k),some (.ref b),some (.int c),some (.int (tn:Int)),v])
   ⟨[],none,b4,h4,l4,rfl,fun j a e=>by simp at e,rfl⟩ ?_ ?_
  ·rintro i σ H5 hi ⟨rs,v,b5,h5,l5,len5,r5,rfl⟩;have B5:Bk K T.JT T.J0 H5 k b ps zs gs c tn i:=⟨Yc.bd B b5 hk hkb,hc.1,hc.2,by omega,dx,l,rs,h5,l5,len5,r5⟩
   refine ⟨_,rfl,k,_,dx,_,.ref l,rfl,h5,T.Ym,T.Zz,rfl,.inl ⟨rfl,_,JA.of l5⟩,_,rfl,k,dx,_,rfl,h5,rfl,_,rfl,k,b,i,ps,zs,gs,c,tn,i,by rw [Int.zero_add]; rfl,B5,Nat.le_refl _,by omega,fun a H6 e6 r6=>?_⟩;refine ⟨l,_,_,rfl,rfl,e6 _ _ l5,by rw [List.length_map]; omega,rs ++ [a],_,?_,?_,?_,?_,?_,rfl⟩
   ·intro x u hx hu;rw [Js (Ju hu lH)];exact e6 _ _ (b5 x u hx hu)
   ·rw [Js (fun e=>lk e.symm)]; exact e6 _ _ h5
   ·rw [Jj,List.map_append]; rfl
   ·rw [List.length_append,len5]; rfl
   ·intro j x hx;have key:∀ {y:Addr} {f:Str→Bool→Int},JfU H6 y ps f→JfU (upd H6 l (.lst (rs.map V.ref ++ [.ref a]))) y ps f:=fun {y f} hy=>by
     obtain ⟨kvs,y1,y2⟩:=hy;exact ⟨kvs,by rw [Js (Jaj y1 (e6 _ _ l5) (fun z=>nomatch z))]; exact y1,y2⟩
    by_cases hj:j < rs.length
    ·rw [List.getElem?_append_left hj] at hx;exact key ((r5 j x hx).same e6)
    ·rw [List.getElem?_append_right (by omega)] at hx;have hj0:j - rs.length=0:=by
      cases e:j - rs.length with
      | zero=>rfl
      | succ n=>rw [e] at hx; simp at hx
     rw [hj0] at hx;have:a=x:=by simpa using hx
     subst this;have:j=i:=by omega
     subst this;exact key r6
  ·rintro σ H5 ⟨rs,v,b5,h5,l5,len5,r5,rfl⟩;exact q H5 b5 ⟨Yc.bd B b5 hk hkb,hc.1,hc.2,by omega,dx,l,rs,h5,l5,len5,r5⟩
theorem Jcq (T:Txt K mg):JC P w K mg base (Ys P w) 3 T.JaZ T.Jay ["self", "place", "turns", "north", "ribbon"] (JrR K T.JT T.J0 T.Y1 T.Yj T.Zs):=by
 refine T.Y7.F.ok1 Jhv (fun vs H Q E h=>?_) (fun cdv A outer s H vs Q E hr h=>?_)
 ·obtain ⟨_,_,_,_,_,_,_,_,_,_,_,rfl,_⟩:=h;rfl
 ·obtain ⟨k,b,z,x,m,north,ps,zs,gs,c,t,rfl,tz,tx,B,⟨q1,q2,q3,q4⟩,q⟩:=h;refine ⟨_,(@Jd _ _ _ _ _ (@JP _ _ _ _ (@JD _ _ _ _ _ _ _ _ _ _ _ _ _ _ _ _ _ _ _ _ (@J5 _ _ _ _ _ (@pv _ 0 _ _ rfl (.inl rfl) rfl rfl) rfl) T.YU T.J9.m (Zb T) (hr.mono (by decide)) T.J9.b .nil JY (@Ja _ _ _ _ _ (@pv _ 1 _ _ rfl (.inl rfl) rfl rfl) (@Jc _) rfl) rfl rfl rfl) rfl) (@Jd _ _ _ _ _ (@JP _ _ _ _ (@Jm _ _ _ _ _ _ _ _ _ _ _ _ _ _ _ T.Zg (ZI T) (hr.mono (by decide)) JY (@Ja _ _ _ _ _ (@pv _ 2 _ _ rfl (.inl rfl) rfl rfl) (@Ja _ _ _ _ _ (@J5 _ _ _ _ _ (@pv _ 0 _ _ rfl (.inl rfl) rfl rfl) rfl) (@Jc _) rfl) rfl) rfl (by decide) rfl rfl) rfl) (@Jd _ _ _ _ _ (@JP _ _ _ _ (@Jm _ _ _ _ _ _ _ _ _ _ _ _ _ _ _ T.Zg (ZI T) (hr.mono (by decide)) JY (@Ja _ _ _ _ _ (@pv _ 3 _ _ rfl (.inl rfl) rfl rfl) (@Ja _ _ _ _ _ (@J5 _ _ _ _ _ (@pv _ 0 _ _ rfl (.inl rfl) rfl rfl) rfl) (@Jc _) rfl) rfl) rfl (by decide) rfl rfl) rfl) (@Jg _ _ _ (@JP _ _ _ _ (@Jm _ _ _ _ _ _ _ _ _ _ _ _ _ _ _ T.Ja0 (Jdy T) (hr.mono (by decide)) JY (@Ja _ _ _ _ _ (@pv _ 4 _ _ rfl (.inl rfl) rfl rfl) (@Jc _) rfl) rfl (by decide) rfl rfl) rfl))))),?_⟩;obtain ⟨dx,l,rs,h1,h2,h3,h4⟩:=B.at_;obtain ⟨bdx,tp,tl,tg,hb,_⟩:=id B.B.B;have:=B.c0;have:=B.c1;have:=B.t1;refine ⟨_,rfl,k,_,dx,_,.ref b,rfl,h1,T.Ym,T.ZA,rfl,b,bdx,_,rfl,hb,rfl,_,rfl,b,z,ps,zs,gs,rfl,tz,B.B.B,fun hz=>?_,q1⟩;refine ⟨_,rfl,_,rfl,k,_,dx,_,.int t,rfl,h1,T.Ym,T.JdB,rfl,m,t,rfl,⟨by omega,by omega⟩,fun hm=>?_,q2 hz⟩;refine ⟨_,rfl,_,rfl,k,_,dx,_,.int c,rfl,h1,T.Ym,T.ZV,rfl,north,c,rfl,⟨by omega,by omega⟩,fun hn=>?_,q3 hz hm⟩;exact ⟨_,rfl,x,rfl,tx,fun hx=>q ⟨hz,hm,hn,hx⟩,q4 hz hm hn⟩
theorem Jld (T:Txt K mg):JC P w K mg base (Ys P w) 4 T.Jd0 T.JcP ["self", "place", "turns", "north", "ribbon"] (Jqe K T.JT T.J0 T.Y1 T.Yj T.Zs):=by
 refine T.Jby.F.ok1 JkR (fun vs H Q E h=>?_) (fun cdv A outer s H vs Q E hr h=>?_)
 ·obtain ⟨_,_,_,_,_,_,_,_,_,_,_,rfl,_⟩:=h;rfl
 ·obtain ⟨k,b,z,x,m,north,ps,zs,gs,c,t,rfl,tz,tx,B,qe,q⟩:=h;have hu:=JcX hr;refine ⟨_,(@Jd _ _ _ _ _ (@JP _ _ _ _ (@JD _ _ _ _ _ _ _ _ _ _ _ _ _ _ _ _ _ _ _ _ (@pv _ 0 _ _ rfl (.inl rfl) rfl rfl) T.Ym T.Y7.m (Jcq T) (hr.mono (by decide)) T.Y7.b .nil JY (@Ja _ _ _ _ _ (@pv _ 1 _ _ rfl (.inl rfl) rfl rfl) (@Ja _ _ _ _ _ (@pv _ 2 _ _ rfl (.inl rfl) rfl rfl) (@Ja _ _ _ _ _ (@pv _ 3 _ _ rfl (.inl rfl) rfl rfl) (@Ja _ _ _ _ _ (@pv _ 4 _ _ rfl (.inl rfl) rfl rfl) (@Jc _) rfl) rfl) rfl) rfl) rfl rfl rfl) rfl) (@Jg _ _ _ (@Jq _ _ _ _ (@JeW _ _ _ _ _ _ _ _ (@Jx _ _ _ _ _ _ _ _ (@JmF _) (@pv _ 3 _ _ rfl (.inl rfl) rfl rfl) (@JgB _ _ _ _ _ _ hu (@JM _ _ _ _ _ _ _ (@JV _) (@J5 _ _ _ _ _ (@pv _ 0 _ _ rfl (.inl rfl) rfl rfl) rfl) (@pv _ 2 _ _ rfl (.inl rfl) rfl rfl) (fun _ _=>rfl)) (@YR _ _ _ _ _ (@Ja _ _ _ _ _ (@pv _ 1 _ _ rfl (.inl rfl) rfl rfl) (@Ja _ _ _ _ _ (@pv _ 4 _ _ rfl (.inl rfl) rfl rfl) (@Jc _) rfl) rfl)) (fun _ _=>rfl)) (JE _)) (@Jy _ _ _ _) (@Jy _ _ _ _))))),?_⟩;obtain ⟨dx,l,rs,h1,h2,h3,h4⟩:=B.at_;refine ⟨_,rfl,k,dx,_,rfl,h1,rfl,_,rfl,_,rfl,_,rfl,_,rfl,k,b,z,x,m,north,ps,zs,gs,c,t,rfl,tz,tx,B,qe,fun ⟨hz,hm,hn,hx⟩=>?_⟩;obtain ⟨r,rfl⟩:=JgI hx;obtain ⟨j,rfl⟩:∃ j:Nat,m=(j:Int):=⟨m.toNat,by omega⟩
  obtain ⟨a,ha⟩:∃ a,rs[j]?=some a:=⟨_,List.getElem?_eq_getElem (by omega)⟩
  obtain ⟨kvs,hk1,hk2⟩:=h4 j a ha;have hat:Z3 (rs.map V.ref) (j:Int)=some (.ref a):=YX (by rw [List.getElem?_map,ha]; rfl);refine ⟨_,rfl,_,rfl,k,_,dx,_,.ref l,rfl,h1,T.Ym,T.Zz,rfl,_,rfl,l,_,_,.ref a,rfl,rfl,JA.of h2,hat,_,rfl,_,rfl,by show 2≤sizeLine; decide,fun p hp=>?_⟩;have g:=JaA.t (k:=Jab z r) ((Ji.upd (o:=.tup [.str z,.str (hs r)]) hp) _ _ hk1) (show upd H p (.tup [.str z,.str (hs r)]) p=some (.tup ((Jab z r).map kV)) from Jj);rw [hk2 z hz r] at g;have q:=q hz hm hn r rfl _ (Ji.upd (o:=.tup [.str z,.str (hs r)]) hp);rw [Int.toNat_natCast] at q;refine ⟨a,_,rfl,g,_,_,rfl,rfl,_,rfl,Yt (fun hc=>?_) (fun hc=>?_)⟩
  ·rw [hc] at q; exact q
  ·rw [Bool.not_eq_true] at hc; rw [hc] at q; exact q
theorem JmB (T:Txt K mg):JC P w K mg base (Ys P w) 4 T.Jfw T.JdN ["self", "place", "turns", "ribbon"] (JrX K T.JT T.J0 T.Y1 T.Yj T.Zs):=by
 refine T.Jcp.F.ok1 Jhm (fun vs H Q E h=>?_) (fun cdv A outer s H vs Q E hr h=>?_)
 ·obtain ⟨_,_,_,_,_,_,_,_,_,_,rfl,_⟩:=h;rfl
 ·obtain ⟨k,b,z,x,m,ps,zs,gs,c,t,rfl,tz,tx,B,qe,q⟩:=h;have hu:=JcX hr;refine ⟨_,(@Jd _ _ _ _ _ (@JP _ _ _ _ (@JD _ _ _ _ _ _ _ _ _ _ _ _ _ _ _ _ _ _ _ _ (@pv _ 0 _ _ rfl (.inl rfl) rfl rfl) T.Ym T.Y7.m (Jcq T) (hr.mono (by decide)) T.Y7.b .nil JY (@Ja _ _ _ _ _ (@pv _ 1 _ _ rfl (.inl rfl) rfl rfl) (@Ja _ _ _ _ _ (@pv _ 2 _ _ rfl (.inl rfl) rfl rfl) (@Ja _ _ _ _ _ (@J5 _ _ _ _ _ (@pv _ 0 _ _ rfl (.inl rfl) rfl rfl) rfl) (@Ja _ _ _ _ _ (@pv _ 3 _ _ rfl (.inl rfl) rfl rfl) (@Jc _) rfl) rfl) rfl) rfl) rfl rfl rfl) rfl) (@Jd _ _ _ _ _ (@Jz _ _ 4 _ _ _ _ Jhm.nd rfl (Or.inl rfl) (@JgB _ _ _ _ _ _ hu (@JM _ _ _ _ _ _ _ (@JV _) (@J5 _ _ _ _ _ (@pv _ 0 _ _ rfl (.inl rfl) rfl rfl) rfl) (@pv _ 2 _ _ rfl (.inl rfl) rfl rfl) (fun _ _=>rfl)) (@YR _ _ _ _ _ (@Ja _ _ _ _ _ (@pv _ 1 _ _ rfl (.inl rfl) rfl rfl) (@Ja _ _ _ _ _ (@pv _ 3 _ _ rfl (.inl rfl) rfl rfl) (@Jc _) rfl) rfl)) (fun _ _=>rfl)) rfl (.inl rfl)) (@Jg _ _ _ (@Jq _ _ _ _ (@JeW _ _ _ _ _ _ _ _ (@Jx _ _ _ _ _ _ _ _ (@JiE _) (@pv _ 4 _ _ rfl (.inl rfl) rfl rfl) (@J5 _ _ _ _ _ (@pv _ 0 _ _ rfl (.inl rfl) rfl rfl) rfl) (JE _)) (@Jbg _ _ _) (@pv _ 4 _ _ rfl (.inl rfl) rfl rfl)))))),?_⟩;obtain ⟨dx,l,rs,h1,h2,h3,h4⟩:=B.at_;refine ⟨_,rfl,k,dx,_,rfl,h1,rfl,_,rfl,_,rfl,_,rfl,k,_,dx,_,.int c,rfl,h1,T.Ym,T.ZV,rfl,_,rfl,k,b,z,x,m,c,ps,zs,gs,c,t,rfl,tz,tx,B,qe,fun ⟨hz,hm,hn,hx⟩=>?_⟩;obtain ⟨r,rfl⟩:=JgI hx;obtain ⟨j,rfl⟩:∃ j:Nat,m=(j:Int):=⟨m.toNat,by omega⟩
  obtain ⟨a,ha⟩:∃ a,rs[j]?=some a:=⟨_,List.getElem?_eq_getElem (by omega)⟩
  obtain ⟨kvs,hk1,hk2⟩:=h4 j a ha;have hat:Z3 (rs.map V.ref) (j:Int)=some (.ref a):=YX (by rw [List.getElem?_map,ha]; rfl);refine ⟨_,rfl,k,_,dx,_,.ref l,rfl,h1,T.Ym,T.Zz,rfl,_,rfl,l,_,_,.ref a,rfl,rfl,JA.of h2,hat,_,rfl,_,rfl,by show 2≤sizeLine; decide,fun p hp=>?_⟩;have e1:Ji H (upd H p (.tup [.str z,.str (hs r)])):=Ji.upd hp;have g:=JaA.t (k:=Jab z r) (e1 _ _ hk1) (show upd H p (.tup [.str z,.str (hs r)]) p=some (.tup ((Jab z r).map kV)) from Jj);rw [hk2 z hz r] at g;have q:=q hz hm r rfl _ e1;rw [Int.toNat_natCast] at q;refine ⟨a,_,rfl,g,_,rfl,_,rfl,k,_,dx,_,.int c,rfl,e1 _ _ h1,T.Ym,T.ZV,rfl,_,_,rfl,rfl,_,rfl,Yt (fun hc=>?_) (fun hc=>?_)⟩
  ·rw [Jj6,if_neg (by have:=of_decide_eq_true hc; omega)] at q; exact q
  ·rw [Jj6,if_pos (Int.not_lt.mp fun h=>hc (decide_eq_true h))] at q; exact ⟨_,rfl,q⟩
end
def JrW (K:PySem.W.Frag):Sp:=fun vs H Q _=>∃ (t:Addr) (z:Str) (ps:List Str) (zs:List (V×(Str×Str))) (gs:List Str),vs=[.ref t,.str z]∧Ground K H t ps zs gs∧∀ (p:Addr) (ws:List Str) (H':Hp),Ji H H'→H' p=some (.lst (ws.map V.str))→ws.Perm (JR (zs.map (·.2)) z)→ws.Pairwise sle→Q (.ref p) H'
def JbA (z:Str) (n:Int) (zs:List (Str×Str)) (gs:List Str):Str:=if z∈gs then "north" else if n=0∨JR zs z=[] then "south" else ""
def JuB (K:PySem.W.Frag):Sp:=fun vs H Q _=>∃ (t:Addr) (z:Str) (n:Int) (ps:List Str) (zs:List (V×(Str×Str))) (gs:List Str),vs=[.ref t,.str z,.int n]∧Ground K H t ps zs gs∧∀ H',Ji H H'→Q (.str (JbA z n (zs.map (·.2)) gs)) H'
def JrQ:Sp:=fun vs H Q _=>∃ c:Int,vs=[.int c]∧∀ (n:Int) (H':Hp),0≤n→n≤20→Ji H H'→Q (.int n) H'
def JtL:Sp:=fun vs H Q _=>∃ c:Int,vs=[.int c]∧∀ (n:Int) (H':Hp),0≤n→n≤30→Ji H H'→Q (.int n) H'
theorem Jtv {xs:List Int} (hl:xs.length=8) (hb:∀ x∈xs,0≤x∧x≤20) (c:Int):∃ y:Int,Z3 (xs.map V.int) (c % 8)=some (.int y)∧0≤y∧y≤20:=by
 obtain ⟨j,hj⟩:∃ j:Nat,c % 8=(j:Int):=⟨(c % 8).toNat,by omega⟩
 have hj8:j < xs.length:=by omega
 refine ⟨xs[j],?_,hb _ (List.getElem_mem hj8)⟩;rw [hj];refine YX ?_;rw [List.getElem?_map,List.getElem?_eq_getElem hj8];rfl
section
variable {K:PySem.W.Frag} {C CB:Addr} {H:Hp} {σ:St} {i j l:Nat} {E:XK} {Q:VK}
theorem JpD {H4:Hp} {l1 l2 l3 x dx:Addr} {ps:List Str} {zs:List (V×(Str×Str))} {gs:List Str} (e4:Ji H H4) (k1:H4 l1=some (.lst (ps.map V.str))) (k2:H4 l2=some (.lst (zs.map (·.1)))) (k3:H4 l3=some (.lst (gs.map V.str))) (hP:Zo K H4 zs) (G:Jd2 ps (zs.map (·.2)) gs)
  (nx:H4 x=none) (ndx:H4 dx=none) (q:∀ ps' zs' gs' H',Ji H H'→Bd K C H' x ps' zs' gs'→ps'.Perm ps→ps'.Pairwise sle→zs'.Perm zs→(zs'.map (·.2)).Pairwise ple→gs'.Perm gs→gs'.Pairwise sle→Q .non H') :
  JoE K C (.ref x :: ([.ref l1,.ref l2,.ref l3] ++ [])) (upd (upd H4 dx (.own x)) x (.ins C dx [])) Q E:=by
 have e5:Ji H4 (upd (upd H4 dx (.own x)) x (.ins C dx [])):=fun b u e=>by
  rw [Js (Ju e nx),Js (Ju e ndx)]; exact e
 refine ⟨x,l1,l2,l3,dx,ps,zs,gs,rfl,Jj,JA.of (e5 _ _ k1),JA.of (e5 _ _ k2),Jah hP e5,JA.of (e5 _ _ k3),G,fun H' ps' zs' gs' bt pp ps zp zs gp gs B=>q ps' zs' gs' H' (fun b u e=>?_) ⟨B,G.perm pp (zp.map _) gp⟩ pp ps zp zs gp gs⟩;have e6:=e4 b u e;exact bt b u (Ju e6 nx) (e5 b u e6)
theorem JlV {x0 x dx:Addr} {b:Addr} {ps:List Str} {zs:List (V×(Str×Str))} {gs:List Str} {c t:Int} (B:Bd K C H b ps zs gs) (hc:0≤c∧c≤20) (ht:0≤t∧t≤30)
  (nx:H x=none) (ndx:H dx=none) (q:∀ H',Ji H H'→Bk K C CB H' x b ps zs gs c t.toNat (t.toNat + 1)→Q .non H') :
  Jjb K C CB x0 (.ref x :: ([.ref b,.int c,.int t] ++ [])) (upd (upd H dx (.own x)) x (.ins CB dx [])) Q E:=by
 have e5:Ji H (upd (upd H dx (.own x)) x (.ins CB dx [])):=fun b u e=>by
  rw [Js (Ju e nx),Js (Ju e ndx)]; exact e
 obtain ⟨bdx,_,_,_,hb,_⟩:=id B.B;refine ⟨x,b,dx,c,t,ps,zs,gs,rfl,Jj,(fun e=>by rw [← e,nx] at hb; cases hb),B.same e5,fun h=>absurd hc h,fun _ h=>absurd ht h,fun _ _ H' bt Bk'=>q H' (fun b u e=>?_) Bk'⟩;exact bt b u (Ju e nx) (e5 b u e)
theorem Bk.ins {k b:Addr} {ps:List Str} {zs:List (V×(Str×Str))} {gs:List Str} {c:Int} {t n:Nat} (h:Bk K C CB H k b ps zs gs c t n):∃ dx l,H k=some (.ins CB dx [("board",.ref b),("coins",.int c),("turns",.int t),("needs",.ref l)]):=let ⟨dx,l,_,h1,_⟩:=h.at_; ⟨dx,l,h1⟩
end
theorem Jo2 {zs zs':List (Str×Str)} (h:zs'.Perm zs) (p:Str):(JR zs' p).Perm (JR zs p):=(h.filter _).map _
theorem JmM {zs zs':List (Str×Str)} (h:zs'.Perm zs) (p:Str):JR zs' p=[]↔JR zs p=[]:=by
 have hp:=Jo2 h p;constructor
 ·intro e; rw [e] at hp; exact hp.symm.eq_nil
 ·intro e; rw [e] at hp; exact hp.eq_nil
theorem Jp5 {z:Str} {m:Nat} {zs zs':List (Str×Str)} {gs gs':List Str} (zp:zs'.Perm zs) (gp:gs'.Perm gs) :
  (z∈gs'∧JbA z (m:Int) zs gs = "north"∧Y6 zs' gs' m z)∨(z∉gs'∧JbA z (m:Int) zs gs = "south"∧Y6 zs' gs' m z)∨(JbA z (m:Int) zs gs = ""∧¬ Y6 zs' gs' m z):=by
 have e1:(z∈gs')↔(z∈gs):=gp.mem_iff;have e2:=JmM zp z;unfold JbA Y6;by_cases hg:z∈gs
 ·exact .inl ⟨e1.mpr hg,by rw [if_pos hg],.inl (e1.mpr hg)⟩
 ·by_cases h0:(m:Int)=0∨JR zs z=[]
  ·refine .inr (.inl ⟨fun h=>hg (e1.mp h),by rw [if_neg hg,if_pos h0],.inr ?_⟩);rcases h0 with h0 | h0
   ·exact .inl (by omega)
   ·exact .inr (e2.mpr h0)
  ·refine .inr (.inr ⟨by rw [if_neg hg,if_neg h0],?_⟩);rintro (h | h | h)
   ·exact hg (e1.mp h)
   ·exact h0 (.inl (by omega))
   ·exact h0 (.inr (e2.mp h))
theorem JqQ {x n:Int} (h:0 < n):0≤x % n∧x % n < n:=⟨Int.emod_nonneg _ (by omega),Int.emod_lt_of_pos _ h⟩
theorem JgM {ps:List Str} (h:1≤ps.length) (x:Int):∃ p,Z3 (ps.map V.str) (x % ((ps.map V.str).length:Int))=some (.str p)∧p∈ps:=by
 rw [List.length_map];have hb:=JqQ (x:=x) (n:=(ps.length:Int)) (by omega);exact ⟨_,JmG hb.1 hb.2,Jj2 hb.1 hb.2⟩
def JtI (K:PySem.W.Frag):Sp:=fun vs H Q _=>∃ (t:Addr) (c:Int) (ps:List Str) (zs:List (V×(Str×Str))) (gs:List Str),vs=[.ref t,.int c]∧Ground K H t ps zs gs∧∀ (p:Str) (H':Hp),p∈ps→Ji H H'→Q (.str p) H'
def Ja5:V→Bool
 | .non=>true
 | .int _=>true
 | .str _=>true
 | _=>false
def JrO:Sp:=fun vs H Q _=>∃ i:Int,vs=[.int i]∧Q (.bl true) H
def JtO:Sp:=fun vs H Q _=>∃ i:Int,vs=[.int i]∧∀ b H',Ji H H'→Q (.str (hs b)) H'
def JrZ:Sp:=fun vs H Q _=>∃ x:V,vs=[x,x]∧Ja5 x=true∧Q (.bl true) H
inductive Ph
 | over
 | bid
 | ans (b:Int)
 | step (h:Bool)
structure Mo where
 p:Str
 m:Nat
 n:Int
 r:Bool
 ph:Ph
def Mo.hand (x:Mo):V:=match x.ph with
 | .over=>.non
 | .bid=>.str (hs (!x.r))
 | .ans _=>.str (hs x.r)
 | .step h=>.str (hs h)
def Mo.word (x:Mo):V:=match x.ph with
 | .over=>.non
 | .bid=>.str "bid"
 | .ans _=>.str "answer"
 | .step _=>.str "step"
def Mo.heard (x:Mo):V:=match x.ph with
 | .ans b=>.int b
 | _=>.non
def Mo.fs (c:Int) (x:Mo):List (Str×V):=[("place",.str x.p),("turns",.int (x.m:Int)),("north",.int x.n),("south",.int (c - x.n)),("ribbon",.str (hs x.r)),("hand",x.hand),("word",x.word),("heard",x.heard)]
structure Joh (ps:List Str) (zs:List (Str×Str)) (gs:List Str) (c:Int) (T:Nat) (x:Mo):Prop where
 p:x.p∈ps
 m:x.m≤T
 n:0≤x.n∧x.n≤c
 e:x.ph=.over↔Y6 zs gs x.m x.p
 b:∀ b,x.ph=.ans b→0≤b∧b≤own c x.n (!x.r)
def ZJ (zs:List (Str×Str)) (gs:List Str) (p:Str) (m:Nat) (n:Int) (r:Bool):Mo:=⟨p,m,n,r,if Y6 zs gs m p then .over else .bid⟩
theorem Jpx {ps:List Str} {zs:List (Str×Str)} {gs:List Str} {c:Int} {T:Nat} {p:Str} {m:Nat} {n:Int} {r:Bool} (hp:p∈ps) (hm:m≤T) (hn:0≤n∧n≤c):Joh ps zs gs c T (ZJ zs gs p m n r):=by
 refine ⟨hp,hm,hn,?_,fun b h=>?_⟩
 ·show (if Y6 zs gs m p then Ph.over else Ph.bid)=.over↔_;by_cases he:Y6 zs gs m p
  ·rw [if_pos he]; exact ⟨fun _=>he,fun _=>rfl⟩
  ·rw [if_neg he]; exact ⟨fun h=>(nomatch h),fun h=>absurd h he⟩
 ·have h:(if Y6 zs gs m p then Ph.over else Ph.bid)=.ans b:=h;split at h <;> cases h
structure Gm where
 S:Hp
 g:Addr
 b:Addr
 k:Addr
 ld:Addr
 lm:Addr
 ps:List Str
 zs:List (V×(Str×Str))
 gs:List Str
 c:Int
 T:Nat
section
variable {K:PySem.W.Frag} {mg:Str→Option Value} (T:Txt K mg)
structure Yv (G:Gm) (H:Hp) (ds:List (Addr×List V)) (ms:List (Addr×Mo)):Prop where
 sm:Ji G.S H
 bk:Bk K T.JT T.J0 G.S G.k G.b G.ps G.zs G.gs G.c G.T (G.T + 1)
 gi:∃ dx,G.S G.g=some (.ins T.J7 dx [("board",.ref G.b),("book",.ref G.k),("done",.ref G.ld),("moments",.ref G.lm)])
 nd:G.S G.ld=none
 nm:G.S G.lm=none
 ne:G.ld≠G.lm
 hd:H G.ld=some (.lst (ds.map fun d=>.ref d.1))
 hm:H G.lm=some (.lst (ms.map fun x=>.ref x.1))
 dt:∀ d∈ds,H d.1=some (.tup d.2)
 mt:∀ x∈ms,∃ dx,H x.1=some (.ins T.Yn dx (x.2.fs G.c))
 mo:∀ x∈ms,Joh G.ps (G.zs.map (·.2)) G.gs G.c G.T x.2
variable {T} {G:Gm} {H H':Hp} {ds:List (Addr×List V)} {ms:List (Addr×Mo)}
theorem Yv.same (h:Yv T G H ds ms) (e:Ji H H'):Yv T G H' ds ms :=
 ⟨h.sm.trans e,h.bk,h.gi,h.nd,h.nm,h.ne,e _ _ h.hd,e _ _ h.hm,fun d hd=>e _ _ (h.dt d hd),fun x hx=>let ⟨dx,q⟩:=h.mt x hx; ⟨dx,e _ _ q⟩,h.mo⟩
def Chg (X:List Addr) (H H':Hp):Prop:=∀ b u,b∉X→H b=some u→H' b=some u
theorem Chg.of {X:List Addr} (e:Ji H H'):Chg X H H':=fun b u _ h=>e b u h
theorem Chg.trans {X:List Addr} {H2:Hp} (e:Chg X H H') (e2:Chg X H' H2):Chg X H H2:=fun b u hn h=>e2 b u hn (e b u hn h)
theorem Chg.tup {X:List Addr} (e:Chg X H H') (hX:∀ x∈X,∃ vs,H x=some (.lst vs)) {a:Addr} {xs:List V} (h:H a=some (.tup xs)):H' a=some (.tup xs) :=
 e _ _ (fun hx=>by obtain ⟨vs,q⟩:=hX a hx; rw [h] at q; cases q) h
theorem Chg.ins {X:List Addr} (e:Chg X H H') (hX:∀ x∈X,∃ vs,H x=some (.lst vs)) {a C dx:Addr} {fs:List (Str×V)} (h:H a=some (.ins C dx fs)):H' a=some (.ins C dx fs) :=
 e _ _ (fun hx=>by obtain ⟨vs,q⟩:=hX a hx; rw [h] at q; cases q) h
theorem Yv.lists (h:Yv T G H ds ms):∀ x∈[G.ld,G.lm],∃ vs,H x=some (.lst vs):=fun x hx=>by
 rcases List.mem_cons.mp hx with rfl | hx
 ·exact ⟨_,h.hd⟩
 ·rw [List.mem_singleton.mp hx]; exact ⟨_,h.hm⟩
theorem Yv.static (h:Yv T G H ds ms) (e:Chg [G.ld,G.lm] H H'):Ji G.S H':=fun b u q=>e b u (fun hx=>by
 rcases List.mem_cons.mp hx with rfl | hx
 ·rw [h.nd] at q; cases q
 ·rw [List.mem_singleton.mp hx,h.nm] at q; cases q) (h.sm b u q)
theorem Yv.frame {X:List Addr} (h:Yv T G H ds ms) (e:Chg X H H') (hX:∀ x∈X,∃ vs,H x=some (.lst vs)) (hS:∀ x∈X,G.S x=none) (h1:G.ld∉X) (h2:G.lm∉X):Yv T G H' ds ms :=
 ⟨fun b u q=>e b u (fun hx=>by rw [hS b hx] at q; cases q) (h.sm b u q),h.bk,h.gi,h.nd,h.nm,h.ne,e _ _ h1 h.hd,e _ _ h2 h.hm,fun d hd=>e.tup hX (h.dt d hd),fun x hx=>let ⟨dx,q⟩:=h.mt x hx; ⟨dx,e.ins hX q⟩,h.mo⟩
theorem JfB {xs:List V} {v:V}:Z3 (xs ++ [v]) (-1)=some v:=by
 have e:ixN (xs ++ [v]).length (-1)=some xs.length:=by
  unfold ixN;rw [List.length_append];simp;exact ⟨by omega,by omega⟩
 unfold Z3;rw [e];simp
theorem Yv.more (h:Yv T G H ds ms) {H1:Hp} (e:Ji H H1) {d a dx:Addr} {dv:List V} {x:Mo} (hd:H1 d=some (.tup dv)) (ha:H1 a=some (.ins T.Yn dx (x.fs G.c))) (hx:Joh G.ps (G.zs.map (·.2)) G.gs G.c G.T x) :
  Chg [G.ld,G.lm] H (upd (upd H1 G.ld (.lst (ds.map (fun d=>V.ref d.1) ++ [.ref d]))) G.lm (.lst (ms.map (fun x=>V.ref x.1) ++ [.ref a])))∧Yv T G (upd (upd H1 G.ld (.lst (ds.map (fun d=>V.ref d.1) ++ [.ref d]))) G.lm (.lst (ms.map (fun x=>V.ref x.1) ++ [.ref a]))) (ds ++ [(d,dv)]) (ms ++ [(a,x)]):=by
 have h1:=h.same e;have c1:Chg [G.ld,G.lm] H1 (upd (upd H1 G.ld (.lst (ds.map (fun d=>V.ref d.1) ++ [.ref d]))) G.lm (.lst (ms.map (fun x=>V.ref x.1) ++ [.ref a]))):=fun b u hn q=>by
  rw [Js (fun z=>hn (by rw [z]; simp)),Js (fun z=>hn (by rw [z]; simp))]; exact q
 refine ⟨(Chg.of e).trans c1,h1.static c1,h.bk,h.gi,h.nd,h.nm,h.ne,?_,?_,fun y hy=>?_,fun y hy=>?_,fun y hy=>?_⟩
 ·rw [Js h.ne,Jj,List.map_append]; rfl
 ·rw [Jj,List.map_append]; rfl
 ·rcases List.mem_append.mp hy with q | q
  ·exact c1.tup h1.lists (h1.dt y q)
  ·rw [List.mem_singleton.mp q]; exact c1.tup h1.lists hd
 ·rcases List.mem_append.mp hy with q | q
  ·obtain ⟨dy,z⟩:=h1.mt y q;exact ⟨dy,c1.ins h1.lists z⟩
  ·rw [List.mem_singleton.mp q]; exact ⟨dx,c1.ins h1.lists ha⟩
 ·rcases List.mem_append.mp hy with q | q
  ·exact h.mo y q
  ·rw [List.mem_singleton.mp q]; exact hx
variable (T)
def JmR:Sp:=fun vs H Q _=>∃ (x dx:Addr) (v1 v2 v3 v4 v5 v6 v7 v8:V),vs=[.ref x,v1,v2,v3,v4,v5,v6,v7,v8]∧H x=some (.ins T.Yn dx [])∧Q .non (upd H x (.ins T.Yn dx [("place",v1),("turns",v2),("north",v3),("south",v4),("ribbon",v5),("hand",v6),("word",v7),("heard",v8)]))
def Jqf:Sp:=fun vs H Q _=>∃ (b:Addr) (p:Str) (m:Nat) (n c:Int) (r:Bool) (ps:List Str) (zs:List (V×(Str×Str))) (gs:List Str),vs=[.ref b,.str p,.int (m:Int),.int n,.int (c - n),.str (hs r)]∧Bd K T.JT H b ps zs gs∧p∈ps∧m≤30∧∀ a dx H',H a=none→Ji H H'→H' a=some (.ins T.Yn dx ((ZJ (zs.map (·.2)) gs p m n r).fs c))→Q (.ref a) H'
def Jgx (ps:List Str) (z:Str) (m n s:Int) (x:Str) (H:Hp) (E:XK):Prop :=
 (z∉ps→E (.ref T.Y1) none H)∧(z∈ps→¬ (0≤m∧m≤30)→E (.ref T.Yj) none H)∧(z∈ps→0≤m∧m≤30→¬ ZW n s→E (.ref T.Yj) none H)∧(z∈ps→0≤m∧m≤30→ZW n s→Jat x=false→E (.ref T.Zs) none H)
def JkE (ps:List Str) (z:Str) (m n s:Int) (x:Str):Prop:=z∈ps∧(0≤m∧m≤30)∧ZW n s∧Jat x=true
theorem JlO {ps:List Str} {z:Str} {m n s:Int} {x:Str} {H:Hp} {E:XK} (h:JkE ps z m n s x):Jgx T ps z m n s x H E :=
 ⟨fun z=>absurd h.1 z,fun _ z=>absurd h.2.1 z,fun _ _ z=>absurd h.2.2.1 z,fun _ _ _ z=>by rw [h.2.2.2] at z; cases z⟩
def Jqp:Sp:=fun vs H Q E=>∃ (b:Addr) (z x:Str) (m n s:Int) (ps:List Str) (zs:List (V×(Str×Str))) (gs:List Str),vs=[.ref b,.str z,.int m,.int n,.int s,.str x]∧Yb z∧Yb x∧Bd K T.JT H b ps zs gs∧Jgx T ps z m n s x H E∧(JkE ps z m n s x→Q .non H)
def JmV:Sp:=fun vs H Q E=>∃ (g b dx:Addr) (z x:Str) (m n s:Int) (ps:List Str) (zs:List (V×(Str×Str))) (gs:List Str),vs=[.ref g,.ref b,.str z,.int m,.int n,.int s,.str x]∧H g=some (.ins T.J7 dx [])∧g≠b∧Yb z∧Yb x∧Bd K T.JT H b ps zs gs∧Jgx T ps z m n s x H E ∧
 (z∈ps→0≤m∧m≤30→ZW n s→∀ r,x=hs r→∀ (G:Gm) (a:Addr) (H':Hp),G.g=g→G.b=b→G.ps=ps→G.zs=zs→G.gs=gs→G.c=n + s→G.T=m.toNat→Yc g H G.S→Yv T G H' [] [(a,ZJ (zs.map (·.2)) gs z m.toNat n r)]→Q .non H')
def Jqk:Sp:=fun vs H Q _=>∃ (G:Gm) (ds:List (Addr×List V)) (ms:List (Addr×Mo)) (a:Addr) (x:Mo),vs=[.ref G.g]∧Yv T G H ds (ms ++ [(a,x)])∧∀ t H',Ji H H'→H' t=some (.tup [.str x.p,.int (x.m:Int),.int x.n,.int (G.c - x.n),.str (hs x.r)])→Q (.ref t) H'
def JtQ:Sp:=fun vs H Q _=>∃ (G:Gm) (ds:List (Addr×List V)) (ms:List (Addr×Mo)) (a:Addr) (x:Mo),vs=[.ref G.g]∧Yv T G H ds (ms ++ [(a,x)])∧(x.ph=.over→Q .non H)∧(x.ph≠.over→∀ t H',Ji H H'→H' t=some (.tup [x.hand,x.word])→Q (.ref t) H')
def Jqm:Sp:=fun vs H Q _=>∃ (G:Gm) (ds:List (Addr×List V)) (ms:List (Addr×Mo)) (a:Addr) (x:Mo),vs=[.ref G.g]∧Yv T G H ds (ms ++ [(a,x)])∧Q x.heard H
def Jqn:Sp:=fun vs H Q _=>∃ (G:Gm) (ds:List (Addr×List V)) (ms:List (Addr×Mo)),vs=[.ref G.g]∧Yv T G H ds ms∧∀ t H',Ji H H'→H' t=some (.tup (ds.map fun d=>.ref d.1))→Q (.ref t) H'
def Jr0:Sp:=fun vs H Q _=>∃ (G:Gm) (ds:List (Addr×List V)) (ms:List (Addr×Mo)) (a:Addr) (x:Mo),vs=[.ref G.g]∧Yv T G H ds (ms ++ [(a,x)])∧∀ H',Ji H H'→Q (Zk x.p (x.m:Int) (G.zs.map (·.2)) G.gs) H'
end
section
variable {P:Program} {w:World} {K:PySem.W.Frag} {mg:Str→Option Value} {base:Heap}
theorem Jsv (T:Txt K mg):JC P w K mg base YJ 1 T.Jll T.Jjo ["_law_found"] JrO:=by
 refine T.JlC.F.ok Jsf (fun vs H Q E h=>?_) (fun cdv A outer s H vs Q E hr h=>?_)
 ·obtain ⟨i,rfl,_⟩:=h;rfl
 ·obtain ⟨i,rfl,q⟩:=h;refine ⟨_,(@Jg _ _ _ (@Jq _ _ _ _ (@Jnu _ _ _ _ _ _ _ (@JB _ _ _ _ _ _ _ _ _ (@Jbj _) rfl T.J8 PyProof.Rows.boot_isinstance (@Ja _ _ _ _ _ (@pv _ 0 _ _ rfl (.inl rfl) rfl rfl) (@Ja _ _ _ _ _ (@JeX _ _ _ _ rfl T.JmH PyProof.Rows.boot_int (by decide) (by decide)) (@Jc _) rfl) rfl) (by decide) (by decide) rfl rfl) (@Jns _ _ _ _ _ (@Ju4 _ _ _ _ (@JB _ _ _ _ _ _ _ _ _ (@Jbj _) rfl T.J8 PyProof.Rows.boot_isinstance (@Ja _ _ _ _ _ (@pv _ 0 _ _ rfl (.inl rfl) rfl rfl) (@Ja _ _ _ _ _ (@JeX _ _ _ _ rfl T.JqP PyProof.Rows.boot_bool (by decide) (by decide)) (@Jc _) rfl) rfl) (by decide) (by decide) rfl rfl)))))),?_⟩;refine ⟨_,rfl,_,_,_,_,rfl,⟨_,.inl rfl⟩,.int i,Jvi,_,rfl,Zh ?_⟩;exact ⟨_,rfl,_,_,_,_,rfl,⟨_,.inl rfl⟩,.int i,Jvj,_,rfl,q⟩
theorem Jji (T:Txt K mg):JC P w K mg base YJ 2 T.Jlr T.Jju ["_law_found", "_law_due_here"] JrZ:=by
 refine T.JgQ.F.ok Jsi (fun vs H Q E h=>?_) (fun cdv A outer s H vs Q E hr h=>?_)
 ·obtain ⟨_,rfl,_⟩:=h;rfl
 ·obtain ⟨x,rfl,hx,q⟩:=h;refine ⟨_,(@Jd _ _ _ _ _ (@JL _ _ _ _ _ _ _ _ (@Jbf _ _ _ _ _ _ (@JgD _ _ _ _ _ (@pv _ 1 _ _ rfl (.inl rfl) rfl rfl)) (by first | exact Zc _ (by decide) (by decide) | rfl)) (@Jg _ _ _ (@Jq _ _ _ _ (@JqC _ _ _ _ _ _ (@JgD _ _ _ _ _ (@pv _ 0 _ _ rfl (.inl rfl) rfl rfl)) (by first | exact Zc _ (by decide) (by decide) | rfl)))) (@Jw _)) (@Jd _ _ _ _ _ (@JL _ _ _ _ _ _ _ _ (@Zr _ _ _ (@JB _ _ _ _ _ _ _ _ _ (@Jbj _) rfl T.J8 PyProof.Rows.boot_isinstance (@Ja _ _ _ _ _ (@pv _ 1 _ _ rfl (.inl rfl) rfl rfl) (@Ja _ _ _ _ _ (@JeX _ _ _ _ rfl T.Jpv PyProof.Rows.boot_str (by decide) (by decide)) (@Jc _) rfl) rfl) (by decide) (by decide) rfl rfl) (by intro _; rfl)) (@Jg _ _ _ (@Jq _ _ _ _ (@Jnu _ _ _ _ _ _ _ (@JB _ _ _ _ _ _ _ _ _ (@Jbj _) rfl T.J8 PyProof.Rows.boot_isinstance (@Ja _ _ _ _ _ (@pv _ 0 _ _ rfl (.inl rfl) rfl rfl) (@Ja _ _ _ _ _ (@JeX _ _ _ _ rfl T.Jpv PyProof.Rows.boot_str (by decide) (by decide)) (@Jc _) rfl) rfl) (by decide) (by decide) rfl rfl) (@Jns _ _ _ _ _ (@JgC _ _ _ _ _ _ _ _ (@Yi _) (@pv _ 0 _ _ rfl (.inl rfl) rfl rfl) (@pv _ 1 _ _ rfl (.inl rfl) rfl rfl) (JE _)))))) (@Jw _)) (@Jg _ _ _ (@Jq _ _ _ _ (@Jnu _ _ _ _ _ _ _ (@Jm _ _ _ _ _ _ _ _ _ _ _ _ _ _ _ T.JlC (Jsv T) (hr.mono (by decide)) JG (@Ja _ _ _ _ _ (@pv _ 0 _ _ rfl (.inl rfl) rfl rfl) (@Jc _) rfl) rfl (by decide) rfl rfl) (@Jns _ _ _ _ _ (@JgC _ _ _ _ _ _ _ _ (@Yi _) (@pv _ 0 _ _ rfl (.inl rfl) rfl rfl) (@pv _ 1 _ _ rfl (.inl rfl) rfl rfl) (JE _)))))))),?_⟩;refine ⟨_,rfl,_,rfl,?_⟩;cases x with
  | non =>
   refine ZE (by rfl) ⟨_,rfl,?_⟩;exact q
  | int i =>
   refine YN (by rfl) ⟨_,rfl,_,_,_,_,rfl,⟨_,.inl rfl⟩,.int i,Jvh,_,rfl,YT ?_⟩;refine ⟨_,rfl,i,rfl,_,rfl,Zh ⟨_,rfl,_,rfl,rfl,?_⟩⟩;rw [decide_eq_true rfl];exact q
  | str z =>
   refine YN (by rfl) ⟨_,rfl,_,_,_,_,rfl,⟨_,.inl rfl⟩,.str z,JqY,_,rfl,Zh ?_⟩;refine ⟨_,rfl,_,_,_,_,rfl,⟨_,.inl rfl⟩,.str z,JqY,_,rfl,Zh ⟨_,rfl,_,rfl,rfl,?_⟩⟩;rw [decide_eq_true rfl];exact q
  | _=>exact absurd hx Bool.false_ne_true
theorem Jt8 (T:Txt K mg):JC P w K mg base YJ 1 T.Jn3 T.Jlj ["_law_cell"] JtO:=by
 refine T.Jom.F.ok Jt0 (fun vs H Q E h=>?_) (fun cdv A outer s H vs Q E hr h=>?_)
 ·obtain ⟨i,rfl,_⟩:=h;rfl
 ·obtain ⟨i,rfl,q⟩:=h;refine ⟨_,(@Jg _ _ _ (@Jq _ _ _ _ (@JM _ _ _ _ _ _ _ (@JV _) (@Yx _ _ _ _ (@Ja _ _ _ _ _ (@Jy _ _ _ _) (@Ja _ _ _ _ _ (@Jy _ _ _ _) (@Jc _) rfl) rfl)) (@Jo _ _ _ _ _ _ _ _ (@J6 _) (@pv _ 0 _ _ rfl (.inl rfl) rfl rfl) (@Je _ _ _ _)) (fun _ _=>rfl)))),?_⟩;refine ⟨by decide,fun p hp=>⟨_,rfl,_,_,rfl,rfl,(by show (0:Int) < 2; decide),p,_,_,.str (hs (decide (i % 2=0))),rfl,rfl,JA.of Jj,?_,q _ _ (Ji.upd hp)⟩⟩;have h:i % 2=0∨i % 2=1:=by omega
  rcases h with h | h <;> rw [h] <;> rfl
theorem Jt5 (T:Txt K mg):JC P w K mg base YJ 1 T.JnZ T.Jlg ["_law_ground_here", "_law_place"] (JrW K):=by
 refine T.Joj.F.ok JtY (fun vs H Q E h=>?_) (fun cdv A outer s H vs Q E hr h=>?_)
 ·obtain ⟨_,_,_,_,_,rfl,_⟩:=h;rfl
 ·obtain ⟨t,z,ps,zs,gs,rfl,G,q⟩:=h;have szl:sizeLine=16777216:=sizeLine_eq;refine ⟨_,(@Jg _ _ _ (@Jq _ _ _ _ (@JB _ _ _ _ _ _ _ _ _ (@Jei _) rfl T.JaU PyProof.Rows.boot_sorted (@Ja _ _ _ _ _ (@Jg1 _ _ _ _ _ _ _ 2 ["_law_start", "_law_end", "_law_place"] [1] _ _ _ _ ["_law_ground_here", "_law_place"] ((Jk JjT).names) (by decide +kernel) (@Jcy _ _ _ _ (@JM _ _ _ _ _ _ _ (@Yy _) (@pv _ 0 _ _ rfl (.inl rfl) rfl rfl) (@Je _ _ _ _) (fun _ _=>rfl))) (fun _ _ _ _=>(show PG _ _ (JpF K 2 _) from Jnq rfl (@ZM _ _ _ _ _ (@Jar _ _ _ _ _ _ _ _ _ 0 (by decide +kernel) rfl rfl) (@ZM _ _ _ _ _ (@Jar _ _ _ _ _ _ _ _ _ 1 (by decide +kernel) rfl rfl) (@Jk3 _) rfl) rfl))) (fun _ _ _ _=>(@JiB _ _ _ (@Jx _ _ _ _ _ _ _ _ (@Yi _) (@ZN _ _ _ _ _ _ _ _ _ 0 rfl rfl (by decide) (by decide)) (@JaR _ _ _ _ _ _ _ _ _ 2 rfl rfl (by decide) (by decide)) (JE _)))) (fun _ _ _ _=>(@ZN _ _ _ _ _ _ _ _ _ 1 rfl rfl (by decide) (by decide))) rfl rfl rfl (by intro _; rfl)) (@Jc _) rfl) (by decide) (by decide) rfl rfl))),?_⟩;obtain ⟨pn,pl,pg,h1,h2,h3,h4,h5⟩:=G.at_;have hzl:zs.length≤40:=by have:=G.good.l1; rwa [List.length_map] at this
  have wl:∀ i,(JR ((zs.map (·.2)).take i) z).length≤40:=fun i=>by
   unfold JR;rw [List.length_map];refine Nat.le_trans (List.length_filter_le _ _) ?_;rw [List.length_take,List.length_map];omega
  refine ⟨_,rfl,t,_,_,.ref pl,rfl,rfl,J1.of h1,rfl,pl,rfl,⟨_,JA.of h3⟩,fun D hD=>?_⟩;refine Jkl (xs:=zs.map (·.1)) (fun i ys H2=>Ji H H2∧H2 D=some (.lst ys)∧ys=(JR ((zs.map (·.2)).take i) z).map V.str) rfl rfl (fun i ys H2 p=>JA.of (p.1 _ _ h3)) ⟨Ji.upd hD,Jj,by simp [JR]⟩ (fun i ys H2 p=>p.2.1) ?_ ?_
  ·rintro i x ys H2 hx ⟨e2,hy,rfl⟩;rw [List.getElem?_map] at hx;obtain ⟨y,hy1,rfl⟩:=Option.map_eq_some_iff.mp hx;obtain ⟨a,ea,ha⟩:=h4 y (List.mem_of_getElem? hy1);have step:(zs.map (·.2)).take (i + 1)=(zs.map (·.2)).take i ++ [y.2]:=by
    rw [List.take_succ,List.getElem?_map,hy1]; rfl
   have wstep:JR ((zs.map (·.2)).take (i + 1)) z=JR ((zs.map (·.2)).take i) z ++ (if y.2.1=z then [y.2.2] else []):=by
    unfold JR;rw [step,List.filter_append,List.map_append];by_cases h:y.2.1=z
    ·simp [h]
    ·simp [h]
   have wli:=wl i;refine ⟨a,.str y.2.1,.str y.2.2,ea,e2.tup ha,_,rfl,_,rfl,rfl,_,rfl,?_⟩;by_cases h:y.2.1=z
   ·refine ZE (by rw [h]; exact decide_eq_true rfl) ⟨_,rfl,hy,by rw [List.length_map]; omega,fun b' u e=>?_,Jj,?_⟩
    ·rw [Js (Ju e hD)]; exact e2 b' u e
    ·rw [wstep,if_pos h,List.map_append]; rfl
   ·refine YN (decide_eq_false (fun e=>h (V.str.inj e))) ⟨e2,hy,?_⟩;rw [wstep,if_neg h,List.append_nil]
  ·rintro ys H2 ⟨e2,hy,rfl⟩;rw [List.length_map] at hy;rw [show zs.length=(zs.map (·.2)).length by simp] at hy;have wll:=wl (zs.map (·.2)).length;rw [List.take_length] at hy wll;exact ⟨D,_,rfl,JA.of hy,by omega,fun p ws np hp hs=>q p ws _ (e2.trans (Ji.upd np)) Jj hp hs⟩
theorem Jnw (T:Txt K mg):JC P w K mg base YJ 2 T.JpJ T.JnS ["_law_ground_here", "_law_place", "_law_left_here"] (JuB K):=by
 refine T.Jky.F.ok JuK (fun vs H Q E h=>?_) (fun cdv A outer s H vs Q E hr h=>?_)
 ·obtain ⟨_,_,_,_,_,_,rfl,_⟩:=h;rfl
 ·obtain ⟨t,z,n,ps,zs,gs,rfl,G,q⟩:=h;refine ⟨_,(@Jd _ _ _ _ _ (@JL _ _ _ _ _ _ _ _ (@Jx _ _ _ _ _ _ _ _ (@JlT _) (@pv _ 1 _ _ rfl (.inl rfl) rfl rfl) (@JM _ _ _ _ _ _ _ (@Yy _) (@pv _ 0 _ _ rfl (.inl rfl) rfl rfl) (@Je _ _ _ _) (fun _ _=>rfl)) (by with_unfolding_all rfl)) (@Jg _ _ _ (@Jq _ _ _ _ (@Jy _ _ _ _))) (@Jw _)) (@Jd _ _ _ _ _ (@JL _ _ _ _ _ _ _ _ (@PW.pt _ _ _ (@Jbn _ _ _ _ _ _ _ (@Jx _ _ _ _ _ _ _ _ (@Yi _) (@pv _ 2 _ _ rfl (.inl rfl) rfl rfl) (@Je _ _ _ _) (JE _)) (@JaO _ _ _ _ (@Jx _ _ _ _ _ _ _ _ (@Jnv _ hr.units0) (@Jm _ _ _ _ _ _ _ _ _ _ _ _ _ _ _ T.Joj (Jt5 T) (hr.mono (by decide)) JG (@Ja _ _ _ _ _ (@pv _ 0 _ _ rfl (.inl rfl) rfl rfl) (@Ja _ _ _ _ _ (@pv _ 1 _ _ rfl (.inl rfl) rfl rfl) (@Jc _) rfl) rfl) rfl (by decide) rfl rfl) (@Yx _ _ _ _ (@Jc _)) (JE _))))) (@Jg _ _ _ (@Jq _ _ _ _ (@Jy _ _ _ _))) (@Jw _)) (@Jg _ _ _ (@Jq _ _ _ _ (@Jy _ _ _ _))))),?_⟩;obtain ⟨pn,pl,pg,h1,h2,h3,h4,h5⟩:=G.at_;refine ⟨_,rfl,_,rfl,t,_,_,.ref pg,rfl,rfl,J1.of h1,rfl,pg,_,rfl,.inl (JA.of h5),rfl,JbN gs,_,rfl,?_⟩;rw [if_neg Bool.false_ne_true,JcD];by_cases hg:z∈gs
  ·refine ZE (decide_eq_true hg) ?_;have e:JbA z n (zs.map (·.2)) gs = "north":=by unfold JbA; rw [if_pos hg]
   rw [e] at q;exact q H (Ji.refl _)
  ·refine YN (decide_eq_false hg) ⟨_,rfl,rfl,_,rfl,?_⟩;by_cases h0:n=0
   ·have e:JbA z n (zs.map (·.2)) gs = "south":=by unfold JbA; rw [if_neg hg,if_pos (.inl h0)]
    rw [e] at q;exact ZE (by rw [h0]; exact decide_eq_true rfl) (Zh (q H (Ji.refl _)))
   ·refine YN (decide_eq_false fun e=>h0 (V.int.inj e)) ⟨_,rfl,_,rfl,t,z,ps,zs,gs,rfl,G,fun p ws H' e' hp wp _=>⟨by show 0≤sizeLine; decide,fun l nl=>⟨p,l,_,rfl,rfl,(Ji.upd nl).seq (JA.of hp),JA.of Jj,_,rfl,?_⟩⟩⟩;by_cases hw:JR (zs.map (·.2)) z=[]
    ·have e:JbA z n (zs.map (·.2)) gs = "south":=by unfold JbA; rw [if_neg hg,if_pos (.inr hw)]
     rw [e] at q;rw [hw] at wp;exact ZE (by rw [wp.eq_nil]; rfl) (q _ (e'.trans (Ji.upd nl)))
    ·have e:JbA z n (zs.map (·.2)) gs = "":=by unfold JbA; rw [if_neg hg,if_neg (fun h=>h.elim h0 hw)]
     rw [e] at q;refine YN ?_ (q _ (e'.trans (Ji.upd nl)));cases ws with
     | nil=>exact absurd (wp.symm.eq_nil) hw
     | cons _ _=>rfl
theorem Jsx (T:Txt K mg):JC P w K mg base YJ 1 T.Jln T.Jjq ["_law_cell"] JrQ:=by
 refine T.JlE.F.ok Jsg (fun vs H Q E h=>?_) (fun cdv A outer s H vs Q E hr h=>?_)
 ·obtain ⟨_,rfl,_⟩:=h;rfl
 ·obtain ⟨c,rfl,q⟩:=h;refine ⟨_,(@Jd _ _ _ _ _ (@JL _ _ _ _ _ _ _ _ (@Jx _ _ _ _ _ _ _ _ (@Yi _) (@Jo _ _ _ _ _ _ _ _ (@J6 _) (@Jo _ _ _ _ _ _ _ _ (@YK _) (@pv _ 0 _ _ rfl (.inl rfl) rfl rfl) (@Je _ _ _ _)) (@Je _ _ _ _)) (@Je _ _ _ _) (JE _)) (@Jg _ _ _ (@Jq _ _ _ _ (@Jo _ _ _ _ _ _ _ _ (@J6 _) (@Jo _ _ _ _ _ _ _ _ (@YK _) (@pv _ 0 _ _ rfl (.inl rfl) rfl rfl) (@Je _ _ _ _)) (@Je _ _ _ _)))) (@Jw _)) (@Jg _ _ _ (@Jq _ _ _ _ (@JM _ _ _ _ _ _ _ (@JV _) (@Yx _ _ _ _ (@Ja _ _ _ _ _ (@Je _ _ _ _) (@Ja _ _ _ _ _ (@Je _ _ _ _) (@Ja _ _ _ _ _ (@Je _ _ _ _) (@Ja _ _ _ _ _ (@Je _ _ _ _) (@Ja _ _ _ _ _ (@Je _ _ _ _) (@Ja _ _ _ _ _ (@Je _ _ _ _) (@Ja _ _ _ _ _ (@Je _ _ _ _) (@Ja _ _ _ _ _ (@Je _ _ _ _) (@Jc _) rfl) rfl) rfl) rfl) rfl) rfl) rfl) rfl)) (@Jo _ _ _ _ _ _ _ _ (@J6 _) (@pv _ 0 _ _ rfl (.inl rfl) rfl rfl) (@Je _ _ _ _)) (fun _ _=>rfl))))),?_⟩;refine ⟨_,rfl,_,_,rfl,rfl,⟨by decide,by decide⟩,_,_,rfl,rfl,(by show (0:Int) < 6; decide),rfl,_,rfl,Yt (fun _=>?_) (fun _=>?_)⟩
  ·exact ⟨_,rfl,_,_,rfl,rfl,⟨by decide,by decide⟩,_,_,rfl,rfl,(by show (0:Int) < 21; decide),q _ _ (by omega) (by omega) (Ji.refl _)⟩
  ·refine ⟨by show 8≤sizeLine; decide,fun l hl=>?_⟩;obtain ⟨y,hy,y0,y1⟩:=Jtv (xs:=[5,3,4,6,2,1,0,7]) rfl (by decide) c;exact ⟨_,rfl,_,_,rfl,rfl,(by show (0:Int) < 8; decide),l,_,_,.int y,rfl,rfl,JA.of Jj,hy,q _ _ y0 y1 (Ji.upd hl)⟩
theorem Jt7 (T:Txt K mg):JC P w K mg base YJ 1 T.Jn2 T.Jli ["_law_cell"] JtL:=by
 refine T.Jol.F.ok JtZ (fun vs H Q E h=>?_) (fun cdv A outer s H vs Q E hr h=>?_)
 ·obtain ⟨_,rfl,_⟩:=h;rfl
 ·obtain ⟨c,rfl,q⟩:=h;refine ⟨_,(@Jd _ _ _ _ _ (@JL _ _ _ _ _ _ _ _ (@Jx _ _ _ _ _ _ _ _ (@Yi _) (@Jo _ _ _ _ _ _ _ _ (@J6 _) (@Jo _ _ _ _ _ _ _ _ (@YK _) (@pv _ 0 _ _ rfl (.inl rfl) rfl rfl) (@Je _ _ _ _)) (@Je _ _ _ _)) (@Je _ _ _ _) (JE _)) (@Jg _ _ _ (@Jq _ _ _ _ (@Jo _ _ _ _ _ _ _ _ (@J6 _) (@Jo _ _ _ _ _ _ _ _ (@YK _) (@pv _ 0 _ _ rfl (.inl rfl) rfl rfl) (@Je _ _ _ _)) (@Je _ _ _ _)))) (@Jw _)) (@Jg _ _ _ (@Jq _ _ _ _ (@JM _ _ _ _ _ _ _ (@JV _) (@Yx _ _ _ _ (@Ja _ _ _ _ _ (@Je _ _ _ _) (@Ja _ _ _ _ _ (@Je _ _ _ _) (@Ja _ _ _ _ _ (@Je _ _ _ _) (@Ja _ _ _ _ _ (@Je _ _ _ _) (@Ja _ _ _ _ _ (@Je _ _ _ _) (@Ja _ _ _ _ _ (@Je _ _ _ _) (@Ja _ _ _ _ _ (@Je _ _ _ _) (@Ja _ _ _ _ _ (@Je _ _ _ _) (@Jc _) rfl) rfl) rfl) rfl) rfl) rfl) rfl) rfl)) (@Jo _ _ _ _ _ _ _ _ (@J6 _) (@pv _ 0 _ _ rfl (.inl rfl) rfl rfl) (@Je _ _ _ _)) (fun _ _=>rfl))))),?_⟩;refine ⟨_,rfl,_,_,rfl,rfl,⟨by decide,by decide⟩,_,_,rfl,rfl,(by show (0:Int) < 6; decide),rfl,_,rfl,Yt (fun _=>?_) (fun _=>?_)⟩
  ·exact ⟨_,rfl,_,_,rfl,rfl,⟨by decide,by decide⟩,_,_,rfl,rfl,(by show (0:Int) < 31; decide),q _ _ (by omega) (by omega) (Ji.refl _)⟩
  ·refine ⟨by show 8≤sizeLine; decide,fun l hl=>?_⟩;obtain ⟨y,hy,y0,y1⟩:=Jtv (xs:=[4,5,3,6,2,1,0,7]) rfl (by decide) c;exact ⟨_,rfl,_,_,rfl,rfl,(by show (0:Int) < 8; decide),l,_,_,.int y,rfl,rfl,JA.of Jj,hy,q _ _ y0 (by omega) (Ji.upd hl)⟩
theorem Jt6 (T:Txt K mg):JC P w K mg base YJ 3 T.Jn1 T.Jlh ["_law_ground_here", "_law_cell"] (JtI K):=by
 refine T.Jok.F.ok Jiw (fun vs H Q E h=>?_) (fun cdv A outer s H vs Q E hr h=>?_)
 ·obtain ⟨_,_,_,_,_,rfl,_⟩:=h;rfl
 ·obtain ⟨t,c,ps,zs,gs,rfl,G,q⟩:=h;refine ⟨_,(@Jd _ _ _ _ _ (@Jz _ _ 2 _ _ _ _ Jiw.nd rfl (Or.inl rfl) (@JM _ _ _ _ _ _ _ (@Yy _) (@pv _ 0 _ _ rfl (.inl rfl) rfl rfl) (@Je _ _ _ _) (fun _ _=>rfl)) rfl (.inl rfl)) (@Jd _ _ _ _ _ (@ZC _ _ _ _ _ _ _ _ PassesOwn.never rfl (@Zf _ _ _ _ _ _ rfl T.Zx (@Ja _ _ _ _ _ (@JB _ _ _ _ _ _ _ _ _ (@Yk _) rfl T.Zm PySem.boot_len (@Ja _ _ _ _ _ (@pv _ 2 _ _ rfl (.inl rfl) rfl rfl) (@Jc _) rfl) (by decide) (by decide) rfl rfl) (@Jc _) rfl) rfl) (@YA _ _ 3 _ Jiw.nd rfl (Or.inl rfl) (.inl rfl)) (@Jd _ _ _ _ _ (@Jz _ _ 4 _ _ _ _ Jiw.nd rfl (Or.inl rfl) (@JM _ _ _ _ _ _ _ (@JV _) (@pv _ 2 _ _ rfl (.inl rfl) rfl rfl) (@Jo _ _ _ _ _ _ _ _ (@J6 _) (@Jo _ _ _ _ _ _ _ _ (@Ye _) (@pv _ 1 _ _ rfl (.inl rfl) rfl rfl) (@pv _ 3 _ _ rfl (.inl rfl) rfl rfl)) (@JB _ _ _ _ _ _ _ _ _ (@Yk _) rfl T.Zm PySem.boot_len (@Ja _ _ _ _ _ (@pv _ 2 _ _ rfl (.inl rfl) rfl rfl) (@Jc _) rfl) (by decide) (by decide) rfl rfl)) (fun _ _=>rfl)) rfl (.inl rfl)) (@Jg _ _ _ (@JL _ _ _ _ _ _ _ _ (@Jx _ _ _ _ _ _ _ _ (@Yi _) (@Jm _ _ _ _ _ _ _ _ _ _ _ _ _ _ _ T.Jky (Jnw T) (hr.mono (by decide)) JG (@Ja _ _ _ _ _ (@pv _ 0 _ _ rfl (.inl rfl) rfl rfl) (@Ja _ _ _ _ _ (@pv _ 4 _ _ rfl (.inl rfl) rfl rfl) (@Ja _ _ _ _ _ (@Je _ _ _ _) (@Jc _) rfl) rfl) rfl) rfl (by decide) rfl rfl) (@Jy _ _ _ _) (JE _)) (@Jg _ _ _ (@Jq _ _ _ _ (@pv _ 4 _ _ rfl (.inl rfl) rfl rfl))) (@Jw _)))) (by intro _; rfl)) (@Jg _ _ _ (@Jq _ _ _ _ (@JM _ _ _ _ _ _ _ (@JV _) (@pv _ 2 _ _ rfl (.inl rfl) rfl rfl) (@Jo _ _ _ _ _ _ _ _ (@J6 _) (@pv _ 1 _ _ rfl (.inl rfl) rfl rfl) (@JB _ _ _ _ _ _ _ _ _ (@Yk _) rfl T.Zm PySem.boot_len (@Ja _ _ _ _ _ (@pv _ 2 _ _ rfl (.inl rfl) rfl rfl) (@Jc _) rfl) (by decide) (by decide) rfl rfl)) (fun _ _=>rfl)))))),?_⟩;obtain ⟨pn,pl,pg,h1,h2,h3,h4,h5⟩:=G.at_;have p1:=G.good.p1;have p2:=G.good.p2;refine ⟨_,rfl,t,_,_,.ref pn,rfl,rfl,J1.of h1,rfl,?_⟩;refine ⟨_,rfl,pn,_,rfl,.inl (JA.of h2),((ps.map V.str).length:Int),rfl,by rw [List.length_map]; omega,by rw [List.length_map]; omega,?_⟩;rw [Int.toNat_natCast];refine Zt (n:=(ps.map V.str).length) (fun i σ H2=>Ji H H2∧∃ v3 v4,σ=[some (.ref t),some (.int c),some (.ref pn),v3,v4]) ⟨Ji.refl _,none,none,rfl⟩ ?_ ?_
  ·rintro i σ H2 hi ⟨e2,v3,v4,rfl⟩;obtain ⟨p,hp,hpm⟩:=JgM p1 (c + (0 + (i:Int)));refine ⟨_,rfl,_,rfl,_,rfl,_,_,rfl,rfl,_,rfl,pn,_,rfl,.inl (JA.of (e2 _ _ h2)),_,_,rfl,rfl,(by rw [List.length_map]; omega),pn,_,_,.str p,rfl,rfl,JA.of (e2 _ _ h2),hp,?_⟩;refine ⟨_,rfl,_,rfl,t,p,1,ps,zs,gs,rfl,G.same e2,fun H3 e3=>⟨rfl,_,rfl,Yt (fun _=>?_) (fun _=>?_)⟩⟩
   ·exact ⟨_,rfl,q p H3 hpm (e2.trans e3)⟩
   ·exact ⟨e2.trans e3,_,_,rfl⟩
  ·rintro σ H2 ⟨e2,v3,v4,rfl⟩;obtain ⟨p,hp,hpm⟩:=JgM p1 c;exact ⟨_,rfl,_,rfl,_,rfl,pn,_,rfl,.inl (JA.of (e2 _ _ h2)),_,_,rfl,rfl,(by rw [List.length_map]; omega),pn,_,_,.str p,rfl,rfl,JA.of (e2 _ _ h2),hp,q p H2 hpm e2⟩
end
section
variable {P:Program} {w:World} {K:PySem.W.Frag} {mg:Str→Option Value} {base:Heap}
theorem JgE (T:Txt K mg):JC P w K mg base YJ 1 T.Jbr T.JcJ ["self", "place", "turns", "north", "south", "ribbon", "hand", "word", "heard"] (JmR T):=by
 refine T.Jbs.F.ok JkL (fun vs H Q E h=>?_) (fun cdv A outer s H vs Q E hr h=>?_)
 ·obtain ⟨_,_,_,_,_,_,_,_,_,_,rfl,_⟩:=h;rfl
 ·obtain ⟨x,dx,v1,v2,v3,v4,v5,v6,v7,v8,rfl,hx,q⟩:=h;refine ⟨_,(@Jd _ _ _ _ _ (@Y3 _ _ _ _ _ _ _ _ (@pv _ 0 _ _ rfl (.inl rfl) rfl rfl) (@pv _ 1 _ _ rfl (.inl rfl) rfl rfl) rfl) (@Jd _ _ _ _ _ (@Y3 _ _ _ _ _ _ _ _ (@pv _ 0 _ _ rfl (.inl rfl) rfl rfl) (@pv _ 2 _ _ rfl (.inl rfl) rfl rfl) rfl) (@Jd _ _ _ _ _ (@Y3 _ _ _ _ _ _ _ _ (@pv _ 0 _ _ rfl (.inl rfl) rfl rfl) (@pv _ 3 _ _ rfl (.inl rfl) rfl rfl) rfl) (@Jd _ _ _ _ _ (@Y3 _ _ _ _ _ _ _ _ (@pv _ 0 _ _ rfl (.inl rfl) rfl rfl) (@pv _ 4 _ _ rfl (.inl rfl) rfl rfl) rfl) (@Jd _ _ _ _ _ (@Y3 _ _ _ _ _ _ _ _ (@pv _ 0 _ _ rfl (.inl rfl) rfl rfl) (@pv _ 5 _ _ rfl (.inl rfl) rfl rfl) rfl) (@Jd _ _ _ _ _ (@Y3 _ _ _ _ _ _ _ _ (@pv _ 0 _ _ rfl (.inl rfl) rfl rfl) (@pv _ 6 _ _ rfl (.inl rfl) rfl rfl) rfl) (@Jd _ _ _ _ _ (@Y3 _ _ _ _ _ _ _ _ (@pv _ 0 _ _ rfl (.inl rfl) rfl rfl) (@pv _ 7 _ _ rfl (.inl rfl) rfl rfl) rfl) (@Jg _ _ _ (@Y3 _ _ _ _ _ _ _ _ (@pv _ 0 _ _ rfl (.inl rfl) rfl rfl) (@pv _ 8 _ _ rfl (.inl rfl) rfl rfl) rfl))))))))),?_⟩;refine ⟨_,rfl,_,rfl,x,_,dx,_,rfl,hx,T.Yr,T.JaE,by decide,?_⟩;refine ⟨_,rfl,_,rfl,x,_,dx,[("place",v1)],rfl,Jj,T.Yr,T.JaD,by show 1 < 1000; decide,?_⟩;rw [Jct];refine ⟨_,rfl,_,rfl,x,_,dx,[("place",v1),("turns",v2)],rfl,Jj,T.Yr,T.Jb3,by show 2 < 1000; decide,?_⟩;rw [Jct];refine ⟨_,rfl,_,rfl,x,_,dx,[("place",v1),("turns",v2),("north",v3)],rfl,Jj,T.Yr,T.Jb2,by show 3 < 1000; decide,?_⟩;rw [Jct];refine ⟨_,rfl,_,rfl,x,_,dx,[("place",v1),("turns",v2),("north",v3),("south",v4)],rfl,Jj,T.Yr,T.JbD,by show 4 < 1000; decide,?_⟩;rw [Jct];refine ⟨_,rfl,_,rfl,x,_,dx,[("place",v1),("turns",v2),("north",v3),("south",v4),("ribbon",v5)],rfl,Jj,T.Yr,T.JcA,by show 5 < 1000; decide,?_⟩;rw [Jct];refine ⟨_,rfl,_,rfl,x,_,dx,[("place",v1),("turns",v2),("north",v3),("south",v4),("ribbon",v5),("hand",v6)],rfl,Jj,T.Yr,T.Ja3,by show 6 < 1000; decide,?_⟩;rw [Jct];refine ⟨_,rfl,_,rfl,x,_,dx,[("place",v1),("turns",v2),("north",v3),("south",v4),("ribbon",v5),("hand",v6),("word",v7)],rfl,Jj,T.Yr,T.Jb4,by show 7 < 1000; decide,?_⟩;rw [Jct];exact q
theorem JiY {T:Txt K mg} {H:Hp} {x dx:Addr} {v1 v2 v3 v4 v5 v6 v7 v8:V} {Q:VK} {E:XK} (nx:H x=none) (ndx:H dx=none) (q:∀ H',Ji H H'→H' x=some (.ins T.Yn dx [("place",v1),("turns",v2),("north",v3),("south",v4),("ribbon",v5),("hand",v6),("word",v7),("heard",v8)])→Q .non H') :
  JmR T (.ref x :: ([v1,v2,v3,v4,v5,v6,v7,v8] ++ [])) (upd (upd H dx (.own x)) x (.ins T.Yn dx [])) Q E:=by
 refine ⟨x,dx,v1,v2,v3,v4,v5,v6,v7,v8,rfl,Jj,q _ (fun b u e=>?_) Jj⟩;rw [Js (Ju e nx),Js (Ju e nx),Js (Ju e ndx)]; exact e
theorem Jmu (T:Txt K mg):JC P w K mg base YJ 6 T.Jfk T.JdC ["board", "place", "turns", "north", "south", "ribbon"] (Jqf T):=by
 refine T.JfF.F.ok Jmj (fun vs H Q E h=>?_) (fun cdv A outer s H vs Q E hr h=>?_)
 ·obtain ⟨_,_,_,_,_,_,_,_,_,rfl,_⟩:=h;rfl
 ·obtain ⟨b,p,m,n,c,r,ps,zs,gs,rfl,B,hp,hm,q⟩:=h;refine ⟨_,(@Jd _ _ _ _ _ (@JL _ _ _ _ _ _ _ _ (@Jbf _ _ _ _ _ _ (@JiD _ _ _ _ _ (@Jm _ _ _ _ _ _ _ _ _ _ _ _ _ _ _ T.JgR (Jjj T) (hr.mono (by decide)) Zp (@Ja _ _ _ _ _ (@pv _ 0 _ _ rfl (.inl rfl) rfl rfl) (@Ja _ _ _ _ _ (@pv _ 1 _ _ rfl (.inl rfl) rfl rfl) (@Ja _ _ _ _ _ (@pv _ 2 _ _ rfl (.inl rfl) rfl rfl) (@Jc _) rfl) rfl) rfl) rfl (by decide) rfl rfl)) (by first | exact Zc _ (by decide) (by decide) | rfl)) (@Jg _ _ _ (@Jq _ _ _ _ (@Jcz _ _ _ _ _ _ _ _ _ _ _ _ _ _ _ _ _ T.JhY (JgE T) (hr.mono (by decide)) rfl T.JjA T.Jbs.b .nil JG (@Ja _ _ _ _ _ (@pv _ 1 _ _ rfl (.inl rfl) rfl rfl) (@Ja _ _ _ _ _ (@pv _ 2 _ _ rfl (.inl rfl) rfl rfl) (@Ja _ _ _ _ _ (@pv _ 3 _ _ rfl (.inl rfl) rfl rfl) (@Ja _ _ _ _ _ (@pv _ 4 _ _ rfl (.inl rfl) rfl rfl) (@Ja _ _ _ _ _ (@pv _ 5 _ _ rfl (.inl rfl) rfl rfl) (@Ja _ _ _ _ _ (@Jbg _ _ _) (@Ja _ _ _ _ _ (@Jbg _ _ _) (@Ja _ _ _ _ _ (@Jbg _ _ _) (@Jc _) rfl) rfl) rfl) rfl) rfl) rfl) rfl) rfl) (by decide) rfl rfl))) (@Jw _)) (@Jg _ _ _ (@Jq _ _ _ _ (@Jcz _ _ _ _ _ _ _ _ _ _ _ _ _ _ _ _ _ T.JhY (JgE T) (hr.mono (by decide)) rfl T.JjA T.Jbs.b .nil JG (@Ja _ _ _ _ _ (@pv _ 1 _ _ rfl (.inl rfl) rfl rfl) (@Ja _ _ _ _ _ (@pv _ 2 _ _ rfl (.inl rfl) rfl rfl) (@Ja _ _ _ _ _ (@pv _ 3 _ _ rfl (.inl rfl) rfl rfl) (@Ja _ _ _ _ _ (@pv _ 4 _ _ rfl (.inl rfl) rfl rfl) (@Ja _ _ _ _ _ (@pv _ 5 _ _ rfl (.inl rfl) rfl rfl) (@Ja _ _ _ _ _ (@Jm _ _ _ _ _ _ _ _ _ _ _ _ _ _ _ T.JlG (Jsz T) (hr.mono (by decide)) Zp (@Ja _ _ _ _ _ (@pv _ 5 _ _ rfl (.inl rfl) rfl rfl) (@Jc _) rfl) rfl (by decide) rfl rfl) (@Ja _ _ _ _ _ (@Jy _ _ _ _) (@Ja _ _ _ _ _ (@Jbg _ _ _) (@Jc _) rfl) rfl) rfl) rfl) rfl) rfl) rfl) rfl) (by decide) rfl rfl)))),?_⟩;have tp:=Yo (B.G.p3 p hp);refine ⟨_,rfl,_,rfl,_,rfl,b,p,(m:Int),ps,zs,gs,rfl,tp,B.zl,B.B,fun z=>absurd hp z,fun _ z=>absurd ⟨by omega,by omega⟩ z,fun _ _ H1 e1=>?_⟩;have en:=Jn5 (z:=p) (m:=m) (zs:=zs.map (·.2)) (gs:=gs);by_cases he:Y6 (zs.map (·.2)) gs m p
  ·obtain ⟨y,hy⟩:=en.1 he;rw [hy];refine ⟨_,rfl,Zh ⟨_,rfl,_,rfl,_,rfl,_,rfl,_,rfl,fun x dx nx ndx hne=>JiY nx ndx fun H2 e2 h2=>⟨rfl,q x dx H2 (e1.free nx) (e1.trans e2) ?_⟩⟩⟩;rw [h2];show _=some (HO.ins _ dx (Mo.fs c ⟨p,m,n,r,if Y6 (zs.map (·.2)) gs m p then .over else .bid⟩));rw [if_pos he]; rfl
  ·rw [en.2 he];refine ⟨_,rfl,YT ⟨_,rfl,_,rfl,_,rfl,_,rfl,_,rfl,_,rfl,hs r,rfl,JkC r,(fun r' hr'=>?_),(fun z=>by rw [Jh8] at z; cases z)⟩⟩;obtain rfl:=JnR hr';refine fun x dx nx ndx hne=>JiY nx ndx fun H2 e2 h2=>⟨rfl,q x dx H2 (e1.free nx) (e1.trans e2) ?_⟩
   rw [h2];show _=some (HO.ins _ dx (Mo.fs c ⟨p,m,n,r,if Y6 (zs.map (·.2)) gs m p then .over else .bid⟩));rw [if_neg he]; rfl
theorem Jd6 (T:Txt K mg):JC P w K mg base (Ys P w) 4 T.JbI T.Jbb ["board", "place", "turns", "north", "south", "ribbon"] (Jqp T):=by
 refine T.Jam.F.ok1 JiO (fun vs H Q E h=>?_) (fun cdv A outer s H vs Q E hr h=>?_)
 ·obtain ⟨_,_,_,_,_,_,_,_,_,rfl,_⟩:=h;rfl
 ·obtain ⟨b,z,x,m,n,s,ps,zs,gs,rfl,tz,tx,B,⟨q1,q2,q3,q4⟩,q⟩:=h;refine ⟨_,(@Jd _ _ _ _ _ (@JP _ _ _ _ (@JD _ _ _ _ _ _ _ _ _ _ _ _ _ _ _ _ _ _ _ _ (@pv _ 0 _ _ rfl (.inl rfl) rfl rfl) T.YU T.J9.m (Zb T) (hr.mono (by decide)) T.J9.b .nil JY (@Ja _ _ _ _ _ (@pv _ 1 _ _ rfl (.inl rfl) rfl rfl) (@Jc _) rfl) rfl rfl rfl) rfl) (@Jd _ _ _ _ _ (@JP _ _ _ _ (@Jm _ _ _ _ _ _ _ _ _ _ _ _ _ _ _ T.Zg (ZI T) (hr.mono (by decide)) JY (@Ja _ _ _ _ _ (@pv _ 2 _ _ rfl (.inl rfl) rfl rfl) (@Ja _ _ _ _ _ (@ZH _ _ _ _ _ rfl T.ZP T.ZL (by decide)) (@Jc _) rfl) rfl) rfl (by decide) rfl rfl) rfl) (@Jd _ _ _ _ _ (@JP _ _ _ _ (@Jm _ _ _ _ _ _ _ _ _ _ _ _ _ _ _ T.Jd5 (Jk7 T) (hr.mono (by decide)) JY (@Ja _ _ _ _ _ (@pv _ 3 _ _ rfl (.inl rfl) rfl rfl) (@Ja _ _ _ _ _ (@pv _ 4 _ _ rfl (.inl rfl) rfl rfl) (@Jc _) rfl) rfl) rfl (by decide) rfl rfl) rfl) (@Jg _ _ _ (@JP _ _ _ _ (@Jm _ _ _ _ _ _ _ _ _ _ _ _ _ _ _ T.Ja0 (Jdy T) (hr.mono (by decide)) JY (@Ja _ _ _ _ _ (@pv _ 5 _ _ rfl (.inl rfl) rfl rfl) (@Jc _) rfl) rfl (by decide) rfl rfl) rfl))))),?_⟩;obtain ⟨bdx,tp,tl,tg,hb,_⟩:=id B.B;refine ⟨_,rfl,b,bdx,_,rfl,hb,rfl,_,rfl,b,z,ps,zs,gs,rfl,tz,B.B,fun hz=>?_,q1⟩;refine ⟨_,rfl,m,30,rfl,⟨by decide,by decide⟩,fun hm=>?_,q2 hz⟩;refine ⟨_,rfl,_,rfl,n,s,rfl,fun hc=>?_,q3 hz hm⟩;exact ⟨_,rfl,x,rfl,tx,fun hx=>q ⟨hz,hm,hc,hx⟩,q4 hz hm hc⟩
theorem Yc.bk {C CB C' dx:Addr} {H H':Hp} {k b g:Addr} {ps:List Str} {zs:List (V×(Str×Str))} {gs:List Str} {c:Int} {t n:Nat} {fs:List (Str×V)} (h:Bk K C CB H k b ps zs gs c t n) (e:Yc g H H') (hg:H g=some (.ins C' dx fs)) (h1:g≠k) (h2:g≠b):Bk K C CB H' k b ps zs gs c t n :=
 ⟨Yc.bd h.B e hg h2,h.c0,h.c1,h.t1,let ⟨dx,l,rs,k1,k2,k3,k4⟩:=h.at_; ⟨dx,l,rs,e _ _ (fun z=>h1 z.symm) k1,e _ _ (Jaj k2 hg (fun z=>nomatch z)) k2,k3,fun i a q=>let ⟨kvs,r1,r2⟩:=k4 i a q; ⟨kvs,e _ _ (Jaj r1 hg (fun z=>nomatch z)) r1,r2⟩⟩⟩
theorem JnG (T:Txt K mg):JC P w K mg base (Ys P w) 9 T.JcZ T.Jfh ["self", "board", "place", "turns", "north", "south", "ribbon"] (JmV T):=by
 refine T.Jgu.F.ok1 Jnb (fun vs H Q E h=>?_) (fun cdv A outer s H vs Q E hr h=>?_)
 ·obtain ⟨_,_,_,_,_,_,_,_,_,_,_,rfl,_⟩:=h;rfl
 ·obtain ⟨g,b,dx,z,x,m,n,s,ps,zs,gs,rfl,hg,hgb,tz,tx,B,hE,q⟩:=h;have szl:sizeLine=16777216:=sizeLine_eq;refine ⟨_,(@Jd _ _ _ _ _ (@JP _ _ _ _ (@Jm _ _ _ _ _ _ _ _ _ _ _ _ _ _ _ T.Jam (Jd6 T) (hr.mono (by decide)) JY (@Ja _ _ _ _ _ (@pv _ 1 _ _ rfl (.inl rfl) rfl rfl) (@Ja _ _ _ _ _ (@pv _ 2 _ _ rfl (.inl rfl) rfl rfl) (@Ja _ _ _ _ _ (@pv _ 3 _ _ rfl (.inl rfl) rfl rfl) (@Ja _ _ _ _ _ (@pv _ 4 _ _ rfl (.inl rfl) rfl rfl) (@Ja _ _ _ _ _ (@pv _ 5 _ _ rfl (.inl rfl) rfl rfl) (@Ja _ _ _ _ _ (@pv _ 6 _ _ rfl (.inl rfl) rfl rfl) (@Jc _) rfl) rfl) rfl) rfl) rfl) rfl) rfl (by decide) rfl rfl) rfl) (@Jd _ _ _ _ _ (@Y3 _ _ _ _ _ _ _ _ (@pv _ 0 _ _ rfl (.inl rfl) rfl rfl) (@pv _ 1 _ _ rfl (.inl rfl) rfl rfl) rfl) (@Jd _ _ _ _ _ (@Y3 _ _ _ _ _ _ _ _ (@pv _ 0 _ _ rfl (.inl rfl) rfl rfl) (@Jcz _ _ _ _ _ _ _ _ _ _ _ _ _ _ _ _ _ T.JiF (JeZ T) (hr.mono (by decide)) rfl T.Jkp T.Jbk.b .nil Zp (@Ja _ _ _ _ _ (@pv _ 1 _ _ rfl (.inl rfl) rfl rfl) (@Ja _ _ _ _ _ (@Jo _ _ _ _ _ _ _ _ (@Ye _) (@pv _ 4 _ _ rfl (.inl rfl) rfl rfl) (@pv _ 5 _ _ rfl (.inl rfl) rfl rfl)) (@Ja _ _ _ _ _ (@pv _ 3 _ _ rfl (.inl rfl) rfl rfl) (@Jc _) rfl) rfl) rfl) (by decide) rfl rfl) rfl) (@Jd _ _ _ _ _ (@Y3 _ _ _ _ _ _ _ _ (@pv _ 0 _ _ rfl (.inl rfl) rfl rfl) (@Yx _ _ _ _ (@Jc _)) rfl) (@Jg _ _ _ (@Y3 _ _ _ _ _ _ _ _ (@pv _ 0 _ _ rfl (.inl rfl) rfl rfl) (@Yx _ _ _ _ (@Ja _ _ _ _ _ (@Jm _ _ _ _ _ _ _ _ _ _ _ _ _ _ _ T.JfF (Jmu T) (hr.mono (by decide)) JG (@Ja _ _ _ _ _ (@pv _ 1 _ _ rfl (.inl rfl) rfl rfl) (@Ja _ _ _ _ _ (@pv _ 2 _ _ rfl (.inl rfl) rfl rfl) (@Ja _ _ _ _ _ (@pv _ 3 _ _ rfl (.inl rfl) rfl rfl) (@Ja _ _ _ _ _ (@pv _ 4 _ _ rfl (.inl rfl) rfl rfl) (@Ja _ _ _ _ _ (@pv _ 5 _ _ rfl (.inl rfl) rfl rfl) (@Ja _ _ _ _ _ (@pv _ 6 _ _ rfl (.inl rfl) rfl rfl) (@Jc _) rfl) rfl) rfl) rfl) rfl) rfl) rfl (by decide) rfl rfl) (@Jc _) rfl)) rfl)))))),?_⟩;refine ⟨_,rfl,_,rfl,_,rfl,_,rfl,_,rfl,_,rfl,b,z,x,m,n,s,ps,zs,gs,rfl,tz,tx,B,hE,fun ⟨hz,hm,hc,hx⟩=>?_⟩;obtain ⟨r,rfl⟩:=JgI hx;have q:=q hz hm hc r rfl;obtain ⟨m,rfl⟩:∃ j:Nat,m=(j:Int):=⟨m.toNat,by omega⟩
  rw [Int.toNat_natCast] at q;have hcn:0≤n∧0≤s∧n + s≤20:=hc;refine ⟨_,rfl,_,rfl,g,_,dx,_,rfl,hg,T.YF,T.JdA,by decide,?_⟩;have b1:Yc g H (upd H g (.ins T.J7 dx (Yh "board" (.ref b) []))):=Yc.put;have h1:upd H g (.ins T.J7 dx (Yh "board" (.ref b) [])) g=some (.ins T.J7 dx [("board",.ref b)]):=Jj;generalize upd H g (.ins T.J7 dx (Yh "board" (.ref b) []))=H1 at b1 h1;have B1:Bd K T.JT H1 b ps zs gs:=Yc.bd B b1 hg hgb;refine ⟨_,rfl,_,rfl,_,rfl,_,_,rfl,rfl,_,rfl,fun k dk nk ndk hne=>JlV B1 ⟨by omega,by omega⟩ ⟨by omega,by omega⟩ nk ndk fun H2 e2 Bk2=>⟨rfl,?_⟩⟩;rw [Int.toNat_natCast] at Bk2;have gk:g≠k:=Ju h1 nk;have h2:=e2 _ _ h1;have b2:=b1.trans (Yc.of e2);refine ⟨_,rfl,g,_,dx,_,rfl,h2,T.YF,T.JhV,by show 1 < 1000; decide,?_⟩;have h3:upd H2 g (.ins T.J7 dx (Yh "book" (.ref k) [("board",.ref b)])) g=some (.ins T.J7 dx [("board",.ref b),("book",.ref k)]):=Jj;have c3:Yc g H2 (upd H2 g (.ins T.J7 dx (Yh "book" (.ref k) [("board",.ref b)]))):=Yc.put;generalize upd H2 g (.ins T.J7 dx (Yh "book" (.ref k) [("board",.ref b)]))=H3 at h3 c3;have b3:=b2.trans c3;have Bk3:=Yc.bk Bk2 c3 h2 gk hgb;refine ⟨by show 0≤sizeLine; decide,fun ld nld=>?_⟩;have gld:g≠ld:=Ju h3 nld;refine ⟨_,rfl,g,_,dx,_,rfl,(Ji.upd nld) _ _ h3,T.YF,T.Je1,by show 2 < 1000; decide,?_⟩;have h4:upd (upd H3 ld (.lst [])) g (.ins T.J7 dx (Yh "done" (.ref ld) [("board",.ref b),("book",.ref k)])) g=some (.ins T.J7 dx [("board",.ref b),("book",.ref k),("done",.ref ld)]):=Jj;have d4:upd (upd H3 ld (.lst [])) g (.ins T.J7 dx (Yh "done" (.ref ld) [("board",.ref b),("book",.ref k)])) ld=some (.lst []):=by rw [Js (fun z=>gld z.symm),Jj]
  have c4:Yc g H3 (upd (upd H3 ld (.lst [])) g (.ins T.J7 dx (Yh "done" (.ref ld) [("board",.ref b),("book",.ref k)]))):=(Yc.of (Ji.upd nld)).trans Yc.put;generalize upd (upd H3 ld (.lst [])) g (.ins T.J7 dx (Yh "done" (.ref ld) [("board",.ref b),("book",.ref k)]))=H4 at h4 d4 c4;have Bk4:=Yc.bk Bk3 c4 h3 gk hgb;refine ⟨_,rfl,_,rfl,_,rfl,_,rfl,_,rfl,_,rfl,b,z,m,n,n + s,r,ps,zs,gs,(by rw [show n + s - n=s by omega]; rfl),Bk4.B,hz,by omega,fun a dxa H5 na e5 ha=>?_⟩;refine ⟨by show 1≤sizeLine; decide,fun lm nlm=>?_⟩;refine ⟨_,rfl,g,_,dx,_,rfl,(Ji.upd nlm) _ _ (e5 _ _ h4),T.YF,T.Zw,by show 3 < 1000; decide,?_⟩;have h5:=e5 _ _ h4;have glm:g≠lm:=Ju h5 nlm;have dlm:ld≠lm:=Ju (e5 _ _ d4) nlm;have ag:a≠g:=fun z=>by rw [z,h4] at na; cases na
  have alm:a≠lm:=Ju ha nlm;have n4lm:H4 lm=none:=e5.free nlm;let S:Hp:=upd H3 g (.ins T.J7 dx [("board",.ref b),("book",.ref k),("done",.ref ld),("moments",.ref lm)]);have h6:upd (upd H5 lm (.lst [.ref a])) g (.ins T.J7 dx (Yh "moments" (.ref lm) [("board",.ref b),("book",.ref k),("done",.ref ld)])) g=some (.ins T.J7 dx [("board",.ref b),("book",.ref k),("done",.ref ld),("moments",.ref lm)]):=Jj;refine q ⟨S,g,b,k,ld,lm,ps,zs,gs,n + s,m⟩ a _ rfl rfl rfl rfl rfl rfl rfl (b3.trans Yc.put) ⟨fun b' u e=>?_,Yc.bk Bk3 Yc.put h3 gk hgb,⟨dx,Jj⟩,?_,?_,dlm,?_,?_,(fun d hd=>nomatch hd),fun y hy=>?_,fun y hy=>?_⟩
  ·by_cases hbg:b'=g
   ·subst hbg;have e:upd H3 b' _ b'=some u:=e;rw [Jj] at e;rw [h6]; exact e
   ·have e:upd H3 g _ b'=some u:=e;rw [Js hbg] at e;rw [Js hbg];exact (Ji.upd nlm) _ _ (e5 _ _ (c4 _ _ hbg e))
  ·show upd H3 g _ ld=none;rw [Js (fun z=>gld z.symm)]; exact nld
  ·show upd H3 g _ lm=none;rw [Js (fun z=>glm z.symm)];cases hq:H3 lm with
   | none=>rfl
   | some u=>rw [c4 _ _ (fun z=>glm z.symm) hq] at n4lm; cases n4lm
  ·rw [Js (fun z=>gld z.symm)]; exact (Ji.upd nlm) _ _ (e5 _ _ d4)
  ·rw [Js (fun z=>glm z.symm),Jj]; rfl
  ·rw [List.mem_singleton.mp hy];refine ⟨dxa,?_⟩;rw [Js ag]; exact (Ji.upd nlm) _ _ ha
  ·rw [List.mem_singleton.mp hy]; exact Jpx hz (Nat.le_refl _) ⟨hcn.1,by show n≤n + s; omega⟩
theorem Jjk (T:Txt K mg):JC P w K mg base YJ 1 T.Jce T.JbG ["self"] (Jqk T):=by
 refine T.JaG.F.ok JeA (fun vs H Q E h=>?_) (fun cdv A outer s H vs Q E hr h=>?_)
 ·obtain ⟨_,_,_,_,_,rfl,_⟩:=h;rfl
 ·obtain ⟨G,ds,ms,a,x,rfl,A0,q⟩:=h;refine ⟨_,(@Jd _ _ _ _ _ (@Jz _ _ 1 _ _ _ _ JeA.nd rfl (Or.inl rfl) (@JM _ _ _ _ _ _ _ (@JV _) (@J5 _ _ _ _ _ (@pv _ 0 _ _ rfl (.inl rfl) rfl rfl) rfl) (@JiC _ _ _ _ _ _ (@Jgv _) (@Je _ _ _ _)) (fun _ _=>rfl)) rfl (.inl rfl)) (@Jg _ _ _ (@Jq _ _ _ _ (@YR _ _ _ _ _ (@Ja _ _ _ _ _ (@J5 _ _ _ _ _ (@pv _ 1 _ _ rfl (.inl rfl) rfl rfl) rfl) (@Ja _ _ _ _ _ (@J5 _ _ _ _ _ (@pv _ 1 _ _ rfl (.inl rfl) rfl rfl) rfl) (@Ja _ _ _ _ _ (@J5 _ _ _ _ _ (@pv _ 1 _ _ rfl (.inl rfl) rfl rfl) rfl) (@Ja _ _ _ _ _ (@J5 _ _ _ _ _ (@pv _ 1 _ _ rfl (.inl rfl) rfl rfl) rfl) (@Ja _ _ _ _ _ (@J5 _ _ _ _ _ (@pv _ 1 _ _ rfl (.inl rfl) rfl rfl) rfl) (@Jc _) rfl) rfl) rfl) rfl) rfl))))),?_⟩;obtain ⟨dx,hg⟩:=A0.gi;have hm:=A0.hm;rw [List.map_append] at hm;obtain ⟨dm,ha⟩:=A0.mt (a,x) (List.mem_append_right _ (List.mem_singleton.mpr rfl));have ha:H a=some (.ins T.Yn dm (x.fs G.c)):=ha;refine ⟨_,rfl,G.g,_,dx,_,.ref G.lm,rfl,A0.sm _ _ hg,T.YF,T.Zw,rfl,_,rfl,G.lm,_,_,.ref a,rfl,rfl,JA.of hm,JfB,?_⟩;refine ⟨_,rfl,a,_,dm,_,.str x.p,rfl,ha,T.Yr,T.JaE,rfl,_,rfl,a,_,dm,_,.int (x.m:Int),rfl,ha,T.Yr,T.JaD,rfl,_,rfl,a,_,dm,_,.int x.n,rfl,ha,T.Yr,T.Jb3,rfl,_,rfl,a,_,dm,_,.int (G.c - x.n),rfl,ha,T.Yr,T.Jb2,rfl,_,rfl,a,_,dm,_,.str (hs x.r),rfl,ha,T.Yr,T.JbD,rfl,by show 5≤sizeLine; decide,fun t nt=>q t _ (Ji.upd nt) Jj⟩
theorem Jot (T:Txt K mg):JC P w K mg base YJ 1 T.Jhf T.Jge ["self"] (JtQ T):=by
 refine T.Jel.F.ok JiS (fun vs H Q E h=>?_) (fun cdv A outer s H vs Q E hr h=>?_)
 ·obtain ⟨_,_,_,_,_,rfl,_⟩:=h;rfl
 ·obtain ⟨G,ds,ms,a,x,rfl,A0,q1,q2⟩:=h;refine ⟨_,(@Jd _ _ _ _ _ (@Jz _ _ 1 _ _ _ _ JiS.nd rfl (Or.inl rfl) (@JM _ _ _ _ _ _ _ (@JV _) (@J5 _ _ _ _ _ (@pv _ 0 _ _ rfl (.inl rfl) rfl rfl) rfl) (@JiC _ _ _ _ _ _ (@Jgv _) (@Je _ _ _ _)) (fun _ _=>rfl)) rfl (.inl rfl)) (@Jg _ _ _ (@Jq _ _ _ _ (@JeW _ _ _ _ _ _ _ _ (@Jbf _ _ _ _ _ _ (@JgD _ _ _ _ _ (@J5 _ _ _ _ _ (@pv _ 1 _ _ rfl (.inl rfl) rfl rfl) rfl)) (by first | exact Zc _ (by decide) (by decide) | rfl)) (@Jbg _ _ _) (@YR _ _ _ _ _ (@Ja _ _ _ _ _ (@J5 _ _ _ _ _ (@pv _ 1 _ _ rfl (.inl rfl) rfl rfl) rfl) (@Ja _ _ _ _ _ (@J5 _ _ _ _ _ (@pv _ 1 _ _ rfl (.inl rfl) rfl rfl) rfl) (@Jc _) rfl) rfl)))))),?_⟩;obtain ⟨dx,hg⟩:=A0.gi;have hm:=A0.hm;rw [List.map_append] at hm;obtain ⟨dm,ha⟩:=A0.mt (a,x) (List.mem_append_right _ (List.mem_singleton.mpr rfl));have ha:H a=some (.ins T.Yn dm (x.fs G.c)):=ha;refine ⟨_,rfl,G.g,_,dx,_,.ref G.lm,rfl,A0.sm _ _ hg,T.YF,T.Zw,rfl,_,rfl,G.lm,_,_,.ref a,rfl,rfl,JA.of hm,JfB,?_⟩;refine ⟨_,rfl,a,_,dm,_,x.word,rfl,ha,T.Yr,T.Ja3,rfl,?_⟩;by_cases ho:x.ph=.over
  ·have hw:x.word=.non:=by unfold Mo.word; rw [ho]
   rw [hw];exact ⟨_,rfl,Zh (q1 ho)⟩
  ·have hw:∃ y,x.word=.str y:=by
    unfold Mo.word;cases hp:x.ph with
    | over=>exact absurd hp ho
    | bid=>exact ⟨_,rfl⟩
    | ans b=>exact ⟨_,rfl⟩
    | step h=>exact ⟨_,rfl⟩
   obtain ⟨y,hw⟩:=hw;have e1:(match x.word with | .non=>true | _=>false)=false:=by rw [hw]
   rw [hw];refine ⟨_,rfl,YT ⟨_,rfl,a,_,dm,_,x.hand,rfl,ha,T.Yr,T.JcA,rfl,_,rfl,a,_,dm,_,x.word,rfl,ha,T.Yr,T.Ja3,rfl,by show 2≤sizeLine; decide,fun t nt=>q2 ho t _ (Ji.upd nt) Jj⟩⟩
theorem Jmz (T:Txt K mg):JC P w K mg base YJ 1 T.Jft T.JdL ["self"] (Jqm T):=by
 refine T.Jcn.F.ok Jmp (fun vs H Q E h=>?_) (fun cdv A outer s H vs Q E hr h=>?_)
 ·obtain ⟨_,_,_,_,_,rfl,_⟩:=h;rfl
 ·obtain ⟨G,ds,ms,a,x,rfl,A0,q⟩:=h;refine ⟨_,(@Jg _ _ _ (@Jq _ _ _ _ (@J5 _ _ _ _ _ (@JM _ _ _ _ _ _ _ (@JV _) (@J5 _ _ _ _ _ (@pv _ 0 _ _ rfl (.inl rfl) rfl rfl) rfl) (@JiC _ _ _ _ _ _ (@Jgv _) (@Je _ _ _ _)) (fun _ _=>rfl)) rfl))),?_⟩;obtain ⟨dx,hg⟩:=A0.gi;have hm:=A0.hm;rw [List.map_append] at hm;obtain ⟨dm,ha⟩:=A0.mt (a,x) (List.mem_append_right _ (List.mem_singleton.mpr rfl));have ha:H a=some (.ins T.Yn dm (x.fs G.c)):=ha;exact ⟨_,rfl,G.g,_,dx,_,.ref G.lm,rfl,A0.sm _ _ hg,T.YF,T.Zw,rfl,_,rfl,G.lm,_,_,.ref a,rfl,rfl,JA.of hm,JfB,a,_,dm,_,x.heard,rfl,ha,T.Yr,T.Jb4,rfl,q⟩
theorem JmA (T:Txt K mg):JC P w K mg base YJ 1 T.Jfu T.JdM ["self"] (Jqn T):=by
 refine T.Jco.F.ok Jmq (fun vs H Q E h=>?_) (fun cdv A outer s H vs Q E hr h=>?_)
 ·obtain ⟨_,_,_,rfl,_⟩:=h;rfl
 ·obtain ⟨G,ds,ms,rfl,A0,q⟩:=h;refine ⟨_,(@Jg _ _ _ (@Jq _ _ _ _ (@Y5 _ _ _ _ _ _ _ _ _ (@ZB _) rfl T.Jau PyProof.Rows.boot_tuple (@Ja _ _ _ _ _ (@J5 _ _ _ _ _ (@pv _ 0 _ _ rfl (.inl rfl) rfl rfl) rfl) (@Jc _) rfl) (by decide) (by decide) rfl rfl))),?_⟩;obtain ⟨dx,hg⟩:=A0.gi;exact ⟨_,rfl,G.g,_,dx,_,.ref G.ld,rfl,A0.sm _ _ hg,T.YF,T.Je1,rfl,G.ld,_,rfl,.inl ⟨JA.of A0.hd,fun t nt=>q t _ (Ji.upd nt) Jj⟩⟩
theorem JnF (T:Txt K mg):JC P w K mg base YJ 5 T.Jgq T.Jfg ["self"] (Jr0 T):=by
 refine T.Jc9.F.ok JhA (fun vs H Q E h=>?_) (fun cdv A outer s H vs Q E hr h=>?_)
 ·obtain ⟨_,_,_,_,_,rfl,_⟩:=h;rfl
 ·obtain ⟨G,ds,ms,a,x,rfl,A0,q⟩:=h;refine ⟨_,(@Jd _ _ _ _ _ (@Jz _ _ 1 _ _ _ _ JhA.nd rfl (Or.inl rfl) (@JM _ _ _ _ _ _ _ (@JV _) (@J5 _ _ _ _ _ (@pv _ 0 _ _ rfl (.inl rfl) rfl rfl) rfl) (@JiC _ _ _ _ _ _ (@Jgv _) (@Je _ _ _ _)) (fun _ _=>rfl)) rfl (.inl rfl)) (@Jg _ _ _ (@Jq _ _ _ _ (@Jm _ _ _ _ _ _ _ _ _ _ _ _ _ _ _ T.JgR (Jjj T) (hr.mono (by decide)) Zp (@Ja _ _ _ _ _ (@J5 _ _ _ _ _ (@pv _ 0 _ _ rfl (.inl rfl) rfl rfl) rfl) (@Ja _ _ _ _ _ (@J5 _ _ _ _ _ (@pv _ 1 _ _ rfl (.inl rfl) rfl rfl) rfl) (@Ja _ _ _ _ _ (@J5 _ _ _ _ _ (@pv _ 1 _ _ rfl (.inl rfl) rfl rfl) rfl) (@Jc _) rfl) rfl) rfl) rfl (by decide) rfl rfl)))),?_⟩;obtain ⟨dx,hg⟩:=A0.gi;have hm:=A0.hm;rw [List.map_append] at hm;obtain ⟨dm,ha⟩:=A0.mt (a,x) (List.mem_append_right _ (List.mem_singleton.mpr rfl));have ha:H a=some (.ins T.Yn dm (x.fs G.c)):=ha;have ok:=A0.mo (a,x) (List.mem_append_right _ (List.mem_singleton.mpr rfl));have okp:x.p∈G.ps:=ok.p;have okm:x.m≤G.T:=ok.m;have t1:=A0.bk.t1;have B:=A0.bk.B.same A0.sm;refine ⟨_,rfl,G.g,_,dx,_,.ref G.lm,rfl,A0.sm _ _ hg,T.YF,T.Zw,rfl,_,rfl,G.lm,_,_,.ref a,rfl,rfl,JA.of hm,JfB,?_⟩;exact ⟨_,rfl,G.g,_,dx,_,.ref G.b,rfl,A0.sm _ _ hg,T.YF,T.JdA,rfl,_,rfl,a,_,dm,_,.str x.p,rfl,ha,T.Yr,T.JaE,rfl,_,rfl,a,_,dm,_,.int (x.m:Int),rfl,ha,T.Yr,T.JaD,rfl,G.b,x.p,(x.m:Int),G.ps,G.zs,G.gs,rfl,Yo (B.G.p3 _ okp),B.zl,B.B,fun z=>absurd okp z,fun _ z=>absurd ⟨by omega,by omega⟩ z,fun _ _ H1 e1=>q H1 e1⟩
end
section
variable {P:Program} {w:World} {K:PySem.W.Frag} {mg:Str→Option Value} {base:Heap}
theorem JqT {T:Txt K mg} {H:Hp} {g dx b:Addr} {z x:Str} {m n s:Int} {ps:List Str} {zs:List (V×(Str×Str))} {gs:List Str} {Q:VK} {E:XK} (B:Bd K T.JT H b ps zs gs) (tz:Yb z) (tx:Yb x) (nx:H g=none) (ndx:H dx=none)
  (hE:∀ H',Ji H H'→Jgx T ps z m n s x H' E) (q:z∈ps→0≤m∧m≤30→ZW n s→∀ r,x=hs r→∀ (S:Hp) (k ld lm a:Addr) (H':Hp),Ji H S→Yv T ⟨S,g,b,k,ld,lm,ps,zs,gs,n + s,m.toNat⟩ H' [] ([] ++ [(a,ZJ (zs.map (·.2)) gs z m.toNat n r)])→Q .non H') :
  JmV T (.ref g :: ([.ref b,.str z,.int m,.int n,.int s,.str x] ++ [])) (upd (upd H dx (.own g)) g (.ins T.J7 dx [])) Q E:=by
 have e5:Ji H (upd (upd H dx (.own g)) g (.ins T.J7 dx [])):=fun b u e=>by
  rw [Js (Ju e nx),Js (Ju e ndx)]; exact e
 obtain ⟨bdx,_,_,_,hb,_⟩:=id B.B;refine ⟨g,b,dx,z,x,m,n,s,ps,zs,gs,rfl,Jj,(fun e=>by rw [← e,nx] at hb; cases hb),tz,tx,B.same e5,hE _ e5,fun h1 h2 h3 r h4 G a H' g1 g2 g3 g4 g5 g6 g7 bt A=>?_⟩;obtain ⟨S,g',b',k,ld,lm,ps',zs',gs',c,T0⟩:=G;cases g1; cases g2; cases g3; cases g4; cases g5; cases g6; cases g7;exact q h1 h2 h3 r h4 S k ld lm a H' (fun b' u e=>bt b' u (Ju e nx) (e5 b' u e)) A
end
def JuF:Sp:=fun vs H Q _=>∃ b:Bool,vs=[.str (hs b)]∧Q (.str (hs (!b))) H
def Mo.mover (x:Mo):V:=match x.ph with
 | .step h=>.str (hs h)
 | _=>.str ""
def Mo.told (x:Mo):V:=match x.ph with
 | .step h=>.str (hs h)
 | _=>.non
def JhR (c:Int) (x:Mo):List V:=[.str x.p,.int (x.m:Int),.int x.n,.int (c - x.n),.str (hs x.r),x.heard,x.mover]
theorem JhX {zs:List (Str×Str)} {gs:List Str} {p:Str} {m:Nat} {n:Int} {r:Bool}:(ZJ zs gs p m n r).told=.non∧(ZJ zs gs p m n r).mover=.str ""∧(ZJ zs gs p m n r).heard=.non:=by
 unfold Mo.told Mo.mover Mo.heard ZJ;by_cases h:Y6 zs gs m p
 ·simp [h]
 ·simp [h]
theorem JsU {x:Mo}:Ja5 x.hand=true∧Ja5 x.word=true∧Ja5 x.heard=true∧Ja5 x.told=true:=by
 unfold Mo.hand Mo.word Mo.heard Mo.told;cases x.ph <;> exact ⟨rfl,rfl,rfl,rfl⟩
def Jej (H:Hp) (ls:List Addr) (ds:List (Addr×List V)):Prop:=ls.length=ds.length∧∀ (i:Nat) a d,ls[i]?=some a→ds[i]?=some d→H a=some (.tup d.2)
def Jvy (K:PySem.W.Frag) (H:Hp) (ls:List Addr) (ds:List (Addr×List V)):Prop:=ls.length=ds.length∧∀ (i:Nat) a d,ls[i]?=some a→ds[i]?=some d→J1 K H a d.2
theorem Jej.sq {K:PySem.W.Frag} {H:Hp} {ls:List Addr} {ds:List (Addr×List V)} (h:Jej H ls ds):Jvy K H ls ds:=⟨h.1,fun i a d h1 h2=>J1.of (h.2 i a d h1 h2)⟩
theorem Jej.same {H H':Hp} {ls:List Addr} {ds:List (Addr×List V)} (h:Jej H ls ds) (e:Ji H H'):Jej H' ls ds:=⟨h.1,fun i a d h1 h2=>e _ _ (h.2 i a d h1 h2)⟩
theorem Jej.snoc {H:Hp} {ls:List Addr} {ds:List (Addr×List V)} (h:Jej H ls ds) {a d:Addr} {v:List V} (ha:H a=some (.tup v)):Jej H (ls ++ [a]) (ds ++ [(d,v)]):=by
 refine ⟨by rw [List.length_append,List.length_append,h.1]; rfl,fun i b e h1 h2=>?_⟩;by_cases hi:i < ls.length
 ·rw [List.getElem?_append_left hi] at h1;rw [List.getElem?_append_left (by rw [← h.1]; exact hi)] at h2;exact h.2 i b e h1 h2
 ·rw [List.getElem?_append_right (by omega)] at h1;rw [List.getElem?_append_right (by rw [← h.1]; omega),← h.1] at h2;cases hj:i - ls.length with
  | zero =>
   rw [hj] at h1 h2;cases Option.some.inj h1;cases Option.some.inj h2;exact ha
  | succ j=>rw [hj] at h1; simp at h1
structure GG (K:PySem.W.Frag) (H:Hp) (t:Addr) (ps:List Str) (zs:List (V×(Str×Str))) (gs:List Str) (ps':List Str) (zs':List (V×(Str×Str))) (gs':List Str):Prop where
 G:Ground K H t ps zs gs
 pp:ps'.Perm ps
 zp:zs'.Perm zs
 gp:gs'.Perm gs
 zo:(zs'.map (·.2)).Pairwise ple
 B:Jd2 ps' (zs'.map (·.2)) gs'
theorem GG.same {K:PySem.W.Frag} {H H':Hp} {t:Addr} {ps:List Str} {zs:List (V×(Str×Str))} {gs:List Str} {ps':List Str} {zs':List (V×(Str×Str))} {gs':List Str} (h:GG K H t ps zs gs ps' zs' gs') (e:Ji H H'):GG K H' t ps zs gs ps' zs' gs':=⟨h.G.same e,h.pp,h.zp,h.gp,h.zo,h.B⟩
def Jr2 (K:PySem.W.Frag):Sp:=fun vs H Q _=>∃ x y,vs=[x,y]∧Q (.bl true) H∧((x=.non∧y=.non)∨∃ (p t:Addr) (xs:List V),x=.ref p∧y=.ref t∧J1 K H p xs∧(JA K H t xs∨J1 K H t xs)∧xs.length≤1000∧xs.all Ja5=true)
def Jqg (K:PySem.W.Frag):Sp:=fun vs H Q _=>∃ (p t:Addr) (ds:List (Addr×List V)) (ls:List Addr),vs=[.ref p,.ref t]∧H p=some (.tup (ds.map fun d=>.ref d.1))∧(JA K H t (ls.map V.ref)∨J1 K H t (ls.map V.ref))∧Jvy K H ls ds∧ds.length≤1000∧(∀ d∈ds,J1 K H d.1 d.2∧d.2.length≤1000∧d.2.all Ja5=true)∧Q (.bl true) H
def JtM (K:PySem.W.Frag):Sp:=fun vs H Q _=>∃ (t tn:Addr) (x:Mo) (ps:List Str) (zs:List (V×(Str×Str))) (gs ps':List Str) (zs':List (V×(Str×Str))) (gs':List Str) (c:Int) (T:Nat),vs=[.ref t,.ref tn]∧H tn=some (.tup (JhR c x))∧GG K H t ps zs gs ps' zs' gs'∧Joh ps' (zs'.map (·.2)) gs' c T x∧(x.ph=.over→∀ H',Ji H H'→Q .non H')∧(x.ph≠.over→∀ tt H',Ji H H'→H' tt=some (.tup [x.hand,x.word])→Q (.ref tt) H')
def Jpb (K:PySem.W.Frag):Sp:=fun vs H Q _=>∃ (a t:Addr) (ns:List Int) (k:Int) (ps:List Str) (zs:List (V×(Str×Str))) (gs:List Str),vs=[.ref a,.ref t,.int k]∧JA K H a (ns.map V.int)∧0≤k∧Ground K H t ps zs gs∧∀ (tn:Addr) (p:Str) (m:Nat) (n c:Int) (r:Bool) (H':Hp),Ji H H'→p∈ps→m≤30→(0≤n∧n≤c)→c≤20→H' tn=some (.tup [.str p,.int (m:Int),.int n,.int (c - n),.str (hs r),.non,.str ""])→Q (.ref tn) H'
section
variable {P:Program} {w:World} {K:PySem.W.Frag} {mg:Str→Option Value} {base:Heap}
theorem Jvd (T:Txt K mg):JC P w K mg base YJ 1 T.JpN T.JnW ["_law_hand_here"] JuF:=by
 refine T.Jp2.F.ok JuL (fun vs H Q E h=>?_) (fun cdv A outer s H vs Q E hr h=>?_)
 ·obtain ⟨i,rfl,_⟩:=h;rfl
 ·obtain ⟨b,rfl,q⟩:=h;refine ⟨_,(@Jd _ _ _ _ _ (@JL _ _ _ _ _ _ _ _ (@Jx _ _ _ _ _ _ _ _ (@Yi _) (@pv _ 0 _ _ rfl (.inl rfl) rfl rfl) (@Jy _ _ _ _) (JE _)) (@Jg _ _ _ (@Jq _ _ _ _ (@Jy _ _ _ _))) (@Jw _)) (@Jg _ _ _ (@Jq _ _ _ _ (@Jy _ _ _ _)))),?_⟩;refine ⟨_,rfl,rfl,_,rfl,?_⟩;rw [JsP];cases b with
  | true=>exact Zh q
  | false=>exact YT q
theorem Jer (T:Txt K mg):JC P w K mg base YJ 3 T.Jn4 T.Jlk ["_law_found", "_law_due_here"] (Jr2 K):=by
 refine T.Jdk.F.ok JoG (fun vs H Q E h=>?_) (fun cdv A outer s H vs Q E hr h=>?_)
 ·obtain ⟨_,_,rfl,_⟩:=h;rfl
 ·obtain ⟨x,y,rfl,q,h⟩:=h;refine ⟨_,(@Jd _ _ _ _ _ (@JL _ _ _ _ _ _ _ _ (@Jbf _ _ _ _ _ _ (@JgD _ _ _ _ _ (@pv _ 1 _ _ rfl (.inl rfl) rfl rfl)) (by first | exact Zc _ (by decide) (by decide) | rfl)) (@Jg _ _ _ (@Jq _ _ _ _ (@JqC _ _ _ _ _ _ (@JgD _ _ _ _ _ (@pv _ 0 _ _ rfl (.inl rfl) rfl rfl)) (by first | exact Zc _ (by decide) (by decide) | rfl)))) (@Jw _)) (@Jd _ _ _ _ _ (@JL _ _ _ _ _ _ _ _ (@PW.pt _ _ _ (@Jbn _ _ _ _ _ _ _ (@Z8 _ _ _ _ (@Zr _ _ _ (@JB _ _ _ _ _ _ _ _ _ (@Js4 _) rfl T.J8 PyProof.Rows.boot_isinstance (@Ja _ _ _ _ _ (@pv _ 0 _ _ rfl (.inl rfl) rfl rfl) (@Ja _ _ _ _ _ (@JeX _ _ _ _ rfl T.Jau PyProof.Rows.boot_tuple (by decide) (by decide)) (@Jc _) rfl) rfl) (by decide) (by decide) rfl rfl) (by intro _; rfl))) (@JaO _ _ _ _ (@Jx _ _ _ _ _ _ _ _ (@JjX _) (@JB _ _ _ _ _ _ _ _ _ (@Yk _) rfl T.Zm PySem.boot_len (@Ja _ _ _ _ _ (@pv _ 0 _ _ rfl (.inl rfl) rfl rfl) (@Jc _) rfl) (by decide) (by decide) rfl rfl) (@JB _ _ _ _ _ _ _ _ _ (@Yk _) rfl T.Zm PySem.boot_len (@Ja _ _ _ _ _ (@pv _ 1 _ _ rfl (.inl rfl) rfl rfl) (@Jc _) rfl) (by decide) (by decide) rfl rfl) (JE _))))) (@Jg _ _ _ (@Jq _ _ _ _ (@Ja1 _ _ _ _))) (@Jw _)) (@Jd _ _ _ _ _ (@ZC _ _ _ _ _ _ _ _ PassesOwn.never rfl (@Zf _ _ _ _ _ _ rfl T.Zx (@Ja _ _ _ _ _ (@JB _ _ _ _ _ _ _ _ _ (@Yk _) rfl T.Zm PySem.boot_len (@Ja _ _ _ _ _ (@pv _ 1 _ _ rfl (.inl rfl) rfl rfl) (@Jc _) rfl) (by decide) (by decide) rfl rfl) (@Jc _) rfl) rfl) (@YA _ _ 2 _ JoG.nd rfl (Or.inl rfl) (.inl rfl)) (@Jg _ _ _ (@JL _ _ _ _ _ _ _ _ (@Z8 _ _ _ _ (@Zr _ _ _ (@Jm _ _ _ _ _ _ _ _ _ _ _ _ _ _ _ T.JgQ (Jji T) (hr.mono (by decide)) JG (@Ja _ _ _ _ _ (@JM _ _ _ _ _ _ _ (@Yy _) (@pv _ 0 _ _ rfl (.inl rfl) rfl rfl) (@pv _ 2 _ _ rfl (.inl rfl) rfl rfl) (fun _ _=>rfl)) (@Ja _ _ _ _ _ (@JM _ _ _ _ _ _ _ (@Jq3 _) (@pv _ 1 _ _ rfl (.inl rfl) rfl rfl) (@pv _ 2 _ _ rfl (.inl rfl) rfl rfl) (fun _ _=>rfl)) (@Jc _) rfl) rfl) rfl (by decide) rfl rfl) (by intro _; rfl))) (@Jg _ _ _ (@Jq _ _ _ _ (@Ja1 _ _ _ _))) (@Jw _))) (by intro _; rfl)) (@Jg _ _ _ (@Jq _ _ _ _ (@Ja1 _ _ _ _)))))),?_⟩;rcases h with ⟨rfl,rfl⟩ | ⟨p,t,xs,rfl,rfl,hp,ht,hl,hx⟩
  ·exact ⟨_,rfl,_,rfl,Zh ⟨_,rfl,q⟩⟩
  ·have hl2:xs.length≤sizeLine:=Nat.le_trans hl (by decide);refine ⟨_,rfl,_,rfl,YT ⟨_,rfl,p,xs,rfl,hp,_,rfl,YT ?_⟩⟩;refine ⟨_,rfl,p,xs,rfl,.inr hp,_,rfl,t,xs,rfl,ht,rfl,_,rfl,?_⟩;refine YN (by rw [decide_eq_true rfl]; rfl) ?_;refine ⟨_,rfl,t,xs,rfl,ht,(xs.length:Int),rfl,by omega,by omega,Zt (n:=xs.length) (fun i σ H2=>H2=H∧∃ v,σ=[some (.ref p),some (.ref t),v]) ⟨rfl,none,rfl⟩ ?_ ?_⟩
   ·rintro i σ H2 hi ⟨rfl,v,rfl⟩;obtain ⟨y,hy⟩:∃ y,xs[i]?=some y:=⟨xs[i],List.getElem?_eq_getElem hi⟩
    have e0:(0:Int) + (i:Int)=(i:Int):=by omega
    have hf:Ja5 y=true:=List.all_eq_true.mp hx y (List.mem_of_getElem? hy);refine ⟨_,rfl,_,rfl,p,xs,_,y,rfl,rfl,hp,by rw [e0]; exact YX hy,_,rfl,_,rfl,?_⟩;rcases ht with ht | ht
    ·exact .inl ⟨t,xs,_,y,rfl,rfl,ht,by rw [e0]; exact YX hy,y,rfl,hf,_,rfl,YT ⟨rfl,_,rfl⟩⟩
    ·exact .inr (.inl ⟨t,xs,_,y,rfl,rfl,ht,by rw [e0]; exact YX hy,y,rfl,hf,_,rfl,YT ⟨rfl,_,rfl⟩⟩)
   ·rintro σ H2 ⟨rfl,v,rfl⟩;exact q
theorem JsB (T:Txt K mg):JC P w K mg base YJ 4 T.Jlu T.Jjx ["_law_found", "_law_due_here"] (Jqg K):=by
 refine T.JlI.F.ok Jm1 (fun vs H Q E h=>?_) (fun cdv A outer s H vs Q E hr h=>?_)
 ·obtain ⟨_,_,_,_,rfl,_⟩:=h;rfl
 ·obtain ⟨p,t,ds,ls,rfl,hp,ht,hL,hl,hd,q⟩:=h;refine ⟨_,(@Jd _ _ _ _ _ (@JL _ _ _ _ _ _ _ _ (@PW.pt _ _ _ (@Jbn _ _ _ _ _ _ _ (@Z8 _ _ _ _ (@Zr _ _ _ (@JB _ _ _ _ _ _ _ _ _ (@Jbj _) rfl T.J8 PyProof.Rows.boot_isinstance (@Ja _ _ _ _ _ (@pv _ 0 _ _ rfl (.inl rfl) rfl rfl) (@Ja _ _ _ _ _ (@JeX _ _ _ _ rfl T.Jau PyProof.Rows.boot_tuple (by decide) (by decide)) (@Jc _) rfl) rfl) (by decide) (by decide) rfl rfl) (by intro _; rfl))) (@JaO _ _ _ _ (@Jx _ _ _ _ _ _ _ _ (@JjX _) (@JB _ _ _ _ _ _ _ _ _ (@Yk _) rfl T.Zm PySem.boot_len (@Ja _ _ _ _ _ (@pv _ 0 _ _ rfl (.inl rfl) rfl rfl) (@Jc _) rfl) (by decide) (by decide) rfl rfl) (@JB _ _ _ _ _ _ _ _ _ (@Yk _) rfl T.Zm PySem.boot_len (@Ja _ _ _ _ _ (@pv _ 1 _ _ rfl (.inl rfl) rfl rfl) (@Jc _) rfl) (by decide) (by decide) rfl rfl) (JE _))))) (@Jg _ _ _ (@Jq _ _ _ _ (@Ja1 _ _ _ _))) (@Jw _)) (@Jd _ _ _ _ _ (@ZC _ _ _ _ _ _ _ _ PassesOwn.never rfl (@Zf _ _ _ _ _ _ rfl T.Zx (@Ja _ _ _ _ _ (@JB _ _ _ _ _ _ _ _ _ (@Yk _) rfl T.Zm PySem.boot_len (@Ja _ _ _ _ _ (@pv _ 1 _ _ rfl (.inl rfl) rfl rfl) (@Jc _) rfl) (by decide) (by decide) rfl rfl) (@Jc _) rfl) rfl) (@YA _ _ 2 _ Jm1.nd rfl (Or.inl rfl) (.inl rfl)) (@Jg _ _ _ (@JL _ _ _ _ _ _ _ _ (@Z8 _ _ _ _ (@Zr _ _ _ (@Jm _ _ _ _ _ _ _ _ _ _ _ _ _ _ _ T.Jdk (Jer T) (hr.mono (by decide)) JG (@Ja _ _ _ _ _ (@JM _ _ _ _ _ _ _ (@Yy _) (@pv _ 0 _ _ rfl (.inl rfl) rfl rfl) (@pv _ 2 _ _ rfl (.inl rfl) rfl rfl) (fun _ _=>rfl)) (@Ja _ _ _ _ _ (@JM _ _ _ _ _ _ _ (@Jq3 _) (@pv _ 1 _ _ rfl (.inl rfl) rfl rfl) (@pv _ 2 _ _ rfl (.inl rfl) rfl rfl) (fun _ _=>rfl)) (@Jc _) rfl) rfl) rfl (by decide) rfl rfl) (by intro _; rfl))) (@Jg _ _ _ (@Jq _ _ _ _ (@Ja1 _ _ _ _))) (@Jw _))) (by intro _; rfl)) (@Jg _ _ _ (@Jq _ _ _ _ (@Ja1 _ _ _ _))))),?_⟩;have szl:sizeLine=16777216:=sizeLine_eq;have el:(ls.map V.ref).length=(ds.map fun d=>V.ref d.1).length:=by rw [List.length_map,List.length_map,hL.1]
  refine ⟨_,rfl,_,_,_,_,rfl,⟨_,.inl rfl⟩,.tup hp,JqX,_,rfl,YT ?_⟩;refine ⟨_,rfl,p,_,rfl,.inr (J1.of hp),_,rfl,t,_,rfl,ht,rfl,_,rfl,?_⟩;refine YN (by rw [el,decide_eq_true rfl]; rfl) ?_;refine ⟨_,rfl,t,_,rfl,ht,((ls.map V.ref).length:Int),rfl,by omega,by rw [List.length_map,hL.1]; omega,?_⟩;rw [Int.toNat_natCast];refine Zt (n:=(ls.map V.ref).length) (fun i σ H2=>H2=H∧∃ v,σ=[some (.ref p),some (.ref t),v]) ⟨rfl,none,rfl⟩ ?_ ?_
  ·rintro i σ H2 hi ⟨rfl,v,rfl⟩;rw [List.length_map] at hi;obtain ⟨b,hb⟩:∃ b,ls[i]?=some b:=⟨_,List.getElem?_eq_getElem hi⟩
   obtain ⟨d,hdi⟩:∃ d,ds[i]?=some d:=⟨_,List.getElem?_eq_getElem (by rw [← hL.1]; exact hi)⟩
   have hb2:=hL.2 i b d hb hdi;obtain ⟨d1,d2,d3⟩:=hd d (List.mem_of_getElem? hdi);have a1:Z3 (ds.map fun d=>V.ref d.1) (0 + (i:Int))=some (.ref d.1):=by rw [Int.zero_add]; exact YX (by rw [List.getElem?_map,hdi]; rfl)
   have a2:Z3 (ls.map V.ref) (0 + (i:Int))=some (.ref b):=by rw [Int.zero_add]; exact YX (by rw [List.getElem?_map,hb]; rfl)
   refine ⟨_,rfl,_,rfl,p,_,_,.ref d.1,rfl,rfl,J1.of hp,a1,_,rfl,_,rfl,?_⟩;rcases ht with ht | ht
   ·exact .inl ⟨t,_,_,.ref b,rfl,rfl,ht,a2,.ref d.1,.ref b,rfl,⟨_,rfl,YT ⟨rfl,_,rfl⟩⟩,.inr ⟨d.1,b,d.2,rfl,rfl,d1,.inr hb2,d2,d3⟩⟩
   ·exact .inr (.inl ⟨t,_,_,.ref b,rfl,rfl,ht,a2,.ref d.1,.ref b,rfl,⟨_,rfl,YT ⟨rfl,_,rfl⟩⟩,.inr ⟨d.1,b,d.2,rfl,rfl,d1,.inr hb2,d2,d3⟩⟩)
  ·rintro σ H2 ⟨rfl,v,rfl⟩;exact q
theorem JqH (T:Txt K mg):JC P w K mg base YJ 4 T.JpO T.JnX ["_law_ground_here", "_law_now"] (JtM K):=by
 refine T.JmK.F.ok Jdb (fun vs H Q E h=>?_) (fun cdv A outer s H vs Q E hr h=>?_)
 ·obtain ⟨_,_,_,_,_,_,_,_,_,_,_,rfl,_⟩:=h;rfl
 ·obtain ⟨t,tn,x,ps,zs,gs,ps',zs',gs',c,T0,rfl,htn,g,ok,q1,q2⟩:=h;refine ⟨_,(@Jd _ _ _ _ _ (@Jqy _ _ _ _ _ _ (@pv _ 1 _ _ rfl (.inl rfl) rfl rfl) (@Jnq _ _ _ _ _ _ rfl (@ZM _ _ _ _ _ (@YA _ _ 2 _ Jdb.nd rfl (Or.inl rfl) (.inl rfl)) (@ZM _ _ _ _ _ (@YA _ _ 3 _ Jdb.nd rfl (Or.inl rfl) (.inl rfl)) (@ZM _ _ _ _ _ (@YA _ _ 4 _ Jdb.nd rfl (Or.inl rfl) (.inl rfl)) (@ZM _ _ _ _ _ (@YA _ _ 5 _ Jdb.nd rfl (Or.inl rfl) (.inl rfl)) (@ZM _ _ _ _ _ (@YA _ _ 6 _ Jdb.nd rfl (Or.inl rfl) (.inl rfl)) (@ZM _ _ _ _ _ (@YA _ _ 7 _ Jdb.nd rfl (Or.inl rfl) (.inl rfl)) (@ZM _ _ _ _ _ (@YA _ _ 8 _ Jdb.nd rfl (Or.inl rfl) (.inl rfl)) (@Jk3 _) rfl) rfl) rfl) rfl) rfl) rfl) rfl) rfl rfl) rfl rfl rfl) (@Jd _ _ _ _ _ (@JL _ _ _ _ _ _ _ _ (@Jx _ _ _ _ _ _ _ _ (@JjX _) (@pv _ 8 _ _ rfl (.inl rfl) rfl rfl) (@Jy _ _ _ _) (JE _)) (@Jg _ _ _ (@Jq _ _ _ _ (@YR _ _ _ _ _ (@Ja _ _ _ _ _ (@pv _ 8 _ _ rfl (.inl rfl) rfl rfl) (@Ja _ _ _ _ _ (@Jy _ _ _ _) (@Jc _) rfl) rfl)))) (@Jw _)) (@Jd _ _ _ _ _ (@JL _ _ _ _ _ _ _ _ (@Jbf _ _ _ _ _ _ (@JiD _ _ _ _ _ (@pv _ 7 _ _ rfl (.inl rfl) rfl rfl)) (by first | exact Zc _ (by decide) (by decide) | rfl)) (@Jg _ _ _ (@Jq _ _ _ _ (@YR _ _ _ _ _ (@Ja _ _ _ _ _ (@pv _ 6 _ _ rfl (.inl rfl) rfl rfl) (@Ja _ _ _ _ _ (@Jy _ _ _ _) (@Jc _) rfl) rfl)))) (@Jw _)) (@Jd _ _ _ _ _ (@JL _ _ _ _ _ _ _ _ (@Jx _ _ _ _ _ _ _ _ (@JjX _) (@Jm _ _ _ _ _ _ _ _ _ _ _ _ _ _ _ T.Jky (Jnw T) (hr.mono (by decide)) JG (@Ja _ _ _ _ _ (@pv _ 0 _ _ rfl (.inl rfl) rfl rfl) (@Ja _ _ _ _ _ (@pv _ 2 _ _ rfl (.inl rfl) rfl rfl) (@Ja _ _ _ _ _ (@pv _ 3 _ _ rfl (.inl rfl) rfl rfl) (@Jc _) rfl) rfl) rfl) rfl (by decide) rfl rfl) (@Jy _ _ _ _) (JE _)) (@Jg _ _ _ (@Jq _ _ _ _ (@Jbg _ _ _))) (@Jw _)) (@Jg _ _ _ (@Jq _ _ _ _ (@YR _ _ _ _ _ (@Ja _ _ _ _ _ (@Jm _ _ _ _ _ _ _ _ _ _ _ _ _ _ _ T.Jp2 (Jvd T) (hr.mono (by decide)) JG (@Ja _ _ _ _ _ (@pv _ 6 _ _ rfl (.inl rfl) rfl rfl) (@Jc _) rfl) rfl (by decide) rfl rfl) (@Ja _ _ _ _ _ (@Jy _ _ _ _) (@Jc _) rfl) rfl)))))))),?_⟩;refine ⟨_,rfl,tn,_,rfl,J1.of htn,rfl,_,_,rfl,_,_,rfl,_,_,rfl,_,_,rfl,_,_,rfl,_,_,rfl,_,_,rfl,rfl,?_⟩;unfold Mo.mover Mo.heard;unfold Mo.hand Mo.word at q2;cases hp:x.ph with
  | step h =>
   rw [hp] at q2;refine ⟨_,rfl,rfl,_,rfl,ZE (by cases h <;> decide +kernel) ⟨_,rfl,by show 2≤sizeLine; decide,fun tt nt=>q2 (fun z=>nomatch z) tt _ (Ji.upd nt) Jj⟩⟩
  | ans b =>
   rw [hp] at q2;refine ⟨_,rfl,rfl,_,rfl,YN (by show (!decide (V.str "" = V.str ""))=false; decide +kernel) ⟨_,rfl,_,rfl,Zh ⟨_,rfl,by show 2≤sizeLine; decide,fun tt nt=>q2 (fun z=>nomatch z) tt _ (Ji.upd nt) Jj⟩⟩⟩
  | over =>
   rw [hp] at q1;refine ⟨_,rfl,rfl,_,rfl,YN (by decide +kernel) ⟨_,rfl,_,rfl,YT ⟨_,rfl,_,rfl,_,rfl,t,x.p,(x.m:Int),ps,zs,gs,rfl,g.G,fun H1 e1=>?_⟩⟩⟩;have he:=ok.e.mp hp;rcases Jp5 (z:=x.p) (m:=x.m) (g.zp.map (·.2)) g.gp with ⟨_,hw,_⟩ | ⟨_,hw,_⟩ | ⟨_,hn⟩
   ·exact ⟨rfl,_,rfl,ZE (by rw [hw]; decide +kernel) (q1 rfl H1 e1)⟩
   ·exact ⟨rfl,_,rfl,ZE (by rw [hw]; decide +kernel) (q1 rfl H1 e1)⟩
   ·exact absurd he hn
  | bid =>
   rw [hp] at q2;refine ⟨_,rfl,rfl,_,rfl,YN (by decide +kernel) ⟨_,rfl,_,rfl,YT ⟨_,rfl,_,rfl,_,rfl,t,x.p,(x.m:Int),ps,zs,gs,rfl,g.G,fun H1 e1=>?_⟩⟩⟩;have he:¬ Y6 (zs'.map (·.2)) gs' x.m x.p:=fun z=>by have:=ok.e.mpr z; rw [hp] at this; cases this
   rcases Jp5 (z:=x.p) (m:=x.m) (g.zp.map (·.2)) g.gp with ⟨_,_,hn⟩ | ⟨_,_,hn⟩ | ⟨hw,_⟩
   ·exact absurd hn he
   ·exact absurd hn he
   ·exact ⟨rfl,_,rfl,YN (by rw [hw]; decide +kernel) ⟨_,rfl,x.r,rfl,by show 2≤sizeLine; decide,fun tt nt=>q2 (fun z=>nomatch z) tt _ (e1.trans (Ji.upd nt)) Jj⟩⟩
theorem Jpt (T:Txt K mg):JC P w K mg base YJ 4 T.Jif T.Jhc ["_law_script", "_law_ground_here", "_law_at_here"] (Jpb K):=by
 refine T.Jis.F.ok Jag (fun vs H Q E h=>?_) (fun cdv A outer s H vs Q E hr h=>?_)
 ·obtain ⟨_,_,_,_,_,_,_,rfl,_⟩:=h;rfl
 ·obtain ⟨a,t,ns,k,ps,zs,gs,rfl,hS,k0,G,q⟩:=h;refine ⟨_,(@Jd _ _ _ _ _ (@Jz _ _ 3 _ _ _ _ Jag.nd rfl (Or.inl rfl) (@Jm _ _ _ _ _ _ _ _ _ _ _ _ _ _ _ T.Jok (Jt6 T) (hr.mono (by decide)) JG (@Ja _ _ _ _ _ (@pv _ 1 _ _ rfl (.inl rfl) rfl rfl) (@Ja _ _ _ _ _ (@Jm _ _ _ _ _ _ _ _ _ _ _ _ _ _ _ T.Jan (Z2 T) (hr.mono (by decide)) JG (@Ja _ _ _ _ _ (@pv _ 0 _ _ rfl (.inl rfl) rfl rfl) (@Ja _ _ _ _ _ (@pv _ 2 _ _ rfl (.inl rfl) rfl rfl) (@Jc _) rfl) rfl) rfl (by decide) rfl rfl) (@Jc _) rfl) rfl) rfl (by decide) rfl rfl) rfl (.inl rfl)) (@Jd _ _ _ _ _ (@Yd _ _ _ (@JL _ _ _ _ _ _ _ _ (@Jx _ _ _ _ _ _ _ _ (@Yi _) (@Jo _ _ _ _ _ _ _ _ (@J6 _) (@Jo _ _ _ _ _ _ _ _ (@YK _) (@Jm _ _ _ _ _ _ _ _ _ _ _ _ _ _ _ T.Jan (Z2 T) (hr.mono (by decide)) JG (@Ja _ _ _ _ _ (@pv _ 0 _ _ rfl (.inl rfl) rfl rfl) (@Ja _ _ _ _ _ (@pv _ 2 _ _ rfl (.inl rfl) rfl rfl) (@Jc _) rfl) rfl) rfl (by decide) rfl rfl) (@Je _ _ _ _)) (@Je _ _ _ _)) (@Je _ _ _ _) (JE _)) (@Jg _ _ _ (@Jz _ _ 3 _ _ _ _ Jag.nd rfl (Or.inl rfl) (@JM _ _ _ _ _ _ _ (@JV _) (@JM _ _ _ _ _ _ _ (@Yy _) (@pv _ 1 _ _ rfl (.inl rfl) rfl rfl) (@Je _ _ _ _) (fun _ _=>rfl)) (@Jo _ _ _ _ _ _ _ _ (@J6 _) (@Jm _ _ _ _ _ _ _ _ _ _ _ _ _ _ _ T.Jan (Z2 T) (hr.mono (by decide)) JG (@Ja _ _ _ _ _ (@pv _ 0 _ _ rfl (.inl rfl) rfl rfl) (@Ja _ _ _ _ _ (@pv _ 2 _ _ rfl (.inl rfl) rfl rfl) (@Jc _) rfl) rfl) rfl (by decide) rfl rfl) (@JB _ _ _ _ _ _ _ _ _ (@Yk _) rfl T.Zm PySem.boot_len (@Ja _ _ _ _ _ (@JM _ _ _ _ _ _ _ (@Yy _) (@pv _ 1 _ _ rfl (.inl rfl) rfl rfl) (@Je _ _ _ _) (fun _ _=>rfl)) (@Jc _) rfl) (by decide) (by decide) rfl rfl)) (fun _ _=>rfl)) rfl (.inl rfl))) (@Jw _))) (@Jd _ _ _ _ _ (@Jz _ _ 4 _ _ _ _ Jag.nd rfl (Or.inl rfl) (@Jm _ _ _ _ _ _ _ _ _ _ _ _ _ _ _ T.JlE (Jsx T) (hr.mono (by decide)) JG (@Ja _ _ _ _ _ (@Jm _ _ _ _ _ _ _ _ _ _ _ _ _ _ _ T.Jan (Z2 T) (hr.mono (by decide)) JG (@Ja _ _ _ _ _ (@pv _ 0 _ _ rfl (.inl rfl) rfl rfl) (@Ja _ _ _ _ _ (@Jo _ _ _ _ _ _ _ _ (@Ye _) (@pv _ 2 _ _ rfl (.inl rfl) rfl rfl) (@Je _ _ _ _)) (@Jc _) rfl) rfl) rfl (by decide) rfl rfl) (@Jc _) rfl) rfl (by decide) rfl rfl) rfl (.inl rfl)) (@Jd _ _ _ _ _ (@Jz _ _ 5 _ _ _ _ Jag.nd rfl (Or.inl rfl) (@Jm _ _ _ _ _ _ _ _ _ _ _ _ _ _ _ T.Jol (Jt7 T) (hr.mono (by decide)) JG (@Ja _ _ _ _ _ (@Jm _ _ _ _ _ _ _ _ _ _ _ _ _ _ _ T.Jan (Z2 T) (hr.mono (by decide)) JG (@Ja _ _ _ _ _ (@pv _ 0 _ _ rfl (.inl rfl) rfl rfl) (@Ja _ _ _ _ _ (@Jo _ _ _ _ _ _ _ _ (@Ye _) (@pv _ 2 _ _ rfl (.inl rfl) rfl rfl) (@Je _ _ _ _)) (@Jc _) rfl) rfl) rfl (by decide) rfl rfl) (@Jc _) rfl) rfl (by decide) rfl rfl) rfl (.inl rfl)) (@Jd _ _ _ _ _ (@Yd _ _ _ (@Jz _ _ 6 _ _ _ _ Jag.nd rfl (Or.inl rfl) (@Jo _ _ _ _ _ _ _ _ (@J6 _) (@Jm _ _ _ _ _ _ _ _ _ _ _ _ _ _ _ T.Jan (Z2 T) (hr.mono (by decide)) JG (@Ja _ _ _ _ _ (@pv _ 0 _ _ rfl (.inl rfl) rfl rfl) (@Ja _ _ _ _ _ (@Jo _ _ _ _ _ _ _ _ (@Ye _) (@pv _ 2 _ _ rfl (.inl rfl) rfl rfl) (@Je _ _ _ _)) (@Jc _) rfl) rfl) rfl (by decide) rfl rfl) (@Jo _ _ _ _ _ _ _ _ (@Ye _) (@pv _ 4 _ _ rfl (.inl rfl) rfl rfl) (@Je _ _ _ _))) rfl (.inl rfl))) (@Jd _ _ _ _ _ (@Jz _ _ 7 _ _ _ _ Jag.nd rfl (Or.inl rfl) (@Jm _ _ _ _ _ _ _ _ _ _ _ _ _ _ _ T.Jom (Jt8 T) (hr.mono (by decide)) JG (@Ja _ _ _ _ _ (@Jm _ _ _ _ _ _ _ _ _ _ _ _ _ _ _ T.Jan (Z2 T) (hr.mono (by decide)) JG (@Ja _ _ _ _ _ (@pv _ 0 _ _ rfl (.inl rfl) rfl rfl) (@Ja _ _ _ _ _ (@Jo _ _ _ _ _ _ _ _ (@Ye _) (@pv _ 2 _ _ rfl (.inl rfl) rfl rfl) (@Je _ _ _ _)) (@Jc _) rfl) rfl) rfl (by decide) rfl rfl) (@Jc _) rfl) rfl (by decide) rfl rfl) rfl (.inl rfl)) (@Jg _ _ _ (@Jq _ _ _ _ (@YR _ _ _ _ _ (@Ja _ _ _ _ _ (@pv _ 3 _ _ rfl (.inl rfl) rfl rfl) (@Ja _ _ _ _ _ (@pv _ 5 _ _ rfl (.inl rfl) rfl rfl) (@Ja _ _ _ _ _ (@pv _ 6 _ _ rfl (.inl rfl) rfl rfl) (@Ja _ _ _ _ _ (@Jo _ _ _ _ _ _ _ _ (@JaS _) (@pv _ 4 _ _ rfl (.inl rfl) rfl rfl) (@pv _ 6 _ _ rfl (.inl rfl) rfl rfl)) (@Ja _ _ _ _ _ (@pv _ 7 _ _ rfl (.inl rfl) rfl rfl) (@Ja _ _ _ _ _ (@Jbg _ _ _) (@Ja _ _ _ _ _ (@Jy _ _ _ _) (@Jc _) rfl) rfl) rfl) rfl) rfl) rfl) rfl)))))))))),?_⟩
  try dsimp only [cxK,Jhi]
  have p1:=G.good.p1;refine ⟨_,rfl,_,rfl,_,rfl,a,ns,k,rfl,hS,k0,t,_,ps,zs,gs,rfl,G,fun p H1 hpm e1=>?_⟩;refine ⟨fun σ1 H2=>∃ p:Str,H2=H1∧p∈ps∧σ1=[some (.ref a),some (.ref t),some (.int k),some (.str p),none,none,none,none],?_,?_⟩
  ·refine ⟨_,rfl,_,rfl,a,ns,k,rfl,e1.seq hS,k0,_,_,rfl,rfl,⟨by decide,by decide⟩,_,_,rfl,rfl,(by show (0:Int) < 8; decide),rfl,_,rfl,Yt (fun _=>?_) (fun _=>⟨p,rfl,hpm,rfl⟩)⟩;obtain ⟨pn,pl,pg,h1,h2,h3,h4,h5⟩:=(G.same e1).at_;obtain ⟨p2,hp2,hpm2⟩:=JgM p1 (Z5 ns k);exact ⟨_,rfl,t,_,_,.ref pn,rfl,rfl,J1.of h1,rfl,_,rfl,_,rfl,a,ns,k,rfl,e1.seq hS,k0,_,rfl,t,_,_,.ref pn,rfl,rfl,J1.of h1,rfl,pn,_,rfl,.inl (JA.of h2),_,_,rfl,rfl,(by show (0:Int) < _; rw [List.length_map]; omega),pn,_,_,.str p2,rfl,rfl,JA.of h2,hp2,p2,rfl,hpm2,rfl⟩
  clear hpm p;rintro σ1 H2 ⟨p,rfl,hpm,rfl⟩;refine ⟨_,rfl,_,rfl,_,_,rfl,rfl,a,ns,k + 1,rfl,e1.seq hS,by omega,_,rfl,fun c H3 c0 c1 e3=>?_⟩;refine ⟨_,rfl,_,rfl,_,_,rfl,rfl,a,ns,k + 2,rfl,(e1.trans e3).seq hS,by omega,_,rfl,fun mt H4 m0 m1 e4=>?_⟩;obtain ⟨m,rfl⟩:∃ m:Nat,mt=(m:Int):=⟨mt.toNat,by omega⟩
  have e14:=(e1.trans e3).trans e4;refine ⟨fun σ1 H5=>∃ n:Int,H5=H4∧(0≤n∧n≤c)∧σ1=[some (.ref a),some (.ref t),some (.int k),some (.str p),some (.int c),some (.int (m:Int)),some (.int n),none],?_,?_⟩
  ·have hb:=JqQ (x:=Z5 ns (k + 3)) (n:=c + 1) (by omega);exact ⟨_,rfl,_,rfl,_,_,rfl,rfl,a,ns,k + 3,rfl,e14.seq hS,by omega,_,rfl,_,_,rfl,rfl,_,_,rfl,rfl,(by show (0:Int) < c + 1; omega),_,rfl,⟨hb.1,by omega⟩,rfl⟩
  rintro σ1 H5 ⟨n,rfl,hn,rfl⟩;refine ⟨_,rfl,_,rfl,_,_,rfl,rfl,a,ns,k + 4,rfl,e14.seq hS,by omega,_,rfl,fun r H6 e6=>?_⟩;exact ⟨_,rfl,_,rfl,_,rfl,_,rfl,_,rfl,_,_,rfl,rfl,_,rfl,by show 7≤sizeLine; decide,fun tn nt=>q tn p m n c r _ ((e14.trans e6).trans (Ji.upd nt)) hpm (by omega) hn c1 Jj⟩
end
section
variable {P:Program} {w:World} {K:PySem.W.Frag} {mg:Str→Option Value} {base:Heap}
theorem Jum {z:Str} {m:Nat} {zs zs':List (Str×Str)} {gs gs':List Str} (zp:zs'.Perm zs) (gp:gs'.Perm gs) (h:Y6 zs' gs' m z):Zk z (m:Int) zs' gs'=.str (JbA z (m:Int) zs gs):=by
 rw [Jrg zp gp];unfold Zk JbA;by_cases hg:z∈gs
 ·rw [if_pos hg,if_pos hg]
 ·rw [if_neg hg,if_neg hg];have h0:(m:Int)=0∨JR zs z=[]:=by
   rcases h with h | h | h
   ·exact absurd (gp.mem_iff.mp h) hg
   ·exact .inl (by omega)
   ·exact .inr ((JmM zp z).mp h)
  rw [if_pos h0,if_pos h0]
theorem JsT {z:Str} {n:Int} {zs:List (Str×Str)} {gs:List Str}:Ja5 (Zk z n zs gs)=true:=by
 unfold Zk;split
 ·rfl
 ·split <;> rfl
end
theorem Yc.dict {d a:Addr} {H H':Hp} {kvs:List (JI×V)} {o:HO} (e:Yc d H H') (hd:H d=some (.dK kvs)) (h:H a=some o) (ho:∀ k,o≠.dK k):H' a=some o :=
 e _ _ (fun z=>by subst z; rw [hd] at h; exact ho _ (Option.some.inj h).symm) h
theorem Yc.sqD {K:PySem.W.Frag} {d a:Addr} {H H':Hp} {kvs:List (JI×V)} {xs:List V} (e:Yc d H H') (hd:H d=some (.dK kvs)) (h:J1 K H a xs):J1 K H' a xs:=by
 rcases h with (h | ⟨o,h⟩) | h
 ·exact .inl (.inl (e.dict hd h (fun _ z=>nomatch z)))
 ·exact .inl (.inr ⟨o,e.dict hd h (fun _ z=>nomatch z)⟩)
 ·exact .inr h
theorem Yc.bdD {K:PySem.W.Frag} {C d:Addr} {H H':Hp} {kvs:List (JI×V)} {b:Addr} {ps:List Str} {zs:List (V×(Str×Str))} {gs:List Str} (e:Yc d H H') (hd:H d=some (.dK kvs)) (h:Bd K C H b ps zs gs):Bd K C H' b ps zs gs:=by
 obtain ⟨⟨dx,tp,tl,tg,h1,h2,h3,h4,h5⟩,G⟩:=h;exact ⟨⟨dx,tp,tl,tg,e.dict hd h1 (fun _ z=>nomatch z),e.dict hd h2 (fun _ z=>nomatch z),e.dict hd h3 (fun _ z=>nomatch z),fun z hz=>let ⟨a,q1,q2⟩:=h4 z hz; ⟨a,q1,e.sqD hd q2⟩,e.dict hd h5 (fun _ z=>nomatch z)⟩,G⟩
theorem Yc.grD {K:PySem.W.Frag} {d:Addr} {H H':Hp} {kvs:List (JI×V)} {t:Addr} {ps:List Str} {zs:List (V×(Str×Str))} {gs:List Str} (e:Yc d H H') (hd:H d=some (.dK kvs)) (h:Ground K H t ps zs gs):Ground K H' t ps zs gs :=
 ⟨h.good,let ⟨pn,pl,pg,h1,h2,h3,h4,h5⟩:=h.at_; ⟨pn,pl,pg,e.dict hd h1 (fun _ z=>nomatch z),e.dict hd h2 (fun _ z=>nomatch z),e.dict hd h3 (fun _ z=>nomatch z),fun z hz=>let ⟨a,q1,q2⟩:=h4 z hz; ⟨a,q1,e.sqD hd q2⟩,e.dict hd h5 (fun _ z=>nomatch z)⟩⟩
section
variable {K:PySem.W.Frag} {mg:Str→Option Value} (T:Txt K mg)
def JsE (kvs:List (JI×V)) (z:Str) (n:Int) (H:Hp) (E:XK):Prop :=
 (YB z=false→E (.ref T.Jdh) none H)∧(YB z=true→(J2 kvs (.inr z)).isSome=true→E (.ref T.JgH) none H)∧(YB z=true→J2 kvs (.inr z)=none→n≤(kvs.length:Int)→E (.ref T.Jh6) none H)
def JtS:Sp:=fun vs H Q E=>∃ (d:Addr) (z:Str) (n:Int) (kvs:List (JI×V)),vs=[.str z,.ref d,.int n]∧Yb z∧(0≤n∧n≤20)∧H d=some (.dK kvs)∧(∀ H',Ji H H'→JsE T kvs z n H' E) ∧
 (YB z=true→J2 kvs (.inr z)=none→(kvs.length:Int) < n→∀ H',Ji H H'→Q .non H')
def JtN:Sp:=fun vs H Q E=>∃ (d:Addr) (z:Str) (kvs:List (JI×V)),vs=[.str z,.ref d]∧Yb z∧H d=some (.dK kvs)∧(J2 kvs (.inr z)=none→E (.ref T.J4) none H)∧(∀ v,J2 kvs (.inr z)=some v→Q v H)
structure YH (H:Hp) (h d1 d2:Addr) (bs gs:List (JI×V)):Prop where
 hi:∃ dh,H h=some (.ins T.Yg dh [("kept_boards",.ref d1),("kept_games",.ref d2)])
 h1:H d1=some (.dK bs)
 h2:H d2=some (.dK gs)
 ne:d1≠d2
def JmU:Sp:=fun vs H Q _=>∃ (h dx:Addr),vs=[.ref h]∧H h=some (.ins T.Yg dx [])∧∀ d1 d2 H',Yc h H H'→H d1=none→H d2=none→YH T H' h d1 d2 [] []→Q .non H'
def JtU:Sp:=fun vs H Q E=>∃ (h d1 d2:Addr) (z:Str) (v:V) (bs gs:List (JI×V)),vs=[.ref h,.str z,v]∧Yb z∧YH T H h d1 d2 bs gs∧(∀ H',Ji H H'→JsE T bs z 12 H' E) ∧
 (YB z=true→J2 bs (.inr z)=none→bs.length < 12→∀ H',Yc d1 H H'→YH T H' h d1 d2 (bs ++ [(.inr z,v)]) gs→Q .non H')
def Jpd:Sp:=fun vs H Q E=>∃ (h d1 d2:Addr) (z:Str) (bs gs:List (JI×V)),vs=[.ref h,.str z]∧Yb z∧YH T H h d1 d2 bs gs∧(J2 bs (.inr z)=none→E (.ref T.J4) none H)∧(∀ v,J2 bs (.inr z)=some v→Q v H)
def Jqo:Sp:=fun vs H Q E=>∃ (h d1 d2:Addr) (z:Str) (bs gs:List (JI×V)),vs=[.ref h,.str z]∧Yb z∧YH T H h d1 d2 bs gs∧(J2 gs (.inr z)=none→E (.ref T.J4) none H)∧(∀ v,J2 gs (.inr z)=some v→Q v H)
def JrY:Sp:=fun vs H Q E=>∃ (h d1 d2:Addr) (z p x:Str) (m n s:Int) (bs gm:List (JI×V)),vs=[.ref h,.str z,.str p,.int m,.int n,.int s,.str x]∧Yb z∧Yb p∧Yb x∧YH T H h d1 d2 bs gm∧(J2 bs (.inr z)=none→E (.ref T.J4) none H) ∧
 (∀ v,J2 bs (.inr z)=some v→∃ (b:Addr) (ps:List Str) (zs:List (V×(Str×Str))) (gs:List Str),v=.ref b∧Bd K T.JT H b ps zs gs∧Jgx T ps p m n s x H E∧(p∈ps→0≤m∧m≤30→ZW n s→∀ r,x=hs r→∀ H',Ji H H'→Q (.str (hs (decide (Zl (zs.map (·.2)) gs (n + s) m.toNat p r≤n)))) H'))
def Jqj:Sp:=fun vs H Q E=>∃ (h d1 d2:Addr) (z p x:Str) (c m:Int) (bs gm:List (JI×V)),vs=[.ref h,.str z,.int c,.str p,.int m,.str x]∧Yb z∧Yb p∧Yb x∧YH T H h d1 d2 bs gm∧(J2 bs (.inr z)=none→E (.ref T.J4) none H) ∧
 (∀ v,J2 bs (.inr z)=some v→∃ (b:Addr) (ps:List Str) (zs:List (V×(Str×Str))) (gs:List Str),v=.ref b∧Bd K T.JT H b ps zs gs∧(¬ (0≤c∧c≤20)→∀ H',Ji H H'→E (.ref T.Yj) none H')∧(0≤c∧c≤20→∀ H',Ji H H'→Jhy T.Y1 T.Yj T.Zs ps c 30 p m c x H' E) ∧
  (p∈ps→0≤m∧m≤30→0≤c∧c≤20→∀ r,x=hs r→∀ H',Ji H H'→Q (Jj6 (zs.map (·.2)) gs c m.toNat p r) H'))
variable {T}
theorem YH.same {H H':Hp} {h d1 d2:Addr} {bs gs:List (JI×V)} (A:YH T H h d1 d2 bs gs) (e:Ji H H'):YH T H' h d1 d2 bs gs:=⟨let ⟨dh,q⟩:=A.hi; ⟨dh,e _ _ q⟩,e _ _ A.h1,e _ _ A.h2,A.ne⟩
theorem JqS {H:Hp} {h dx:Addr} {Q:VK} {E:XK} (nx:H h=none) (ndx:H dx=none) (q:∀ d1 d2 H',Ji H H'→H d1=none→H d2=none→YH T H' h d1 d2 [] []→Q .non H'):JmU T (.ref h :: []) (upd (upd H dx (.own h)) h (.ins T.Yg dx [])) Q E:=by
 have e5:Ji H (upd (upd H dx (.own h)) h (.ins T.Yg dx [])):=fun b u e=>by
  rw [Js (Ju e nx),Js (Ju e ndx)]; exact e
 exact ⟨h,dx,rfl,Jj,fun d1 d2 H' bt n1 n2 A=>q d1 d2 H' (fun b u e=>bt b u (Ju e nx) (e5 b u e)) (e5.free n1) (e5.free n2) A⟩
theorem JpC {C CB x0 x dx:Addr} {H:Hp} {Q:VK} {E:XK} {b:Addr} {ps:List Str} {zs:List (V×(Str×Str))} {gs:List Str} {c t:Int} (B:Bd K C H b ps zs gs)
  (nx:H x=none) (ndx:H dx=none) (hE:¬ ((0≤c∧c≤20)∧0≤t∧t≤30)→∀ H',Ji H H'→E (.ref x0) none H') (q:0≤c∧c≤20→0≤t∧t≤30→∀ H',Ji H H'→Bk K C CB H' x b ps zs gs c t.toNat (t.toNat + 1)→Q .non H') :
  Jjb K C CB x0 (.ref x :: ([.ref b,.int c,.int t] ++ [])) (upd (upd H dx (.own x)) x (.ins CB dx [])) Q E:=by
 have e5:Ji H (upd (upd H dx (.own x)) x (.ins CB dx [])):=fun b u e=>by
  rw [Js (Ju e nx),Js (Ju e ndx)]; exact e
 obtain ⟨bdx,_,_,_,hb,_⟩:=id B.B;exact ⟨x,b,dx,c,t,ps,zs,gs,rfl,Jj,(fun e=>by rw [← e,nx] at hb; cases hb),B.same e5,fun h=>hE (fun z=>h z.1) _ e5,fun _ h=>hE (fun z=>h z.2) _ e5,fun h1 h2 H' bt Bk'=>q h1 h2 H' (fun b u e=>bt b u (Ju e nx) (e5 b u e)) Bk'⟩
end
section
variable {K:PySem.W.Frag} {mg:Str→Option Value} {T:Txt K mg} {G:Gm} {H H':Hp} {ds:List (Addr×List V)} {ms:List (Addr×Mo)} {d:Addr} {kvs:List (JI×V)}
theorem Yc.bkD {C CB k b:Addr} {ps:List Str} {zs:List (V×(Str×Str))} {gs:List Str} {c:Int} {t n:Nat} (e:Yc d H H') (hd:H d=some (.dK kvs)) (h:Bk K C CB H k b ps zs gs c t n):Bk K C CB H' k b ps zs gs c t n :=
 ⟨e.bdD hd h.B,h.c0,h.c1,h.t1,let ⟨dx,l,rs,k1,k2,k3,k4⟩:=h.at_; ⟨dx,l,rs,e.dict hd k1 (fun _ z=>nomatch z),e.dict hd k2 (fun _ z=>nomatch z),k3,fun i a q=>let ⟨kv,r1,r2⟩:=k4 i a q; ⟨kv,e.dict hd r1 (fun _ z=>nomatch z),r2⟩⟩⟩
theorem Yv.less (A:Yv T G H ds ms) (hd:H d=some (.dK kvs)):Yv T ⟨fun x=>if x=d then none else G.S x,G.g,G.b,G.k,G.ld,G.lm,G.ps,G.zs,G.gs,G.c,G.T⟩ H ds ms:=by
 have bt:Yc d G.S (fun x=>if x=d then none else G.S x):=fun a u hn q=>by show (if a=d then none else G.S a)=some u; rw [if_neg hn]; exact q
 have nn:∀ {x},G.S x=none→(if x=d then none else G.S x)=none:=fun h=>by split <;> first | rfl | exact h
 have sm:Ji (fun x=>if x=d then none else G.S x) H:=fun b u q=>by
  have q:(if b=d then none else G.S b)=some u:=q;by_cases hb:b=d
  ·rw [if_pos hb] at q; cases q
  ·rw [if_neg hb] at q; exact A.sm b u q
 obtain ⟨dx,hg⟩:=A.gi;have gd:G.g≠d:=fun z=>by have:=A.sm _ _ hg; rw [z,hd] at this; cases this
 refine ⟨sm,?_,⟨dx,by show (if G.g=d then none else G.S G.g)=_; rw [if_neg gd]; exact hg⟩,nn A.nd,nn A.nm,A.ne,A.hd,A.hm,A.dt,A.mt,A.mo⟩;cases hS:G.S d with
 | none =>
  have e:Ji G.S (fun x=>if x=d then none else G.S x):=fun b u q=>bt b u (fun z=>by rw [z,hS] at q; cases q) q
  exact A.bk.same e
 | some o =>
  have:=A.sm _ _ hS;rw [hd] at this;cases Option.some.inj this;exact bt.bkD hS A.bk
theorem Yv.dict (A:Yv T G H ds ms) (e:Yc d H H') (hd:H d=some (.dK kvs)) (hS:G.S d=none):Yv T G H' ds ms :=
 ⟨fun b u q=>e b u (fun z=>by rw [z,hS] at q; cases q) (A.sm b u q),A.bk,A.gi,A.nd,A.nm,A.ne,e.dict hd A.hd (fun _ z=>nomatch z),e.dict hd A.hm (fun _ z=>nomatch z),fun x hx=>e.dict hd (A.dt x hx) (fun _ z=>nomatch z),fun x hx=>let ⟨dx,q⟩:=A.mt x hx; ⟨dx,e.dict hd q (fun _ z=>nomatch z)⟩,A.mo⟩
variable (T)
def Jtq (kvs:List (JI×V)) (z:Str) (n:Nat):Prop:=YB z=true∧J2 kvs (.inr z)=none∧kvs.length < n
def Jr4:Sp:=fun vs H Q E=>∃ (h d1 d2:Addr) (z bz p x:Str) (m n s:Int) (bs gm:List (JI×V)),vs=[.ref h,.str z,.str bz,.str p,.int m,.int n,.int s,.str x]∧Yb z∧Yb bz∧Yb p∧Yb x∧YH T H h d1 d2 bs gm∧(∀ H',Ji H H'→JsE T gm z 20 H' E)∧(Jtq gm z 20→J2 bs (.inr bz)=none→∀ H',Ji H H'→E (.ref T.J4) none H') ∧
 (Jtq gm z 20→∀ v,J2 bs (.inr bz)=some v→∃ (b:Addr) (ps:List Str) (zs:List (V×(Str×Str))) (gs:List Str),v=.ref b∧Bd K T.JT H b ps zs gs∧(∀ H',Ji H H'→Jgx T ps p m n s x H' E) ∧
  (p∈ps→0≤m∧m≤30→ZW n s→∀ r,x=hs r→∀ (G:Gm) (a:Addr) (H':Hp),G.ps=ps→G.zs=zs→G.gs=gs→G.c=n + s→G.S d1=none→G.S d2=none→Yc d2 H H'→YH T H' h d1 d2 bs (gm ++ [(.inr z,.ref G.g)])→Yv T G H' [] ([] ++ [(a,ZJ (zs.map (·.2)) gs p m.toNat n r)])→Q .non H'))
def JlP (first:Bool):Sp:=fun vs H Q _=>∃ (h d1 d2:Addr) (bs gm:List (JI×V)) (ss:List Str),vs=[.ref h]∧YH T H h d1 d2 bs gm∧(if first then bs else gm).map (·.1)=ss.map Sum.inr∧ss.length < 64∧∀ (t:Addr) (ss':List Str) (H':Hp),Ji H H'→ss'.Perm ss→ss'.Pairwise sle→H' t=some (.tup (ss'.map V.str))→Q (.ref t) H'
def JjL (R:Gm→List (Addr×List V)→Mo→Hp→(V→Hp→Prop)→Prop):Sp:=fun vs H Q E=>∃ (h d1 d2:Addr) (z:Str) (bs gm:List (JI×V)),vs=[.ref h,.str z]∧Yb z∧YH T H h d1 d2 bs gm∧(J2 gm (.inr z)=none→E (.ref T.J4) none H)∧∀ v,J2 gm (.inr z)=some v→∃ (G:Gm) (ds:List (Addr×List V)) (ms:List (Addr×Mo)) (a:Addr) (x:Mo),v=.ref G.g∧Yv T G H ds (ms ++ [(a,x)])∧R G ds x H Q
def JuR:Gm→List (Addr×List V)→Mo→Hp→(V→Hp→Prop)→Prop:=fun G _ x H Q=>∀ t H',Ji H H'→H' t=some (.tup [.str x.p,.int (x.m:Int),.int x.n,.int (G.c - x.n),.str (hs x.r)])→Q (.ref t) H'
def JwA:Gm→List (Addr×List V)→Mo→Hp→(V→Hp→Prop)→Prop:=fun _ _ x H Q=>(x.ph=.over→Q .non H)∧(x.ph≠.over→∀ t H',Ji H H'→H' t=some (.tup [x.hand,x.word])→Q (.ref t) H')
def JuV:Gm→List (Addr×List V)→Mo→Hp→(V→Hp→Prop)→Prop:=fun _ _ x H Q=>Q x.heard H
def JuY:Gm→List (Addr×List V)→Mo→Hp→(V→Hp→Prop)→Prop:=fun _ ds _ H Q=>∀ t H',Ji H H'→H' t=some (.tup (ds.map fun d=>.ref d.1))→Q (.ref t) H'
def JvR:Gm→List (Addr×List V)→Mo→Hp→(V→Hp→Prop)→Prop:=fun G _ x H Q=>∀ H',Ji H H'→Q (Zk x.p (x.m:Int) (G.zs.map (·.2)) G.gs) H'
def Jqi:Sp:=fun vs H Q _=>∃ (G:Gm) (h d1 d2 t tn tl a:Addr) (z:Str) (bs gm:List (JI×V)) (x:Mo) (ds:List (Addr×List V)) (ms:List (Addr×Mo)) (ls:List Addr) (ps:List Str) (zs:List (V×(Str×Str))) (gs:List Str),vs=[.ref h,.str z,.ref t,.ref tn,.ref tl]∧Yb z∧YH T H h d1 d2 bs gm∧J2 gm (.inr z)=some (.ref G.g)∧Yv T G H ds (ms ++ [(a,x)])∧H tn=some (.tup (JhR G.c x))∧GG K H t ps zs gs G.ps G.zs G.gs∧(JA K H tl (ls.map V.ref)∨J1 K H tl (ls.map V.ref))∧Jej H ls ds∧ds.length≤1000∧(∀ d∈ds,d.2.length≤1000∧d.2.all Ja5=true)∧∀ H',Ji H H'→Q (.bl true) H'
end
section
variable {P:Program} {w:World} {K:PySem.W.Frag} {mg:Str→Option Value} {base:Heap}
theorem JhN (T:Txt K mg):JC P w K mg base (Ys P w) 2 T.Jgi T.Je7 ["name", "kept", "most"] (JtS T):=by
 refine T.Jc3.F.ok1 Jm2 (fun vs H Q E h=>?_) (fun cdv A outer s H vs Q E hr h=>?_)
 ·obtain ⟨_,_,_,_,rfl,_⟩:=h;rfl
 ·obtain ⟨d,z,n,kvs,rfl,tz,hn,hd,hE,q⟩:=h;have hu:=JcX hr;refine ⟨_,(@Jd _ _ _ _ _ (@JL _ _ _ _ _ _ _ _ (@Z8 _ _ _ _ (@Zr _ _ _ (@Jm _ _ _ _ _ _ _ _ _ _ _ _ _ _ _ T.Jc1 (JhL T) (hr.mono (by decide)) JG (@Ja _ _ _ _ _ (@pv _ 0 _ _ rfl (.inl rfl) rfl rfl) (@Jc _) rfl) rfl (by decide) rfl rfl) (by intro _; rfl))) (@Jg _ _ _ (@JaQ _ _ _ _ _ _ _ _ _ T.Jku T.Jio JbK (@JbL _ _ _ _ _ _ (PJ.cons (@JeV _ _ _ _ (@pv _ 0 _ _ rfl (.inl rfl) rfl rfl)) (PJ.cons (@Jy _ _ _ _) PJ.nil)) rfl) rfl rfl (by decide) rfl)) (@Jw _)) (@Jd _ _ _ _ _ (@JL _ _ _ _ _ _ _ _ (@Jbf _ _ _ _ _ _ (@Ju6 _ _ _ _ _ hu (@pv _ 0 _ _ rfl (.inl rfl) rfl rfl) (@pv _ 1 _ _ rfl (.inl rfl) rfl rfl)) (by first | exact Zc _ (by decide) (by decide) | rfl)) (@Jg _ _ _ (@JaQ _ _ _ _ _ _ _ _ _ T.Joe T.Jly JbK (@JbL _ _ _ _ _ _ (PJ.cons (@JeV _ _ _ _ (@pv _ 0 _ _ rfl (.inl rfl) rfl rfl)) (PJ.cons (@Jy _ _ _ _) PJ.nil)) rfl) rfl rfl (by decide) rfl)) (@Jw _)) (@Jg _ _ _ (@JL _ _ _ _ _ _ _ _ (@Jx _ _ _ _ _ _ _ _ (@JmF _) (@JB _ _ _ _ _ _ _ _ _ (@Jrt _) rfl T.Zm PySem.boot_len (@Ja _ _ _ _ _ (@pv _ 1 _ _ rfl (.inl rfl) rfl rfl) (@Jc _) rfl) (by decide) (by decide) rfl rfl) (@pv _ 2 _ _ rfl (.inl rfl) rfl rfl) (JE _)) (@Jg _ _ _ (@JaQ _ _ _ _ _ _ _ _ _ T.JoZ T.Joa JbK (@JbL _ _ _ _ _ _ (PJ.cons (@Jy _ _ _ _) (PJ.cons (@Jk4 _ _ _ _ (@pv _ 2 _ _ rfl (.inl rfl) rfl rfl)) (PJ.cons (@Jy _ _ _ _) PJ.nil))) rfl) rfl rfl (by decide) rfl)) (@Jw _))))),?_⟩;refine ⟨_,rfl,z,rfl,tz.1,fun H1 e1=>⟨_,rfl,?_⟩⟩;obtain ⟨q1,q2,q3⟩:=hE H1 e1;have hz:=JfK tz;have e0:(Str.empty ++ reprText z).length=(reprText z).length:=by rw [strLen_append]; exact Nat.zero_add _
  have jn:∀ {x:Str},x.length≤50→(Str.empty ++ reprText z ++ x).length≤sizeLine:=fun hx=>by
   rw [strLen_append,e0];exact Nat.le_trans (Nat.add_le_add hz hx) (by decide)
  have hz2:(reprText z).length≤sizeLine:=Nat.le_trans hz (by decide);by_cases hg:YB z=true
  ·refine YN (by rw [hg]; rfl) ⟨_,rfl,_,rfl,d,_,rfl,JaA.k (k:=Sum.inr z) (e1 _ _ hd),_,rfl,?_⟩;cases hv:J2 kvs (Sum.inr z) with
   | some v =>
    rw [hv] at q2;exact Zh ⟨_,rfl,z,rfl,hz2,_,rfl,by rw [e0]; exact hz2,_,rfl,jn (by decide +kernel),jn (by decide +kernel),q2 hg rfl⟩
   | none =>
    refine YT ⟨_,rfl,d,kvs,rfl,e1 _ _ hd,_,rfl,_,_,rfl,rfl,_,rfl,Yt (fun c=>?_) (fun c=>?_)⟩
    ·have fm:∀ m:Nat,m < 21→(m:Int).natAbs.log2 < 1920∧(Str.empty ++ Str.ofString "at most " ++ Str.ofString (toString (m:Int))).length≤sizeLine∧(Str.empty ++ Str.ofString "at most " ++ Str.ofString (toString (m:Int)) ++ Str.ofString " are kept").length≤sizeLine:=by decide +kernel
     obtain ⟨m,rfl⟩:∃ j:Nat,n=(j:Int):=⟨n.toNat,by omega⟩
     have fm:=fm m (by omega);exact ⟨_,rfl,by decide +kernel,_,rfl,_,rfl,fm.1,_,rfl,fm.2.1,_,rfl,fm.2.2,fm.2.2,q3 hg hv (of_decide_eq_true c)⟩
    ·exact q hg hv (Int.not_le.mp fun z=>c (decide_eq_true z)) H1 e1
  ·have hg:YB z=false:=by simpa using hg
   exact ZE (by rw [hg]; rfl) ⟨_,rfl,z,rfl,hz2,_,rfl,by rw [e0]; exact hz2,_,rfl,jn (by decide +kernel),jn (by decide +kernel),q1 hg⟩
theorem JhM (T:Txt K mg):JC P w K mg base (Ys P w) 1 T.Jgh T.Je6 ["name", "kept"] (JtN T):=by
 refine T.Jc2.F.ok1 Jm0 (fun vs H Q E h=>?_) (fun cdv A outer s H vs Q E hr h=>?_)
 ·obtain ⟨_,_,_,rfl,_⟩:=h;rfl
 ·obtain ⟨d,z,kvs,rfl,tz,hd,qE,q⟩:=h;have hu:=JcX hr;refine ⟨_,(@Jd _ _ _ _ _ (@JL _ _ _ _ _ _ _ _ (@Jbf _ _ _ _ _ _ (@JqD _ _ _ _ _ hu (@pv _ 0 _ _ rfl (.inl rfl) rfl rfl) (@pv _ 1 _ _ rfl (.inl rfl) rfl rfl)) (by first | exact Zc _ (by decide) (by decide) | rfl)) (@Jg _ _ _ (@JaQ _ _ _ _ _ _ _ _ _ T.YG T.Jin JbK (@JbL _ _ _ _ _ _ (PJ.cons (@Jy _ _ _ _) (PJ.cons (@JeV _ _ _ _ (@pv _ 0 _ _ rfl (.inl rfl) rfl rfl)) PJ.nil)) rfl) rfl rfl (by decide) rfl)) (@Jw _)) (@Jg _ _ _ (@Jq _ _ _ _ (@JgB _ _ _ _ _ _ hu (@pv _ 1 _ _ rfl (.inl rfl) rfl rfl) (@pv _ 0 _ _ rfl (.inl rfl) rfl rfl) (fun _ _=>rfl))))),?_⟩;have hz:=JfK tz;refine ⟨_,rfl,_,rfl,d,_,rfl,JaA.k (k:=Sum.inr z) hd,_,rfl,?_⟩;cases hv:J2 kvs (Sum.inr z) with
  | some v =>
   have g:=JaA.k (k:=Sum.inr z) hd;rw [hv] at g;exact YT ⟨_,rfl,_,rfl,d,v,rfl,g,q v hv⟩
  | none =>
   have hl:(Str.empty ++ Str.ofString "nothing is kept under ").length≤50:=by decide +kernel
   have jn:(Str.empty ++ Str.ofString "nothing is kept under " ++ reprText z).length≤sizeLine:=by
    rw [strLen_append];exact Nat.le_trans (Nat.add_le_add hl hz) (by decide)
   exact Zh ⟨_,rfl,Nat.le_trans hl (by decide),_,rfl,z,rfl,Nat.le_trans hz (by decide),_,rfl,jn,jn,qE hv⟩
theorem JnB (T:Txt K mg):JC P w K mg base YJ 1 T.JcY T.Jfb ["self"] (JmU T):=by
 refine T.Jgt.F.ok Jm6 (fun vs H Q E h=>?_) (fun cdv A outer s H vs Q E hr h=>?_)
 ·obtain ⟨_,_,rfl,_⟩:=h;rfl
 ·obtain ⟨h,dx,rfl,hh,q⟩:=h;refine ⟨_,(@Jd _ _ _ _ _ (@Y3 _ _ _ _ _ _ _ _ (@pv _ 0 _ _ rfl (.inl rfl) rfl rfl) (@Jnt _ _) rfl) (@Jg _ _ _ (@Y3 _ _ _ _ _ _ _ _ (@pv _ 0 _ _ rfl (.inl rfl) rfl rfl) (@Jnt _ _) rfl))),?_⟩;intro d1 n1;have e1:=Ji.upd (o:=.dK []) n1;refine ⟨_,rfl,h,_,dx,_,rfl,e1 _ _ hh,T.JH,T.Y2,by decide,?_⟩;have b2:=(Yc.of (b:=h) e1).trans (Yc.put (o:=.ins T.Yg dx (Yh "kept_boards" (.ref d1) [])));have d1h:d1≠h:=fun e=>by rw [e,hh] at n1; cases n1
  have k2:upd (upd H d1 (.dK [])) h (.ins T.Yg dx (Yh "kept_boards" (.ref d1) [])) d1=some (.dK []):=by rw [Js d1h,Jj]
  have h2:upd (upd H d1 (.dK [])) h (.ins T.Yg dx (Yh "kept_boards" (.ref d1) [])) h=some (.ins T.Yg dx [("kept_boards",.ref d1)]):=Jj;generalize upd (upd H d1 (.dK [])) h (.ins T.Yg dx (Yh "kept_boards" (.ref d1) []))=H2 at b2 k2 h2;intro d2 n2;have e3:=Ji.upd (o:=.dK []) n2;have d2h:d2≠h:=fun e=>by rw [e,h2] at n2; cases n2
  have d12:d1≠d2:=Ju k2 n2;have nd2:H d2=none:=by
   cases hq:H d2 with
   | none=>rfl
   | some u=>have:=b2 _ _ d2h hq; rw [n2] at this; cases this
  refine ⟨_,rfl,h,_,dx,_,rfl,e3 _ _ h2,T.JH,T.YS,by show 1 < 1000; decide,?_⟩;exact q d1 d2 _ ((b2.trans (Yc.of e3)).trans Yc.put) n1 nd2 ⟨⟨dx,Jj⟩,by rw [Js d1h]; exact e3 _ _ k2,by rw [Js d2h,Jj],d12⟩
theorem JiQ (T:Txt K mg):JC P w K mg base (Ys P w) 3 T.JbJ T.Jbc ["self", "name", "board"] (JtU T):=by
 refine T.Jao.F.ok1 JiP (fun vs H Q E h=>?_) (fun cdv A outer s H vs Q E hr h=>?_)
 ·obtain ⟨_,_,_,_,_,_,_,rfl,_⟩:=h;rfl
 ·obtain ⟨h,d1,d2,z,v,bs,gs,rfl,tz,A0,hE,q⟩:=h;have hu:=JcX hr;refine ⟨_,(@Jd _ _ _ _ _ (@JP _ _ _ _ (@Jm _ _ _ _ _ _ _ _ _ _ _ _ _ _ _ T.Jc3 (JhN T) (hr.mono (by decide)) JY (@Ja _ _ _ _ _ (@pv _ 1 _ _ rfl (.inl rfl) rfl rfl) (@Ja _ _ _ _ _ (@J5 _ _ _ _ _ (@pv _ 0 _ _ rfl (.inl rfl) rfl rfl) rfl) (@Ja _ _ _ _ _ (@ZH _ _ _ _ _ rfl T.Jbq T.Jbm (by decide)) (@Jc _) rfl) rfl) rfl) rfl (by decide) rfl rfl) rfl) (@Jg _ _ _ (@Jk1 _ _ _ _ _ _ _ _ _ hu (@J5 _ _ _ _ _ (@pv _ 0 _ _ rfl (.inl rfl) rfl rfl) rfl) (@pv _ 1 _ _ rfl (.inl rfl) rfl rfl) (@pv _ 2 _ _ rfl (.inl rfl) rfl rfl) rfl))),?_⟩;obtain ⟨dh,hh⟩:=A0.hi;refine ⟨_,rfl,_,rfl,h,_,dh,_,.ref d1,rfl,hh,T.JH,T.Y2,rfl,d1,z,12,bs,rfl,tz,⟨by decide,by decide⟩,A0.h1,hE,fun hg hv hl H1 e1=>?_⟩;have A1:=A0.same e1;have hl2:bs.length < 12:=by omega
  refine ⟨_,rfl,_,rfl,h,_,dh,_,.ref d1,rfl,e1 _ _ hh,T.JH,T.Y2,rfl,_,rfl,d1,_,rfl,Jhj.k (k:=Sum.inr z) A1.h1 (Nat.lt_of_lt_of_le hl2 (by decide)),?_⟩;rw [Jnp v hv];have hd:h≠d1:=fun e=>by have:=A0.h1; rw [← e,hh] at this; cases this
  exact q hg hv hl2 _ ((Yc.of e1).trans Yc.put) ⟨⟨dh,by rw [Js hd]; exact e1 _ _ hh⟩,Jj,by rw [Js A0.ne.symm]; exact A1.h2,A0.ne⟩
theorem Jai (T:Txt K mg):JC P w K mg base (Ys P w) 2 T.Jcd T.JbF ["self", "name"] (Jpd T):=by
 refine T.YE.F.ok1 Jjf (fun vs H Q E h=>?_) (fun cdv A outer s H vs Q E hr h=>?_)
 ·obtain ⟨_,_,_,_,_,_,rfl,_⟩:=h;rfl
 ·obtain ⟨h,d1,d2,z,bs,gs,rfl,tz,A0,qE,q⟩:=h;refine ⟨_,(@Jg _ _ _ (@Jq _ _ _ _ (@Jm _ _ _ _ _ _ _ _ _ _ _ _ _ _ _ T.Jc2 (JhM T) (hr.mono (by decide)) JY (@Ja _ _ _ _ _ (@pv _ 1 _ _ rfl (.inl rfl) rfl rfl) (@Ja _ _ _ _ _ (@J5 _ _ _ _ _ (@pv _ 0 _ _ rfl (.inl rfl) rfl rfl) rfl) (@Jc _) rfl) rfl) rfl (by decide) rfl rfl))),?_⟩;obtain ⟨dh,hh⟩:=A0.hi;exact ⟨_,rfl,_,rfl,h,_,dh,_,.ref d1,rfl,hh,T.JH,T.Y2,rfl,d1,z,bs,rfl,tz,A0.h1,qE,q⟩
theorem Jmx (T:Txt K mg):JC P w K mg base (Ys P w) 9 T.Jfp T.JdH ["self", "board_name", "place", "turns", "north", "south", "ribbon"] (JrY T):=by
 refine T.Jcl.F.ok1 Jhk (fun vs H Q E h=>?_) (fun cdv A outer s H vs Q E hr h=>?_)
 ·obtain ⟨_,_,_,_,_,_,_,_,_,_,_,rfl,_⟩:=h;rfl
 ·obtain ⟨h,d1,d2,z,p,x,m,n,s,bs,gm,rfl,tz,tp,tx,A0,qE,q⟩:=h;refine ⟨_,(@Jd _ _ _ _ _ (@Jz _ _ 7 _ _ _ _ Jhk.nd rfl (Or.inl rfl) (@JD _ _ _ _ _ _ _ _ _ _ _ _ _ _ _ _ _ _ _ _ (@pv _ 0 _ _ rfl (.inl rfl) rfl rfl) T.JH T.YE.m (Jai T) (hr.mono (by decide)) T.YE.b .nil JY (@Ja _ _ _ _ _ (@pv _ 1 _ _ rfl (.inl rfl) rfl rfl) (@Jc _) rfl) rfl rfl rfl) rfl (.inl rfl)) (@Jd _ _ _ _ _ (@JP _ _ _ _ (@Jm _ _ _ _ _ _ _ _ _ _ _ _ _ _ _ T.Jam (Jd6 T) (hr.mono (by decide)) JY (@Ja _ _ _ _ _ (@pv _ 7 _ _ rfl (.inl rfl) rfl rfl) (@Ja _ _ _ _ _ (@pv _ 2 _ _ rfl (.inl rfl) rfl rfl) (@Ja _ _ _ _ _ (@pv _ 3 _ _ rfl (.inl rfl) rfl rfl) (@Ja _ _ _ _ _ (@pv _ 4 _ _ rfl (.inl rfl) rfl rfl) (@Ja _ _ _ _ _ (@pv _ 5 _ _ rfl (.inl rfl) rfl rfl) (@Ja _ _ _ _ _ (@pv _ 6 _ _ rfl (.inl rfl) rfl rfl) (@Jc _) rfl) rfl) rfl) rfl) rfl) rfl) rfl (by decide) rfl rfl) rfl) (@Jg _ _ _ (@Jq _ _ _ _ (@JD _ _ _ _ _ _ _ _ _ _ _ _ _ _ _ _ _ _ _ _ (@Jcz _ _ _ _ _ _ _ _ _ _ _ _ _ _ _ _ _ T.JiF (JeZ T) (hr.mono (by decide)) rfl T.Jkp T.Jbk.b .nil Zp (@Ja _ _ _ _ _ (@pv _ 7 _ _ rfl (.inl rfl) rfl rfl) (@Ja _ _ _ _ _ (@Jo _ _ _ _ _ _ _ _ (@Ye _) (@pv _ 4 _ _ rfl (.inl rfl) rfl rfl) (@pv _ 5 _ _ rfl (.inl rfl) rfl rfl)) (@Ja _ _ _ _ _ (@pv _ 3 _ _ rfl (.inl rfl) rfl rfl) (@Jc _) rfl) rfl) rfl) (by decide) rfl rfl) T.Ym T.Jby.m (Jld T) (hr.mono (by decide)) T.Jby.b .nil Zp (@Ja _ _ _ _ _ (@pv _ 2 _ _ rfl (.inl rfl) rfl rfl) (@Ja _ _ _ _ _ (@pv _ 3 _ _ rfl (.inl rfl) rfl rfl) (@Ja _ _ _ _ _ (@pv _ 4 _ _ rfl (.inl rfl) rfl rfl) (@Ja _ _ _ _ _ (@pv _ 6 _ _ rfl (.inl rfl) rfl rfl) (@Jc _) rfl) rfl) rfl) rfl) rfl rfl rfl))))),?_⟩;obtain ⟨dh,hh⟩:=A0.hi;refine ⟨_,rfl,h,dh,_,rfl,hh,rfl,_,rfl,h,d1,d2,z,bs,gm,rfl,tz,A0,qE,fun v hv=>?_⟩;obtain ⟨b,ps,zs,gs,rfl,B,sE,q⟩:=q v hv;refine ⟨_,rfl,_,rfl,_,rfl,_,rfl,_,rfl,_,rfl,b,p,x,m,n,s,ps,zs,gs,rfl,tp,tx,B,sE,fun ⟨hp,hm,hc,hx⟩=>?_⟩;obtain ⟨r,rfl⟩:=JgI hx;have hcc:0≤n∧0≤s∧n + s≤20:=hc;refine ⟨_,rfl,_,rfl,_,rfl,_,_,rfl,rfl,_,rfl,fun k dx nx ndx hne=>JlV B ⟨by omega,by omega⟩ hm nx ndx fun H1 e1 Bk1=>⟨rfl,?_⟩⟩;obtain ⟨kdx,l,hk⟩:=Bk1.ins;have e:((m.toNat:Nat):Int)=m:=Int.toNat_of_nonneg hm.1;refine ⟨k,kdx,_,rfl,hk,rfl,_,rfl,_,rfl,_,rfl,_,rfl,k,b,p,hs r,m,n,ps,zs,gs,n + s,m.toNat,rfl,tp,tx,Bk1,Jqv ⟨hp,⟨hm.1,by omega⟩,⟨by omega,by omega⟩,Jh8 r⟩,fun _ _ _ r' hr' H2 e2=>q hp hm hc r' hr' H2 (e1.trans e2)⟩
theorem Jmw (T:Txt K mg):JC P w K mg base (Ys P w) 9 T.Jfo T.JdG ["self", "board_name", "coins", "place", "turns", "ribbon"] (Jqj T):=by
 refine T.Jck.F.ok1 Jmm (fun vs H Q E h=>?_) (fun cdv A outer s H vs Q E hr h=>?_)
 ·obtain ⟨_,_,_,_,_,_,_,_,_,_,rfl,_⟩:=h;rfl
 ·obtain ⟨h,d1,d2,z,p,x,c,m,bs,gm,rfl,tz,tp,tx,A0,qE,q⟩:=h;refine ⟨_,(@Jg _ _ _ (@Jq _ _ _ _ (@JD _ _ _ _ _ _ _ _ _ _ _ _ _ _ _ _ _ _ _ _ (@Jcz _ _ _ _ _ _ _ _ _ _ _ _ _ _ _ _ _ T.JiF (JeZ T) (hr.mono (by decide)) rfl T.Jkp T.Jbk.b .nil JY (@Ja _ _ _ _ _ (@JD _ _ _ _ _ _ _ _ _ _ _ _ _ _ _ _ _ _ _ _ (@pv _ 0 _ _ rfl (.inl rfl) rfl rfl) T.JH T.YE.m (Jai T) (hr.mono (by decide)) T.YE.b .nil JY (@Ja _ _ _ _ _ (@pv _ 1 _ _ rfl (.inl rfl) rfl rfl) (@Jc _) rfl) rfl rfl rfl) (@Ja _ _ _ _ _ (@pv _ 2 _ _ rfl (.inl rfl) rfl rfl) (@Ja _ _ _ _ _ (@ZH _ _ _ _ _ rfl T.ZP T.ZL (by decide)) (@Jc _) rfl) rfl) rfl) (by decide) rfl rfl) T.Ym T.Jcp.m (JmB T) (hr.mono (by decide)) T.Jcp.b .nil JY (@Ja _ _ _ _ _ (@pv _ 3 _ _ rfl (.inl rfl) rfl rfl) (@Ja _ _ _ _ _ (@pv _ 4 _ _ rfl (.inl rfl) rfl rfl) (@Ja _ _ _ _ _ (@pv _ 5 _ _ rfl (.inl rfl) rfl rfl) (@Jc _) rfl) rfl) rfl) rfl rfl rfl))),?_⟩;obtain ⟨dh,hh⟩:=A0.hi;refine ⟨_,rfl,h,dh,_,rfl,hh,rfl,_,rfl,h,d1,d2,z,bs,gm,rfl,tz,A0,qE,fun v hv=>?_⟩;obtain ⟨b,ps,zs,gs,rfl,B,cE,sE,q⟩:=q v hv;refine ⟨_,rfl,fun k dx nx ndx hne=>JpC B nx ndx (fun hn=>cE fun hc=>hn ⟨hc,by decide,by decide⟩) fun hc _ H1 e1 Bk1=>⟨rfl,?_⟩⟩;obtain ⟨kdx,l,hk⟩:=Bk1.ins;exact ⟨k,kdx,_,rfl,hk,rfl,_,rfl,_,rfl,_,rfl,k,b,p,x,m,ps,zs,gs,c,30,rfl,tp,tx,Bk1,sE hc H1 e1,fun hp hm r hr' H2 e2=>q hp hm hc r hr' H2 (e1.trans e2)⟩
theorem Yp (T:Txt K mg):JC P w K mg base (Ys P w) 2 T.JcR T.Jca ["self", "name"] (Jqo T):=by
 refine T.JJ.F.ok1 JjS (fun vs H Q E h=>?_) (fun cdv A outer s H vs Q E hr h=>?_)
 ·obtain ⟨_,_,_,_,_,_,rfl,_⟩:=h;rfl
 ·obtain ⟨h,d1,d2,z,bs,gs,rfl,tz,A0,qE,q⟩:=h;refine ⟨_,(@Jg _ _ _ (@Jq _ _ _ _ (@Jm _ _ _ _ _ _ _ _ _ _ _ _ _ _ _ T.Jc2 (JhM T) (hr.mono (by decide)) JY (@Ja _ _ _ _ _ (@pv _ 1 _ _ rfl (.inl rfl) rfl rfl) (@Ja _ _ _ _ _ (@J5 _ _ _ _ _ (@pv _ 0 _ _ rfl (.inl rfl) rfl rfl) rfl) (@Jc _) rfl) rfl) rfl (by decide) rfl rfl))),?_⟩;obtain ⟨dh,hh⟩:=A0.hi;exact ⟨_,rfl,_,rfl,h,_,dh,_,.ref d2,rfl,hh,T.JH,T.YS,rfl,d2,z,gs,rfl,tz,A0.h2,qE,q⟩
theorem Jhq (T:Txt K mg):JC P w K mg base (Ys P w) 11 T.Jfs T.JdK ["self", "name", "board_name", "place", "turns", "north", "south", "ribbon"] (Jr4 T):=by
 refine T.Jaf.F.ok1 Jhl (fun vs H Q E h=>?_) (fun cdv A outer s H vs Q E hr h=>?_)
 ·obtain ⟨_,_,_,_,_,_,_,_,_,_,_,_,rfl,_⟩:=h;rfl
 ·obtain ⟨h,d1,d2,z,bz,p,x,m,n,s,bs,gm,rfl,tz,tb,tp,tx,A0,hE,qM,qG⟩:=h;have hu:=JcX hr;refine ⟨_,(@Jd _ _ _ _ _ (@JP _ _ _ _ (@Jm _ _ _ _ _ _ _ _ _ _ _ _ _ _ _ T.Jc3 (JhN T) (hr.mono (by decide)) JY (@Ja _ _ _ _ _ (@pv _ 1 _ _ rfl (.inl rfl) rfl rfl) (@Ja _ _ _ _ _ (@J5 _ _ _ _ _ (@pv _ 0 _ _ rfl (.inl rfl) rfl rfl) rfl) (@Ja _ _ _ _ _ (@ZH _ _ _ _ _ rfl T.Jb8 T.JbX (by decide)) (@Jc _) rfl) rfl) rfl) rfl (by decide) rfl rfl) rfl) (@Jd _ _ _ _ _ (@Jz _ _ 8 _ _ _ _ Jhl.nd rfl (Or.inl rfl) (@JD _ _ _ _ _ _ _ _ _ _ _ _ _ _ _ _ _ _ _ _ (@pv _ 0 _ _ rfl (.inl rfl) rfl rfl) T.JH T.YE.m (Jai T) (hr.mono (by decide)) T.YE.b .nil JY (@Ja _ _ _ _ _ (@pv _ 2 _ _ rfl (.inl rfl) rfl rfl) (@Jc _) rfl) rfl rfl rfl) rfl (.inl rfl)) (@Jg _ _ _ (@Jk1 _ _ _ _ _ _ _ _ _ hu (@J5 _ _ _ _ _ (@pv _ 0 _ _ rfl (.inl rfl) rfl rfl) rfl) (@pv _ 1 _ _ rfl (.inl rfl) rfl rfl) (@Jcz _ _ _ _ _ _ _ _ _ _ _ _ _ _ _ _ _ T.JoL (JnG T) (hr.mono (by decide)) rfl T.Jrv T.Jgu.b .nil JY (@Ja _ _ _ _ _ (@pv _ 8 _ _ rfl (.inl rfl) rfl rfl) (@Ja _ _ _ _ _ (@pv _ 3 _ _ rfl (.inl rfl) rfl rfl) (@Ja _ _ _ _ _ (@pv _ 4 _ _ rfl (.inl rfl) rfl rfl) (@Ja _ _ _ _ _ (@pv _ 5 _ _ rfl (.inl rfl) rfl rfl) (@Ja _ _ _ _ _ (@pv _ 6 _ _ rfl (.inl rfl) rfl rfl) (@Ja _ _ _ _ _ (@pv _ 7 _ _ rfl (.inl rfl) rfl rfl) (@Jc _) rfl) rfl) rfl) rfl) rfl) rfl) (by decide) rfl rfl) rfl)))),?_⟩;obtain ⟨dh,hh⟩:=A0.hi;refine ⟨_,rfl,_,rfl,h,_,dh,_,.ref d2,rfl,hh,T.JH,T.YS,rfl,d2,z,20,gm,rfl,tz,⟨by decide,by decide⟩,A0.h2,hE,fun hg hv hl H1 e1=>?_⟩;have A1:=A0.same e1;have hl2:gm.length < 20:=by omega
  refine ⟨_,rfl,h,dh,_,rfl,e1 _ _ hh,rfl,_,rfl,h,d1,d2,bz,bs,gm,rfl,tb,A1,fun hn=>qM ⟨hg,hv,hl2⟩ hn H1 e1,fun v hv'=>?_⟩;obtain ⟨b,ps,zs,gs,rfl,B,sE,q⟩:=qG ⟨hg,hv,hl2⟩ v hv';refine ⟨_,rfl,_,rfl,_,rfl,_,rfl,_,rfl,_,rfl,fun g dx nx ndx hne=>JqT (B.same e1) tp tx nx ndx (fun H' e'=>sE H' (e1.trans e')) fun hp hm hc r hr' S k ld lm a H2 e2 A2=>⟨rfl,?_⟩⟩;have e12:=e2.trans A2.sm;have A2h:=A1.same e12;refine ⟨_,rfl,h,_,dh,_,.ref d2,rfl,e12 _ _ (e1 _ _ hh),T.JH,T.YS,rfl,_,rfl,d2,_,rfl,Jhj.k (k:=Sum.inr z) A2h.h2 (Nat.lt_of_lt_of_le hl2 (by decide)),?_⟩;rw [Jnp _ hv];have hd:h≠d2:=fun e=>by have:=A0.h2; rw [← e,hh] at this; cases this
  have bt:Yc d2 H2 (upd H2 d2 (.dK (gm ++ [(.inr z,.ref g)]))):=Yc.put;have A3:=(A2.less A2h.h2).less A2h.h1;have n2:(fun x=>if x=d1 then none else (fun x=>if x=d2 then none else S x) x) d2=none:=by
   show (if d2=d1 then none else if d2=d2 then none else S d2)=none;rw [if_pos rfl]; split <;> rfl
  have n1:(fun x=>if x=d1 then none else (fun x=>if x=d2 then none else S x) x) d1=none:=if_pos rfl;exact q hp hm hc r hr' ⟨fun x=>if x=d1 then none else (fun x=>if x=d2 then none else S x) x,g,b,k,ld,lm,ps,zs,gs,n + s,m.toNat⟩ a _ rfl rfl rfl rfl n1 n2 ((Yc.of (e1.trans e12)).trans bt) ⟨⟨dh,by rw [Js hd]; exact e12 _ _ (e1 _ _ hh)⟩,by rw [Js A0.ne]; exact A2h.h1,Jj,A0.ne⟩ (A3.dict bt A2h.h2 n2)
theorem Jmy (T:Txt K mg):JC P w K mg base YJ 1 T.Jfq T.JdI ["self"] (JlP T false):=by
 refine T.Jcm.F.ok Jmn (fun vs H Q E h=>?_) (fun cdv A outer s H vs Q E hr h=>?_)
 ·obtain ⟨_,_,_,_,_,_,rfl,_⟩:=h;rfl
 ·obtain ⟨h,d1,d2,bs,gm,ss,rfl,A0,hk,hl,q⟩:=h;refine ⟨_,(@Jg _ _ _ (@Jq _ _ _ _ (@Y5 _ _ _ _ _ _ _ _ _ (@ZB _) rfl T.Jau PyProof.Rows.boot_tuple (@Ja _ _ _ _ _ (@JB _ _ _ _ _ _ _ _ _ (@Jko _ rfl) rfl T.JaU PyProof.Rows.boot_sorted (@Ja _ _ _ _ _ (@J5 _ _ _ _ _ (@pv _ 0 _ _ rfl (.inl rfl) rfl rfl) rfl) (@Jc _) rfl) (by decide) (by decide) rfl rfl) (@Jc _) rfl) (by decide) (by decide) rfl rfl))),?_⟩;obtain ⟨dh,hh⟩:=A0.hi;refine ⟨_,rfl,h,_,dh,_,.ref d2,rfl,hh,T.JH,T.YS,rfl,d2,gm,ss,rfl,A0.h2,hk,hl,fun p ss' np sp so=>⟨p,_,rfl,.inl ⟨JA.of Jj,fun t nt=>q t ss' _ ((Ji.upd np).trans (Ji.upd nt)) sp so Jj⟩⟩⟩
theorem Jk9 (T:Txt K mg):JC P w K mg base YJ 1 T.JdW T.JcL ["self"] (JlP T true):=by
 refine T.Jbu.F.ok JkN (fun vs H Q E h=>?_) (fun cdv A outer s H vs Q E hr h=>?_)
 ·obtain ⟨_,_,_,_,_,_,rfl,_⟩:=h;rfl
 ·obtain ⟨h,d1,d2,bs,gm,ss,rfl,A0,hk,hl,q⟩:=h;refine ⟨_,(@Jg _ _ _ (@Jq _ _ _ _ (@Y5 _ _ _ _ _ _ _ _ _ (@ZB _) rfl T.Jau PyProof.Rows.boot_tuple (@Ja _ _ _ _ _ (@JB _ _ _ _ _ _ _ _ _ (@Jko _ rfl) rfl T.JaU PyProof.Rows.boot_sorted (@Ja _ _ _ _ _ (@J5 _ _ _ _ _ (@pv _ 0 _ _ rfl (.inl rfl) rfl rfl) rfl) (@Jc _) rfl) (by decide) (by decide) rfl rfl) (@Jc _) rfl) (by decide) (by decide) rfl rfl))),?_⟩;obtain ⟨dh,hh⟩:=A0.hi;refine ⟨_,rfl,h,_,dh,_,.ref d1,rfl,hh,T.JH,T.Y2,rfl,d1,bs,ss,rfl,A0.h1,hk,hl,fun p ss' np sp so=>⟨p,_,rfl,.inl ⟨JA.of Jj,fun t nt=>q t ss' _ ((Ji.upd np).trans (Ji.upd nt)) sp so Jj⟩⟩⟩
theorem JeY (T:Txt K mg):JC P w K mg base (Ys P w) 3 T.Jcc T.JbE ["self", "name"] (JjL T JuR):=by
 refine T.Zy.F.ok1 Jje (fun vs H Q E h=>?_) (fun cdv A outer s H vs Q E hr h=>?_)
 ·obtain ⟨_,_,_,_,_,_,rfl,_⟩:=h;rfl
 ·obtain ⟨h,d1,d2,z,bs,gm,rfl,tz,A0,qE,q⟩:=h;refine ⟨_,(@Jg _ _ _ (@Jq _ _ _ _ (@Z4 _ _ _ _ _ _ _ _ _ _ _ _ _ _ _ _ _ (@JD _ _ _ _ _ _ _ _ _ _ _ _ _ _ _ _ _ _ _ _ (@pv _ 0 _ _ rfl (.inl rfl) rfl rfl) T.JH T.JJ.m (Yp T) (hr.mono (by decide)) T.JJ.b .nil JY (@Ja _ _ _ _ _ (@pv _ 1 _ _ rfl (.inl rfl) rfl rfl) (@Jc _) rfl) rfl rfl rfl) T.YF T.JaG.m (Jjk T) (hr.mono (by decide)) T.JaG.b .nil JG rfl))),?_⟩;obtain ⟨dh,hh⟩:=A0.hi;refine ⟨_,rfl,h,dh,_,rfl,hh,rfl,_,rfl,h,d1,d2,z,bs,gm,rfl,tz,A0,qE,fun v hv=>?_⟩;obtain ⟨G,ds,ms,a,x,rfl,A1,q⟩:=q v hv;obtain ⟨dg,hg⟩:=A1.gi;exact ⟨G.g,dg,_,rfl,A1.sm _ _ hg,rfl,G,ds,ms,a,x,rfl,A1,q⟩
theorem JiU (T:Txt K mg):JC P w K mg base (Ys P w) 3 T.Jhd T.Jgc ["self", "name"] (JjL T JwA):=by
 refine T.Ja6.F.ok1 Joo (fun vs H Q E h=>?_) (fun cdv A outer s H vs Q E hr h=>?_)
 ·obtain ⟨_,_,_,_,_,_,rfl,_⟩:=h;rfl
 ·obtain ⟨h,d1,d2,z,bs,gm,rfl,tz,A0,qE,q⟩:=h;refine ⟨_,(@Jg _ _ _ (@Jq _ _ _ _ (@Z4 _ _ _ _ _ _ _ _ _ _ _ _ _ _ _ _ _ (@JD _ _ _ _ _ _ _ _ _ _ _ _ _ _ _ _ _ _ _ _ (@pv _ 0 _ _ rfl (.inl rfl) rfl rfl) T.JH T.JJ.m (Yp T) (hr.mono (by decide)) T.JJ.b .nil JY (@Ja _ _ _ _ _ (@pv _ 1 _ _ rfl (.inl rfl) rfl rfl) (@Jc _) rfl) rfl rfl rfl) T.YF T.Jel.m (Jot T) (hr.mono (by decide)) T.Jel.b .nil JG rfl))),?_⟩;obtain ⟨dh,hh⟩:=A0.hi;refine ⟨_,rfl,h,dh,_,rfl,hh,rfl,_,rfl,h,d1,d2,z,bs,gm,rfl,tz,A0,qE,fun v hv=>?_⟩;obtain ⟨G,ds,ms,a,x,rfl,A1,q⟩:=q v hv;obtain ⟨dg,hg⟩:=A1.gi;exact ⟨G.g,dg,_,rfl,A1.sm _ _ hg,rfl,G,ds,ms,a,x,rfl,A1,q.1,q.2⟩
theorem Jho (T:Txt K mg):JC P w K mg base (Ys P w) 3 T.Jfn T.JdF ["self", "name"] (JjL T JuV):=by
 refine T.Jad.F.ok1 Jml (fun vs H Q E h=>?_) (fun cdv A outer s H vs Q E hr h=>?_)
 ·obtain ⟨_,_,_,_,_,_,rfl,_⟩:=h;rfl
 ·obtain ⟨h,d1,d2,z,bs,gm,rfl,tz,A0,qE,q⟩:=h;refine ⟨_,(@Jg _ _ _ (@Jq _ _ _ _ (@Z4 _ _ _ _ _ _ _ _ _ _ _ _ _ _ _ _ _ (@JD _ _ _ _ _ _ _ _ _ _ _ _ _ _ _ _ _ _ _ _ (@pv _ 0 _ _ rfl (.inl rfl) rfl rfl) T.JH T.JJ.m (Yp T) (hr.mono (by decide)) T.JJ.b .nil JY (@Ja _ _ _ _ _ (@pv _ 1 _ _ rfl (.inl rfl) rfl rfl) (@Jc _) rfl) rfl rfl rfl) T.YF T.Jcn.m (Jmz T) (hr.mono (by decide)) T.Jcn.b .nil JG rfl))),?_⟩;obtain ⟨dh,hh⟩:=A0.hi;refine ⟨_,rfl,h,dh,_,rfl,hh,rfl,_,rfl,h,d1,d2,z,bs,gm,rfl,tz,A0,qE,fun v hv=>?_⟩;obtain ⟨G,ds,ms,a,x,rfl,A1,q⟩:=q v hv;obtain ⟨dg,hg⟩:=A1.gi;exact ⟨G.g,dg,_,rfl,A1.sm _ _ hg,rfl,G,ds,ms,a,x,rfl,A1,q⟩
theorem Jhp (T:Txt K mg):JC P w K mg base (Ys P w) 3 T.Jfr T.JdJ ["self", "name"] (JjL T JuY):=by
 refine T.Jae.F.ok1 Jmo (fun vs H Q E h=>?_) (fun cdv A outer s H vs Q E hr h=>?_)
 ·obtain ⟨_,_,_,_,_,_,rfl,_⟩:=h;rfl
 ·obtain ⟨h,d1,d2,z,bs,gm,rfl,tz,A0,qE,q⟩:=h;refine ⟨_,(@Jg _ _ _ (@Jq _ _ _ _ (@Z4 _ _ _ _ _ _ _ _ _ _ _ _ _ _ _ _ _ (@JD _ _ _ _ _ _ _ _ _ _ _ _ _ _ _ _ _ _ _ _ (@pv _ 0 _ _ rfl (.inl rfl) rfl rfl) T.JH T.JJ.m (Yp T) (hr.mono (by decide)) T.JJ.b .nil JY (@Ja _ _ _ _ _ (@pv _ 1 _ _ rfl (.inl rfl) rfl rfl) (@Jc _) rfl) rfl rfl rfl) T.YF T.Jco.m (JmA T) (hr.mono (by decide)) T.Jco.b .nil JG rfl))),?_⟩;obtain ⟨dh,hh⟩:=A0.hi;refine ⟨_,rfl,h,dh,_,rfl,hh,rfl,_,rfl,h,d1,d2,z,bs,gm,rfl,tz,A0,qE,fun v hv=>?_⟩;obtain ⟨G,ds,ms,a,x,rfl,A1,q⟩:=q v hv;obtain ⟨dg,hg⟩:=A1.gi;exact ⟨G.g,dg,_,rfl,A1.sm _ _ hg,rfl,G,ds,_,rfl,A1,q⟩
theorem JhO (T:Txt K mg):JC P w K mg base (Ys P w) 6 T.Jgl T.Jfa ["self", "name"] (JjL T JvR):=by
 refine T.Jav.F.ok1 Jm5 (fun vs H Q E h=>?_) (fun cdv A outer s H vs Q E hr h=>?_)
 ·obtain ⟨_,_,_,_,_,_,rfl,_⟩:=h;rfl
 ·obtain ⟨h,d1,d2,z,bs,gm,rfl,tz,A0,qE,q⟩:=h;refine ⟨_,(@Jg _ _ _ (@Jq _ _ _ _ (@Z4 _ _ _ _ _ _ _ _ _ _ _ _ _ _ _ _ _ (@JD _ _ _ _ _ _ _ _ _ _ _ _ _ _ _ _ _ _ _ _ (@pv _ 0 _ _ rfl (.inl rfl) rfl rfl) T.JH T.JJ.m (Yp T) (hr.mono (by decide)) T.JJ.b .nil JY (@Ja _ _ _ _ _ (@pv _ 1 _ _ rfl (.inl rfl) rfl rfl) (@Jc _) rfl) rfl rfl rfl) T.YF T.Jc9.m (JnF T) (hr.mono (by decide)) T.Jc9.b .nil JG rfl))),?_⟩;obtain ⟨dh,hh⟩:=A0.hi;refine ⟨_,rfl,h,dh,_,rfl,hh,rfl,_,rfl,h,d1,d2,z,bs,gm,rfl,tz,A0,qE,fun v hv=>?_⟩;obtain ⟨G,ds,ms,a,x,rfl,A1,q⟩:=q v hv;obtain ⟨dg,hg⟩:=A1.gi;exact ⟨G.g,dg,_,rfl,A1.sm _ _ hg,rfl,G,ds,ms,a,x,rfl,A1,q⟩
def JkG:Sp:=fun _ _ _ _=>False
theorem Jlb (T:Txt K mg):JC P w K mg base (Ys P w) 1 T.JdY T.JcN ["self"] JkG:=T.Jbw.F.ok1 JkP (fun _ _ _ _ h=>h.elim) (fun _ _ _ _ _ _ _ _ _ h=>h.elim)
theorem JnD (T:Txt K mg):JC P w K mg base (Ys P w) 1 T.Jgo T.Jfe ["self"] JkG:=T.Jc7.F.ok1 Jm9 (fun _ _ _ _ h=>h.elim) (fun _ _ _ _ _ _ _ _ _ h=>h.elim)
theorem Jou (T:Txt K mg):JC P w K mg base (Ys P w) 1 T.Jhg T.Jgf ["self", "hand", "coins"] JkG:=T.Jem.F.ok1 Joq (fun _ _ _ _ h=>h.elim) (fun _ _ _ _ _ _ _ _ _ h=>h.elim)
theorem Jlc (T:Txt K mg):JC P w K mg base (Ys P w) 1 T.JdZ T.JcO ["self", "hand", "coins"] JkG:=T.Jbx.F.ok1 JkQ (fun _ _ _ _ h=>h.elim) (fun _ _ _ _ _ _ _ _ _ h=>h.elim)
theorem JnE (T:Txt K mg):JC P w K mg base (Ys P w) 1 T.Jgp T.Jff ["self", "hand", "place"] JkG:=T.Jc8.F.ok1 Jna (fun _ _ _ _ h=>h.elim) (fun _ _ _ _ _ _ _ _ _ h=>h.elim)
theorem JnH (T:Txt K mg):JC P w K mg base (Ys P w) 1 T.Jgr T.Jfi ["self"] JkG:=T.Jda.F.ok1 Jnc (fun _ _ _ _ h=>h.elim) (fun _ _ _ _ _ _ _ _ _ h=>h.elim)
def JmT (T:Txt K mg):Sp:=fun vs H _ E=>∃ (h d1 d2:Addr) (z:Str) (bs gm:List (JI×V)),vs=[.ref h,.str z]∧Yb z∧YH T H h d1 d2 bs gm∧J2 gm (.inr z)=none∧E (.ref T.J4) none H
def JmS (T:Txt K mg):Sp:=fun vs H _ E=>∃ (h d1 d2:Addr) (z:Str) (bs gm:List (JI×V)) (v1 v2:V),vs=[.ref h,.str z,v1,v2]∧Yb z∧YH T H h d1 d2 bs gm∧J2 gm (.inr z)=none∧E (.ref T.J4) none H
theorem Jk8 (T:Txt K mg):JC P w K mg base (Ys P w) 3 T.JdV T.JcK ["self", "name"] (JmT T):=by
 refine T.Jbt.F.ok1 JkM (fun vs H Q E h=>?_) (fun cdv A outer s H vs Q E hr h=>?_)
 ·obtain ⟨_,_,_,_,_,_,rfl,_⟩:=h;rfl
 ·obtain ⟨h,d1,d2,z,bs,gm,rfl,tz,A0,hn,hE⟩:=h;refine ⟨_,(@Jg _ _ _ (@Jq _ _ _ _ (@Z4 _ _ _ _ _ _ _ _ _ _ _ _ _ _ _ _ _ (@JD _ _ _ _ _ _ _ _ _ _ _ _ _ _ _ _ _ _ _ _ (@pv _ 0 _ _ rfl (.inl rfl) rfl rfl) T.JH T.JJ.m (Yp T) (hr.mono (by decide)) T.JJ.b .nil JY (@Ja _ _ _ _ _ (@pv _ 1 _ _ rfl (.inl rfl) rfl rfl) (@Jc _) rfl) rfl rfl rfl) T.YF T.Jbw.m (Jlb T) (hr.mono (by decide)) T.Jbw.b .nil JY rfl))),?_⟩;obtain ⟨dh,hh⟩:=A0.hi;exact ⟨_,rfl,h,dh,_,rfl,hh,rfl,_,rfl,h,d1,d2,z,bs,gm,rfl,tz,A0,fun _=>hE,fun v hv=>by rw [hn] at hv; cases hv⟩
theorem Jnz (T:Txt K mg):JC P w K mg base (Ys P w) 3 T.Jgj T.Je8 ["self", "name"] (JmT T):=by
 refine T.Jc4.F.ok1 Jm3 (fun vs H Q E h=>?_) (fun cdv A outer s H vs Q E hr h=>?_)
 ·obtain ⟨_,_,_,_,_,_,rfl,_⟩:=h;rfl
 ·obtain ⟨h,d1,d2,z,bs,gm,rfl,tz,A0,hn,hE⟩:=h;refine ⟨_,(@Jg _ _ _ (@Jq _ _ _ _ (@Z4 _ _ _ _ _ _ _ _ _ _ _ _ _ _ _ _ _ (@JD _ _ _ _ _ _ _ _ _ _ _ _ _ _ _ _ _ _ _ _ (@pv _ 0 _ _ rfl (.inl rfl) rfl rfl) T.JH T.JJ.m (Yp T) (hr.mono (by decide)) T.JJ.b .nil JY (@Ja _ _ _ _ _ (@pv _ 1 _ _ rfl (.inl rfl) rfl rfl) (@Jc _) rfl) rfl rfl rfl) T.YF T.Jc7.m (JnD T) (hr.mono (by decide)) T.Jc7.b .nil JY rfl))),?_⟩;obtain ⟨dh,hh⟩:=A0.hi;exact ⟨_,rfl,h,dh,_,rfl,hh,rfl,_,rfl,h,d1,d2,z,bs,gm,rfl,tz,A0,fun _=>hE,fun v hv=>by rw [hn] at hv; cases hv⟩
theorem JnC (T:Txt K mg):JC P w K mg base (Ys P w) 3 T.Jgn T.Jfd ["self", "name"] (JmT T):=by
 refine T.Jc6.F.ok1 Jm8 (fun vs H Q E h=>?_) (fun cdv A outer s H vs Q E hr h=>?_)
 ·obtain ⟨_,_,_,_,_,_,rfl,_⟩:=h;rfl
 ·obtain ⟨h,d1,d2,z,bs,gm,rfl,tz,A0,hn,hE⟩:=h;refine ⟨_,(@Jg _ _ _ (@Jq _ _ _ _ (@Z4 _ _ _ _ _ _ _ _ _ _ _ _ _ _ _ _ _ (@JD _ _ _ _ _ _ _ _ _ _ _ _ _ _ _ _ _ _ _ _ (@pv _ 0 _ _ rfl (.inl rfl) rfl rfl) T.JH T.JJ.m (Yp T) (hr.mono (by decide)) T.JJ.b .nil JY (@Ja _ _ _ _ _ (@pv _ 1 _ _ rfl (.inl rfl) rfl rfl) (@Jc _) rfl) rfl rfl rfl) T.YF T.Jda.m (JnH T) (hr.mono (by decide)) T.Jda.b .nil JY rfl))),?_⟩;obtain ⟨dh,hh⟩:=A0.hi;exact ⟨_,rfl,h,dh,_,rfl,hh,rfl,_,rfl,h,d1,d2,z,bs,gm,rfl,tz,A0,fun _=>hE,fun v hv=>by rw [hn] at hv; cases hv⟩
theorem Jos (T:Txt K mg):JC P w K mg base (Ys P w) 3 T.Jhe T.Jgd ["self", "name", "hand", "coins"] (JmS T):=by
 refine T.Jek.F.ok1 Jop (fun vs H Q E h=>?_) (fun cdv A outer s H vs Q E hr h=>?_)
 ·obtain ⟨_,_,_,_,_,_,_,_,rfl,_⟩:=h;rfl
 ·obtain ⟨h,d1,d2,z,bs,gm,v1,v2,rfl,tz,A0,hn,hE⟩:=h;refine ⟨_,(@Jg _ _ _ (@JP _ _ _ _ (@JD _ _ _ _ _ _ _ _ _ _ _ _ _ _ _ _ _ _ _ _ (@JD _ _ _ _ _ _ _ _ _ _ _ _ _ _ _ _ _ _ _ _ (@pv _ 0 _ _ rfl (.inl rfl) rfl rfl) T.JH T.JJ.m (Yp T) (hr.mono (by decide)) T.JJ.b .nil JY (@Ja _ _ _ _ _ (@pv _ 1 _ _ rfl (.inl rfl) rfl rfl) (@Jc _) rfl) rfl rfl rfl) T.YF T.Jem.m (Jou T) (hr.mono (by decide)) T.Jem.b .nil JY (@Ja _ _ _ _ _ (@pv _ 2 _ _ rfl (.inl rfl) rfl rfl) (@Ja _ _ _ _ _ (@pv _ 3 _ _ rfl (.inl rfl) rfl rfl) (@Jc _) rfl) rfl) rfl rfl rfl) rfl)),?_⟩;obtain ⟨dh,hh⟩:=A0.hi;exact ⟨_,rfl,h,dh,_,rfl,hh,rfl,_,rfl,h,d1,d2,z,bs,gm,rfl,tz,A0,fun _=>hE,fun v hv=>by rw [hn] at hv; cases hv⟩
theorem Jla (T:Txt K mg):JC P w K mg base (Ys P w) 3 T.JdX T.JcM ["self", "name", "hand", "coins"] (JmS T):=by
 refine T.Jbv.F.ok1 JkO (fun vs H Q E h=>?_) (fun cdv A outer s H vs Q E hr h=>?_)
 ·obtain ⟨_,_,_,_,_,_,_,_,rfl,_⟩:=h;rfl
 ·obtain ⟨h,d1,d2,z,bs,gm,v1,v2,rfl,tz,A0,hn,hE⟩:=h;refine ⟨_,(@Jg _ _ _ (@Jq _ _ _ _ (@JD _ _ _ _ _ _ _ _ _ _ _ _ _ _ _ _ _ _ _ _ (@JD _ _ _ _ _ _ _ _ _ _ _ _ _ _ _ _ _ _ _ _ (@pv _ 0 _ _ rfl (.inl rfl) rfl rfl) T.JH T.JJ.m (Yp T) (hr.mono (by decide)) T.JJ.b .nil JY (@Ja _ _ _ _ _ (@pv _ 1 _ _ rfl (.inl rfl) rfl rfl) (@Jc _) rfl) rfl rfl rfl) T.YF T.Jbx.m (Jlc T) (hr.mono (by decide)) T.Jbx.b .nil JY (@Ja _ _ _ _ _ (@pv _ 2 _ _ rfl (.inl rfl) rfl rfl) (@Ja _ _ _ _ _ (@pv _ 3 _ _ rfl (.inl rfl) rfl rfl) (@Jc _) rfl) rfl) rfl rfl rfl))),?_⟩;obtain ⟨dh,hh⟩:=A0.hi;exact ⟨_,rfl,h,dh,_,rfl,hh,rfl,_,rfl,h,d1,d2,z,bs,gm,rfl,tz,A0,fun _=>hE,fun v hv=>by rw [hn] at hv; cases hv⟩
theorem JnA (T:Txt K mg):JC P w K mg base (Ys P w) 3 T.Jgk T.Je9 ["self", "name", "hand", "place"] (JmS T):=by
 refine T.Jc5.F.ok1 Jm4 (fun vs H Q E h=>?_) (fun cdv A outer s H vs Q E hr h=>?_)
 ·obtain ⟨_,_,_,_,_,_,_,_,rfl,_⟩:=h;rfl
 ·obtain ⟨h,d1,d2,z,bs,gm,v1,v2,rfl,tz,A0,hn,hE⟩:=h;refine ⟨_,(@Jg _ _ _ (@JP _ _ _ _ (@JD _ _ _ _ _ _ _ _ _ _ _ _ _ _ _ _ _ _ _ _ (@JD _ _ _ _ _ _ _ _ _ _ _ _ _ _ _ _ _ _ _ _ (@pv _ 0 _ _ rfl (.inl rfl) rfl rfl) T.JH T.JJ.m (Yp T) (hr.mono (by decide)) T.JJ.b .nil JY (@Ja _ _ _ _ _ (@pv _ 1 _ _ rfl (.inl rfl) rfl rfl) (@Jc _) rfl) rfl rfl rfl) T.YF T.Jc8.m (JnE T) (hr.mono (by decide)) T.Jc8.b .nil JY (@Ja _ _ _ _ _ (@pv _ 2 _ _ rfl (.inl rfl) rfl rfl) (@Ja _ _ _ _ _ (@pv _ 3 _ _ rfl (.inl rfl) rfl rfl) (@Jc _) rfl) rfl) rfl rfl rfl) rfl)),?_⟩;obtain ⟨dh,hh⟩:=A0.hi;exact ⟨_,rfl,h,dh,_,rfl,hh,rfl,_,rfl,h,d1,d2,z,bs,gm,rfl,tz,A0,fun _=>hE,fun v hv=>by rw [hn] at hv; cases hv⟩
def JtR (T:Txt K mg):Sp:=fun vs H Q E=>∃ (h d1 d2:Addr) (z:Str) (bs gm:List (JI×V)),vs=[.ref h,.str z]∧Yb z∧YH T H h d1 d2 bs gm∧(J2 gm (.inr z)=none→E (.ref T.J4) none H)∧(∀ v,J2 gm (.inr z)=some v→∀ H',Yc d2 H H'→YH T H' h d1 d2 bs (JfP gm (.inr z))→Q .non H')
theorem JhP (T:Txt K mg):JC P w K mg base (Ys P w) 3 T.Jgm T.Jfc ["self", "name"] (JtR T):=by
 refine T.Jaw.F.ok1 Jm7 (fun vs H Q E h=>?_) (fun cdv A outer s H vs Q E hr h=>?_)
 ·obtain ⟨_,_,_,_,_,_,rfl,_⟩:=h;rfl
 ·obtain ⟨h,d1,d2,z,bs,gm,rfl,tz,A0,qE,q⟩:=h;refine ⟨_,(@Jd _ _ _ _ _ (@JP _ _ _ _ (@JD _ _ _ _ _ _ _ _ _ _ _ _ _ _ _ _ _ _ _ _ (@pv _ 0 _ _ rfl (.inl rfl) rfl rfl) T.JH T.JJ.m (Yp T) (hr.mono (by decide)) T.JJ.b .nil JY (@Ja _ _ _ _ _ (@pv _ 1 _ _ rfl (.inl rfl) rfl rfl) (@Jc _) rfl) rfl rfl rfl) rfl) (@Jg _ _ _ (@JP _ _ _ _ (@Jsr _ _ _ _ _ _ _ (@J5 _ _ _ _ _ (@pv _ 0 _ _ rfl (.inl rfl) rfl rfl) rfl) (@pv _ 1 _ _ rfl (.inl rfl) rfl rfl) ⟨rfl,rfl,rfl,rfl⟩) rfl))),?_⟩;obtain ⟨dh,hh⟩:=A0.hi;refine ⟨_,rfl,h,dh,_,rfl,hh,rfl,_,rfl,h,d1,d2,z,bs,gm,rfl,tz,A0,qE,fun v hv=>?_⟩;have hd:h≠d2:=fun e=>by have:=A0.h2; rw [← e,hh] at this; cases this
  exact ⟨_,rfl,h,_,dh,_,.ref d2,rfl,hh,T.JH,T.YS,rfl,d2,rfl,.inl ⟨gm,.inl A0.h2⟩,_,rfl,gm,.inr z,v,A0.h2,rfl,hv,q v hv _ Yc.put ⟨⟨dh,by rw [Js hd]; exact hh⟩,by rw [Js A0.ne]; exact A0.h1,Jj,A0.ne⟩⟩
end
section
variable {P:Program} {w:World} {K:PySem.W.Frag} {mg:Str→Option Value} {base:Heap}
theorem Jmv (T:Txt K mg):JC P w K mg base YJ 8 T.Jfl T.JdD ["_law_hall", "_law_name", "_law_ground_here", "_law_now", "_law_log"] (Jqi T):=by
 refine T.JfG.F.ok Jdl (fun vs H Q E h=>?_) (fun cdv A outer s H vs Q E hr h=>?_)
 ·obtain ⟨_,_,_,_,_,_,_,_,_,_,_,_,_,_,_,_,_,_,rfl,_⟩:=h;rfl
 ·obtain ⟨G,h,d1,d2,t,tn,tl,a,z,bs,gm,x,ds,ms,ls,ps,zs,gs,rfl,tz,Hh,hv,A0,htn,g,htl,hL,hdl,hdf,q⟩:=h;refine ⟨_,(@Jd _ _ _ _ _ (@Yd _ _ _ (@JL _ _ _ _ _ _ _ _ (@Z8 _ _ _ _ (@Zr _ _ _ (@Jm _ _ _ _ _ _ _ _ _ _ _ _ _ _ _ T.Jdk (Jer T) (hr.mono (by decide)) JG (@Ja _ _ _ _ _ (@JD _ _ _ _ _ _ _ _ _ _ _ _ _ _ _ _ _ _ _ _ (@pv _ 0 _ _ rfl (.inl rfl) rfl rfl) T.JH T.Zy.m (JeY T) (hr.mono (by decide)) T.Zy.b .nil Zp (@Ja _ _ _ _ _ (@pv _ 1 _ _ rfl (.inl rfl) rfl rfl) (@Jc _) rfl) rfl rfl rfl) (@Ja _ _ _ _ _ (@JeU _ _ _ _ _ _ _ _ _ _ (@JuG _) (@pv _ 3 _ _ rfl (.inl rfl) rfl rfl) (@JiA _) (@Jep _ _ _ (@Je _ _ _ _))) (@Jc _) rfl) rfl) rfl (by decide) rfl rfl) (by intro _; rfl))) (@Jg _ _ _ (@Jq _ _ _ _ (@Ja1 _ _ _ _))) (@Jw _))) (@Jd _ _ _ _ _ (@Yd _ _ _ (@JL _ _ _ _ _ _ _ _ (@Z8 _ _ _ _ (@Zr _ _ _ (@Jm _ _ _ _ _ _ _ _ _ _ _ _ _ _ _ T.Jdk (Jer T) (hr.mono (by decide)) JG (@Ja _ _ _ _ _ (@JD _ _ _ _ _ _ _ _ _ _ _ _ _ _ _ _ _ _ _ _ (@pv _ 0 _ _ rfl (.inl rfl) rfl rfl) T.JH T.Ja6.m (JiU T) (hr.mono (by decide)) T.Ja6.b .nil Zp (@Ja _ _ _ _ _ (@pv _ 1 _ _ rfl (.inl rfl) rfl rfl) (@Jc _) rfl) rfl rfl rfl) (@Ja _ _ _ _ _ (@Jm _ _ _ _ _ _ _ _ _ _ _ _ _ _ _ T.JmK (JqH T) (hr.mono (by decide)) JG (@Ja _ _ _ _ _ (@pv _ 2 _ _ rfl (.inl rfl) rfl rfl) (@Ja _ _ _ _ _ (@pv _ 3 _ _ rfl (.inl rfl) rfl rfl) (@Jc _) rfl) rfl) rfl (by decide) rfl rfl) (@Jc _) rfl) rfl) rfl (by decide) rfl rfl) (by intro _; rfl))) (@Jg _ _ _ (@Jq _ _ _ _ (@Ja1 _ _ _ _))) (@Jw _))) (@Jd _ _ _ _ _ (@JL _ _ _ _ _ _ _ _ (@PW.pt _ _ _ (@Jbn _ _ _ _ _ _ _ (@Z8 _ _ _ _ (@Zr _ _ _ (@Jm _ _ _ _ _ _ _ _ _ _ _ _ _ _ _ T.JgQ (Jji T) (hr.mono (by decide)) JG (@Ja _ _ _ _ _ (@JD _ _ _ _ _ _ _ _ _ _ _ _ _ _ _ _ _ _ _ _ (@pv _ 0 _ _ rfl (.inl rfl) rfl rfl) T.JH T.Jad.m (Jho T) (hr.mono (by decide)) T.Jad.b .nil Zp (@Ja _ _ _ _ _ (@pv _ 1 _ _ rfl (.inl rfl) rfl rfl) (@Jc _) rfl) rfl rfl rfl) (@Ja _ _ _ _ _ (@JM _ _ _ _ _ _ _ (@Yy _) (@pv _ 3 _ _ rfl (.inl rfl) rfl rfl) (@Je _ _ _ _) (fun _ _=>rfl)) (@Jc _) rfl) rfl) rfl (by decide) rfl rfl) (by intro _; rfl))) (@JaO _ _ _ _ (@Z8 _ _ _ _ (@Zr _ _ _ (@Jm _ _ _ _ _ _ _ _ _ _ _ _ _ _ _ T.JlI (JsB T) (hr.mono (by decide)) JG (@Ja _ _ _ _ _ (@JD _ _ _ _ _ _ _ _ _ _ _ _ _ _ _ _ _ _ _ _ (@pv _ 0 _ _ rfl (.inl rfl) rfl rfl) T.JH T.Jae.m (Jhp T) (hr.mono (by decide)) T.Jae.b .nil Zp (@Ja _ _ _ _ _ (@pv _ 1 _ _ rfl (.inl rfl) rfl rfl) (@Jc _) rfl) rfl rfl rfl) (@Ja _ _ _ _ _ (@pv _ 4 _ _ rfl (.inl rfl) rfl rfl) (@Jc _) rfl) rfl) rfl (by decide) rfl rfl) (by intro _; rfl)))))) (@Jg _ _ _ (@Jq _ _ _ _ (@Ja1 _ _ _ _))) (@Jw _)) (@Jd _ _ _ _ _ (@Jz _ _ 5 _ _ _ _ Jdl.nd rfl (Or.inl rfl) (@Jbg _ _ _) rfl (.inl rfl)) (@Jd _ _ _ _ _ (@Yd _ _ _ (@JL _ _ _ _ _ _ _ _ (@Jbf _ _ _ _ _ _ (@JgD _ _ _ _ _ (@Jm _ _ _ _ _ _ _ _ _ _ _ _ _ _ _ T.JmK (JqH T) (hr.mono (by decide)) JG (@Ja _ _ _ _ _ (@pv _ 2 _ _ rfl (.inl rfl) rfl rfl) (@Ja _ _ _ _ _ (@pv _ 3 _ _ rfl (.inl rfl) rfl rfl) (@Jc _) rfl) rfl) rfl (by decide) rfl rfl)) (by first | exact Zc _ (by decide) (by decide) | rfl)) (@Jg _ _ _ (@Jz _ _ 5 _ _ _ _ Jdl.nd rfl (Or.inl rfl) (@Jm _ _ _ _ _ _ _ _ _ _ _ _ _ _ _ T.Jky (Jnw T) (hr.mono (by decide)) JG (@Ja _ _ _ _ _ (@pv _ 2 _ _ rfl (.inl rfl) rfl rfl) (@Ja _ _ _ _ _ (@JM _ _ _ _ _ _ _ (@Yy _) (@pv _ 3 _ _ rfl (.inl rfl) rfl rfl) (@Je _ _ _ _) (fun _ _=>rfl)) (@Ja _ _ _ _ _ (@JM _ _ _ _ _ _ _ (@Yy _) (@pv _ 3 _ _ rfl (.inl rfl) rfl rfl) (@Je _ _ _ _) (fun _ _=>rfl)) (@Jc _) rfl) rfl) rfl) rfl (by decide) rfl rfl) rfl (.inl rfl))) (@Jw _))) (@Jg _ _ _ (@Jq _ _ _ _ (@Jm _ _ _ _ _ _ _ _ _ _ _ _ _ _ _ T.JgQ (Jji T) (hr.mono (by decide)) JG (@Ja _ _ _ _ _ (@JD _ _ _ _ _ _ _ _ _ _ _ _ _ _ _ _ _ _ _ _ (@pv _ 0 _ _ rfl (.inl rfl) rfl rfl) T.JH T.Jav.m (JhO T) (hr.mono (by decide)) T.Jav.b .nil Zp (@Ja _ _ _ _ _ (@pv _ 1 _ _ rfl (.inl rfl) rfl rfl) (@Jc _) rfl) rfl rfl rfl) (@Ja _ _ _ _ _ (@pv _ 5 _ _ rfl (.inl rfl) rfl rfl) (@Jc _) rfl) rfl) rfl (by decide) rfl rfl)))))))),?_⟩
  try dsimp only [cxK,Jhi]
  obtain ⟨dh,hh⟩:=Hh.hi;have ok:Joh G.ps (G.zs.map (·.2)) G.gs G.c G.T x:=A0.mo (a,x) (List.mem_append_right _ (List.mem_singleton.mpr rfl));have fd:=JsU (x:=x);have nov:∀ {v:V},J2 gm (.inr z)=some v→v=.ref G.g:=fun h=>by rw [hv] at h; exact (Option.some.inj h).symm
  have nn:∀ {Z:Prop},J2 gm (.inr z)=none→Z:=fun h=>by rw [hv] at h; cases h
  have hX:∀ {H1:Hp},Ji H H1→(JA K H1 tl (ls.map V.ref)∨J1 K H1 tl (ls.map V.ref)):=fun e=>htl.elim (fun h=>.inl (e.seq h)) (fun h=>.inr (e.tup h))
  refine ⟨fun σ1 H1=>Ji H H1∧σ1=[some (.ref h),some (.str z),some (.ref t),some (.ref tn),some (.ref tl),none],?_,?_⟩
  ·refine ⟨_,rfl,h,dh,_,rfl,hh,rfl,_,rfl,h,d1,d2,z,bs,gm,rfl,tz,Hh,nn,fun v hv'=>⟨G,ds,ms,a,x,nov hv',A0,fun t1 H1 e1 h1=>?_⟩⟩;have cut:Jaa (JhR G.c x) none (some 5)=[.str x.p,.int (x.m:Int),.int x.n,.int (G.c - x.n),.str (hs x.r)]:=rfl;refine ⟨_,rfl,_,rfl,tn,_,rfl,J1.of (e1 _ _ htn),(by rintro ⟨_,h⟩; exact absurd h (by show ¬ (HT.Yw 7 7 (some 5)=7); decide)),fun t2 n2=>?_⟩;have s2:=Ji.upd (o:=.tup (Jaa (JhR G.c x) none (some 5))) n2;exact ⟨.ref t1,.ref t2,rfl,⟨_,rfl,YT ⟨e1.trans s2,rfl⟩⟩,.inr ⟨t1,t2,_,rfl,rfl,J1.of (s2 _ _ h1),.inr (J1.of (by rw [Jj,cut])),by show 5≤1000; decide,rfl⟩⟩
  rintro σ1 H2 ⟨e2,rfl⟩;refine ⟨fun σ1 H1=>Ji H H1∧σ1=[some (.ref h),some (.str z),some (.ref t),some (.ref tn),some (.ref tl),none],?_,?_⟩
  ·have A2:=A0.same e2;refine ⟨_,rfl,h,dh,_,rfl,e2 _ _ hh,rfl,_,rfl,h,d1,d2,z,bs,gm,rfl,tz,Hh.same e2,nn,fun v hv'=>⟨G,ds,ms,a,x,nov hv',A2,fun ho=>?_,fun ho t3 H3 e3 h3=>?_⟩⟩
   ·exact ⟨_,rfl,_,rfl,t,tn,x,ps,zs,gs,G.ps,G.zs,G.gs,G.c,G.T,rfl,e2 _ _ htn,g.same e2,ok,fun _ H4 e4=>⟨.non,.non,rfl,⟨_,rfl,YT ⟨e2.trans e4,rfl⟩⟩,.inl ⟨rfl,rfl⟩⟩,fun z=>absurd ho z⟩
   ·refine ⟨_,rfl,_,rfl,t,tn,x,ps,zs,gs,G.ps,G.zs,G.gs,G.c,G.T,rfl,(e2.trans e3) _ _ htn,g.same (e2.trans e3),ok,fun z=>absurd z ho,fun _ t4 H4 e4 h4=>⟨.ref t3,.ref t4,rfl,⟨_,rfl,YT ⟨(e2.trans e3).trans e4,rfl⟩⟩,.inr ⟨t3,t4,_,rfl,rfl,J1.of (e4 _ _ h3),.inr (J1.of h4),by show 2≤1000; decide,?_⟩⟩⟩;show (Ja5 x.hand && (Ja5 x.word && true))=true;rw [fd.1,fd.2.1]; rfl
  rintro σ1 H1 ⟨e1,rfl⟩;have A1:=A0.same e1;refine ⟨_,rfl,h,dh,_,rfl,e1 _ _ hh,rfl,_,rfl,h,d1,d2,z,bs,gm,rfl,tz,Hh.same e1,nn,fun v hv'=>⟨G,ds,ms,a,x,nov hv',A1,?_⟩⟩;refine ⟨_,rfl,tn,_,_,x.heard,rfl,rfl,J1.of (e1 _ _ htn),rfl,x.heard,rfl,fd.2.2.1,_,rfl,YT ?_⟩;refine ⟨_,rfl,h,dh,_,rfl,e1 _ _ hh,rfl,_,rfl,h,d1,d2,z,bs,gm,rfl,tz,Hh.same e1,nn,fun v hv'=>⟨G,ds,ms,a,x,nov hv',A1,fun t2 H2 e2 h2=>?_⟩⟩;have e12:=e1.trans e2;have A2:=A0.same e12;refine ⟨_,rfl,t2,tl,ds,ls,rfl,h2,hX e12,(hL.same e12).sq,hdl,fun d hd=>⟨J1.of (A2.dt d hd),hdf d hd⟩,_,rfl,YT ?_⟩;refine ⟨fun σ1 H3=>Ji H H3∧σ1=[some (.ref h),some (.str z),some (.ref t),some (.ref tn),some (.ref tl),some (Zk x.p (x.m:Int) (G.zs.map (·.2)) G.gs)],?_,?_⟩
  ·refine ⟨_,rfl,_,rfl,t,tn,x,ps,zs,gs,G.ps,G.zs,G.gs,G.c,G.T,rfl,e12 _ _ htn,g.same e12,ok,fun ho H3 e3=>?_,fun ho t3 H3 e3 h3=>?_⟩
   ·have e13:=e12.trans e3;refine ⟨_,rfl,Zh ⟨_,rfl,_,rfl,tn,_,_,.str x.p,rfl,rfl,J1.of (e13 _ _ htn),rfl,_,rfl,tn,_,_,.int (x.m:Int),rfl,rfl,J1.of (e13 _ _ htn),rfl,t,x.p,(x.m:Int),ps,zs,gs,rfl,g.G.same e13,fun H4 e4=>⟨e13.trans e4,?_⟩⟩⟩;rw [Jum (g.zp.map _) g.gp (ok.e.mp ho)]; rfl
   ·refine ⟨_,rfl,YT ⟨e12.trans e3,?_⟩⟩;rw [Jn5.2 (fun z=>ho (ok.e.mpr z))]; rfl
  rintro σ1 H3 ⟨e3,rfl⟩;exact ⟨_,rfl,h,dh,_,rfl,e3 _ _ hh,rfl,_,rfl,h,d1,d2,z,bs,gm,rfl,tz,Hh.same e3,nn,fun v hv'=>⟨G,ds,ms,a,x,nov hv',A0.same e3,fun H4 e4=>⟨_,rfl,_,rfl,JsT,q H4 (e3.trans e4)⟩⟩⟩
def JjI:List Str:=["BadName", "BadHand", "OutOfRange", "Twice", "NoPlace", "BadBid", "NoLane", "NotDue", "NothingDone", "Taken", "Full", "Missing"]
def Jj5 (j:Nat):List V:=(List.range 12).map (fun k=>V.bl (k == j)) ++ [.bl true]
def JrP:Sp:=fun vs H Q _=>∃ (l:Addr) (j:Nat) (x:Str),vs=[.ref l]∧H l=some (.lst (Jj5 j))∧JjI[j]?=some x∧∀ p H',Ji H H'→H' p=some (.tup (rf x))→Q (.ref p) H'
theorem JsI (j i:Nat) (h:i < 12):Z3 (Jj5 j) ((0:Int) + (i:Int))=some (.bl (i == j)):=by
 rw [Int.zero_add];refine YX ?_;unfold Jj5;rw [List.getElem?_append_left (by simp; exact h),List.getElem?_map,List.getElem?_range h];rfl
theorem JrI (i:Nat) (h:i < 12):∃ x,JjI[i]?=some x∧Z3 (JjI.map V.str) ((0:Int) + (i:Int))=some (.str x):=by
 refine ⟨JjI[i]'h,List.getElem?_eq_getElem h,?_⟩;rw [Int.zero_add];refine YX ?_;rw [List.getElem?_map,List.getElem?_eq_getElem h];rfl
theorem Jsw (T:Txt K mg):JC P w K mg base YJ 1 T.Jlm T.Jjp ["_law_marks"] JrP:=by
 refine T.JlD.F.ok JgT (fun vs H Q E h=>?_) (fun cdv A outer s H vs Q E hr h=>?_)
 ·obtain ⟨_,_,_,rfl,_⟩:=h;rfl
 ·obtain ⟨l,j,x,rfl,hl,hx,q⟩:=h;refine ⟨_,(@Jd _ _ _ _ _ (@Yd _ _ _ (@Jz _ _ 1 _ _ _ _ JgT.nd rfl (Or.inr rfl) (@Yx _ _ _ _ (@Ja _ _ _ _ _ (@Jy _ _ _ _) (@Ja _ _ _ _ _ (@Jy _ _ _ _) (@Ja _ _ _ _ _ (@Jy _ _ _ _) (@Ja _ _ _ _ _ (@Jy _ _ _ _) (@Ja _ _ _ _ _ (@Jy _ _ _ _) (@Ja _ _ _ _ _ (@Jy _ _ _ _) (@Jc _) rfl) rfl) rfl) rfl) rfl) rfl)) rfl (by first | exact .inl rfl | exact .inr rfl | assumption))) (@Jd _ _ _ _ _ (@Yd _ _ _ (@Jz _ _ 1 _ _ _ _ JgT.nd rfl (Or.inr rfl) (@Jo _ _ _ _ _ _ _ _ (@Ju8 _) (@pv _ 1 _ _ rfl (.inr (.inl rfl)) rfl rfl) (@Yx _ _ _ _ (@Ja _ _ _ _ _ (@Jy _ _ _ _) (@Ja _ _ _ _ _ (@Jy _ _ _ _) (@Ja _ _ _ _ _ (@Jy _ _ _ _) (@Ja _ _ _ _ _ (@Jy _ _ _ _) (@Ja _ _ _ _ _ (@Jy _ _ _ _) (@Ja _ _ _ _ _ (@Jy _ _ _ _) (@Jc _) rfl) rfl) rfl) rfl) rfl) rfl))) rfl (by first | exact .inl rfl | exact .inr rfl | assumption))) (@Jd _ _ _ _ _ (@Jpp _ _ _ _ _ _ _ _ _ _ 2 1 ["_law_k", "_law_words", "_law_marks"] [1,0] _ _ _ _ ["_law_marks", "_law_words", "_law_found"] ((Jk Jix).names) (by decide +kernel) JgT.nd rfl (@Zf _ _ _ _ _ _ rfl T.Zx (@Ja _ _ _ _ _ (@Je _ _ _ _) (@Jc _) rfl) rfl) (fun _ _ _ _=>(@Jar _ _ _ _ _ _ _ _ _ 0 (by decide +kernel) rfl rfl)) (fun _ _ _ _=>(@JiB _ _ _ (@Zr _ _ _ (@JM _ _ _ _ _ _ _ (show IxR _ (JhG K) from (@JV _)) (@JaR _ _ _ _ _ _ _ _ _ 2 rfl rfl (by decide) (by decide)) (@ZN _ _ _ _ _ _ _ _ _ 0 rfl rfl (by decide) (by decide)) (fun _ _=>rfl)) (by intro _; rfl)))) (fun _ _ _ _=>(@JM _ _ _ _ _ _ _ (show IxR _ (JhG K) from (@JV _)) (@JaR _ _ _ _ _ _ _ _ _ 1 rfl rfl (by decide) (by decide)) (@ZN _ _ _ _ _ _ _ _ _ 0 rfl rfl (by decide) (by decide)) (fun _ _=>rfl))) rfl rfl rfl rfl rfl (by intro _; rfl)) (@Jd _ _ _ _ _ (@JL _ _ _ _ _ _ _ _ (@PW.pt _ _ _ (@Jno _ _ _ _ _ _ _ (@Jx _ _ _ _ _ _ _ _ (@Yi _) (@JB _ _ _ _ _ _ _ _ _ (@Yk _) rfl T.Zm PySem.boot_len (@Ja _ _ _ _ _ (@pv _ 2 _ _ rfl (.inl rfl) rfl rfl) (@Jc _) rfl) (by decide) (by decide) rfl rfl) (@Je _ _ _ _) (JE _)) (@Jk0 _ _ _ _ (@Zr _ _ _ (@JM _ _ _ _ _ _ _ (@JV _) (@pv _ 0 _ _ rfl (.inr (.inl rfl)) rfl rfl) (@Je _ _ _ _) (fun _ _=>rfl)) (by intro _; rfl))))) (@Jg _ _ _ (@Jq _ _ _ _ (@YR _ _ _ _ _ (@Ja _ _ _ _ _ (@Jy _ _ _ _) (@Ja _ _ _ _ _ (@JM _ _ _ _ _ _ _ (@JV _) (@pv _ 2 _ _ rfl (.inl rfl) rfl rfl) (@Je _ _ _ _) (fun _ _=>rfl)) (@Jc _) rfl) rfl)))) (@Jw _)) (@Jg _ _ _ (@Jq _ _ _ _ (@YR _ _ _ _ _ (@Ja _ _ _ _ _ (@Jy _ _ _ _) (@Ja _ _ _ _ _ (@Jy _ _ _ _) (@Jc _) rfl) rfl)))))))),?_⟩;have hj:j < 12:=(List.getElem?_eq_some_iff.mp hx).1;refine ⟨fun σ1 H1=>∃ p1,Ji H H1∧H1 p1=some (.lst [.str "BadName",.str "BadHand",.str "OutOfRange",.str "Twice",.str "NoPlace",.str "BadBid"])∧σ1=[some (.ref l),some (.ref p1),none],
   ⟨by show 6≤sizeLine; decide,fun p1 hp1=>⟨p1,Ji.upd hp1,Jj,rfl⟩⟩,?_⟩
  rintro σ1 H1 ⟨p1,s1,hp1,rfl⟩;refine ⟨fun σ2 H3=>∃ p3,Ji H1 H3∧H3 p3=some (.lst (JjI.map V.str))∧σ2=[some (.ref l),some (.ref p3),none],
   ⟨_,rfl,by show 6≤sizeLine; decide,fun p2 hp2=>⟨p1,p2,_,_,rfl,rfl,(Ji.upd hp2) _ _ hp1,Jj,by show 12≤sizeLine; decide,fun p3 hp3=>⟨p3,(Ji.upd hp2).trans (Ji.upd hp3),Jj,rfl⟩⟩⟩,?_⟩
  rintro σ2 H3 ⟨p3,s13,hw3,rfl⟩;have s3:=s1.trans s13;refine ⟨12,rfl,by decide,by decide,fun D hD=>Jkk (n:=12) (fun i ys H4=>Ji H3 H4∧H4 D=some (.lst ys)∧ys=if j < i then [.str x] else []) rfl ?_ ?_ ?_ ?_⟩
  ·exact ⟨Ji.upd hD,Jj,by simp⟩
  ·exact fun i ys H4 p=>p.2.1
  ·rintro i ys H4 hi ⟨e4,hD4,hys⟩;have keep:∀ o,Ji H3 (upd H4 D o):=fun o b u e=>by rw [Js (Ju e hD)]; exact e4 b u e
   refine ⟨_,rfl,_,rfl,l,_,_,_,rfl,rfl,JA.of (e4 _ _ (s3 _ _ hl)),JsI j i hi,_,rfl,?_⟩;by_cases hij:i=j
   ·subst hij;obtain ⟨y,hy1,hy2⟩:=JrI i hi;rw [hx] at hy1;cases hy1;rw [if_neg (Nat.lt_irrefl _)] at hys;subst hys;refine ZE (by simp) ⟨_,rfl,_,rfl,p3,_,_,.str x,rfl,rfl,JA.of (e4 _ _ hw3),hy2,hD4,by show 0 < sizeLine; decide,keep _,Jj,?_⟩;rw [if_pos (Nat.lt_succ_self _)]; rfl
   ·refine YN (by simpa using hij) ⟨e4,hD4,?_⟩;rw [hys];by_cases hlt:j < i
    ·rw [if_pos hlt,if_pos (by omega)]
    ·rw [if_neg hlt,if_neg (by omega)]
  ·rintro ys H4 ⟨e4,hD4,hys⟩;rw [if_pos hj] at hys;subst hys;have s4:=s3.trans e4;refine ⟨_,rfl,D,_,rfl,.inl (JA.of hD4),rfl,_,rfl,ZE (decide_eq_true rfl) ?_⟩;refine ⟨_,rfl,l,_,_,.bl true,rfl,rfl,JA.of (s4 _ _ hl),?_,_,rfl,Zh ?_⟩
   ·have z:Z3 (Jj5 j) ((12:Nat):Int)=some (.bl true):=YX (by unfold Jj5; rw [List.getElem?_append_right (by simp)]; simp);exact z
   refine ⟨_,rfl,D,_,_,.str x,rfl,rfl,JA.of hD4,rfl,by show 2≤sizeLine; decide,fun p hp=>q p _ (s4.trans (Ji.upd hp)) Jj⟩
theorem JqK {zs:List (Str×Str)} {gs:List Str} {p:Str} {m:Nat} {n c:Int} {r:Bool}:JhR c (ZJ zs gs p m n r)=[.str p,.int (m:Int),.int n,.int (c - n),.str (hs r),.non,.str ""]:=by
 unfold JhR;rw [JhX.2.1,JhX.2.2]; rfl
theorem Jlv {x y:Str}:decide (V.str x=V.str y)=(x == y):=by
 rw [Bool.eq_iff_iff,decide_eq_true_eq,beq_iff_eq];exact ⟨fun h=>V.str.inj h,fun h=>by rw [h]⟩
theorem JiL {x y:Int}:decide (V.int x=V.int y)=decide (x=y):=by
 rw [Bool.eq_iff_iff,decide_eq_true_eq,decide_eq_true_eq];exact ⟨fun h=>V.int.inj h,fun h=>by rw [h]⟩
theorem JpH (xs:List Str):(xs.map V.str).all Ja5=true:=List.all_eq_true.mpr fun v hv=>by
 obtain ⟨x,_,rfl⟩:=List.mem_map.mp hv;rfl
theorem JsN {gm:List (JI×V)} {ss:List Str} {z:Str} (h:gm.map (·.1)=ss.map Sum.inr):(J2 gm (.inr z)).isSome=decide (z∈ss):=by
 rw [← Jcs,Bool.eq_iff_iff,List.any_eq_true,decide_eq_true_eq];constructor
 ·rintro ⟨kv,h1,h2⟩;have:kv.1∈ss.map Sum.inr:=by rw [← h]; exact List.mem_map.mpr ⟨kv,h1,rfl⟩
  obtain ⟨y,hy,e⟩:=List.mem_map.mp this;rw [of_decide_eq_true h2] at e;cases e;exact hy
 ·intro hz;have:(Sum.inr z:JI)∈gm.map (·.1):=by rw [h]; exact List.mem_map.mpr ⟨z,hz,rfl⟩
  obtain ⟨kv,h1,h2⟩:=List.mem_map.mp this;exact ⟨kv,h1,decide_eq_true h2⟩
theorem JqZ {gm:List (JI×V)} {ss:List Str} {z:Str} (h:gm.map (·.1)=ss.map Sum.inr):J2 gm (.inr z)=none↔z∉ss:=by
 have k:=JsN (z:=z) h;cases hv:J2 gm (.inr z) with
 | none=>rw [hv] at k; exact ⟨fun _=>of_decide_eq_false k.symm,fun _=>rfl⟩
 | some v=>rw [hv] at k; exact ⟨(fun z=>nomatch z),fun f=>absurd (of_decide_eq_true k.symm) f⟩
def JtT (T:Txt K mg):Sp:=fun vs H _ E=>∃ (h d1 d2:Addr) (z:Str) (door:Int) (bs gm:List (JI×V)),vs=[.ref h,.int door,.str z]∧Yb z∧YH T H h d1 d2 bs gm∧J2 gm (.inr z)=none∧E (.ref T.J4) none H
theorem Jve (T:Txt K mg):JC P w K mg base (Ys P w) 8 T.JpP T.JnY ["_law_hall", "_law_door", "_law_name"] (JtT T):=by
 refine T.Jp4.F.ok1 JuM (fun vs H Q E h=>?_) (fun cdv A outer s H vs Q E hr h=>?_)
 ·obtain ⟨_,_,_,_,_,_,_,rfl,_⟩:=h;rfl
 ·obtain ⟨h,d1,d2,z,door,bs,gm,rfl,tz,A0,hn,hE⟩:=h;refine ⟨_,(@Jd _ _ _ _ _ (@JL _ _ _ _ _ _ _ _ (@Jx _ _ _ _ _ _ _ _ (@Yi _) (@pv _ 1 _ _ rfl (.inl rfl) rfl rfl) (@Je _ _ _ _) (JE _)) (@Jg _ _ _ (@Jq _ _ _ _ (@JD _ _ _ _ _ _ _ _ _ _ _ _ _ _ _ _ _ _ _ _ (@pv _ 0 _ _ rfl (.inl rfl) rfl rfl) T.JH T.Zy.m (JeY T) (hr.mono (by decide)) T.Zy.b .nil JY (@Ja _ _ _ _ _ (@pv _ 2 _ _ rfl (.inl rfl) rfl rfl) (@Jc _) rfl) rfl rfl rfl))) (@Jw _)) (@Jd _ _ _ _ _ (@JL _ _ _ _ _ _ _ _ (@Jx _ _ _ _ _ _ _ _ (@Yi _) (@pv _ 1 _ _ rfl (.inl rfl) rfl rfl) (@Je _ _ _ _) (JE _)) (@Jg _ _ _ (@Jq _ _ _ _ (@JD _ _ _ _ _ _ _ _ _ _ _ _ _ _ _ _ _ _ _ _ (@pv _ 0 _ _ rfl (.inl rfl) rfl rfl) T.JH T.Ja6.m (JiU T) (hr.mono (by decide)) T.Ja6.b .nil JY (@Ja _ _ _ _ _ (@pv _ 2 _ _ rfl (.inl rfl) rfl rfl) (@Jc _) rfl) rfl rfl rfl))) (@Jw _)) (@Jd _ _ _ _ _ (@JL _ _ _ _ _ _ _ _ (@Jx _ _ _ _ _ _ _ _ (@Yi _) (@pv _ 1 _ _ rfl (.inl rfl) rfl rfl) (@Je _ _ _ _) (JE _)) (@Jg _ _ _ (@Jq _ _ _ _ (@JD _ _ _ _ _ _ _ _ _ _ _ _ _ _ _ _ _ _ _ _ (@pv _ 0 _ _ rfl (.inl rfl) rfl rfl) T.JH T.Jad.m (Jho T) (hr.mono (by decide)) T.Jad.b .nil JY (@Ja _ _ _ _ _ (@pv _ 2 _ _ rfl (.inl rfl) rfl rfl) (@Jc _) rfl) rfl rfl rfl))) (@Jw _)) (@Jd _ _ _ _ _ (@JL _ _ _ _ _ _ _ _ (@Jx _ _ _ _ _ _ _ _ (@Yi _) (@pv _ 1 _ _ rfl (.inl rfl) rfl rfl) (@Je _ _ _ _) (JE _)) (@Jg _ _ _ (@Jq _ _ _ _ (@JD _ _ _ _ _ _ _ _ _ _ _ _ _ _ _ _ _ _ _ _ (@pv _ 0 _ _ rfl (.inl rfl) rfl rfl) T.JH T.Jae.m (Jhp T) (hr.mono (by decide)) T.Jae.b .nil JY (@Ja _ _ _ _ _ (@pv _ 2 _ _ rfl (.inl rfl) rfl rfl) (@Jc _) rfl) rfl rfl rfl))) (@Jw _)) (@Jd _ _ _ _ _ (@JL _ _ _ _ _ _ _ _ (@Jx _ _ _ _ _ _ _ _ (@Yi _) (@pv _ 1 _ _ rfl (.inl rfl) rfl rfl) (@Je _ _ _ _) (JE _)) (@Jg _ _ _ (@Jq _ _ _ _ (@JD _ _ _ _ _ _ _ _ _ _ _ _ _ _ _ _ _ _ _ _ (@pv _ 0 _ _ rfl (.inl rfl) rfl rfl) T.JH T.Jav.m (JhO T) (hr.mono (by decide)) T.Jav.b .nil JY (@Ja _ _ _ _ _ (@pv _ 2 _ _ rfl (.inl rfl) rfl rfl) (@Jc _) rfl) rfl rfl rfl))) (@Jw _)) (@Jd _ _ _ _ _ (@JL _ _ _ _ _ _ _ _ (@Jx _ _ _ _ _ _ _ _ (@Yi _) (@pv _ 1 _ _ rfl (.inl rfl) rfl rfl) (@Je _ _ _ _) (JE _)) (@Jg _ _ _ (@Jq _ _ _ _ (@JD _ _ _ _ _ _ _ _ _ _ _ _ _ _ _ _ _ _ _ _ (@pv _ 0 _ _ rfl (.inl rfl) rfl rfl) T.JH T.Jbt.m (Jk8 T) (hr.mono (by decide)) T.Jbt.b .nil JY (@Ja _ _ _ _ _ (@pv _ 2 _ _ rfl (.inl rfl) rfl rfl) (@Jc _) rfl) rfl rfl rfl))) (@Jw _)) (@Jd _ _ _ _ _ (@JL _ _ _ _ _ _ _ _ (@Jx _ _ _ _ _ _ _ _ (@Yi _) (@pv _ 1 _ _ rfl (.inl rfl) rfl rfl) (@Je _ _ _ _) (JE _)) (@Jg _ _ _ (@Jq _ _ _ _ (@JD _ _ _ _ _ _ _ _ _ _ _ _ _ _ _ _ _ _ _ _ (@pv _ 0 _ _ rfl (.inl rfl) rfl rfl) T.JH T.Jc4.m (Jnz T) (hr.mono (by decide)) T.Jc4.b .nil JY (@Ja _ _ _ _ _ (@pv _ 2 _ _ rfl (.inl rfl) rfl rfl) (@Jc _) rfl) rfl rfl rfl))) (@Jw _)) (@Jd _ _ _ _ _ (@JL _ _ _ _ _ _ _ _ (@Jx _ _ _ _ _ _ _ _ (@Yi _) (@pv _ 1 _ _ rfl (.inl rfl) rfl rfl) (@Je _ _ _ _) (JE _)) (@Jg _ _ _ (@Jq _ _ _ _ (@JD _ _ _ _ _ _ _ _ _ _ _ _ _ _ _ _ _ _ _ _ (@pv _ 0 _ _ rfl (.inl rfl) rfl rfl) T.JH T.Jc6.m (JnC T) (hr.mono (by decide)) T.Jc6.b .nil JY (@Ja _ _ _ _ _ (@pv _ 2 _ _ rfl (.inl rfl) rfl rfl) (@Jc _) rfl) rfl rfl rfl))) (@Jw _)) (@Jg _ _ _ (@Jq _ _ _ _ (@JD _ _ _ _ _ _ _ _ _ _ _ _ _ _ _ _ _ _ _ _ (@pv _ 0 _ _ rfl (.inl rfl) rfl rfl) T.JH T.Jaw.m (JhP T) (hr.mono (by decide)) T.Jaw.b .nil JY (@Ja _ _ _ _ _ (@pv _ 2 _ _ rfl (.inl rfl) rfl rfl) (@Jc _) rfl) rfl rfl rfl))))))))))),?_⟩
  try dsimp only [cxK,Jhi]
  obtain ⟨dh,hh⟩:=A0.hi;refine ⟨_,rfl,rfl,_,rfl,Yt (fun _=>?_) (fun c0=>?_)⟩
  ·exact ⟨_,rfl,h,dh,_,rfl,hh,rfl,_,rfl,h,d1,d2,z,bs,gm,rfl,tz,A0,fun _=>hE,fun v hv=>by rw [hn] at hv; cases hv⟩
  refine ⟨_,rfl,rfl,_,rfl,Yt (fun _=>?_) (fun c1=>?_)⟩
  ·exact ⟨_,rfl,h,dh,_,rfl,hh,rfl,_,rfl,h,d1,d2,z,bs,gm,rfl,tz,A0,fun _=>hE,fun v hv=>by rw [hn] at hv; cases hv⟩
  refine ⟨_,rfl,rfl,_,rfl,Yt (fun _=>?_) (fun c2=>?_)⟩
  ·exact ⟨_,rfl,h,dh,_,rfl,hh,rfl,_,rfl,h,d1,d2,z,bs,gm,rfl,tz,A0,fun _=>hE,fun v hv=>by rw [hn] at hv; cases hv⟩
  refine ⟨_,rfl,rfl,_,rfl,Yt (fun _=>?_) (fun c3=>?_)⟩
  ·exact ⟨_,rfl,h,dh,_,rfl,hh,rfl,_,rfl,h,d1,d2,z,bs,gm,rfl,tz,A0,fun _=>hE,fun v hv=>by rw [hn] at hv; cases hv⟩
  refine ⟨_,rfl,rfl,_,rfl,Yt (fun _=>?_) (fun c4=>?_)⟩
  ·exact ⟨_,rfl,h,dh,_,rfl,hh,rfl,_,rfl,h,d1,d2,z,bs,gm,rfl,tz,A0,fun _=>hE,fun v hv=>by rw [hn] at hv; cases hv⟩
  refine ⟨_,rfl,rfl,_,rfl,Yt (fun _=>?_) (fun c5=>?_)⟩
  ·exact ⟨_,rfl,h,dh,_,rfl,hh,rfl,_,rfl,h,d1,d2,z,bs,gm,rfl,tz,A0,hn,hE⟩
  refine ⟨_,rfl,rfl,_,rfl,Yt (fun _=>?_) (fun c6=>?_)⟩
  ·exact ⟨_,rfl,h,dh,_,rfl,hh,rfl,_,rfl,h,d1,d2,z,bs,gm,rfl,tz,A0,hn,hE⟩
  refine ⟨_,rfl,rfl,_,rfl,Yt (fun _=>?_) (fun c7=>?_)⟩
  ·exact ⟨_,rfl,h,dh,_,rfl,hh,rfl,_,rfl,h,d1,d2,z,bs,gm,rfl,tz,A0,hn,hE⟩
  exact ⟨_,rfl,h,dh,_,rfl,hh,rfl,_,rfl,h,d1,d2,z,bs,gm,rfl,tz,A0,fun _=>hE,fun v hv=>by rw [hn] at hv; cases hv⟩
def JtH (T:Txt K mg):Sp:=fun vs H Q _=>∃ (h d1 d2:Addr) (z hd pl:Str) (door co:Int) (bs gm:List (JI×V)),vs=[.ref h,.int door,.str z,.str hd,.int co,.str pl]∧Yb z∧Yb hd∧Yb pl∧YH T H h d1 d2 bs gm∧(door < 12→J2 gm (.inr z)=none)∧(12≤door→J2 bs (.inr z)=none)∧∀ p H',Ji H H'→H' p=some (.tup (rf "Missing"))→Q (.ref p) H'
theorem Jvb (T:Txt K mg):JC P w K mg base YJ 13 T.JpK T.JnT ["_law_hall", "_law_door", "_law_name", "_law_hand_here", "_law_coins", "_law_place"] (JtH T):=by
 refine T.Jp1.F.ok JjQ (fun vs H Q E h=>?_) (fun cdv A outer s H vs Q E hr h=>?_)
 ·obtain ⟨_,_,_,_,_,_,_,_,_,_,rfl,_⟩:=h;rfl
 ·obtain ⟨h,d1,d2,z,hd,pl,door,co,bs,gm,rfl,tz,th,tp,A0,hg,hb,q⟩:=h;refine ⟨_,(@Jd _ _ _ _ _ (@Jz _ _ 6 _ _ _ _ JjQ.nd rfl (Or.inl rfl) (@Yx _ _ _ _ (@Jc _)) rfl (.inl rfl)) (@Jd _ _ _ _ _ (@Ju0 _ _ _ _ 7 _ _ _ _ _ _ _ _ (fun c _ H2=>Ji H H2∧c=.ref T.J4) JjQ.nd T.JfQ rfl (fun pn xe hx=>(@Jd _ _ _ _ _ (@JL _ _ _ _ _ _ _ _ (@Jx _ _ _ _ _ _ _ _ (@Jee _) (@pv _ 1 _ _ rfl (.inl rfl) rfl rfl) (@Je _ _ _ _) (JE _)) (@Jg _ _ _ (@Jq _ _ _ _ (@Jm _ _ _ _ _ _ _ _ _ _ _ _ _ _ _ T.Jp4 (Jve T) (hr.mono (by decide)) hx (@Ja _ _ _ _ _ (@pv _ 0 _ _ rfl (.inl rfl) rfl rfl) (@Ja _ _ _ _ _ (@pv _ 1 _ _ rfl (.inl rfl) rfl rfl) (@Ja _ _ _ _ _ (@pv _ 2 _ _ rfl (.inl rfl) rfl rfl) (@Jc _) rfl) rfl) rfl) rfl (by decide) rfl rfl))) (@Jw _)) (@Jd _ _ _ _ _ (@JL _ _ _ _ _ _ _ _ (@Jx _ _ _ _ _ _ _ _ (@Yi _) (@pv _ 1 _ _ rfl (.inl rfl) rfl rfl) (@Je _ _ _ _) (JE _)) (@Jg _ _ _ (@Jq _ _ _ _ (@JD _ _ _ _ _ _ _ _ _ _ _ _ _ _ _ _ _ _ _ _ (@pv _ 0 _ _ rfl (.inl rfl) rfl rfl) T.JH T.Jek.m (Jos T) (hr.mono (by decide)) T.Jek.b .nil hx (@Ja _ _ _ _ _ (@pv _ 2 _ _ rfl (.inl rfl) rfl rfl) (@Ja _ _ _ _ _ (@pv _ 3 _ _ rfl (.inl rfl) rfl rfl) (@Ja _ _ _ _ _ (@pv _ 4 _ _ rfl (.inl rfl) rfl rfl) (@Jc _) rfl) rfl) rfl) rfl rfl rfl))) (@Jw _)) (@Jd _ _ _ _ _ (@JL _ _ _ _ _ _ _ _ (@Jx _ _ _ _ _ _ _ _ (@Yi _) (@pv _ 1 _ _ rfl (.inl rfl) rfl rfl) (@Je _ _ _ _) (JE _)) (@Jg _ _ _ (@Jq _ _ _ _ (@JD _ _ _ _ _ _ _ _ _ _ _ _ _ _ _ _ _ _ _ _ (@pv _ 0 _ _ rfl (.inl rfl) rfl rfl) T.JH T.Jbv.m (Jla T) (hr.mono (by decide)) T.Jbv.b .nil hx (@Ja _ _ _ _ _ (@pv _ 2 _ _ rfl (.inl rfl) rfl rfl) (@Ja _ _ _ _ _ (@pv _ 3 _ _ rfl (.inl rfl) rfl rfl) (@Ja _ _ _ _ _ (@pv _ 4 _ _ rfl (.inl rfl) rfl rfl) (@Jc _) rfl) rfl) rfl) rfl rfl rfl))) (@Jw _)) (@Jd _ _ _ _ _ (@JL _ _ _ _ _ _ _ _ (@Jx _ _ _ _ _ _ _ _ (@Yi _) (@pv _ 1 _ _ rfl (.inl rfl) rfl rfl) (@Je _ _ _ _) (JE _)) (@Jg _ _ _ (@Jq _ _ _ _ (@JD _ _ _ _ _ _ _ _ _ _ _ _ _ _ _ _ _ _ _ _ (@pv _ 0 _ _ rfl (.inl rfl) rfl rfl) T.JH T.Jc5.m (JnA T) (hr.mono (by decide)) T.Jc5.b .nil hx (@Ja _ _ _ _ _ (@pv _ 2 _ _ rfl (.inl rfl) rfl rfl) (@Ja _ _ _ _ _ (@pv _ 3 _ _ rfl (.inl rfl) rfl rfl) (@Ja _ _ _ _ _ (@pv _ 5 _ _ rfl (.inl rfl) rfl rfl) (@Jc _) rfl) rfl) rfl) rfl rfl rfl))) (@Jw _)) (@Jd _ _ _ _ _ (@JL _ _ _ _ _ _ _ _ (@Jx _ _ _ _ _ _ _ _ (@Yi _) (@pv _ 1 _ _ rfl (.inl rfl) rfl rfl) (@Je _ _ _ _) (JE _)) (@Jg _ _ _ (@Jq _ _ _ _ (@JD _ _ _ _ _ _ _ _ _ _ _ _ _ _ _ _ _ _ _ _ (@pv _ 0 _ _ rfl (.inl rfl) rfl rfl) T.JH T.YE.m (Jai T) (hr.mono (by decide)) T.YE.b .nil hx (@Ja _ _ _ _ _ (@pv _ 2 _ _ rfl (.inl rfl) rfl rfl) (@Jc _) rfl) rfl rfl rfl))) (@Jw _)) (@Jd _ _ _ _ _ (@JL _ _ _ _ _ _ _ _ (@Jx _ _ _ _ _ _ _ _ (@Yi _) (@pv _ 1 _ _ rfl (.inl rfl) rfl rfl) (@Je _ _ _ _) (JE _)) (@Jg _ _ _ (@Jq _ _ _ _ (@JD _ _ _ _ _ _ _ _ _ _ _ _ _ _ _ _ _ _ _ _ (@pv _ 0 _ _ rfl (.inl rfl) rfl rfl) T.JH T.Jcl.m (Jmx T) (hr.mono (by decide)) T.Jcl.b .nil hx (@Ja _ _ _ _ _ (@pv _ 2 _ _ rfl (.inl rfl) rfl rfl) (@Ja _ _ _ _ _ (@pv _ 5 _ _ rfl (.inl rfl) rfl rfl) (@Ja _ _ _ _ _ (@pv _ 4 _ _ rfl (.inl rfl) rfl rfl) (@Ja _ _ _ _ _ (@Je _ _ _ _) (@Ja _ _ _ _ _ (@Je _ _ _ _) (@Ja _ _ _ _ _ (@pv _ 3 _ _ rfl (.inl rfl) rfl rfl) (@Jc _) rfl) rfl) rfl) rfl) rfl) rfl) rfl rfl rfl))) (@Jw _)) (@Jg _ _ _ (@Jq _ _ _ _ (@JD _ _ _ _ _ _ _ _ _ _ _ _ _ _ _ _ _ _ _ _ (@pv _ 0 _ _ rfl (.inl rfl) rfl rfl) T.JH T.Jck.m (Jmw T) (hr.mono (by decide)) T.Jck.b .nil hx (@Ja _ _ _ _ _ (@pv _ 2 _ _ rfl (.inl rfl) rfl rfl) (@Ja _ _ _ _ _ (@pv _ 4 _ _ rfl (.inl rfl) rfl rfl) (@Ja _ _ _ _ _ (@pv _ 5 _ _ rfl (.inl rfl) rfl rfl) (@Ja _ _ _ _ _ (@Je _ _ _ _) (@Ja _ _ _ _ _ (@pv _ 3 _ _ rfl (.inl rfl) rfl rfl) (@Jc _) rfl) rfl) rfl) rfl) rfl) rfl rfl rfl)))))))))) (fun ea C oe A pn hp hc=>(@Jg _ _ _ (@Jz _ _ 6 _ _ _ _ JjQ.nd rfl (Or.inl rfl) (@Yx _ _ _ _ (@Ja _ _ _ _ _ (@JB _ _ _ _ _ _ _ _ _ (show Yl _ _ (JbY K ea C) from YW hp hc) rfl T.J8 PyProof.Rows.boot_isinstance (@Ja _ _ _ _ _ (@pv _ 7 _ _ rfl (.inl rfl) rfl rfl) (@Ja _ _ _ _ _ (@Zv _ _ _ _ rfl T.Jio (by decide)) (@Jc _) rfl) rfl) (by decide) (by decide) rfl rfl) (@Ja _ _ _ _ _ (@JB _ _ _ _ _ _ _ _ _ (show Yl _ _ (JbY K ea C) from YW hp hc) rfl T.J8 PyProof.Rows.boot_isinstance (@Ja _ _ _ _ _ (@pv _ 7 _ _ rfl (.inl rfl) rfl rfl) (@Ja _ _ _ _ _ (@Zv _ _ _ _ rfl T.Jip (by decide)) (@Jc _) rfl) rfl) (by decide) (by decide) rfl rfl) (@Ja _ _ _ _ _ (@JB _ _ _ _ _ _ _ _ _ (show Yl _ _ (JbY K ea C) from YW hp hc) rfl T.J8 PyProof.Rows.boot_isinstance (@Ja _ _ _ _ _ (@pv _ 7 _ _ rfl (.inl rfl) rfl rfl) (@Ja _ _ _ _ _ (@Zv _ _ _ _ rfl T.Jch (by decide)) (@Jc _) rfl) rfl) (by decide) (by decide) rfl rfl) (@Ja _ _ _ _ _ (@JB _ _ _ _ _ _ _ _ _ (show Yl _ _ (JbY K ea C) from YW hp hc) rfl T.J8 PyProof.Rows.boot_isinstance (@Ja _ _ _ _ _ (@pv _ 7 _ _ rfl (.inl rfl) rfl rfl) (@Ja _ _ _ _ _ (@Zv _ _ _ _ rfl T.JoW (by decide)) (@Jc _) rfl) rfl) (by decide) (by decide) rfl rfl) (@Ja _ _ _ _ _ (@JB _ _ _ _ _ _ _ _ _ (show Yl _ _ (JbY K ea C) from YW hp hc) rfl T.J8 PyProof.Rows.boot_isinstance (@Ja _ _ _ _ _ (@pv _ 7 _ _ rfl (.inl rfl) rfl rfl) (@Ja _ _ _ _ _ (@Zv _ _ _ _ rfl T.Jim (by decide)) (@Jc _) rfl) rfl) (by decide) (by decide) rfl rfl) (@Ja _ _ _ _ _ (@JB _ _ _ _ _ _ _ _ _ (show Yl _ _ (JbY K ea C) from YW hp hc) rfl T.J8 PyProof.Rows.boot_isinstance (@Ja _ _ _ _ _ (@pv _ 7 _ _ rfl (.inl rfl) rfl rfl) (@Ja _ _ _ _ _ (@Zv _ _ _ _ rfl T.Job (by decide)) (@Jc _) rfl) rfl) (by decide) (by decide) rfl rfl) (@Ja _ _ _ _ _ (@JB _ _ _ _ _ _ _ _ _ (show Yl _ _ (JbY K ea C) from YW hp hc) rfl T.J8 PyProof.Rows.boot_isinstance (@Ja _ _ _ _ _ (@pv _ 7 _ _ rfl (.inl rfl) rfl rfl) (@Ja _ _ _ _ _ (@Zv _ _ _ _ rfl T.Jn9 (by decide)) (@Jc _) rfl) rfl) (by decide) (by decide) rfl rfl) (@Ja _ _ _ _ _ (@JB _ _ _ _ _ _ _ _ _ (show Yl _ _ (JbY K ea C) from YW hp hc) rfl T.J8 PyProof.Rows.boot_isinstance (@Ja _ _ _ _ _ (@pv _ 7 _ _ rfl (.inl rfl) rfl rfl) (@Ja _ _ _ _ _ (@Zv _ _ _ _ rfl T.Jn8 (by decide)) (@Jc _) rfl) rfl) (by decide) (by decide) rfl rfl) (@Ja _ _ _ _ _ (@JB _ _ _ _ _ _ _ _ _ (show Yl _ _ (JbY K ea C) from YW hp hc) rfl T.J8 PyProof.Rows.boot_isinstance (@Ja _ _ _ _ _ (@pv _ 7 _ _ rfl (.inl rfl) rfl rfl) (@Ja _ _ _ _ _ (@Zv _ _ _ _ rfl T.Jhu (by decide)) (@Jc _) rfl) rfl) (by decide) (by decide) rfl rfl) (@Ja _ _ _ _ _ (@JB _ _ _ _ _ _ _ _ _ (show Yl _ _ (JbY K ea C) from YW hp hc) rfl T.J8 PyProof.Rows.boot_isinstance (@Ja _ _ _ _ _ (@pv _ 7 _ _ rfl (.inl rfl) rfl rfl) (@Ja _ _ _ _ _ (@Zv _ _ _ _ rfl T.Jly (by decide)) (@Jc _) rfl) rfl) (by decide) (by decide) rfl rfl) (@Ja _ _ _ _ _ (@JB _ _ _ _ _ _ _ _ _ (show Yl _ _ (JbY K ea C) from YW hp hc) rfl T.J8 PyProof.Rows.boot_isinstance (@Ja _ _ _ _ _ (@pv _ 7 _ _ rfl (.inl rfl) rfl rfl) (@Ja _ _ _ _ _ (@Zv _ _ _ _ rfl T.Joa (by decide)) (@Jc _) rfl) rfl) (by decide) (by decide) rfl rfl) (@Ja _ _ _ _ _ (@JB _ _ _ _ _ _ _ _ _ (show Yl _ _ (JbY K ea C) from YW hp hc) rfl T.J8 PyProof.Rows.boot_isinstance (@Ja _ _ _ _ _ (@pv _ 7 _ _ rfl (.inl rfl) rfl rfl) (@Ja _ _ _ _ _ (@Zv _ _ _ _ rfl T.Jin (by decide)) (@Jc _) rfl) rfl) (by decide) (by decide) rfl rfl) (@Ja _ _ _ _ _ (@JB _ _ _ _ _ _ _ _ _ (show Yl _ _ (JbY K ea C) from YW hp hc) rfl T.J8 PyProof.Rows.boot_isinstance (@Ja _ _ _ _ _ (@pv _ 7 _ _ rfl (.inl rfl) rfl rfl) (@Ja _ _ _ _ _ (@JeX _ _ _ _ rfl T.JhW Jkq (by decide) (by decide)) (@Jc _) rfl) rfl) (by decide) (by decide) rfl rfl) (@Jc _) rfl) rfl) rfl) rfl) rfl) rfl) rfl) rfl) rfl) rfl) rfl) rfl) rfl)) rfl (.inl rfl)))) rfl rfl rfl rfl (by decide)) (@Jg _ _ _ (@Jq _ _ _ _ (@Jm _ _ _ _ _ _ _ _ _ _ _ _ _ _ _ T.JlD (Jsw T) (hr.mono (by decide)) JG (@Ja _ _ _ _ _ (@pv _ 6 _ _ rfl (.inl rfl) rfl rfl) (@Jc _) rfl) rfl (by decide) rfl rfl))))),?_⟩
  try dsimp only [cxK,Jhi]
  refine ⟨by show 0≤sizeLine; decide,fun p0 hp0=>?_⟩;have s0:Ji H (upd H p0 (.lst [])):=Ji.upd hp0;have A1:=A0.same s0;generalize upd H p0 (.lst [])=H0 at s0 A1;obtain ⟨dh,hh⟩:=A1.hi;have tJ:∀ {i j:Int},decide (V.int i=V.int j)=true↔i=j:=by
   intro i j;rw [JiL,decide_eq_true_eq]
  refine ⟨?_,fun ea C H' hE=>?_⟩
  ·refine ⟨_,rfl,_,_,rfl,rfl,_,rfl,Yt (fun c0=>?_) (fun c0=>?_)⟩
   ·have c0:=of_decide_eq_true c0;exact ⟨_,rfl,_,rfl,_,rfl,h,d1,d2,z,door,bs,gm,rfl,tz,A1,hg (by omega),s0,rfl⟩
   have c0:9≤door:=Int.not_lt.mp fun z=>c0 (decide_eq_true z)
   refine ⟨_,rfl,rfl,_,rfl,Yt (fun c1=>?_) (fun c1=>?_)⟩
   ·exact ⟨_,rfl,h,dh,_,rfl,hh,rfl,_,rfl,_,rfl,_,rfl,h,d1,d2,z,bs,gm,_,_,rfl,tz,A1,hg (by have:=tJ.mp c1; omega),s0,rfl⟩
   refine ⟨_,rfl,rfl,_,rfl,Yt (fun c2=>?_) (fun c2=>?_)⟩
   ·exact ⟨_,rfl,h,dh,_,rfl,hh,rfl,_,rfl,_,rfl,_,rfl,h,d1,d2,z,bs,gm,_,_,rfl,tz,A1,hg (by have:=tJ.mp c2; omega),s0,rfl⟩
   refine ⟨_,rfl,rfl,_,rfl,Yt (fun c3=>?_) (fun c3=>?_)⟩
   ·exact ⟨_,rfl,h,dh,_,rfl,hh,rfl,_,rfl,_,rfl,_,rfl,h,d1,d2,z,bs,gm,_,_,rfl,tz,A1,hg (by have:=tJ.mp c3; omega),s0,rfl⟩
   have c1:door≠9:=fun z=>c1 (tJ.mpr z)
   have c2:door≠10:=fun z=>c2 (tJ.mpr z)
   have c3:door≠11:=fun z=>c3 (tJ.mpr z)
   have hn:=hb (by omega);refine ⟨_,rfl,rfl,_,rfl,Yt (fun c4=>?_) (fun c4=>?_)⟩
   ·exact ⟨_,rfl,h,dh,_,rfl,hh,rfl,_,rfl,h,d1,d2,z,bs,gm,rfl,tz,A1,fun _=>⟨s0,rfl⟩,fun v hv=>by rw [hn] at hv; cases hv⟩
   refine ⟨_,rfl,rfl,_,rfl,Yt (fun c5=>?_) (fun c5=>?_)⟩
   ·exact ⟨_,rfl,h,dh,_,rfl,hh,rfl,_,rfl,_,rfl,_,rfl,_,rfl,h,d1,d2,z,pl,hd,co,1,1,bs,gm,rfl,tz,tp,th,A1,fun _=>⟨s0,rfl⟩,fun v hv=>by rw [hn] at hv; cases hv⟩
   ·exact ⟨_,rfl,h,dh,_,rfl,hh,rfl,_,rfl,_,rfl,_,rfl,_,rfl,h,d1,d2,z,pl,hd,co,3,bs,gm,rfl,tz,tp,th,A1,fun _=>⟨s0,rfl⟩,fun v hv=>by rw [hn] at hv; cases hv⟩
  ·obtain ⟨s1,e⟩:=hE;obtain rfl:C=T.J4:=Value.ref.inj e;refine ⟨T.Jkg,_,rfl,_,_,rfl,⟨"",.inr ⟨_,rfl⟩⟩,T.YG,T.Jdf,_,rfl,_,_,rfl,⟨"",.inr ⟨_,rfl⟩⟩,T.YG,T.Jdg,_,rfl,_,_,rfl,⟨"",.inr ⟨_,rfl⟩⟩,T.YG,T.JbM,_,rfl,_,_,rfl,⟨"",.inr ⟨_,rfl⟩⟩,T.YG,T.Je3,_,rfl,_,_,rfl,⟨"",.inr ⟨_,rfl⟩⟩,T.YG,T.Jdd,_,rfl,_,_,rfl,⟨"",.inr ⟨_,rfl⟩⟩,T.YG,T.Jd9,_,rfl,_,_,rfl,⟨"",.inr ⟨_,rfl⟩⟩,T.YG,T.Jd8,_,rfl,_,_,rfl,⟨"",.inr ⟨_,rfl⟩⟩,T.YG,T.Jd7,_,rfl,_,_,rfl,⟨"",.inr ⟨_,rfl⟩⟩,T.YG,T.Jbi,_,rfl,_,_,rfl,⟨"",.inr ⟨_,rfl⟩⟩,T.YG,T.Je4,_,rfl,_,_,rfl,⟨"",.inr ⟨_,rfl⟩⟩,T.YG,T.JfM,_,rfl,_,_,rfl,⟨"",.inr ⟨_,rfl⟩⟩,T.YG,T.Jde,_,rfl,_,_,rfl,⟨_,.inl rfl⟩,T.YG,T.Jj7,by show 13≤sizeLine; decide,fun l hl=>?_⟩;exact ⟨_,rfl,l,11, "Missing",rfl,by rw [Jj]; rfl,rfl,fun p H2 e2 hp=>q p H2 ((s1.trans (Ji.upd hl)).trans e2) hp⟩
end
section
variable {P:Program} {w:World} {K:PySem.W.Frag} {mg:Str→Option Value} {base:Heap}
theorem Jp7:∀ l:List Nat,(∀ c∈l,c < 128)→∀ d∈(Txt.upper ⟨l.toArray⟩).cps.toList,d < 16 ^ 8
 | [],_,d,hd=>by
  have e:Txt.upper ⟨([]:List Nat).toArray⟩=⟨#[]⟩:=by decide +kernel
  rw [e] at hd;simp at hd
 | c :: l,h,d,hd=>by
  have e:(⟨(c :: l).toArray⟩:Str)=⟨#[c]⟩ ++ ⟨l.toArray⟩:=PySem.Str.ext' (by rw [PySem.Str.cps_append]; simp);rw [e,PySem.W.KOpn.upper_app,PySem.W.KOpn.upper_one (h c (List.mem_cons_self ..))] at hd;rcases PyProof.Rows.mem_cps_append.mp hd with q | q
  ·have hc:=h c (List.mem_cons_self ..);have q:d=if 97≤c∧c≤122 then c - 32 else c:=by simpa using q
   rw [q];split <;> omega
  ·exact Jp7 l (fun x hx=>h x (List.mem_cons_of_mem _ hx)) d q
theorem JtB {z:Str} (h:YB z=true):Yb (Txt.upper z):=by
 have hl:z.length≤6:=(Jg9 h).1;refine ⟨Nat.le_trans (PyProof.Rows.len_upper z) (by omega),?_⟩;have e:z=⟨z.cps.toList.toArray⟩:=by cases z; simp
 have hs:∀ c∈z.cps.toList,c < 128:=by
  unfold YB at h;rw [Bool.and_eq_true] at h;intro c hc;have:=List.all_eq_true.mp h.2 c hc;unfold ZR at this;simp at this;omega
 rw [e];exact Jp7 _ hs
def Jpa:Sp:=fun vs H Q _=>∃ (c:Int) (nm kd lo:Str),vs=[.int c,.str nm,.str kd,.str lo]∧YB nm=true∧Yb kd∧Yb lo∧∀ z H',Ji H H'→Yb z→Q (.str z) H'
theorem JjY (T:Txt K mg):JC P w K mg base YJ 1 T.Jie T.Jhb ["_law_cell", "_law_name", "_law_kind", "_law_lost"] Jpa:=by
 refine T.JfW.F.ok JjR (fun vs H Q E h=>?_) (fun cdv A outer s H vs Q E hr h=>?_)
 ·obtain ⟨_,_,_,_,rfl,_⟩:=h;rfl
 ·obtain ⟨c,nm,kd,lo,rfl,hg,tk,tl,q⟩:=h;refine ⟨_,(@Jd _ _ _ _ _ (@Jz _ _ 4 _ _ _ _ JjR.nd rfl (Or.inl rfl) (@Yx _ _ _ _ (@Ja _ _ _ _ _ (@Jy _ _ _ _) (@Ja _ _ _ _ _ (@Jo _ _ _ _ _ _ _ _ (@Jg2 _) (@pv _ 1 _ _ rfl (.inl rfl) rfl rfl) (@Jy _ _ _ _)) (@Ja _ _ _ _ _ (@JeU _ _ _ _ _ _ _ _ _ _ (@JuH _) (@pv _ 1 _ _ rfl (.inl rfl) rfl rfl) (@JiA _) (@Jep _ _ _ (@JiC _ _ _ _ _ _ (@Jgv _) (@Je _ _ _ _)))) (@Ja _ _ _ _ _ (@Jo _ _ _ _ _ _ _ _ (@Jg2 _) (@pv _ 1 _ _ rfl (.inl rfl) rfl rfl) (@pv _ 1 _ _ rfl (.inl rfl) rfl rfl)) (@Ja _ _ _ _ _ (@Ju5 _ _ _ _ _ _ _ _ _ PySem.F.plainAttrs_str PySem.F.slot_str_upper PySem.F.type_str_upper (@JsH _) (@pv _ 1 _ _ rfl (.inl rfl) rfl rfl) rfl rfl) (@Ja _ _ _ _ _ (@Jy _ _ _ _) (@Ja _ _ _ _ _ (@Jy _ _ _ _) (@Ja _ _ _ _ _ (@pv _ 2 _ _ rfl (.inl rfl) rfl rfl) (@Ja _ _ _ _ _ (@pv _ 3 _ _ rfl (.inl rfl) rfl rfl) (@Jc _) rfl) rfl) rfl) rfl) rfl) rfl) rfl) rfl) rfl)) rfl (.inl rfl)) (@Jg _ _ _ (@Jq _ _ _ _ (@JM _ _ _ _ _ _ _ (@JV _) (@pv _ 4 _ _ rfl (.inl rfl) rfl rfl) (@Jo _ _ _ _ _ _ _ _ (@J6 _) (@pv _ 0 _ _ rfl (.inl rfl) rfl rfl) (@Je _ _ _ _)) (fun _ _=>rfl))))),?_⟩;have t6:=Jg9 hg;have l6:nm.length≤6:=t6.1;have la:(Str.ofString "a").length=1:=by decide +kernel
  have szl:sizeLine=16777216:=sizeLine_eq;refine ⟨_,rfl,_,_,rfl,rfl,by omega,?_⟩;refine ⟨_,rfl,_,rfl,_,rfl,_,rfl,by omega,?_⟩;refine ⟨_,rfl,_,rfl,_,_,rfl,rfl,by omega,?_⟩;refine ⟨_,rfl,rfl,_,rfl,rfl,by omega,_,rfl,_,rfl,by show 9≤sizeLine; decide,fun l nl=>?_⟩;obtain ⟨y,hy,hm⟩:=JgM (ps:=["",nm ++ "a",Txt.slice nm none (some (-1)),nm ++ nm,Txt.upper nm, " ", "seventh",kd,lo]) (by show 1≤9; decide) c;have ty:Yb y:=by
   simp only [List.mem_cons,List.not_mem_nil,or_false] at hm;rcases hm with rfl | rfl | rfl | rfl | rfl | rfl | rfl | rfl | rfl
   ·exact Jcu (by decide +kernel)
   ·exact (Jqa t6 (JvB (n:=1) (z := "a") (by decide +kernel))).mono (by decide)
   ·exact (JrK _ _ t6).mono (by decide)
   ·exact (Jqa t6 t6).mono (by decide)
   ·exact JtB hg
   ·exact Jcu (by decide +kernel)
   ·exact Jcu (by decide +kernel)
   ·exact tk
   ·exact tl
  exact ⟨_,rfl,_,rfl,_,_,rfl,rfl,(by show (0:Int) < 9; decide),l,_,_,.str y,rfl,rfl,JA.of Jj,hy,q y _ (Ji.upd nl) ty⟩
end
section
variable {P:Program} {w:World} {K:PySem.W.Frag} {mg:Str→Option Value} {base:Heap}
theorem pk2 {x y:V} {b:Bool}:Z3 [x,y] (if b=true then 1 else 0)=some (if b=true then y else x):=by cases b <;> rfl
structure LM (T:Txt K mg) (H0 H:Hp) (h d1 d2 b t tn:Addr) (gm:List (JI×V)) (done:List Str) (G:Gm) (a:Addr) (x:Mo) (z:Str) (ps:List Str) (zs:List (V×(Str×Str))) (gs:List Str):Prop where
 sm:Ji H0 H
 A:YH T H h d1 d2 [(.inr (Str.ofString "m"),.ref b)] gm
 kg:gm.map (·.1)=done.map Sum.inr
 kv:J2 gm (.inr z)=some (.ref G.g)
 GA:Yv T G H [] ([] ++ [(a,x)])
 sd:G.S d2=none
 hn:H tn=some (.tup (JhR G.c x))
 g:GG K H t ps zs gs G.ps G.zs G.gs
section
variable {T:Txt K mg} {H0 H H':Hp} {h d1 d2 b t tn:Addr} {gm gm':List (JI×V)} {done done':List Str} {G:Gm} {a:Addr} {x:Mo} {z:Str} {ps:List Str} {zs:List (V×(Str×Str))} {gs:List Str}
theorem LM.same (L:LM T H0 H h d1 d2 b t tn gm done G a x z ps zs gs) (e:Ji H H'):LM T H0 H' h d1 d2 b t tn gm done G a x z ps zs gs:=⟨L.sm.trans e,L.A.same e,L.kg,L.kv,L.GA.same e,L.sd,e _ _ L.hn,L.g.same e⟩
theorem LM.dict (L:LM T H0 H h d1 d2 b t tn gm done G a x z ps zs gs) (n2:H0 d2=none) (bt:Yc d2 H H') (A:YH T H' h d1 d2 [(.inr (Str.ofString "m"),.ref b)] gm') (kg:gm'.map (·.1)=done'.map Sum.inr) (kv:J2 gm' (.inr z)=some (.ref G.g)):LM T H0 H' h d1 d2 b t tn gm' done' G a x z ps zs gs :=
 ⟨fun y u q=>bt _ _ (Ju q n2) (L.sm _ _ q),A,kg,kv,L.GA.dict bt L.A.h2 L.sd,L.sd,bt.dict L.A.h2 L.hn (fun _ z=>nomatch z),⟨bt.grD L.A.h2 L.g.G,L.g.pp,L.g.zp,L.g.gp,L.g.zo,L.g.B⟩⟩
end
theorem Jvc (T:Txt K mg):JC P w K mg base YJ 15 T.JpM T.JnV ["_law_script"] (Jpe K):=by
 refine T.Jtz.F.ok Zq (fun vs H Q E h=>?_) (fun cdv A outer s H vs Q E hr h=>?_)
 ·obtain ⟨_,_,rfl,_⟩:=h;rfl
 ·obtain ⟨a,ns,rfl,hS,hl,q⟩:=h;have szl:sizeLine=16777216:=sizeLine_eq;refine ⟨_,(@Jd _ _ _ _ _ (@Jz _ _ 1 _ _ _ _ Zq.nd rfl (Or.inl rfl) (@Jm _ _ _ _ _ _ _ _ _ _ _ _ _ _ _ T.JjF (JqG T) (hr.mono (by decide)) JG (@Ja _ _ _ _ _ (@pv _ 0 _ _ rfl (.inl rfl) rfl rfl) (@Ja _ _ _ _ _ (@Je _ _ _ _) (@Jc _) rfl) rfl) rfl (by decide) rfl rfl) rfl (.inl rfl)) (@Jd _ _ _ _ _ (@Jz _ _ 2 _ _ _ _ Zq.nd rfl (Or.inl rfl) (@Jsq _ _ _ _ _ _ _ _ _ _ _ _ _ _ T.JoK (JnB T) (hr.mono (by decide)) rfl T.Jru T.Jgt.b .nil JG (by decide)) rfl (.inl rfl)) (@Jd _ _ _ _ _ (@JP _ _ _ _ (@JD _ _ _ _ _ _ _ _ _ _ _ _ _ _ _ _ _ _ _ _ (@pv _ 2 _ _ rfl (.inl rfl) rfl rfl) T.JH T.Jao.m (JiQ T) (hr.mono (by decide)) T.Jao.b .nil Zp (@Ja _ _ _ _ _ (@Jy _ _ _ _) (@Ja _ _ _ _ _ (@Jcz _ _ _ _ _ _ _ _ _ _ _ _ _ _ _ _ _ T.JnJ (JmC T) (hr.mono (by decide)) rfl T.JoX T.JfH.b .nil JG (@Ja _ _ _ _ _ (@Y5 _ _ _ _ _ _ _ _ _ (@JfA _) rfl T.Jj4 PyProof.Rows.boot_list (@Ja _ _ _ _ _ (@JM _ _ _ _ _ _ _ (@Yy _) (@pv _ 1 _ _ rfl (.inl rfl) rfl rfl) (@Je _ _ _ _) (fun _ _=>rfl)) (@Jc _) rfl) (by decide) (by decide) rfl rfl) (@Ja _ _ _ _ _ (@Y5 _ _ _ _ _ _ _ _ _ (@JfA _) rfl T.Jj4 PyProof.Rows.boot_list (@Ja _ _ _ _ _ (@JM _ _ _ _ _ _ _ (@Yy _) (@pv _ 1 _ _ rfl (.inl rfl) rfl rfl) (@Je _ _ _ _) (fun _ _=>rfl)) (@Jc _) rfl) (by decide) (by decide) rfl rfl) (@Ja _ _ _ _ _ (@Y5 _ _ _ _ _ _ _ _ _ (@JfA _) rfl T.Jj4 PyProof.Rows.boot_list (@Ja _ _ _ _ _ (@JM _ _ _ _ _ _ _ (@Yy _) (@pv _ 1 _ _ rfl (.inl rfl) rfl rfl) (@Je _ _ _ _) (fun _ _=>rfl)) (@Jc _) rfl) (by decide) (by decide) rfl rfl) (@Jc _) rfl) rfl) rfl) (by decide) rfl rfl) (@Jc _) rfl) rfl) rfl rfl rfl) rfl) (@Jd _ _ _ _ _ (@Yd _ _ _ (@Jz _ _ 3 _ _ _ _ Zq.nd rfl (Or.inl rfl) (@JM _ _ _ _ _ _ _ (@JV _) (@Jm _ _ _ _ _ _ _ _ _ _ _ _ _ _ _ T.JiN (Jny T) (hr.mono (by decide)) JG (@Ja _ _ _ _ _ (@Jm _ _ _ _ _ _ _ _ _ _ _ _ _ _ _ T.Jan (Z2 T) (hr.mono (by decide)) JG (@Ja _ _ _ _ _ (@pv _ 0 _ _ rfl (.inl rfl) rfl rfl) (@Ja _ _ _ _ _ (@Je _ _ _ _) (@Jc _) rfl) rfl) rfl (by decide) rfl rfl) (@Ja _ _ _ _ _ (@Je _ _ _ _) (@Jc _) rfl) rfl) rfl (by decide) rfl rfl) (@Je _ _ _ _) (fun _ _=>rfl)) rfl (.inl rfl))) (@Jd _ _ _ _ _ (@Yd _ _ _ (@JL _ _ _ _ _ _ _ _ (@PW.pt _ _ _ (@Jbn _ _ _ _ _ _ _ (@Jx _ _ _ _ _ _ _ _ (@Yi _) (@pv _ 3 _ _ rfl (.inl rfl) rfl rfl) (@Jy _ _ _ _) (JE _)) (@JaO _ _ _ _ (@Jx _ _ _ _ _ _ _ _ (@Yi _) (@pv _ 3 _ _ rfl (.inl rfl) rfl rfl) (@Jy _ _ _ _) (JE _))))) (@Jg _ _ _ (@Jz _ _ 3 _ _ _ _ Zq.nd rfl (Or.inl rfl) (@Jy _ _ _ _) rfl (.inl rfl))) (@Jw _))) (@Jd _ _ _ _ _ (@Jz _ _ 4 _ _ _ _ Zq.nd rfl (Or.inl rfl) (@Jm _ _ _ _ _ _ _ _ _ _ _ _ _ _ _ T.Jis (Jpt T) (hr.mono (by decide)) JG (@Ja _ _ _ _ _ (@pv _ 0 _ _ rfl (.inl rfl) rfl rfl) (@Ja _ _ _ _ _ (@pv _ 1 _ _ rfl (.inl rfl) rfl rfl) (@Ja _ _ _ _ _ (@Je _ _ _ _) (@Jc _) rfl) rfl) rfl) rfl (by decide) rfl rfl) rfl (.inl rfl)) (@Jd _ _ _ _ _ (@JP _ _ _ _ (@JD _ _ _ _ _ _ _ _ _ _ _ _ _ _ _ _ _ _ _ _ (@pv _ 2 _ _ rfl (.inl rfl) rfl rfl) T.JH T.Jaf.m (Jhq T) (hr.mono (by decide)) T.Jaf.b .nil Zp (@Ja _ _ _ _ _ (@pv _ 3 _ _ rfl (.inl rfl) rfl rfl) (@Ja _ _ _ _ _ (@Jy _ _ _ _) (@Ja _ _ _ _ _ (@JM _ _ _ _ _ _ _ (@Yy _) (@pv _ 4 _ _ rfl (.inl rfl) rfl rfl) (@Je _ _ _ _) (fun _ _=>rfl)) (@Ja _ _ _ _ _ (@JM _ _ _ _ _ _ _ (@Yy _) (@pv _ 4 _ _ rfl (.inl rfl) rfl rfl) (@Je _ _ _ _) (fun _ _=>rfl)) (@Ja _ _ _ _ _ (@JM _ _ _ _ _ _ _ (@Yy _) (@pv _ 4 _ _ rfl (.inl rfl) rfl rfl) (@Je _ _ _ _) (fun _ _=>rfl)) (@Ja _ _ _ _ _ (@JM _ _ _ _ _ _ _ (@Yy _) (@pv _ 4 _ _ rfl (.inl rfl) rfl rfl) (@Je _ _ _ _) (fun _ _=>rfl)) (@Ja _ _ _ _ _ (@JM _ _ _ _ _ _ _ (@Yy _) (@pv _ 4 _ _ rfl (.inl rfl) rfl rfl) (@Je _ _ _ _) (fun _ _=>rfl)) (@Jc _) rfl) rfl) rfl) rfl) rfl) rfl) rfl) rfl rfl rfl) rfl) (@Jd _ _ _ _ _ (@JP _ _ _ _ (@JD _ _ _ _ _ _ _ _ _ _ _ _ _ _ _ _ _ _ _ _ (@pv _ 2 _ _ rfl (.inl rfl) rfl rfl) T.JH T.Jaf.m (Jhq T) (hr.mono (by decide)) T.Jaf.b .nil Zp (@Ja _ _ _ _ _ (@Jy _ _ _ _) (@Ja _ _ _ _ _ (@Jy _ _ _ _) (@Ja _ _ _ _ _ (@JM _ _ _ _ _ _ _ (@Yy _) (@pv _ 4 _ _ rfl (.inl rfl) rfl rfl) (@Je _ _ _ _) (fun _ _=>rfl)) (@Ja _ _ _ _ _ (@JM _ _ _ _ _ _ _ (@Yy _) (@pv _ 4 _ _ rfl (.inl rfl) rfl rfl) (@Je _ _ _ _) (fun _ _=>rfl)) (@Ja _ _ _ _ _ (@JM _ _ _ _ _ _ _ (@Yy _) (@pv _ 4 _ _ rfl (.inl rfl) rfl rfl) (@Je _ _ _ _) (fun _ _=>rfl)) (@Ja _ _ _ _ _ (@JM _ _ _ _ _ _ _ (@Yy _) (@pv _ 4 _ _ rfl (.inl rfl) rfl rfl) (@Je _ _ _ _) (fun _ _=>rfl)) (@Ja _ _ _ _ _ (@JM _ _ _ _ _ _ _ (@Yy _) (@pv _ 4 _ _ rfl (.inl rfl) rfl rfl) (@Je _ _ _ _) (fun _ _=>rfl)) (@Jc _) rfl) rfl) rfl) rfl) rfl) rfl) rfl) rfl rfl rfl) rfl) (@Jd _ _ _ _ _ (@Yd _ _ _ (@Jz _ _ 5 _ _ _ _ Zq.nd rfl (Or.inl rfl) (@JB _ _ _ _ _ _ _ _ _ (@Jei _) rfl T.JaU PyProof.Rows.boot_sorted (@Ja _ _ _ _ _ (@Yx _ _ _ _ (@Ja _ _ _ _ _ (@pv _ 3 _ _ rfl (.inl rfl) rfl rfl) (@Ja _ _ _ _ _ (@Jy _ _ _ _) (@Jc _) rfl) rfl)) (@Jc _) rfl) (by decide) (by decide) rfl rfl) rfl (.inl rfl))) (@Jd _ _ _ _ _ (@Yd _ _ _ (@JL _ _ _ _ _ _ _ _ (@Jx _ _ _ _ _ _ _ _ (@Yi _) (@Jo _ _ _ _ _ _ _ _ (@J6 _) (@Jm _ _ _ _ _ _ _ _ _ _ _ _ _ _ _ T.Jan (Z2 T) (hr.mono (by decide)) JG (@Ja _ _ _ _ _ (@pv _ 0 _ _ rfl (.inl rfl) rfl rfl) (@Ja _ _ _ _ _ (@Je _ _ _ _) (@Jc _) rfl) rfl) rfl (by decide) rfl rfl) (@Je _ _ _ _)) (@Je _ _ _ _) (JE _)) (@Jd _ _ _ _ _ (@JL _ _ _ _ _ _ _ _ (@Jbf _ _ _ _ _ _ (@JiD _ _ _ _ _ (@JD _ _ _ _ _ _ _ _ _ _ _ _ _ _ _ _ _ _ _ _ (@pv _ 2 _ _ rfl (.inl rfl) rfl rfl) T.JH T.Jaw.m (JhP T) (hr.mono (by decide)) T.Jaw.b .nil Zp (@Ja _ _ _ _ _ (@Jy _ _ _ _) (@Jc _) rfl) rfl rfl rfl)) (by first | exact Zc _ (by decide) (by decide) | rfl)) (@Jg _ _ _ (@Jq _ _ _ _ (@Ja1 _ _ _ _))) (@Jw _)) (@Jg _ _ _ (@Jz _ _ 5 _ _ _ _ Zq.nd rfl (Or.inl rfl) (@Yx _ _ _ _ (@Ja _ _ _ _ _ (@pv _ 3 _ _ rfl (.inl rfl) rfl rfl) (@Jc _) rfl)) rfl (.inl rfl)))) (@Jw _))) (@Jd _ _ _ _ _ (@Jz _ _ 6 _ _ _ _ Zq.nd rfl (Or.inl rfl) (@Jm _ _ _ _ _ _ _ _ _ _ _ _ _ _ _ T.JfW (JjY T) (hr.mono (by decide)) JG (@Ja _ _ _ _ _ (@Jm _ _ _ _ _ _ _ _ _ _ _ _ _ _ _ T.Jan (Z2 T) (hr.mono (by decide)) JG (@Ja _ _ _ _ _ (@pv _ 0 _ _ rfl (.inl rfl) rfl rfl) (@Ja _ _ _ _ _ (@Je _ _ _ _) (@Jc _) rfl) rfl) rfl (by decide) rfl rfl) (@Ja _ _ _ _ _ (@pv _ 3 _ _ rfl (.inl rfl) rfl rfl) (@Ja _ _ _ _ _ (@Jy _ _ _ _) (@Ja _ _ _ _ _ (@Jy _ _ _ _) (@Jc _) rfl) rfl) rfl) rfl) rfl (by decide) rfl rfl) rfl (.inl rfl)) (@Jd _ _ _ _ _ (@Jz _ _ 7 _ _ _ _ Zq.nd rfl (Or.inl rfl) (@Jm _ _ _ _ _ _ _ _ _ _ _ _ _ _ _ T.JfW (JjY T) (hr.mono (by decide)) JG (@Ja _ _ _ _ _ (@Jm _ _ _ _ _ _ _ _ _ _ _ _ _ _ _ T.Jan (Z2 T) (hr.mono (by decide)) JG (@Ja _ _ _ _ _ (@pv _ 0 _ _ rfl (.inl rfl) rfl rfl) (@Ja _ _ _ _ _ (@Je _ _ _ _) (@Jc _) rfl) rfl) rfl (by decide) rfl rfl) (@Ja _ _ _ _ _ (@Jy _ _ _ _) (@Ja _ _ _ _ _ (@pv _ 3 _ _ rfl (.inl rfl) rfl rfl) (@Ja _ _ _ _ _ (@Jy _ _ _ _) (@Jc _) rfl) rfl) rfl) rfl) rfl (by decide) rfl rfl) rfl (.inl rfl)) (@Jd _ _ _ _ _ (@Jz _ _ 8 _ _ _ _ Zq.nd rfl (Or.inl rfl) (@Jm _ _ _ _ _ _ _ _ _ _ _ _ _ _ _ T.Jan (Z2 T) (hr.mono (by decide)) JG (@Ja _ _ _ _ _ (@pv _ 0 _ _ rfl (.inl rfl) rfl rfl) (@Ja _ _ _ _ _ (@Je _ _ _ _) (@Jc _) rfl) rfl) rfl (by decide) rfl rfl) rfl (.inl rfl)) (@Jd _ _ _ _ _ (@Jz _ _ 9 _ _ _ _ Zq.nd rfl (Or.inl rfl) (@JM _ _ _ _ _ _ _ (@JV _) (@Yx _ _ _ _ (@Ja _ _ _ _ _ (@Jy _ _ _ _) (@Ja _ _ _ _ _ (@Jy _ _ _ _) (@Ja _ _ _ _ _ (@Jy _ _ _ _) (@Jc _) rfl) rfl) rfl)) (@Jo _ _ _ _ _ _ _ _ (@J6 _) (@pv _ 8 _ _ rfl (.inl rfl) rfl rfl) (@Je _ _ _ _)) (fun _ _=>rfl)) rfl (.inl rfl)) (@Jd _ _ _ _ _ (@Jz _ _ 10 _ _ _ _ Zq.nd rfl (Or.inl rfl) (@JM _ _ _ _ _ _ _ (@JV _) (@Yx _ _ _ _ (@Ja _ _ _ _ _ (@Je _ _ _ _) (@Ja _ _ _ _ _ (@JiC _ _ _ _ _ _ (@Jgv _) (@Je _ _ _ _)) (@Ja _ _ _ _ _ (@Je _ _ _ _) (@Ja _ _ _ _ _ (@Je _ _ _ _) (@Jc _) rfl) rfl) rfl) rfl)) (@Jo _ _ _ _ _ _ _ _ (@J6 _) (@Jo _ _ _ _ _ _ _ _ (@YK _) (@pv _ 8 _ _ rfl (.inl rfl) rfl rfl) (@Je _ _ _ _)) (@Je _ _ _ _)) (fun _ _=>rfl)) rfl (.inl rfl)) (@Jd _ _ _ _ _ (@Yd _ _ _ (@Jz _ _ 11 _ _ _ _ Zq.nd rfl (Or.inl rfl) (@JM _ _ _ _ _ _ _ (@JV _) (@Yx _ _ _ _ (@Ja _ _ _ _ _ (@JM _ _ _ _ _ _ _ (@JV _) (@JM _ _ _ _ _ _ _ (@Yy _) (@pv _ 1 _ _ rfl (.inl rfl) rfl rfl) (@Je _ _ _ _) (fun _ _=>rfl)) (@Je _ _ _ _) (fun _ _=>rfl)) (@Ja _ _ _ _ _ (@Jy _ _ _ _) (@Ja _ _ _ _ _ (@Jy _ _ _ _) (@Jc _) rfl) rfl) rfl)) (@Jo _ _ _ _ _ _ _ _ (@J6 _) (@Jo _ _ _ _ _ _ _ _ (@YK _) (@pv _ 8 _ _ rfl (.inl rfl) rfl rfl) (@Je _ _ _ _)) (@Je _ _ _ _)) (fun _ _=>rfl)) rfl (.inl rfl))) (@Jd _ _ _ _ _ (@ZC _ _ _ _ _ _ _ _ PassesOwn.never rfl (@Zf _ _ _ _ _ _ rfl T.Zx (@Ja _ _ _ _ _ (@Je _ _ _ _) (@Jc _) rfl) rfl) (@YA _ _ 12 _ Zq.nd rfl (Or.inl rfl) (.inl rfl)) (@Jd _ _ _ _ _ (@Jz _ _ 13 _ _ _ _ Zq.nd rfl (Or.inl rfl) (@JM _ _ _ _ _ _ _ (@JV _) (@Yx _ _ _ _ (@Ja _ _ _ _ _ (@pv _ 6 _ _ rfl (.inl rfl) rfl rfl) (@Ja _ _ _ _ _ (@pv _ 7 _ _ rfl (.inl rfl) rfl rfl) (@Jc _) rfl) rfl)) (@Y5 _ _ _ _ _ _ _ _ _ (@Jl8 _) rfl T.JmH PyProof.Rows.boot_int (@Ja _ _ _ _ _ (@JgC _ _ _ _ _ _ _ _ (@JmF _) (@pv _ 12 _ _ rfl (.inl rfl) rfl rfl) (@Je _ _ _ _) (JE _)) (@Jc _) rfl) (by decide) (by decide) rfl rfl) (fun _ _=>rfl)) rfl (.inl rfl)) (@Jg _ _ _ (@Yd _ _ _ (@JL _ _ _ _ _ _ _ _ (@Jx _ _ _ _ _ _ _ _ (@JbZ _) (@pv _ 13 _ _ rfl (.inl rfl) rfl rfl) (@JM _ _ _ _ _ _ _ (@JV _) (@Yx _ _ _ _ (@Ja _ _ _ _ _ (@pv _ 5 _ _ rfl (.inl rfl) rfl rfl) (@Ja _ _ _ _ _ (@Yx _ _ _ _ (@Ja _ _ _ _ _ (@Jy _ _ _ _) (@Jc _) rfl)) (@Jc _) rfl) rfl)) (@Y5 _ _ _ _ _ _ _ _ _ (@Jl8 _) rfl T.JmH PyProof.Rows.boot_int (@Ja _ _ _ _ _ (@JgC _ _ _ _ _ _ _ _ (@JmF _) (@pv _ 12 _ _ rfl (.inl rfl) rfl rfl) (@Je _ _ _ _) (JE _)) (@Jc _) rfl) (by decide) (by decide) rfl rfl) (fun _ _=>rfl)) (by with_unfolding_all rfl)) (@Jd _ _ _ _ _ (@Jz _ _ 14 _ _ _ _ Zq.nd rfl (Or.inl rfl) (@Jm _ _ _ _ _ _ _ _ _ _ _ _ _ _ _ T.Jp1 (Jvb T) (hr.mono (by decide)) JG (@Ja _ _ _ _ _ (@pv _ 2 _ _ rfl (.inl rfl) rfl rfl) (@Ja _ _ _ _ _ (@pv _ 12 _ _ rfl (.inl rfl) rfl rfl) (@Ja _ _ _ _ _ (@pv _ 13 _ _ rfl (.inl rfl) rfl rfl) (@Ja _ _ _ _ _ (@pv _ 9 _ _ rfl (.inl rfl) rfl rfl) (@Ja _ _ _ _ _ (@pv _ 10 _ _ rfl (.inl rfl) rfl rfl) (@Ja _ _ _ _ _ (@pv _ 11 _ _ rfl (.inl rfl) rfl rfl) (@Jc _) rfl) rfl) rfl) rfl) rfl) rfl) rfl (by decide) rfl rfl) rfl (.inl rfl)) (@Jg _ _ _ (@JL _ _ _ _ _ _ _ _ (@Z8 _ _ _ _ (@Zr _ _ _ (@Jm _ _ _ _ _ _ _ _ _ _ _ _ _ _ _ T.Jdk (Jer T) (hr.mono (by decide)) JG (@Ja _ _ _ _ _ (@pv _ 14 _ _ rfl (.inl rfl) rfl rfl) (@Ja _ _ _ _ _ (@YR _ _ _ _ _ (@Ja _ _ _ _ _ (@Jy _ _ _ _) (@Ja _ _ _ _ _ (@Jy _ _ _ _) (@Jc _) rfl) rfl)) (@Jc _) rfl) rfl) rfl (by decide) rfl rfl) (by intro _; rfl))) (@Jg _ _ _ (@Jq _ _ _ _ (@Ja1 _ _ _ _))) (@Jw _)))) (@Jw _))))) (by intro _; rfl)) (@Jd _ _ _ _ _ (@JL _ _ _ _ _ _ _ _ (@PW.pt _ _ _ (@Jbn _ _ _ _ _ _ _ (@Z8 _ _ _ _ (@Zr _ _ _ (@Jm _ _ _ _ _ _ _ _ _ _ _ _ _ _ _ T.Jdk (Jer T) (hr.mono (by decide)) JG (@Ja _ _ _ _ _ (@Z4 _ _ _ _ _ _ _ _ _ _ _ _ _ _ _ _ _ (@pv _ 2 _ _ rfl (.inl rfl) rfl rfl) T.JH T.Jcm.m (Jmy T) (hr.mono (by decide)) T.Jcm.b .nil JG rfl) (@Ja _ _ _ _ _ (@pv _ 5 _ _ rfl (.inl rfl) rfl rfl) (@Jc _) rfl) rfl) rfl (by decide) rfl rfl) (by intro _; rfl))) (@JaO _ _ _ _ (@Z8 _ _ _ _ (@Zr _ _ _ (@Jm _ _ _ _ _ _ _ _ _ _ _ _ _ _ _ T.Jdk (Jer T) (hr.mono (by decide)) JG (@Ja _ _ _ _ _ (@Z4 _ _ _ _ _ _ _ _ _ _ _ _ _ _ _ _ _ (@pv _ 2 _ _ rfl (.inl rfl) rfl rfl) T.JH T.Jbu.m (Jk9 T) (hr.mono (by decide)) T.Jbu.b .nil JG rfl) (@Ja _ _ _ _ _ (@Yx _ _ _ _ (@Ja _ _ _ _ _ (@Jy _ _ _ _) (@Jc _) rfl)) (@Jc _) rfl) rfl) rfl (by decide) rfl rfl) (by intro _; rfl)))))) (@Jg _ _ _ (@Jq _ _ _ _ (@Ja1 _ _ _ _))) (@Jw _)) (@Jg _ _ _ (@Jq _ _ _ _ (@Jm _ _ _ _ _ _ _ _ _ _ _ _ _ _ _ T.JfG (Jmv T) (hr.mono (by decide)) JG (@Ja _ _ _ _ _ (@pv _ 2 _ _ rfl (.inl rfl) rfl rfl) (@Ja _ _ _ _ _ (@pv _ 3 _ _ rfl (.inl rfl) rfl rfl) (@Ja _ _ _ _ _ (@pv _ 1 _ _ rfl (.inl rfl) rfl rfl) (@Ja _ _ _ _ _ (@pv _ 4 _ _ rfl (.inl rfl) rfl rfl) (@Ja _ _ _ _ _ (@YR _ _ _ _ _ (@Jc _)) (@Jc _) rfl) rfl) rfl) rfl) rfl) rfl (by decide) rfl rfl))))))))))))))))))))),?_⟩
  try dsimp only [cxK,Jhi]
  refine ⟨_,rfl,a,ns,0,rfl,hS,by decide,fun t ps zs gs H1 e1 G=>?_⟩;refine fun h dx nx ndx hne=>JqS nx ndx fun d1 d2 H2 e2 n1 n2 A2=>⟨rfl,?_⟩
  have nd1:H d1=none:=e1.free n1;have nd2:H d2=none:=e1.free n2;obtain ⟨dh,hh⟩:=A2.hi;refine ⟨_,rfl,h,dh,_,rfl,hh,rfl,?_⟩;have G2:=G.same e2;obtain ⟨pn,pl,pg,g1,g2,g3,g4,g5⟩:=(G2).at_;refine ⟨_,rfl,t,_,_,.ref pn,rfl,rfl,J1.of g1,rfl,pn,_,rfl,.inl (JA.of g2),fun l1 n1=>?_⟩;have f2:=Ji.upd (o:=.lst (ps.map V.str)) n1;refine ⟨_,rfl,t,_,_,.ref pl,rfl,rfl,J1.of (f2 _ _ g1),rfl,pl,_,rfl,.inl (JA.of (f2 _ _ g3)),fun l2 n2=>?_⟩;have f3:=f2.trans (Ji.upd (o:=.lst (zs.map (·.1))) n2);refine ⟨_,rfl,t,_,_,.ref pg,rfl,rfl,J1.of (f3 _ _ g1),rfl,pg,_,rfl,.inl (JA.of (f3 _ _ g5)),fun l3 n3=>?_⟩;have f4:=f3.trans (Ji.upd (o:=.lst (gs.map V.str)) n3);refine fun b dx nx ndx hne=>JpD f4 (((Ji.upd n2).trans (Ji.upd n3)) _ _ Jj) ((Ji.upd n3) _ _ Jj) Jj (Jah g4 f4) (G2).good nx ndx fun ps' zs' gs' H3 e3 B pp ps3 zp zs3 gp gs3=>⟨rfl,?_⟩
  clear hne f4 f3 f2 g1 g2 g3 g4 g5 n1 n2 n3 nx ndx pn pl pg l1 l2 l3 dx;have gm1:YB "m" = true:=by decide +kernel
  have gq:YB "q" = true:=by decide +kernel
  have A3:=A2.same e3;refine ⟨h,d1,d2, "m",.ref b,[],[],rfl,Yo gm1,A3,fun H' _=>⟨(fun h=>by rw [gm1] at h; cases h),(fun _ h=>nomatch h),fun _ _ h=>absurd h (by decide)⟩,fun _ _ _ H4 bt A4=>?_⟩;have A4:YH T H4 h d1 d2 [(.inr "m",.ref b)] []:=A4;have e04:Ji H H4:=fun x u q=>bt _ _ (Ju q nd1) (((e1.trans e2).trans e3) _ _ q)
  have B4:=bt.bdD A3.h1 B;have gg4:GG K H4 t ps zs gs ps' zs' gs':=⟨bt.grD A3.h1 (G2.same e3),pp,zp,gp,zs3,B.G⟩
  have kb:J2 [((Sum.inr (Str.ofString "m"):JI),V.ref b)] (.inr "m")=some (.ref b):=YY rfl;have ko:∀ y:Str,y ≠ "m"→J2 [((Sum.inr (Str.ofString "m"):JI),V.ref b)] (.inr y)=none:=fun y hy=>by rw [Y9 (fun z=>hy (Sum.inr.inj z).symm)]; rfl
  clear A3 A2 bt hh;obtain ⟨dh,hh⟩:=A4.hi;refine ⟨fun σ1 H5=>∃ z,YB z=true∧Ji H4 H5∧σ1=[some (.ref a),some (.ref t),some (.ref h),some (.str z),none,none,none,none,none,none,none,none,none,none,none],?_,?_⟩
  ·refine ⟨_,rfl,a,ns,5,rfl,e04.seq hS,by decide,_,1,rfl,by decide,by decide,fun pn ss H5 _ e5 hpn hl1 hg1 _=>?_⟩;obtain ⟨y,hy⟩:∃ y,ss[0]?=some y:=⟨_,List.getElem?_eq_getElem (by omega)⟩
   exact ⟨pn,_,_,.str y,rfl,rfl,JA.of hpn,YX (j:=0) (by rw [List.getElem?_map,hy]; rfl),y,hg1 y (List.mem_of_getElem? hy),e5,rfl⟩
  rintro σ1 H5 ⟨z0,gz0,e5,rfl⟩;refine ⟨fun σ1 H6=>∃ z,YB z=true∧z ≠ "m"∧z ≠ "q"∧H6=H5∧σ1=[some (.ref a),some (.ref t),some (.ref h),some (.str z),none,none,none,none,none,none,none,none,none,none,none],?_,?_⟩
  ·have fin:∃ z,YB z=true∧z ≠ "m"∧z ≠ "q"∧H5=H5∧[some (V.ref a),some (.ref t),some (.ref h),some (.str z0),none,none,none,none,none,none,none,none,none,none,none].set 3 (some (.str "mq"))=[some (V.ref a),some (.ref t),some (.ref h),some (.str z),none,none,none,none,none,none,none,none,none,none,none]:=⟨"mq",by decide +kernel,by decide +kernel,by decide +kernel,rfl,rfl⟩
   refine ⟨_,rfl,rfl,_,rfl,Yt (fun _=>Zh fin) (fun c1=>⟨_,rfl,rfl,_,rfl,Yt (fun _=>fin) (fun c2=>⟨z0,gz0,fun f=>c1 ?_,fun f=>c2 ?_,rfl,rfl⟩)⟩)⟩
   ·rw [f]; exact decide_eq_true rfl
   ·rw [f]; exact decide_eq_true rfl
  rintro σ1 H6 ⟨z,gz,zm,zq,rfl,rfl⟩;have e06:=e04.trans e5;refine ⟨_,rfl,_,rfl,a,t,ns,6,ps,zs,gs,rfl,e06.seq hS,by decide,gg4.G.same e5,fun tn p m n c r H7 e7 hpm hm hn c1 htn=>?_⟩;have hp':p∈ps':=pp.mem_iff.mpr hpm;have tp:=Yo (B.G.p3 p hp');have e47:=e5.trans e7;have A7:=A4.same e47;have B7:=B4.same e47;have so:JkE ps' p (m:Int) n (c - n) (hs r):=⟨hp',⟨by omega,by omega⟩,⟨by omega,by omega,by omega⟩,Jh8 r⟩
  refine ⟨_,rfl,h,dh,_,rfl,e47 _ _ hh,rfl,_,rfl,_,rfl,tn,_,_,.str p,rfl,rfl,J1.of htn,rfl,_,rfl,tn,_,_,.int (m:Int),rfl,rfl,J1.of htn,rfl,_,rfl,tn,_,_,.int n,rfl,rfl,J1.of htn,rfl,_,rfl,tn,_,_,.int (c - n),rfl,rfl,J1.of htn,rfl,_,rfl,tn,_,_,.str (hs r),rfl,rfl,J1.of htn,rfl,h,d1,d2,z, "m",p,hs r,m,n,c - n,_,[],rfl,Yo gz,Yo gm1,tp,JkC r,A7,fun H' _=>⟨(fun h=>by rw [gz] at h; cases h),(fun _ h=>nomatch h),fun _ _ h=>absurd h (by decide)⟩,(fun _ hb=>by rw [kb] at hb; cases hb),fun _ v hv=>⟨b,ps',zs',gs',by rw [kb] at hv; exact (Option.some.inj hv).symm,B7,fun H' _=>JlO T so,fun _ _ _ r' hr' G1 a1 H8 g1 g2 g3 g4 g5 g6 bt A8 GA8=>?_⟩⟩;obtain rfl:=JnR hr';rw [Int.toNat_natCast] at GA8;have htn8:H8 tn=some (.tup (JhR G1.c (ZJ (zs'.map (·.2)) gs' p m n r))):=by
   rw [JqK,g4,show n + (c - n) - n=c - n by omega];exact bt.dict A7.h2 htn (fun _ z=>nomatch z)
  have L8:LM T H H8 h d1 d2 b t tn [(.inr z,.ref G1.g)] [z] G1 a1 (ZJ (zs'.map (·.2)) gs' p m n r) z ps zs gs:=by
   refine ⟨fun y u qq=>bt _ _ (Ju qq nd2) ((e04.trans e47) _ _ qq),A8,rfl,YY rfl,GA8,g6,htn8,?_⟩;rw [g1,g2,g3];exact ⟨bt.grD A7.h2 (gg4.G.same e47),pp,zp,gp,zs3,B.G⟩
  have B8:=bt.bdD A7.h2 B7;have htn8':H8 tn=some (.tup [.str p,.int (m:Int),.int n,.int (c - n),.str (hs r),.non,.str ""]):=bt.dict A7.h2 htn (fun _ z=>nomatch z);obtain ⟨dh8,hh8⟩:=L8.A.hi;generalize ZJ (zs'.map (·.2)) gs' p m n r=x1 at L8;clear GA8 A8 htn8 bt g4 g5 g6;have vq:J2 [((Sum.inr z:JI),V.ref G1.g)] (.inr "q")=none:=by rw [Y9 (fun f=>zq (Sum.inr.inj f))]; rfl
  refine ⟨_,rfl,h,dh8,_,rfl,hh8,rfl,_,rfl,tn,_,_,.str p,rfl,rfl,J1.of htn8',rfl,_,rfl,tn,_,_,.int (m:Int),rfl,rfl,J1.of htn8',rfl,_,rfl,tn,_,_,.int n,rfl,rfl,J1.of htn8',rfl,_,rfl,tn,_,_,.int (c - n),rfl,rfl,J1.of htn8',rfl,_,rfl,tn,_,_,.str (hs r),rfl,rfl,J1.of htn8',rfl,h,d1,d2, "q", "m",p,hs r,m,n,c - n,_,_,rfl,Yo gq,Yo gm1,tp,JkC r,L8.A,fun H' _=>⟨(fun h=>by rw [gq] at h; cases h),(fun _ h=>by rw [vq] at h; cases h),fun _ _ h=>absurd h (by show ¬ (20:Int)≤1; decide)⟩,(fun _ hb=>by rw [kb] at hb; cases hb),fun _ v hv=>⟨b,ps',zs',gs',by rw [kb] at hv; exact (Option.some.inj hv).symm,B8,fun H' _=>JlO T so,fun _ _ _ r' hr' G2' a2 H9 _ _ _ _ _ _ bt A9 _=>?_⟩⟩;have L9:LM T H H9 h d1 d2 b t tn [(.inr z,.ref G1.g),(.inr "q",.ref G2'.g)] [z, "q"] G1 a1 x1 z ps zs gs:=L8.dict nd2 bt A9 rfl (YY rfl);clear bt A9;refine ⟨fun σ1 H10=>∃ (lp:Addr) (ss:List Str),Ji H9 H10∧H10 lp=some (.lst (ss.map V.str))∧ss.Perm [z, "q"]∧ss.Pairwise sle∧σ1=[some (.ref a),some (.ref t),some (.ref h),some (.str z),some (.ref tn),some (.ref lp),none,none,none,none,none,none,none,none,none],⟨_,rfl,by show 2≤sizeLine; decide,fun l nl=>⟨l,[z, "q"],rfl,JA.of Jj,by show 2 < 64; decide,fun p3 ss n3 sp so=>⟨p3,ss,(Ji.upd nl).trans (Ji.upd n3),Jj,sp,so,rfl⟩⟩⟩,?_⟩;rintro σ1 H10 ⟨lp0,ss0,e10,hlp0,sp0,so0,rfl⟩;have L10:=L9.same e10;refine ⟨fun σ1 H11=>∃ (lp:Addr) (ss done:List Str) (gm:List (JI×V)),LM T H H11 h d1 d2 b t tn gm done G1 a1 x1 z ps zs gs∧H11 lp=some (.lst (ss.map V.str))∧ss.Perm done∧ss.Pairwise sle∧done.length≤2∧σ1=[some (.ref a),some (.ref t),some (.ref h),some (.str z),some (.ref tn),some (.ref lp),none,none,none,none,none,none,none,none,none],?_,?_⟩
  ·refine ⟨_,rfl,a,ns,11,rfl,L10.sm.seq hS,by decide,_,_,rfl,rfl,(by show (0:Int) < 2; decide),rfl,_,rfl,Yt (fun _=>?_) (fun _=>⟨lp0,ss0,_,_,L10,hlp0,sp0,so0,by show 2≤2; decide,rfl⟩)⟩;obtain ⟨dh10,hh10⟩:=L10.A.hi;have vq2:J2 [((Sum.inr z:JI),V.ref G1.g),(Sum.inr (Str.ofString "q"),V.ref G2'.g)] (.inr "q")=some (.ref G2'.g):=by rw [Y9 (fun f=>zq (Sum.inr.inj f)),YY rfl]
   have dq:JfP [((Sum.inr z:JI),V.ref G1.g),(Sum.inr (Str.ofString "q"),V.ref G2'.g)] (.inr "q")=[(Sum.inr z,V.ref G1.g)]:=by
    unfold JfP;have k1:(fun kv:JI×V=>decide (kv.1≠Sum.inr (Str.ofString "q"))) (Sum.inr z,V.ref G1.g)=true:=decide_eq_true (fun f=>zq (Sum.inr.inj f));have k2:¬ (fun kv:JI×V=>decide (kv.1≠Sum.inr (Str.ofString "q"))) (Sum.inr (Str.ofString "q"),V.ref G2'.g)=true:=fun f=>of_decide_eq_true f rfl
    rw [List.filter_cons_of_pos (p:=fun kv:JI×V=>decide (kv.1≠Sum.inr (Str.ofString "q"))) k1,List.filter_cons_of_neg (p:=fun kv:JI×V=>decide (kv.1≠Sum.inr (Str.ofString "q"))) k2];rfl
   refine ⟨_,rfl,h,dh10,_,rfl,hh10,rfl,h,d1,d2, "q",_,_,rfl,Yo gq,L10.A,(fun hn=>by rw [vq2] at hn; cases hn),fun v hv H11 bt A11=>?_⟩;rw [dq] at A11;have L11:LM T H H11 h d1 d2 b t tn [(.inr z,.ref G1.g)] [z] G1 a1 x1 z ps zs gs:=L10.dict nd2 bt A11 rfl (YY rfl);exact ⟨_,rfl,YT ⟨_,rfl,by show 1≤sizeLine; decide,fun l nl=>⟨l,[z],_,_,L11.same (Ji.upd nl),Jj,List.Perm.refl _,by simp,by show 1≤2; decide,rfl⟩⟩⟩
  clear L10 hlp0 sp0 so0 lp0 ss0 e10 L9;rintro σ1 H11 ⟨lp,ss,done,gm,L11,hlp,sp,so1,hdl,rfl⟩;refine ⟨_,rfl,a,ns,12,rfl,L11.sm.seq hS,by decide,_,rfl,_,z, "m", "q",rfl,gz,Yo gm1,Yo gq,fun gt H12 e12 tg=>?_⟩;refine ⟨_,rfl,a,ns,12,rfl,(L11.sm.trans e12).seq hS,by decide,_,rfl,_, "m",z, "q",rfl,gm1,Yo gz,Yo gq,fun bt H13 e13 tb=>?_⟩;have e13:=e12.trans e13;refine ⟨_,rfl,a,ns,13,rfl,(L11.sm.trans e13).seq hS,by decide,?_⟩;refine ⟨by show 3≤sizeLine; decide,fun l1 nl1=>?_⟩;obtain ⟨hd,hhd,hm1⟩:=JgM (ps:=["north", "south", "East"]) (by decide) (Z5 ns 13);have th:Yb hd:=by
   have h:(["north", "south", "East"]:List Str).all Jo7=true:=by decide +kernel
   exact Jcu (List.all_eq_true.mp h hd hm1)
  refine ⟨_,rfl,_,_,rfl,rfl,(by show (0:Int) < 3; decide),l1,_,_,.str hd,rfl,rfl,JA.of Jj,hhd,?_⟩;have e14:=e13.trans (Ji.upd (o:=.lst [.str "north",.str "south",.str "East"]) nl1);generalize upd H13 l1 (.lst [.str "north",.str "south",.str "East"])=H14 at e14;refine ⟨_,rfl,by show 4≤sizeLine; decide,fun l2 nl2=>?_⟩;obtain ⟨co,hco⟩:∃ co:Int,Z3 [V.int 0,V.int (-1),V.int 40,V.int 2] (Z5 ns 13 / 3 % 4)=some (.int co):=by
   have h4:Z5 ns 13 / 3 % 4=0∨Z5 ns 13 / 3 % 4=1∨Z5 ns 13 / 3 % 4=2∨Z5 ns 13 / 3 % 4=3:=by omega
   rcases h4 with h4 | h4 | h4 | h4 <;> rw [h4] <;> exact ⟨_,rfl⟩
  refine ⟨_,rfl,_,_,rfl,rfl,⟨by decide,by decide⟩,_,_,rfl,rfl,(by show (0:Int) < 4; decide),l2,_,_,.int co,rfl,rfl,JA.of Jj,hco,?_⟩;have e15:=e14.trans (Ji.upd (o:=.lst [.int 0,.int (-1),.int 40,.int 2]) nl2);generalize upd H14 l2 (.lst [.int 0,.int (-1),.int 40,.int 2])=H15 at e15;refine ⟨fun σ1 H16=>∃ pl,Yb pl∧Ji H11 H16∧σ1=[some (.ref a),some (.ref t),some (.ref h),some (.str z),some (.ref tn),some (.ref lp),some (.str gt),some (.str bt),some (.int (Z5 ns 13)),some (.str hd),some (.int co),some (.str pl),none,none,none],?_,?_⟩
  ·obtain ⟨pn,pl,pg,g1',g2',g3',g4',g5'⟩:=(L11.g.G.same e15).at_;have p1:=L11.g.G.good.p1;obtain ⟨p0,hp0⟩:∃ p0,ps[0]?=some p0:=⟨_,List.getElem?_eq_getElem (by omega)⟩
   have tp0:=Yo (L11.g.G.good.p3 p0 (List.mem_of_getElem? hp0));refine ⟨_,rfl,t,_,_,.ref pn,rfl,rfl,J1.of g1',rfl,pn,_,_,.str p0,rfl,rfl,JA.of g2',YX (j:=0) (by rw [List.getElem?_map,hp0]; rfl),by show 3≤sizeLine; decide,fun l3 nl3=>?_⟩;obtain ⟨y,hy,hm⟩:=JgM (ps:=[p0, "", "unknown"]) (by show 1≤3; decide) (Z5 ns 13 / 12);have ty:Yb y:=by
    simp only [List.mem_cons,List.not_mem_nil,or_false] at hm;rcases hm with rfl | rfl | rfl
    ·exact tp0
    ·exact Jcu (by decide +kernel)
    ·exact Jcu (by decide +kernel)
   exact ⟨_,rfl,_,_,rfl,rfl,⟨by decide,by decide⟩,_,_,rfl,rfl,(by show (0:Int) < 3; decide),l3,_,_,.str y,rfl,rfl,JA.of Jj,hy,y,ty,e15.trans (Ji.upd nl3),rfl⟩
  rintro σ1 H16 ⟨pl,tpl,e16,rfl⟩;have L16:=L11.same e16;have hlp16:=e16 _ _ hlp;clear e14 e15 e12 e13 hhd hco;refine ⟨15,rfl,by decide,by decide,Zt (n:=15) (fun i σ H17=>Ji H16 H17∧∃ v12 v13 v14,σ=[some (.ref a),some (.ref t),some (.ref h),some (.str z),some (.ref tn),some (.ref lp),some (.str gt),some (.str bt),some (.int (Z5 ns 13)),some (.str hd),some (.int co),some (.str pl),v12,v13,v14]) ⟨Ji.refl _,_,_,_,rfl⟩ ?_ ?_⟩
  ·rintro i σ H17 hi ⟨e17,v12,v13,v14,rfl⟩;refine ⟨_,rfl,_,rfl,by show 2≤sizeLine; decide,fun l1 n1=>⟨_,rfl,_,_,rfl,rfl,.inr ⟨_,rfl,l1,_,_,_,rfl,rfl,JA.of Jj,pk2,?_⟩⟩⟩;have e18:=e17.trans (Ji.upd (o:=.lst [.str gt,.str bt]) n1);generalize upd H17 l1 (.lst [.str gt,.str bt])=H18 at e18;refine ⟨_,?_,fun _ _ z=>z⟩;by_cases hd12:decide ((12:Int)≤0 + (i:Int))=true
   ·rw [if_pos hd12];refine ⟨_,rfl,_,rfl,by show 1≤sizeLine; decide,fun l2 n2=>⟨by show 2≤sizeLine; decide,fun l3 n3=>⟨_,rfl,_,_,rfl,rfl,.inr ⟨_,rfl,l3,_,_,_,rfl,rfl,JA.of Jj,pk2,?_⟩⟩⟩⟩;rw [if_pos hd12];refine ⟨l2,(["m"]:List Str).map V.str,rfl,.inl (JA.of ((Ji.upd n3) _ _ Jj)),rfl,JbN _,?_⟩;rw [if_pos rfl,JcD];have e20:=(e18.trans (Ji.upd (o:=.lst [.str "m"]) n2)).trans (Ji.upd (o:=.lst [.ref lp,.ref l2]) n3);generalize upd (upd H18 l2 (.lst [.str "m"])) l3 (.lst [.ref lp,.ref l2])=H20 at e20;by_cases hin:bt∈(["m"]:List Str)
    ·rw [decide_eq_true hin];exact ⟨_,rfl,YT ⟨e20,_,_,_,rfl⟩⟩
    ·rw [decide_eq_false hin];have hn:J2 [((Sum.inr (Str.ofString "m"):JI),V.ref b)] (.inr bt)=none:=ko bt (fun f=>hin (by rw [f]; simp));refine ⟨_,rfl,Zh ⟨_,rfl,_,rfl,_,rfl,_,rfl,_,rfl,_,rfl,h,d1,d2,bt,hd,pl,0 + (i:Int),co,_,gm,rfl,tb,th,tpl,(L16.same e20).A,(fun f=>by have:=of_decide_eq_true hd12; omega),fun _=>hn,fun p' H21 e21 hp'=>?_⟩⟩;have e1417:=e20.trans e21;exact ⟨_,rfl,by show 2≤sizeLine; decide,fun t18 n18=>⟨.ref p',.ref t18,rfl,⟨_,rfl,YT ⟨e1417.trans (Ji.upd n18),_,_,_,rfl⟩⟩,.inr ⟨p',t18,_,rfl,rfl,J1.of ((Ji.upd n18) _ _ hp'),.inr (J1.of Jj),by show 2≤1000; decide,rfl⟩⟩⟩
   ·rw [if_neg hd12];refine ⟨_,rfl,_,rfl,by show 1≤sizeLine; decide,fun l2 n2=>⟨by show 2≤sizeLine; decide,fun l3 n3=>⟨_,rfl,_,_,rfl,rfl,.inr ⟨_,rfl,l3,_,_,_,rfl,rfl,JA.of Jj,pk2,?_⟩⟩⟩⟩;rw [if_neg hd12];have e20:=(e18.trans (Ji.upd (o:=.lst [.str "m"]) n2)).trans (Ji.upd (o:=.lst [.ref lp,.ref l2]) n3);refine ⟨lp,ss.map V.str,rfl,.inl (JA.of (e20 _ _ hlp16)),rfl,JbN _,?_⟩;rw [if_pos rfl,JcD];generalize upd (upd H18 l2 (.lst [.str "m"])) l3 (.lst [.ref lp,.ref l2])=H20 at e20;by_cases hin:gt∈ss
    ·rw [decide_eq_true hin];exact ⟨_,rfl,YT ⟨e20,_,_,_,rfl⟩⟩
    ·rw [decide_eq_false hin];have hn:J2 gm (.inr gt)=none:=(JqZ L16.kg).mpr (fun f=>hin (sp.mem_iff.mpr f));refine ⟨_,rfl,Zh ⟨_,rfl,_,rfl,_,rfl,_,rfl,_,rfl,_,rfl,h,d1,d2,gt,hd,pl,0 + (i:Int),co,_,gm,rfl,tg,th,tpl,(L16.same e20).A,(fun _=>hn),(fun f=>absurd (decide_eq_true f) hd12),fun p' H21 e21 hp'=>?_⟩⟩;have e1417:=e20.trans e21;exact ⟨_,rfl,by show 2≤sizeLine; decide,fun t18 n18=>⟨.ref p',.ref t18,rfl,⟨_,rfl,YT ⟨e1417.trans (Ji.upd n18),_,_,_,rfl⟩⟩,.inr ⟨p',t18,_,rfl,rfl,J1.of ((Ji.upd n18) _ _ hp'),.inr (J1.of Jj),by show 2≤1000; decide,rfl⟩⟩⟩
  ·rintro σ H17 ⟨e17,v12,v13,v14,rfl⟩;have L17:=L16.same e17;obtain ⟨dh17,hh17⟩:=L17.A.hi;refine ⟨_,rfl,h,dh17,_,rfl,hh17,rfl,h,d1,d2,_,gm,done,rfl,L17.A,L17.kg,by omega,fun t1 ss1 H18 e18 sp1 so2 ht1=>?_⟩;obtain rfl:ss1=ss:=JjM (fun _ _=>Jr6) (sp1.trans sp.symm) so2 so1;refine ⟨_,rfl,.ref t1,.ref lp,rfl,⟨_,rfl,YT ?_⟩,.inr ⟨t1,lp,_,rfl,rfl,J1.of ht1,.inl (JA.of ((e17.trans e18) _ _ hlp16)),by rw [List.length_map,sp1.length_eq]; omega,JpH _⟩⟩;have L18:=L17.same e18;refine ⟨_,rfl,h,dh17,_,rfl,e18 _ _ hh17,rfl,h,d1,d2,_,gm,["m"],rfl,L18.A,rfl,by show 1 < 64; decide,fun t2 ss2 H19 e19 sp2 so3 ht2=>⟨by show 1≤sizeLine; decide,fun l4 n4=>?_⟩⟩;obtain rfl:ss2=[Str.ofString "m"]:=List.perm_singleton.mp sp2;have s20:=Ji.upd (o:=.lst [.str "m"]) n4;refine ⟨.ref t2,.ref l4,rfl,⟨_,rfl,YT ?_⟩,.inr ⟨t2,l4,_,rfl,rfl,J1.of (s20 _ _ ht2),.inl (JA.of Jj),by show 1≤1000; decide,rfl⟩⟩;have L20:=L18.same (e19.trans s20);generalize upd H19 l4 (.lst [.str "m"])=H20 at L20;refine ⟨_,rfl,_,rfl,_,rfl,_,rfl,by show 0≤sizeLine; decide,fun te nte=>?_⟩;have L21:=L20.same (Ji.upd (o:=.tup []) nte);exact ⟨G1,h,d1,d2,t,tn,te,a1,z,_,gm,x1,[],[],[],ps,zs,gs,rfl,Yo gz,L21.A,L21.kv,L21.GA,L21.hn,L21.g,.inr (J1.of Jj),⟨rfl,fun i a d h=>by simp at h⟩,Nat.zero_le _,(fun d hd=>nomatch hd),fun H' e'=>q _⟩
end
def JpY (K:PySem.W.Frag):Prop:=(Jse K,Jsd K,Jsb K,Jsc K,Jr9 K,Jsa K)=JmI
theorem Jb {α:Type} {a b:α} (h:some a=some b):a=b:=Option.some.inj h
theorem Jvt {w:World} {K:PySem.W.Frag} {h:Heap} {mg:Str→Option Value} {fa:Addr} {P:Program} (hS:JpY K) (X:K.In h) (G:h.Ns mainGlobals mg) (hfa:mg "law" = some (.ref fa)) :
  ∃ fd:FuncData,(∀ (s:Shared) (v:Value),BindsTo s fd ⟨[v],[]⟩ [("_law_script",v)])∧∀ base:Heap,K.In base→base.Ns mainGlobals mg→JC P w K mg base YJ 15 fa fd ["_law_script"] (Jpe K):=by
 have hB:Jse K=isB:=congrArg (fun x=>x.1) hS;have hF:Jsd K=isF:=congrArg (fun x=>x.2.1) hS;have hN:Jsb K=isN:=congrArg (fun x=>x.2.2.1) hS;have hK:Jsc K=isK:=congrArg (fun x=>x.2.2.2.1) hS;have hV:Jr9 K=isV:=congrArg (fun x=>x.2.2.2.2.1) hS;have hT:Jsa K=isT:=congrArg (fun x=>x.2.2.2.2.2) hS;obtain ⟨JaJ,Jb6,JbV⟩:=mgV X G (Jb (at_ hV 0));obtain ⟨JaI,ZP,ZL⟩:=mgV X G (Jb (at_ hV 1));obtain ⟨JaM,Z9,Z7⟩:=mgV X G (Jb (at_ hV 2));obtain ⟨Jaq,Jbq,Jbm⟩:=mgV X G (Jb (at_ hV 3));obtain ⟨JaL,Jb8,JbX⟩:=mgV X G (Jb (at_ hV 4));obtain ⟨Jap,Jbp,Jbl⟩:=mgV X G (Jb (at_ hV 5));obtain ⟨JaK,Jb7,JbW⟩:=mgV X G (Jb (at_ hV 6));have e:=hfa.symm.trans (PySem.W.mg_of X G (Jr (Option.some.inj (at_ hB 148))));cases e;let T:Txt K mg:={
  Jgg:=Jf K "good_name"
  Je5:=JF K (Jf K "good_name")
  Jc1:=⟨Jh (Jb (at_ hF 0)),(Jh (Jb (at_ hF 0))).binds (ps:=["text"]) (fun | _,_,_,_,_,_,[_],_=>rfl),PySem.W.mg_of X G (Jr (Jb (at_ hB 0)))⟩
  Jfm:=Jf K "check_hand"
  JdE:=JF K (Jf K "check_hand")
  Ja0:=⟨Jh (Jb (at_ hF 1)),(Jh (Jb (at_ hF 1))).binds (ps:=["hand"]) (fun | _,_,_,_,_,_,[_],_=>rfl),PySem.W.mg_of X G (Jr (Jb (at_ hB 1)))⟩
  Jlp:=Jf K "other"
  Jjs:=JF K (Jf K "other")
  JlG:=⟨Jh (Jb (at_ hF 2)),(Jh (Jb (at_ hF 2))).binds (ps:=["hand"]) (fun | _,_,_,_,_,_,[_],_=>rfl),PySem.W.mg_of X G (Jr (Jb (at_ hB 2)))⟩
  JdQ:=Jf K "check_up_to"
  JcE:=JF K (Jf K "check_up_to")
  Zg:=⟨Jh (Jb (at_ hF 3)),(Jh (Jb (at_ hF 3))).binds (ps:=["number", "most"]) (fun | _,_,_,_,_,_,[_,_],_=>rfl),PySem.W.mg_of X G (Jr (Jb (at_ hB 3)))⟩
  JdT:=Jf K "check_coins"
  JcH:=JF K (Jf K "check_coins")
  Jd5:=⟨Jh (Jb (at_ hF 4)),(Jh (Jb (at_ hF 4))).binds (ps:=["north", "south"]) (fun | _,_,_,_,_,_,[_,_],_=>rfl),PySem.W.mg_of X G (Jr (Jb (at_ hB 4)))⟩
  Ji3:=Jf K "check_bid"
  Jid:=JF K (Jf K "check_bid")
  JoC:=⟨Jh (Jb (at_ hF 5)),(Jh (Jb (at_ hF 5))).binds (ps:=["named", "coins"]) (fun | _,_,_,_,_,_,[_,_],_=>rfl),PySem.W.mg_of X G (Jr (Jb (at_ hB 5)))⟩
  JbI:=Jf K "check_standing"
  Jbb:=JF K (Jf K "check_standing")
  Jam:=⟨Jh (Jb (at_ hF 6)),(Jh (Jb (at_ hF 6))).binds (ps:=["board", "place", "turns", "north", "south", "ribbon"]) (fun | _,_,_,_,_,_,[_,_,_,_,_,_],_=>rfl),PySem.W.mg_of X G (Jr (Jb (at_ hB 6)))⟩
  Jlt:=Jf K "ended"
  Jjw:=JF K (Jf K "ended")
  JgR:=⟨Jh (Jb (at_ hF 7)),(Jh (Jb (at_ hF 7))).binds (ps:=["board", "place", "turns"]) (fun | _,_,_,_,_,_,[_,_,_],_=>rfl),PySem.W.mg_of X G (Jr (Jb (at_ hB 7)))⟩
  Jkf:=Jf K "coins_of"
  Ji2:=JF K (Jf K "coins_of")
  Jp3:=⟨Jh (Jb (at_ hF 8)),(Jh (Jb (at_ hF 8))).binds (ps:=["hand", "north", "south"]) (fun | _,_,_,_,_,_,[_,_,_],_=>rfl),PySem.W.mg_of X G (Jr (Jb (at_ hB 8)))⟩
  Jtu:=Jf K "pay"
  Jrd:=JF K (Jf K "pay")
  Jv2:=⟨Jh (Jb (at_ hF 9)),(Jh (Jb (at_ hF 9))).binds (ps:=["hand", "price", "north", "south", "ribbon"]) (fun | _,_,_,_,_,_,[_,_,_,_,_],_=>rfl),PySem.W.mg_of X G (Jr (Jb (at_ hB 9)))⟩
  Jn0:=Jf K "settle"
  Jl3:=JF K (Jf K "settle")
  Jtc:=⟨Jh (Jb (at_ hF 10)),(Jh (Jb (at_ hF 10))).binds (ps:=["north", "south", "ribbon", "bid", "answer"]) (fun | _,_,_,_,_,_,[_,_,_,_,_],_=>rfl),PySem.W.mg_of X G (Jr (Jb (at_ hB 10)))⟩
  Jfk:=Jf K "turn_begin"
  JdC:=JF K (Jf K "turn_begin")
  JfF:=⟨Jh (Jb (at_ hF 24)),(Jh (Jb (at_ hF 24))).binds (ps:=["board", "place", "turns", "north", "south", "ribbon"]) (fun | _,_,_,_,_,_,[_,_,_,_,_,_],_=>rfl),PySem.W.mg_of X G (Jr (Jb (at_ hB 37)))⟩
  Jl4:=Jf K "told_by"
  Jke:=JF K (Jf K "told_by")
  JrH:=⟨Jh (Jb (at_ hF 25)),(Jh (Jb (at_ hF 25))).binds (ps:=["book", "now"]) (fun | _,_,_,_,_,_,[_,_],_=>rfl),PySem.W.mg_of X G (Jr (Jb (at_ hB 38)))⟩
  Jgi:=Jf K "check_new"
  Je7:=JF K (Jf K "check_new")
  Jc3:=⟨Jh (Jb (at_ hF 40)),(Jh (Jb (at_ hF 40))).binds (ps:=["name", "kept", "most"]) (fun | _,_,_,_,_,_,[_,_,_],_=>rfl),PySem.W.mg_of X G (Jr (Jb (at_ hB 67)))⟩
  Jgh:=Jf K "find_kept"
  Je6:=JF K (Jf K "find_kept")
  Jc2:=⟨Jh (Jb (at_ hF 41)),(Jh (Jb (at_ hF 41))).binds (ps:=["name", "kept"]) (fun | _,_,_,_,_,_,[_,_],_=>rfl),PySem.W.mg_of X G (Jr (Jb (at_ hB 68)))⟩
  Jbd:=Jf K "check_each_once"
  JaX:=JF K (Jf K "check_each_once")
  ZD:=⟨Jh (Jb (at_ hF 63)),(Jh (Jb (at_ hF 63))).binds (ps:=["things"]) (fun | _,_,_,_,_,_,[_],_=>rfl),PySem.W.mg_of X G (Jr (Jb (at_ hB 111)))⟩
  JdU:=Jf K "check_among"
  JcI:=JF K (Jf K "check_among")
  ZX:=⟨Jh (Jb (at_ hF 64)),(Jh (Jb (at_ hF 64))).binds (ps:=["place", "places"]) (fun | _,_,_,_,_,_,[_,_],_=>rfl),PySem.W.mg_of X G (Jr (Jb (at_ hB 112)))⟩
  JcQ:=Jf K "check_places"
  Jb9:=JF K (Jf K "check_places")
  JcU:=⟨Jh (Jb (at_ hF 65)),(Jh (Jb (at_ hF 65))).binds (ps:=["places"]) (fun | _,_,_,_,_,_,[_],_=>rfl),PySem.W.mg_of X G (Jr (Jb (at_ hB 113)))⟩
  JdR:=Jf K "check_lanes"
  JcF:=JF K (Jf K "check_lanes")
  Jd3:=⟨Jh (Jb (at_ hF 66)),(Jh (Jb (at_ hF 66))).binds (ps:=["lanes", "places"]) (fun | _,_,_,_,_,_,[_,_],_=>rfl),PySem.W.mg_of X G (Jr (Jb (at_ hB 114)))⟩
  JdS:=Jf K "check_goals"
  JcG:=JF K (Jf K "check_goals")
  Jd4:=⟨Jh (Jb (at_ hF 67)),(Jh (Jb (at_ hF 67))).binds (ps:=["goals", "places"]) (fun | _,_,_,_,_,_,[_,_],_=>rfl),PySem.W.mg_of X G (Jr (Jb (at_ hB 115)))⟩
  JsX:=Jf K "_law_at"
  JpI:=JF K (Jf K "_law_at")
  Jan:=⟨Jh (Jb (at_ hF 72)),(Jh (Jb (at_ hF 72))).binds (ps:=["_law_script", "_law_k"]) (fun | _,_,_,_,_,_,[_,_],_=>rfl),PySem.W.mg_of X G (Jr (Jb (at_ hB 124)))⟩
  JpL:=Jf K "_law_row"
  JnU:=JF K (Jf K "_law_row")
  Jkz:=⟨Jh (Jb (at_ hF 73)),(Jh (Jb (at_ hF 73))).binds (ps:=["_law_cell", "_law_many", "_law_base"]) (fun | _,_,_,_,_,_,[_,_,_],_=>rfl),PySem.W.mg_of X G (Jr (Jb (at_ hB 125)))⟩
  Jll:=Jf K "_law_whole"
  Jjo:=JF K (Jf K "_law_whole")
  JlC:=⟨Jh (Jb (at_ hF 74)),(Jh (Jb (at_ hF 74))).binds (ps:=["_law_found"]) (fun | _,_,_,_,_,_,[_],_=>rfl),PySem.W.mg_of X G (Jr (Jb (at_ hB 126)))⟩
  Jlq:=Jf K "_law_names"
  Jjt:=JF K (Jf K "_law_names")
  JiN:=⟨Jh (Jb (at_ hF 75)),(Jh (Jb (at_ hF 75))).binds (ps:=["_law_cell", "_law_many"]) (fun | _,_,_,_,_,_,[_,_],_=>rfl),PySem.W.mg_of X G (Jr (Jb (at_ hB 127)))⟩
  Jlo:=Jf K "_law_pairs"
  Jjr:=JF K (Jf K "_law_pairs")
  JlF:=⟨Jh (Jb (at_ hF 76)),(Jh (Jb (at_ hF 76))).binds (ps:=["_law_cell", "_law_draw", "_law_size"]) (fun | _,_,_,_,_,_,[_,_,_],_=>rfl),PySem.W.mg_of X G (Jr (Jb (at_ hB 128)))⟩
  Jls:=Jf K "_law_goals"
  Jjv:=JF K (Jf K "_law_goals")
  JlH:=⟨Jh (Jb (at_ hF 77)),(Jh (Jb (at_ hF 77))).binds (ps:=["_law_cell", "_law_kind", "_law_size"]) (fun | _,_,_,_,_,_,[_,_,_],_=>rfl),PySem.W.mg_of X G (Jr (Jb (at_ hB 129)))⟩
  Jjy:=Jf K "_law_ground"
  Jic:=JF K (Jf K "_law_ground")
  JjF:=⟨Jh (Jb (at_ hF 78)),(Jh (Jb (at_ hF 78))).binds (ps:=["_law_script", "_law_at_here"]) (fun | _,_,_,_,_,_,[_,_],_=>rfl),PySem.W.mg_of X G (Jr (Jb (at_ hB 130)))⟩
  Jln:=Jf K "_law_total"
  Jjq:=JF K (Jf K "_law_total")
  JlE:=⟨Jh (Jb (at_ hF 79)),(Jh (Jb (at_ hF 79))).binds (ps:=["_law_cell"]) (fun | _,_,_,_,_,_,[_],_=>rfl),PySem.W.mg_of X G (Jr (Jb (at_ hB 131)))⟩
  Jn2:=Jf K "_law_left"
  Jli:=JF K (Jf K "_law_left")
  Jol:=⟨Jh (Jb (at_ hF 80)),(Jh (Jb (at_ hF 80))).binds (ps:=["_law_cell"]) (fun | _,_,_,_,_,_,[_],_=>rfl),PySem.W.mg_of X G (Jr (Jb (at_ hB 132)))⟩
  JnZ:=Jf K "_law_ways"
  Jlg:=JF K (Jf K "_law_ways")
  Joj:=⟨Jh (Jb (at_ hF 81)),(Jh (Jb (at_ hF 81))).binds (ps:=["_law_ground_here", "_law_place"]) (fun | _,_,_,_,_,_,[_,_],_=>rfl),PySem.W.mg_of X G (Jr (Jb (at_ hB 133)))⟩
  JpN:=Jf K "_law_foe"
  JnW:=JF K (Jf K "_law_foe")
  Jp2:=⟨Jh (Jb (at_ hF 82)),(Jh (Jb (at_ hF 82))).binds (ps:=["_law_hand_here"]) (fun | _,_,_,_,_,_,[_],_=>rfl),PySem.W.mg_of X G (Jr (Jb (at_ hB 134)))⟩
  Jn3:=Jf K "_law_hand"
  Jlj:=JF K (Jf K "_law_hand")
  Jom:=⟨Jh (Jb (at_ hF 83)),(Jh (Jb (at_ hF 83))).binds (ps:=["_law_cell"]) (fun | _,_,_,_,_,_,[_],_=>rfl),PySem.W.mg_of X G (Jr (Jb (at_ hB 135)))⟩
  JpJ:=Jf K "_law_won"
  JnS:=JF K (Jf K "_law_won")
  Jky:=⟨Jh (Jb (at_ hF 84)),(Jh (Jb (at_ hF 84))).binds (ps:=["_law_ground_here", "_law_place", "_law_left_here"]) (fun | _,_,_,_,_,_,[_,_,_],_=>rfl),PySem.W.mg_of X G (Jr (Jb (at_ hB 136)))⟩
  Jlm:=Jf K "_law_which"
  Jjp:=JF K (Jf K "_law_which")
  JlD:=⟨Jh (Jb (at_ hF 85)),(Jh (Jb (at_ hF 85))).binds (ps:=["_law_marks"]) (fun | _,_,_,_,_,_,[_],_=>rfl),PySem.W.mg_of X G (Jr (Jb (at_ hB 137)))⟩
  Jlr:=Jf K "_law_holds"
  Jju:=JF K (Jf K "_law_holds")
  JgQ:=⟨Jh (Jb (at_ hF 86)),(Jh (Jb (at_ hF 86))).binds (ps:=["_law_found", "_law_due_here"]) (fun | _,_,_,_,_,_,[_,_],_=>rfl),PySem.W.mg_of X G (Jr (Jb (at_ hB 138)))⟩
  Jn4:=Jf K "_law_flat"
  Jlk:=JF K (Jf K "_law_flat")
  Jdk:=⟨Jh (Jb (at_ hF 87)),(Jh (Jb (at_ hF 87))).binds (ps:=["_law_found", "_law_due_here"]) (fun | _,_,_,_,_,_,[_,_],_=>rfl),PySem.W.mg_of X G (Jr (Jb (at_ hB 139)))⟩
  Jlu:=Jf K "_law_deeds"
  Jjx:=JF K (Jf K "_law_deeds")
  JlI:=⟨Jh (Jb (at_ hF 88)),(Jh (Jb (at_ hF 88))).binds (ps:=["_law_found", "_law_due_here"]) (fun | _,_,_,_,_,_,[_,_],_=>rfl),PySem.W.mg_of X G (Jr (Jb (at_ hB 140)))⟩
  JpO:=Jf K "_law_due"
  JnX:=JF K (Jf K "_law_due")
  JmK:=⟨Jh (Jb (at_ hF 89)),(Jh (Jb (at_ hF 89))).binds (ps:=["_law_ground_here", "_law_now"]) (fun | _,_,_,_,_,_,[_,_],_=>rfl),PySem.W.mg_of X G (Jr (Jb (at_ hB 141)))⟩
  Jif:=Jf K "_law_opening"
  Jhc:=JF K (Jf K "_law_opening")
  Jis:=⟨Jh (Jb (at_ hF 90)),(Jh (Jb (at_ hF 90))).binds (ps:=["_law_script", "_law_ground_here", "_law_at_here"]) (fun | _,_,_,_,_,_,[_,_,_],_=>rfl),PySem.W.mg_of X G (Jr (Jb (at_ hB 142)))⟩
  Jfl:=Jf K "_law_hall_shows"
  JdD:=JF K (Jf K "_law_hall_shows")
  JfG:=⟨Jh (Jb (at_ hF 91)),(Jh (Jb (at_ hF 91))).binds (ps:=["_law_hall", "_law_name", "_law_ground_here", "_law_now", "_law_log"]) (fun | _,_,_,_,_,_,[_,_,_,_,_],_=>rfl),PySem.W.mg_of X G (Jr (Jb (at_ hB 143)))⟩
  Jn1:=Jf K "_law_open"
  Jlh:=JF K (Jf K "_law_open")
  Jok:=⟨Jh (Jb (at_ hF 92)),(Jh (Jb (at_ hF 92))).binds (ps:=["_law_ground_here", "_law_cell"]) (fun | _,_,_,_,_,_,[_,_],_=>rfl),PySem.W.mg_of X G (Jr (Jb (at_ hB 144)))⟩
  JpP:=Jf K "_law_ask"
  JnY:=JF K (Jf K "_law_ask")
  Jp4:=⟨Jh (Jb (at_ hF 93)),(Jh (Jb (at_ hF 93))).binds (ps:=["_law_hall", "_law_door", "_law_name"]) (fun | _,_,_,_,_,_,[_,_,_],_=>rfl),PySem.W.mg_of X G (Jr (Jb (at_ hB 145)))⟩
  JpK:=Jf K "_law_try"
  JnT:=JF K (Jf K "_law_try")
  Jp1:=⟨Jh (Jb (at_ hF 94)),(Jh (Jb (at_ hF 94))).binds (ps:=["_law_hall", "_law_door", "_law_name", "_law_hand_here", "_law_coins", "_law_place"]) (fun | _,_,_,_,_,_,[_,_,_,_,_,_],_=>rfl),PySem.W.mg_of X G (Jr (Jb (at_ hB 146)))⟩
  Jie:=Jf K "_law_strange"
  Jhb:=JF K (Jf K "_law_strange")
  JfW:=⟨Jh (Jb (at_ hF 95)),(Jh (Jb (at_ hF 95))).binds (ps:=["_law_cell", "_law_name", "_law_kind", "_law_lost"]) (fun | _,_,_,_,_,_,[_,_,_,_],_=>rfl),PySem.W.mg_of X G (Jr (Jb (at_ hB 147)))⟩
  JpM:=Jf K "law"
  JnV:=JF K (Jf K "law")
  Jtz:=⟨Jh (Jb (at_ hF 96)),(Jh (Jb (at_ hF 96))).binds (ps:=["_law_script"]) (fun | _,_,_,_,_,_,[_],_=>rfl),PySem.W.mg_of X G (Jr (Jb (at_ hB 148)))⟩
  JgO:=Jf K "HANDS"
  Jlf:=PySem.W.mg_of X G (Jr (Jb (at_ hB 149)))
  Jiu:=fun H=>Jvf (xs:=[.inr "north",.inr "south"]) (Jb (at_ hT 0)) H
  JaJ:=JaJ
  Jb6:=Jb6
  JbV:=JbV
  JaI:=JaI
  ZP:=ZP
  ZL:=ZL
  JaM:=JaM
  Z9:=Z9
  Z7:=Z7
  Jaq:=Jaq
  Jbq:=Jbq
  Jbm:=Jbm
  JaL:=JaL
  Jb8:=Jb8
  JbX:=JbX
  Jap:=Jap
  Jbp:=Jbp
  Jbl:=Jbl
  JaK:=JaK
  Jb7:=Jb7
  JbW:=JbW
  Jts:=PySem.W.mg_none_of X G (Jb (at_ hN 0))
  Zm:=PySem.W.mg_none_of X G (Jb (at_ hN 1))
  Zx:=PySem.W.mg_none_of X G (Jb (at_ hN 2))
  Jpw:=PySem.W.mg_none_of X G (Jb (at_ hN 3))
  Jj3:=PySem.W.mg_none_of X G (Jb (at_ hN 4))
  Jau:=PySem.W.mg_none_of X G (Jb (at_ hN 5))
  JaU:=PySem.W.mg_none_of X G (Jb (at_ hN 6))
  Jtr:=PySem.W.mg_none_of X G (Jb (at_ hN 7))
  J8:=PySem.W.mg_none_of X G (Jb (at_ hN 8))
  JmH:=PySem.W.mg_none_of X G (Jb (at_ hN 9))
  JqP:=PySem.W.mg_none_of X G (Jb (at_ hN 10))
  Jpv:=PySem.W.mg_none_of X G (Jb (at_ hN 11))
  JhW:=PySem.W.mg_none_of X G (Jb (at_ hN 12))
  Jj4:=PySem.W.mg_none_of X G (Jb (at_ hN 13))
  Jb5:=Jf K "BidmoverError"
  JfQ:=PySem.W.mg_of X G (Jr (Jb (at_ hB 150)))
  Jdh:=Jf K "BadName"
  Jio:=PySem.W.mg_of X G (Jr (Jb (at_ hB 151)))
  Zs:=Jf K "BadHand"
  Jip:=PySem.W.mg_of X G (Jr (Jb (at_ hB 152)))
  Yj:=Jf K "OutOfRange"
  Jch:=PySem.W.mg_of X G (Jr (Jb (at_ hB 153)))
  JiG:=Jf K "Twice"
  JoW:=PySem.W.mg_of X G (Jr (Jb (at_ hB 154)))
  Y1:=Jf K "NoPlace"
  Jim:=PySem.W.mg_of X G (Jr (Jb (at_ hB 155)))
  Jg6:=Jf K "BadBid"
  Job:=PySem.W.mg_of X G (Jr (Jb (at_ hB 156)))
  Jg5:=Jf K "NoLane"
  Jn9:=PySem.W.mg_of X G (Jr (Jb (at_ hB 157)))
  Jg4:=Jf K "NotDue"
  Jn8:=PySem.W.mg_of X G (Jr (Jb (at_ hB 158)))
  Jbo:=Jf K "NothingDone"
  Jhu:=PySem.W.mg_of X G (Jr (Jb (at_ hB 159)))
  JgH:=Jf K "Taken"
  Jly:=PySem.W.mg_of X G (Jr (Jb (at_ hB 160)))
  Jh6:=Jf K "Full"
  Joa:=PySem.W.mg_of X G (Jr (Jb (at_ hB 161)))
  J4:=Jf K "Missing"
  Jin:=PySem.W.mg_of X G (Jr (Jb (at_ hB 162)))
  J0:=Jf K "Book"
  Jkp:=PySem.W.mg_of X G (Jr (Jb (at_ hB 163)))
  Ym:=⟨(Jb (at_ hB 168)),(Jb (at_ hB 169)),(Jb (at_ hB 170)),(Jb (at_ hN 14))⟩
  Jc0:=Jl K "Book" "__init__"
  Jfj:=JF K (Jl K "Book" "__init__")
  Jbk:=⟨Jh (Jb (at_ hF 11)),(Jh (Jb (at_ hF 11))).binds (ps:=["self", "board", "coins", "turns"]) (fun | _,_,_,_,_,_,[_,_,_,_],_=>rfl),⟨Jt (Jb (at_ hB 11)),(Jb (at_ hB 12)),JN (Jb (at_ hF 11))⟩⟩
  Jbe:=Jl K "Book" "needs_with"
  JaY:=JF K (Jl K "Book" "needs_with")
  Z6:=⟨Jh (Jb (at_ hF 12)),(Jh (Jb (at_ hF 12))).binds (ps:=["self", "turns"]) (fun | _,_,_,_,_,_,[_,_],_=>rfl),⟨Jt (Jb (at_ hB 13)),(Jb (at_ hB 14)),JN (Jb (at_ hF 12))⟩⟩
  JcS:=Jl K "Book" "need_at"
  Jcb:=JF K (Jl K "Book" "need_at")
  Ja7:=⟨Jh (Jb (at_ hF 13)),(Jh (Jb (at_ hF 13))).binds (ps:=["self", "place", "turns", "ribbon"]) (fun | _,_,_,_,_,_,[_,_,_,_],_=>rfl),⟨Jt (Jb (at_ hB 15)),(Jb (at_ hB 16)),JN (Jb (at_ hF 13))⟩⟩
  Zj:=Jl K "Book" "need_where_north_leads"
  Ze:=JF K (Jl K "Book" "need_where_north_leads")
  YQ:=⟨Jh (Jb (at_ hF 14)),(Jh (Jb (at_ hF 14))).binds (ps:=["self", "place", "turns"]) (fun | _,_,_,_,_,_,[_,_,_],_=>rfl),⟨Jt (Jb (at_ hB 17)),(Jb (at_ hB 18)),JN (Jb (at_ hF 14))⟩⟩
  Zi:=Jl K "Book" "need_where_south_leads"
  Zd:=JF K (Jl K "Book" "need_where_south_leads")
  YO:=⟨Jh (Jb (at_ hF 15)),(Jh (Jb (at_ hF 15))).binds (ps:=["self", "place", "turns"]) (fun | _,_,_,_,_,_,[_,_,_],_=>rfl),⟨Jt (Jb (at_ hB 19)),(Jb (at_ hB 20)),JN (Jb (at_ hF 15))⟩⟩
  JaZ:=Jl K "Book" "check_share"
  Jay:=JF K (Jl K "Book" "check_share")
  Y7:=⟨Jh (Jb (at_ hF 16)),(Jh (Jb (at_ hF 16))).binds (ps:=["self", "place", "turns", "north", "ribbon"]) (fun | _,_,_,_,_,_,[_,_,_,_,_],_=>rfl),⟨Jt (Jb (at_ hB 21)),(Jb (at_ hB 22)),JN (Jb (at_ hF 16))⟩⟩
  Jd0:=Jl K "Book" "winner"
  JcP:=JF K (Jl K "Book" "winner")
  Jby:=⟨Jh (Jb (at_ hF 17)),(Jh (Jb (at_ hF 17))).binds (ps:=["self", "place", "turns", "north", "ribbon"]) (fun | _,_,_,_,_,_,[_,_,_,_,_],_=>rfl),⟨Jt (Jb (at_ hB 23)),(Jb (at_ hB 24)),JN (Jb (at_ hF 17))⟩⟩
  Jfw:=Jl K "Book" "least"
  JdN:=JF K (Jl K "Book" "least")
  Jcp:=⟨Jh (Jb (at_ hF 18)),(Jh (Jb (at_ hF 18))).binds (ps:=["self", "place", "turns", "ribbon"]) (fun | _,_,_,_,_,_,[_,_,_,_],_=>rfl),⟨Jt (Jb (at_ hB 25)),(Jb (at_ hB 26)),JN (Jb (at_ hF 18))⟩⟩
  Jht:=Jl K "Book" "bid_of"
  JgK:=JF K (Jl K "Book" "bid_of")
  JmE:=⟨Jh (Jb (at_ hF 19)),(Jh (Jb (at_ hF 19))).binds (ps:=["self", "place", "turns", "north", "ribbon"]) (fun | _,_,_,_,_,_,[_,_,_,_,_],_=>rfl),⟨Jt (Jb (at_ hB 27)),(Jb (at_ hB 28)),JN (Jb (at_ hF 19))⟩⟩
  Jfx:=Jl K "Book" "answer_of"
  Jeb:=JF K (Jl K "Book" "answer_of")
  JjH:=⟨Jh (Jb (at_ hF 20)),(Jh (Jb (at_ hF 20))).binds (ps:=["self", "place", "turns", "north", "ribbon", "bid"]) (fun | _,_,_,_,_,_,[_,_,_,_,_,_],_=>rfl),⟨Jt (Jb (at_ hB 29)),(Jb (at_ hB 30)),JN (Jb (at_ hF 20))⟩⟩
  Jdi:=Jl K "Book" "answer_wins"
  Jcr:=JF K (Jl K "Book" "answer_wins")
  Jit:=⟨Jh (Jb (at_ hF 21)),(Jh (Jb (at_ hF 21))).binds (ps:=["self", "place", "turns", "settled", "holder"]) (fun | _,_,_,_,_,_,[_,_,_,_,_],_=>rfl),⟨Jt (Jb (at_ hB 31)),(Jb (at_ hB 32)),JN (Jb (at_ hF 21))⟩⟩
  JgL:=Jl K "Book" "step_of"
  JfO:=JF K (Jl K "Book" "step_of")
  JlJ:=⟨Jh (Jb (at_ hF 22)),(Jh (Jb (at_ hF 22))).binds (ps:=["self", "place", "turns", "north", "ribbon", "hand"]) (fun | _,_,_,_,_,_,[_,_,_,_,_,_],_=>rfl),⟨Jt (Jb (at_ hB 33)),(Jb (at_ hB 34)),JN (Jb (at_ hF 22))⟩⟩
  JiF:=⟨(Jb (at_ hB 171)),Jt (Jb (at_ hB 11)),(Jb (at_ hB 12)),(Jb (at_ hB 172))⟩
  ZA:=(Jb (at_ hN 15))
  ZV:=(Jb (at_ hN 16))
  JdB:=(Jb (at_ hN 17))
  Zz:=(Jb (at_ hN 18))
  Yn:=Jf K "Moment"
  JjA:=PySem.W.mg_of X G (Jr (Jb (at_ hB 164)))
  Yr:=⟨(Jb (at_ hB 173)),(Jb (at_ hB 174)),(Jb (at_ hB 175)),(Jb (at_ hN 19))⟩
  Jbr:=Jl K "Moment" "__init__"
  JcJ:=JF K (Jl K "Moment" "__init__")
  Jbs:=⟨Jh (Jb (at_ hF 23)),(Jh (Jb (at_ hF 23))).binds (ps:=["self", "place", "turns", "north", "south", "ribbon", "hand", "word", "heard"]) (fun | _,_,_,_,_,_,[_,_,_,_,_,_,_,_,_],_=>rfl),⟨Jt (Jb (at_ hB 35)),(Jb (at_ hB 36)),JN (Jb (at_ hF 23))⟩⟩
  JhY:=⟨(Jb (at_ hB 176)),Jt (Jb (at_ hB 35)),(Jb (at_ hB 36)),(Jb (at_ hB 177))⟩
  JaE:=(Jb (at_ hN 20))
  JaD:=(Jb (at_ hN 21))
  Jb3:=(Jb (at_ hN 22))
  Jb2:=(Jb (at_ hN 23))
  JbD:=(Jb (at_ hN 24))
  JcA:=(Jb (at_ hN 25))
  Ja3:=(Jb (at_ hN 26))
  Jb4:=(Jb (at_ hN 27))
  J7:=Jf K "Game"
  Jrv:=PySem.W.mg_of X G (Jr (Jb (at_ hB 165)))
  YF:=⟨(Jb (at_ hB 178)),(Jb (at_ hB 179)),(Jb (at_ hB 180)),(Jb (at_ hN 28))⟩
  JcZ:=Jl K "Game" "__init__"
  Jfh:=JF K (Jl K "Game" "__init__")
  Jgu:=⟨Jh (Jb (at_ hF 26)),(Jh (Jb (at_ hF 26))).binds (ps:=["self", "board", "place", "turns", "north", "south", "ribbon"]) (fun | _,_,_,_,_,_,[_,_,_,_,_,_,_],_=>rfl),⟨Jt (Jb (at_ hB 39)),(Jb (at_ hB 40)),JN (Jb (at_ hF 26))⟩⟩
  Jce:=Jl K "Game" "standing"
  JbG:=JF K (Jl K "Game" "standing")
  JaG:=⟨Jh (Jb (at_ hF 27)),(Jh (Jb (at_ hF 27))).binds (ps:=["self"]) (fun | _,_,_,_,_,_,[_],_=>rfl),⟨Jt (Jb (at_ hB 41)),(Jb (at_ hB 42)),JN (Jb (at_ hF 27))⟩⟩
  Jhf:=Jl K "Game" "due"
  Jge:=JF K (Jl K "Game" "due")
  Jel:=⟨Jh (Jb (at_ hF 28)),(Jh (Jb (at_ hF 28))).binds (ps:=["self"]) (fun | _,_,_,_,_,_,[_],_=>rfl),⟨Jt (Jb (at_ hB 43)),(Jb (at_ hB 44)),JN (Jb (at_ hF 28))⟩⟩
  Jft:=Jl K "Game" "named"
  JdL:=JF K (Jl K "Game" "named")
  Jcn:=⟨Jh (Jb (at_ hF 29)),(Jh (Jb (at_ hF 29))).binds (ps:=["self"]) (fun | _,_,_,_,_,_,[_],_=>rfl),⟨Jt (Jb (at_ hB 45)),(Jb (at_ hB 46)),JN (Jb (at_ hF 29))⟩⟩
  Jfu:=Jl K "Game" "deeds"
  JdM:=JF K (Jl K "Game" "deeds")
  Jco:=⟨Jh (Jb (at_ hF 30)),(Jh (Jb (at_ hF 30))).binds (ps:=["self"]) (fun | _,_,_,_,_,_,[_],_=>rfl),⟨Jt (Jb (at_ hB 47)),(Jb (at_ hB 48)),JN (Jb (at_ hF 30))⟩⟩
  Jgq:=Jl K "Game" "over"
  Jfg:=JF K (Jl K "Game" "over")
  Jc9:=⟨Jh (Jb (at_ hF 31)),(Jh (Jb (at_ hF 31))).binds (ps:=["self"]) (fun | _,_,_,_,_,_,[_],_=>rfl),⟨Jt (Jb (at_ hB 49)),(Jb (at_ hB 50)),JN (Jb (at_ hF 31))⟩⟩
  JdY:=Jl K "Game" "winner"
  JcN:=JF K (Jl K "Game" "winner")
  Jbw:=⟨Jh (Jb (at_ hF 32)),(Jh (Jb (at_ hF 32))).binds (ps:=["self"]) (fun | _,_,_,_,_,_,[_],_=>rfl),⟨Jt (Jb (at_ hB 51)),(Jb (at_ hB 52)),JN (Jb (at_ hF 32))⟩⟩
  Jgo:=Jl K "Game" "told"
  Jfe:=JF K (Jl K "Game" "told")
  Jc7:=⟨Jh (Jb (at_ hF 33)),(Jh (Jb (at_ hF 33))).binds (ps:=["self"]) (fun | _,_,_,_,_,_,[_],_=>rfl),⟨Jt (Jb (at_ hB 53)),(Jb (at_ hB 54)),JN (Jb (at_ hF 33))⟩⟩
  Jfv:=Jl K "Game" "check_due"
  Jea:=JF K (Jl K "Game" "check_due")
  JjG:=⟨Jh (Jb (at_ hF 34)),(Jh (Jb (at_ hF 34))).binds (ps:=["self", "hand", "word"]) (fun | _,_,_,_,_,_,[_,_,_],_=>rfl),⟨Jt (Jb (at_ hB 55)),(Jb (at_ hB 56)),JN (Jb (at_ hF 34))⟩⟩
  Jig:=Jl K "Game" "go_on"
  Jhs:=JF K (Jl K "Game" "go_on")
  Jon:=⟨Jh (Jb (at_ hF 35)),(Jh (Jb (at_ hF 35))).binds (ps:=["self", "deed", "moment"]) (fun | _,_,_,_,_,_,[_,_,_],_=>rfl),⟨Jt (Jb (at_ hB 57)),(Jb (at_ hB 58)),JN (Jb (at_ hF 35))⟩⟩
  Jhg:=Jl K "Game" "bid"
  Jgf:=JF K (Jl K "Game" "bid")
  Jem:=⟨Jh (Jb (at_ hF 36)),(Jh (Jb (at_ hF 36))).binds (ps:=["self", "hand", "coins"]) (fun | _,_,_,_,_,_,[_,_,_],_=>rfl),⟨Jt (Jb (at_ hB 59)),(Jb (at_ hB 60)),JN (Jb (at_ hF 36))⟩⟩
  JdZ:=Jl K "Game" "answer"
  JcO:=JF K (Jl K "Game" "answer")
  Jbx:=⟨Jh (Jb (at_ hF 37)),(Jh (Jb (at_ hF 37))).binds (ps:=["self", "hand", "coins"]) (fun | _,_,_,_,_,_,[_,_,_],_=>rfl),⟨Jt (Jb (at_ hB 61)),(Jb (at_ hB 62)),JN (Jb (at_ hF 37))⟩⟩
  Jgp:=Jl K "Game" "step"
  Jff:=JF K (Jl K "Game" "step")
  Jc8:=⟨Jh (Jb (at_ hF 38)),(Jh (Jb (at_ hF 38))).binds (ps:=["self", "hand", "place"]) (fun | _,_,_,_,_,_,[_,_,_],_=>rfl),⟨Jt (Jb (at_ hB 63)),(Jb (at_ hB 64)),JN (Jb (at_ hF 38))⟩⟩
  Jgr:=Jl K "Game" "back"
  Jfi:=JF K (Jl K "Game" "back")
  Jda:=⟨Jh (Jb (at_ hF 39)),(Jh (Jb (at_ hF 39))).binds (ps:=["self"]) (fun | _,_,_,_,_,_,[_],_=>rfl),⟨Jt (Jb (at_ hB 65)),(Jb (at_ hB 66)),JN (Jb (at_ hF 39))⟩⟩
  JoL:=⟨(Jb (at_ hB 181)),Jt (Jb (at_ hB 39)),(Jb (at_ hB 40)),(Jb (at_ hB 182))⟩
  JdA:=(Jb (at_ hN 29))
  JhV:=(Jb (at_ hN 30))
  Je1:=(Jb (at_ hN 31))
  Zw:=(Jb (at_ hN 32))
  Yg:=Jf K "Hall"
  Jru:=PySem.W.mg_of X G (Jr (Jb (at_ hB 166)))
  JH:=⟨(Jb (at_ hB 183)),(Jb (at_ hB 184)),(Jb (at_ hB 185)),(Jb (at_ hN 33))⟩
  JcY:=Jl K "Hall" "__init__"
  Jfb:=JF K (Jl K "Hall" "__init__")
  Jgt:=⟨Jh (Jb (at_ hF 42)),(Jh (Jb (at_ hF 42))).binds (ps:=["self"]) (fun | _,_,_,_,_,_,[_],_=>rfl),⟨Jt (Jb (at_ hB 69)),(Jb (at_ hB 70)),JN (Jb (at_ hF 42))⟩⟩
  JbJ:=Jl K "Hall" "add_board"
  Jbc:=JF K (Jl K "Hall" "add_board")
  Jao:=⟨Jh (Jb (at_ hF 43)),(Jh (Jb (at_ hF 43))).binds (ps:=["self", "name", "board"]) (fun | _,_,_,_,_,_,[_,_,_],_=>rfl),⟨Jt (Jb (at_ hB 71)),(Jb (at_ hB 72)),JN (Jb (at_ hF 43))⟩⟩
  Jcd:=Jl K "Hall" "board_of"
  JbF:=JF K (Jl K "Hall" "board_of")
  YE:=⟨Jh (Jb (at_ hF 44)),(Jh (Jb (at_ hF 44))).binds (ps:=["self", "name"]) (fun | _,_,_,_,_,_,[_,_],_=>rfl),⟨Jt (Jb (at_ hB 73)),(Jb (at_ hB 74)),JN (Jb (at_ hF 44))⟩⟩
  Jfs:=Jl K "Hall" "begin"
  JdK:=JF K (Jl K "Hall" "begin")
  Jaf:=⟨Jh (Jb (at_ hF 45)),(Jh (Jb (at_ hF 45))).binds (ps:=["self", "name", "board_name", "place", "turns", "north", "south", "ribbon"]) (fun | _,_,_,_,_,_,[_,_,_,_,_,_,_,_],_=>rfl),⟨Jt (Jb (at_ hB 75)),(Jb (at_ hB 76)),JN (Jb (at_ hF 45))⟩⟩
  JcR:=Jl K "Hall" "game_of"
  Jca:=JF K (Jl K "Hall" "game_of")
  JJ:=⟨Jh (Jb (at_ hF 46)),(Jh (Jb (at_ hF 46))).binds (ps:=["self", "name"]) (fun | _,_,_,_,_,_,[_,_],_=>rfl),⟨Jt (Jb (at_ hB 77)),(Jb (at_ hB 78)),JN (Jb (at_ hF 46))⟩⟩
  Jgm:=Jl K "Hall" "drop"
  Jfc:=JF K (Jl K "Hall" "drop")
  Jaw:=⟨Jh (Jb (at_ hF 47)),(Jh (Jb (at_ hF 47))).binds (ps:=["self", "name"]) (fun | _,_,_,_,_,_,[_,_],_=>rfl),⟨Jt (Jb (at_ hB 79)),(Jb (at_ hB 80)),JN (Jb (at_ hF 47))⟩⟩
  JdW:=Jl K "Hall" "boards"
  JcL:=JF K (Jl K "Hall" "boards")
  Jbu:=⟨Jh (Jb (at_ hF 48)),(Jh (Jb (at_ hF 48))).binds (ps:=["self"]) (fun | _,_,_,_,_,_,[_],_=>rfl),⟨Jt (Jb (at_ hB 81)),(Jb (at_ hB 82)),JN (Jb (at_ hF 48))⟩⟩
  Jfq:=Jl K "Hall" "games"
  JdI:=JF K (Jl K "Hall" "games")
  Jcm:=⟨Jh (Jb (at_ hF 49)),(Jh (Jb (at_ hF 49))).binds (ps:=["self"]) (fun | _,_,_,_,_,_,[_],_=>rfl),⟨Jt (Jb (at_ hB 83)),(Jb (at_ hB 84)),JN (Jb (at_ hF 49))⟩⟩
  Jcc:=Jl K "Hall" "standing"
  JbE:=JF K (Jl K "Hall" "standing")
  Zy:=⟨Jh (Jb (at_ hF 50)),(Jh (Jb (at_ hF 50))).binds (ps:=["self", "name"]) (fun | _,_,_,_,_,_,[_,_],_=>rfl),⟨Jt (Jb (at_ hB 85)),(Jb (at_ hB 86)),JN (Jb (at_ hF 50))⟩⟩
  Jhd:=Jl K "Hall" "due"
  Jgc:=JF K (Jl K "Hall" "due")
  Ja6:=⟨Jh (Jb (at_ hF 51)),(Jh (Jb (at_ hF 51))).binds (ps:=["self", "name"]) (fun | _,_,_,_,_,_,[_,_],_=>rfl),⟨Jt (Jb (at_ hB 87)),(Jb (at_ hB 88)),JN (Jb (at_ hF 51))⟩⟩
  Jfn:=Jl K "Hall" "named"
  JdF:=JF K (Jl K "Hall" "named")
  Jad:=⟨Jh (Jb (at_ hF 52)),(Jh (Jb (at_ hF 52))).binds (ps:=["self", "name"]) (fun | _,_,_,_,_,_,[_,_],_=>rfl),⟨Jt (Jb (at_ hB 89)),(Jb (at_ hB 90)),JN (Jb (at_ hF 52))⟩⟩
  Jfr:=Jl K "Hall" "deeds"
  JdJ:=JF K (Jl K "Hall" "deeds")
  Jae:=⟨Jh (Jb (at_ hF 53)),(Jh (Jb (at_ hF 53))).binds (ps:=["self", "name"]) (fun | _,_,_,_,_,_,[_,_],_=>rfl),⟨Jt (Jb (at_ hB 91)),(Jb (at_ hB 92)),JN (Jb (at_ hF 53))⟩⟩
  Jgl:=Jl K "Hall" "over"
  Jfa:=JF K (Jl K "Hall" "over")
  Jav:=⟨Jh (Jb (at_ hF 54)),(Jh (Jb (at_ hF 54))).binds (ps:=["self", "name"]) (fun | _,_,_,_,_,_,[_,_],_=>rfl),⟨Jt (Jb (at_ hB 93)),(Jb (at_ hB 94)),JN (Jb (at_ hF 54))⟩⟩
  JdV:=Jl K "Hall" "winner"
  JcK:=JF K (Jl K "Hall" "winner")
  Jbt:=⟨Jh (Jb (at_ hF 55)),(Jh (Jb (at_ hF 55))).binds (ps:=["self", "name"]) (fun | _,_,_,_,_,_,[_,_],_=>rfl),⟨Jt (Jb (at_ hB 95)),(Jb (at_ hB 96)),JN (Jb (at_ hF 55))⟩⟩
  Jgj:=Jl K "Hall" "told"
  Je8:=JF K (Jl K "Hall" "told")
  Jc4:=⟨Jh (Jb (at_ hF 56)),(Jh (Jb (at_ hF 56))).binds (ps:=["self", "name"]) (fun | _,_,_,_,_,_,[_,_],_=>rfl),⟨Jt (Jb (at_ hB 97)),(Jb (at_ hB 98)),JN (Jb (at_ hF 56))⟩⟩
  Jhe:=Jl K "Hall" "bid"
  Jgd:=JF K (Jl K "Hall" "bid")
  Jek:=⟨Jh (Jb (at_ hF 57)),(Jh (Jb (at_ hF 57))).binds (ps:=["self", "name", "hand", "coins"]) (fun | _,_,_,_,_,_,[_,_,_,_],_=>rfl),⟨Jt (Jb (at_ hB 99)),(Jb (at_ hB 100)),JN (Jb (at_ hF 57))⟩⟩
  JdX:=Jl K "Hall" "answer"
  JcM:=JF K (Jl K "Hall" "answer")
  Jbv:=⟨Jh (Jb (at_ hF 58)),(Jh (Jb (at_ hF 58))).binds (ps:=["self", "name", "hand", "coins"]) (fun | _,_,_,_,_,_,[_,_,_,_],_=>rfl),⟨Jt (Jb (at_ hB 101)),(Jb (at_ hB 102)),JN (Jb (at_ hF 58))⟩⟩
  Jgk:=Jl K "Hall" "step"
  Je9:=JF K (Jl K "Hall" "step")
  Jc5:=⟨Jh (Jb (at_ hF 59)),(Jh (Jb (at_ hF 59))).binds (ps:=["self", "name", "hand", "place"]) (fun | _,_,_,_,_,_,[_,_,_,_],_=>rfl),⟨Jt (Jb (at_ hB 103)),(Jb (at_ hB 104)),JN (Jb (at_ hF 59))⟩⟩
  Jgn:=Jl K "Hall" "back"
  Jfd:=JF K (Jl K "Hall" "back")
  Jc6:=⟨Jh (Jb (at_ hF 60)),(Jh (Jb (at_ hF 60))).binds (ps:=["self", "name"]) (fun | _,_,_,_,_,_,[_,_],_=>rfl),⟨Jt (Jb (at_ hB 105)),(Jb (at_ hB 106)),JN (Jb (at_ hF 60))⟩⟩
  Jfp:=Jl K "Hall" "judge"
  JdH:=JF K (Jl K "Hall" "judge")
  Jcl:=⟨Jh (Jb (at_ hF 61)),(Jh (Jb (at_ hF 61))).binds (ps:=["self", "board_name", "place", "turns", "north", "south", "ribbon"]) (fun | _,_,_,_,_,_,[_,_,_,_,_,_,_],_=>rfl),⟨Jt (Jb (at_ hB 107)),(Jb (at_ hB 108)),JN (Jb (at_ hF 61))⟩⟩
  Jfo:=Jl K "Hall" "least"
  JdG:=JF K (Jl K "Hall" "least")
  Jck:=⟨Jh (Jb (at_ hF 62)),(Jh (Jb (at_ hF 62))).binds (ps:=["self", "board_name", "coins", "place", "turns", "ribbon"]) (fun | _,_,_,_,_,_,[_,_,_,_,_,_],_=>rfl),⟨Jt (Jb (at_ hB 109)),(Jb (at_ hB 110)),JN (Jb (at_ hF 62))⟩⟩
  JoK:=⟨(Jb (at_ hB 186)),Jt (Jb (at_ hB 69)),(Jb (at_ hB 70)),(Jb (at_ hB 187))⟩
  Y2:=(Jb (at_ hN 34))
  YS:=(Jb (at_ hN 35))
  JT:=Jf K "Board"
  JoX:=PySem.W.mg_of X G (Jr (Jb (at_ hB 167)))
  YU:=⟨(Jb (at_ hB 188)),(Jb (at_ hB 189)),(Jb (at_ hB 190)),(Jb (at_ hN 36))⟩
  Jcg:=Jl K "Board" "__init__"
  JdP:=JF K (Jl K "Board" "__init__")
  JfH:=⟨Jh (Jb (at_ hF 68)),(Jh (Jb (at_ hF 68))).binds (ps:=["self", "places", "lanes", "goals"]) (fun | _,_,_,_,_,_,[_,_,_,_],_=>rfl),⟨Jt (Jb (at_ hB 116)),(Jb (at_ hB 117)),JN (Jb (at_ hF 68))⟩⟩
  Jaz:=Jl K "Board" "check_place"
  Jak:=JF K (Jl K "Board" "check_place")
  J9:=⟨Jh (Jb (at_ hF 69)),(Jh (Jb (at_ hF 69))).binds (ps:=["self", "place"]) (fun | _,_,_,_,_,_,[_,_],_=>rfl),⟨Jt (Jb (at_ hB 118)),(Jb (at_ hB 119)),JN (Jb (at_ hF 69))⟩⟩
  Jfy:=Jl K "Board" "ways"
  JdO:=JF K (Jl K "Board" "ways")
  Zu:=⟨Jh (Jb (at_ hF 70)),(Jh (Jb (at_ hF 70))).binds (ps:=["self", "place"]) (fun | _,_,_,_,_,_,[_,_],_=>rfl),⟨Jt (Jb (at_ hB 120)),(Jb (at_ hB 121)),JN (Jb (at_ hF 70))⟩⟩
  Jcf:=Jl K "Board" "is_goal"
  JbH:=JF K (Jl K "Board" "is_goal")
  JaH:=⟨Jh (Jb (at_ hF 71)),(Jh (Jb (at_ hF 71))).binds (ps:=["self", "place"]) (fun | _,_,_,_,_,_,[_,_],_=>rfl),⟨Jt (Jb (at_ hB 122)),(Jb (at_ hB 123)),JN (Jb (at_ hF 71))⟩⟩
  JnJ:=⟨(Jb (at_ hB 191)),Jt (Jb (at_ hB 116)),(Jb (at_ hB 117)),(Jb (at_ hB 192))⟩
  JaF:=(Jb (at_ hN 37))
  JcB:=(Jb (at_ hN 38))
  JcC:=(Jb (at_ hN 39))
  Jkv:=⟨(Jb (at_ hB 193)),(Jb (at_ hN 41)),(Jb (at_ hN 42)),(Jb (at_ hN 43)),(Jb (at_ hN 40)),(Jb (at_ hK 0)),(Jb (at_ hK 1)),(Jb (at_ hK 2)),(Jb (at_ hB 194))⟩
  Jd1:=⟨(Jb (at_ hB 195)),(Jb (at_ hN 44)),(Jb (at_ hN 45)),(Jb (at_ hN 46)),(Jb (at_ hN 40)),(Jb (at_ hK 0)),(Jb (at_ hK 3)),(Jb (at_ hK 4)),(Jb (at_ hB 196))⟩
  JrC:=⟨(Jb (at_ hB 197)),(Jb (at_ hN 47)),(Jb (at_ hN 48)),(Jb (at_ hN 49)),(Jb (at_ hN 40)),(Jb (at_ hK 0)),(Jb (at_ hK 5)),(Jb (at_ hK 6)),(Jb (at_ hB 198))⟩
  JrA:=⟨(Jb (at_ hB 199)),(Jb (at_ hN 50)),(Jb (at_ hN 51)),(Jb (at_ hN 52)),(Jb (at_ hN 40)),(Jb (at_ hK 0)),(Jb (at_ hK 7)),(Jb (at_ hK 8)),(Jb (at_ hB 200))⟩
  JrB:=⟨(Jb (at_ hB 201)),(Jb (at_ hN 53)),(Jb (at_ hN 54)),(Jb (at_ hN 55)),(Jb (at_ hN 40)),(Jb (at_ hK 0)),(Jb (at_ hK 9)),(Jb (at_ hK 10)),(Jb (at_ hB 202))⟩
  JlA:=⟨(Jb (at_ hB 203)),(Jb (at_ hN 56)),(Jb (at_ hN 57)),(Jb (at_ hN 58)),(Jb (at_ hN 40)),(Jb (at_ hK 0)),(Jb (at_ hK 11)),(Jb (at_ hK 12)),(Jb (at_ hB 204))⟩
  Jku:=⟨(Jb (at_ hB 205)),(Jb (at_ hN 59)),(Jb (at_ hN 60)),(Jb (at_ hN 61)),(Jb (at_ hN 40)),(Jb (at_ hK 0)),(Jb (at_ hK 13)),(Jb (at_ hK 14)),(Jb (at_ hB 206))⟩
  Joe:=⟨(Jb (at_ hB 207)),(Jb (at_ hN 62)),(Jb (at_ hN 63)),(Jb (at_ hN 64)),(Jb (at_ hN 40)),(Jb (at_ hK 0)),(Jb (at_ hK 15)),(Jb (at_ hK 16)),(Jb (at_ hB 208))⟩
  JoZ:=⟨(Jb (at_ hB 209)),(Jb (at_ hN 65)),(Jb (at_ hN 66)),(Jb (at_ hN 67)),(Jb (at_ hN 40)),(Jb (at_ hK 0)),(Jb (at_ hK 17)),(Jb (at_ hK 18)),(Jb (at_ hB 210))⟩
  YG:=⟨(Jb (at_ hB 211)),(Jb (at_ hN 68)),(Jb (at_ hN 69)),(Jb (at_ hN 70)),(Jb (at_ hN 40)),(Jb (at_ hK 0)),(Jb (at_ hK 19)),(Jb (at_ hK 20)),(Jb (at_ hB 212))⟩
  Jkg:=(Jb (at_ hK 21))
  Jj7:=(Jb (at_ hK 22))
  Jdf:=(Jb (at_ hK 23))
  Jdg:=(Jb (at_ hK 24))
  JbM:=(Jb (at_ hK 25))
  Je3:=(Jb (at_ hK 26))
  Jdd:=(Jb (at_ hK 27))
  Jd9:=(Jb (at_ hK 28))
  Jd8:=(Jb (at_ hK 29))
  Jd7:=(Jb (at_ hK 30))
  Jbi:=(Jb (at_ hK 31))
  Je4:=(Jb (at_ hK 32))
  JfM:=(Jb (at_ hK 33))
  Jde:=(Jb (at_ hK 34))
  Js9:=⟨(Jb (at_ hB 213)),(Jb (at_ hN 71)),(Jb (at_ hN 72)),(Jb (at_ hN 73)),(Jb (at_ hN 40)),(Jb (at_ hK 0)),(Jb (at_ hK 35)),(Jb (at_ hK 36)),(Jb (at_ hB 214))⟩
  Jkt:=⟨(Jb (at_ hB 215)),(Jb (at_ hN 74)),(Jb (at_ hN 75)),(Jb (at_ hN 76)),(Jb (at_ hN 40)),(Jb (at_ hK 0)),(Jb (at_ hK 37)),(Jb (at_ hK 38)),(Jb (at_ hB 216))⟩ }
 obtain ⟨oc,od,kV,doc,pm,an,cdv,ct,osl,z1,z2,z3,z4⟩:=JqJ (Option.some.inj (at_ hF 96));exact ⟨_,fun s v=>by show BindsTo s (JF K (Jf K "law")) _ _; rw [z1]; exact .of_eq rfl,fun base _ _=>Jvc T⟩
def Jvr:DefRec:=⟨"law",Jew JgV,JbO JgV,Jk JgV,Jvq JgV⟩
theorem Jwg:PySem.W.WalkO qv lo0 (PySem.W.XL qv []) (fun _ h=>∃ K:PySem.W.Frag,K.In h∧JpY K) PySem.Challenge.rw_bidmover_k31_hall_missing.row.toRowW Jvr [] (fun f vs=>PySem.call f vs) :=
 L2.JrJ (l:=PySem.Challenge.rw_bidmover_k31_hall_missing) (n:=63) (k:=15) (x := "_law_script") (CX:=YJ) (sp:=Jpe) (C:=JpY) rfl (by decide) rfl ⟨rfl,by decide,by decide⟩ (fun _ _ y=>y) (fun w K mg fa h hS X G hfa=>Jvt hS X G hfa) (fun _ _ a ns hl _ hS=>⟨a,ns,rfl,hS,hl,fun _=>rfl⟩) fun _ _ _ _ z=>z
end Pf
open PySem PySem.W PyProof.Rows
set_option maxRecDepth 100000 in
set_option maxHeartbeats 0 in
theorem PySem.Challenge.cw_bidmover_k31_hall_missing_holds : PySem.Challenge.rw_bidmover_k31_hall_missing.Holds := by
 refine holds_law Pf.Jsk fun Jsk=>?_
 refine holds_open (q:=Pf.qv) (loose:=Pf.lo0) (Xt:=Pf.xt) (XP:=XL Pf.qv []) (Yf:=Pf.see) (Ya:=fun _=>Pf.JmI) (YP:=fun _ h=>∃ K:Frag,K.In h∧Pf.JpY K) (d:=Pf.Jvr) (kwd:=[]) Pf.left (fun w s e=>⟨_,L2.Jra _,e⟩) (fun w h h' y hk=>y.elim fun K z=>⟨K,z.1.keeps hk,z.2⟩) (fun s e=>xl_of s (Bool.and_eq_true_iff.mp e).1) XL.keeps ?h1 ?h2 ?h3 (fun s e=>recFacts_of (Bool.and_eq_true_iff.mp e).2) ?h4 Jsk ?h5 ⟨rfl,rfl,rfl,rfl,rfl,by decide +kernel⟩ ?hw Pf.Jwg
 case h1=>kernel_rfl
 case h2=>kernel_rfl
 case h3=>kernel_rfl
 case h4=>kernel_rfl
 case h5=>kernel_rfl
 case hw=>w_witness2
